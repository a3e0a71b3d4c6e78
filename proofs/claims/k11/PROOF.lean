import PyProof.Rows.All
import Wide.All
import OpenK.AllK
import Wide.FinOn
import HandS.ForMost
import HandS.IsInst
import HandS.Wide
import HandS.Sort
import HandS.TupAny
import HandS.StrMore
import HandS.Conv
import HandS.NoneIn
import HandS.SortRule
import HandS.Iter
import HandS.Exc
import HandS.ExcOwn
import HandS.ExcIs
import HandS.WordsExc
import HandS.TryMany
import KE.KTryMore
import PyProof.ExcBaseAll.ValueError
import HandS.Replace
import HandS.Gcd
import HandS.Style
import HandS.Zip0
import HandS.Zip
import HandS.Rev
import HandS.ExcInit
import HandS.ExcField
import HandS.CallLocal
import HandS.TupMul
import KE.KExcIs
import HandS.More
import HandS.Deep
import HandS.HeadHook3
import PyProof.P3In
import KE.KMinKey
import HandS.SortKw
import KE.DataCmp
import KE.SortData
import HandS.Codes
import HandS.FStr
import PySem.Challenge.RW_counterheld_k11_whole_texts_of_bars
set_option Elab.async false
set_option linter.all false
set_option maxRecDepth 100000
set_option maxHeartbeats 2000000
/-! Values as trees: what is never changed is a tree; what is changed stands in a memory by address. -/
namespace Vt
open PySem PySem.Spec PyProof.Rows L2

inductive D where
  | val (v : V)
  | tup (ds : List D)
  | lst (ds : List D)
  | dic
abbrev dI (i : Int) : D := .val (.int i)
abbrev dB (b : Bool) : D := .val (.bl b)
abbrev dS (s : Str) : D := .val (.str s)
abbrev dN : D := .val .non
abbrev dP (a : Addr) : D := .val (.ref a)

section
variable (K : PySem.W.Frag) (G : Hp)
mutual
inductive Rep : V → D → Prop where
  | val (v : V) : Rep v (.val v)
  | tup {a : Addr} {vs : List V} {ds : List D} (h : SqT K G a vs) (r : RepL vs ds) : Rep (.ref a) (.tup ds)
  | lst {a : Addr} {vs : List V} {ds : List D} (h : SqL K G a vs) (r : RepL vs ds) : Rep (.ref a) (.lst ds)
  | dic {a : Addr} {kvs : List (Key × V)} (h : G a = some (.dK kvs)) : Rep (.ref a) .dic
inductive RepL : List V → List D → Prop where
  | nil : RepL [] []
  | cons {v : V} {d : D} {vs : List V} {ds : List D} (h : Rep v d) (t : RepL vs ds) : RepL (v :: vs) (d :: ds)
end
end

section
variable {K : PySem.W.Frag} {G G' H H' : Hp} {v : V} {d : D} {vs : List V} {ds : List D} {a : Addr}
theorem rdUp {u : HO} (e : Same G G') (h : Rd G a u) : Rd G' a u := by
  rcases h with h | ⟨o, h⟩
  · exact .inl (e _ _ h)
  · exact .inr ⟨o, e _ _ h⟩
theorem sqtUp (e : Same G G') (h : SqT K G a vs) : SqT K G' a vs := by
  rcases h with h | h
  · exact .inl (rdUp e h)
  · exact .inr h
theorem sqlUp (e : Same G G') (h : SqL K G a vs) : SqL K G' a vs := by
  rcases h with h | h
  · exact .inl (rdUp e h)
  · exact .inr h
mutual
theorem Rep.up {v : V} {d : D} (e : Same G G') : Rep K G v d → Rep K G' v d
  | .val v => .val v
  | .tup h r => .tup (sqtUp e h) (RepL.up e r)
  | .lst h r => .lst (sqlUp e h) (RepL.up e r)
  | .dic h => .dic (e _ _ h)
theorem RepL.up {vs : List V} {ds : List D} (e : Same G G') : RepL K G vs ds → RepL K G' vs ds
  | .nil => .nil
  | .cons h t => .cons (Rep.up e h) (RepL.up e t)
end
theorem RepL.len : ∀ {vs : List V} {ds : List D}, RepL K G vs ds → vs.length = ds.length
  | _, _, .nil => rfl
  | _, _, .cons _ t => congrArg (· + 1) (RepL.len t)
theorem RepL.get : ∀ {vs : List V} {ds : List D} {i : Nat} {d : D}, RepL K G vs ds → ds[i]? = some d → ∃ v, vs[i]? = some v ∧ Rep K G v d
  | _, _, _, _, .nil, e => by simp at e
  | _, _, 0, _, .cons h _, e => by simp at e; subst e; exact ⟨_, rfl, h⟩
  | _, _, i + 1, d, .cons _ t, e => by
    obtain ⟨v, h1, h2⟩ := RepL.get (i := i) (d := d) t (by simpa using e)
    exact ⟨v, by simpa using h1, h2⟩
theorem RepL.append : ∀ {vs ws : List V} {ds es : List D}, RepL K G vs ds → RepL K G ws es → RepL K G (vs ++ ws) (ds ++ es)
  | _, _, _, _, .nil, s => s
  | _, _, _, _, .cons h t, s => .cons h (RepL.append t s)
theorem RepL.set {v : V} {d : D} (r : Rep K G v d) : ∀ {vs : List V} {ds : List D} (i : Nat), RepL K G vs ds → RepL K G (vs.set i v) (ds.set i d)
  | _, _, _, .nil => .nil
  | _, _, 0, .cons _ t => .cons r t
  | _, _, i + 1, .cons q t => .cons q (RepL.set r i t)
theorem RepL.erase : ∀ {vs : List V} {ds : List D} (i : Nat), RepL K G vs ds → RepL K G (vs.eraseIdx i) (ds.eraseIdx i)
  | _, _, _, .nil => .nil
  | _, _, 0, .cons _ t => t
  | _, _, i + 1, .cons q t => .cons q (RepL.erase i t)
theorem RepL.vals : ∀ (xs : List V), RepL K G xs (xs.map D.val)
  | [] => .nil
  | v :: xs => .cons (.val v) (RepL.vals xs)
theorem RepL.of_vals : ∀ {vs : List V} {xs : List V}, RepL K G vs (xs.map D.val) → vs = xs
  | [], [], _ => rfl
  | v :: vs, x :: xs, h => by
    cases h with
    | cons h t =>
      cases h
      rw [RepL.of_vals t]
theorem Rep.of_val {v u : V} (h : Rep K G v (.val u)) : v = u := by cases h; rfl
end

/-! ### the memory -/
inductive MO where
  | lst (ds : List D)
  | xd (fs : List (Str × D))
  | ins (C : Addr) (fs : List (Str × D))
  | dK (kvs : List (Key × D))
  | dT (kvs : List (List Key × D))
/-- names or keys, each with what stands there -/
structure RepF {κ : Type} (K : PySem.W.Frag) (G : Hp) (fv : List (κ × V)) (fs : List (κ × D)) : Prop where
  ks : fv.map (·.1) = fs.map (·.1)
  vs : RepL K G (fv.map (·.2)) (fs.map (·.2))
theorem RepF.up {κ : Type} {K : PySem.W.Frag} {G G' : Hp} {fv : List (κ × V)} {fs : List (κ × D)} (e : Same G G') (h : RepF K G fv fs) : RepF K G' fv fs := ⟨h.ks, h.vs.up e⟩
theorem RepF.nil {κ : Type} {K : PySem.W.Frag} {G : Hp} : RepF K G ([] : List (κ × V)) [] := ⟨rfl, .nil⟩
theorem RepF.cons {κ : Type} {K : PySem.W.Frag} {G : Hp} {fv : List (κ × V)} {fs : List (κ × D)} {k : κ} {v : V} {d : D} (r : Rep K G v d) (h : RepF K G fv fs) : RepF K G ((k, v) :: fv) ((k, d) :: fs) := ⟨by rw [List.map_cons, List.map_cons, h.ks], .cons r h.vs⟩
theorem RepF.get {κ : Type} [BEq κ] {K : PySem.W.Frag} {G : Hp} {k : κ} {d : D} : ∀ {fv : List (κ × V)} {fs : List (κ × D)}, RepF K G fv fs → fs.lookup k = some d → ∃ v, fv.lookup k = some v ∧ Rep K G v d
  | [], [], _, e => by cases e
  | [], _ :: _, h, _ => by have := h.ks; cases this
  | _ :: _, [], h, _ => by have := h.ks; cases this
  | (k1, v1) :: fv, (k2, d2) :: fs, ⟨ks, vs⟩, e => by
    rw [List.map_cons, List.map_cons] at ks vs
    obtain ⟨e1, e2⟩ := List.cons.inj ks
    obtain rfl : k1 = k2 := e1
    cases vs with
    | cons r t =>
      rw [List.lookup_cons] at e ⊢
      cases q : k == k1 with
      | true =>
        rw [q] at e
        cases e
        exact ⟨v1, rfl, r⟩
      | false =>
        rw [q] at e
        exact RepF.get (fv := fv) (fs := fs) ⟨e2, t⟩ e
abbrev Mem := Addr → Option MO
def Mem.set (M : Mem) (a : Addr) (o : MO) : Mem := fun b => if b = a then some o else M b
theorem Mem.set_same {M : Mem} {a : Addr} {o : MO} : M.set a o a = some o := if_pos rfl
theorem Mem.set_ne {M : Mem} {a b : Addr} {o : MO} (h : b ≠ a) : M.set a o b = M b := if_neg h
theorem Mem.set_set {M : Mem} {a : Addr} {o u : MO} : (M.set a o).set a u = M.set a u := by
  funext b; unfold Mem.set; split <;> rfl
def AtM (K : PySem.W.Frag) (G H : Hp) (a : Addr) : MO → Prop
  | .lst ds => ∃ vs, H a = some (.lst vs) ∧ RepL K G vs ds
  | .xd fs => ∃ fv, H a = some (.xd fv) ∧ RepF K G fv fs
  | .ins C fs => ∃ dx fv, H a = some (.ins C dx fv) ∧ RepF K G fv fs
  | .dK kvs => ∃ kv, H a = some (.dK kv) ∧ RepF K G kv kvs
  | .dT kvs => ∃ kv, H a = some (.dT kv) ∧ RepF K G kv kvs
structure SH (K : PySem.W.Frag) (G H : Hp) (M : Mem) : Prop where
  le : Same G H
  mem : ∀ b mo, M b = some mo → G b = none ∧ AtM K G H b mo
def Mle (M M' : Mem) : Prop := ∀ b o, M b = some o → M' b = some o
theorem Mle.refl (M : Mem) : Mle M M := fun _ _ h => h
theorem Mle.trans {M M1 M2 : Mem} (a : Mle M M1) (b : Mle M1 M2) : Mle M M2 := fun c o h => b c o (a c o h)
theorem SH.weak {K : PySem.W.Frag} {G H : Hp} {M M' : Mem} (s : SH K G H M') (h : Mle M M') : SH K G H M := ⟨s.le, fun b mo e => s.mem b mo (h b mo e)⟩
theorem AtM.some {K : PySem.W.Frag} {G H : Hp} {a : Addr} {mo : MO} (h : AtM K G H a mo) : ∃ o, H a = some o := by
  cases mo with
  | lst ds => obtain ⟨vs, e, _⟩ := h; exact ⟨_, e⟩
  | xd fs => obtain ⟨vs, e, _⟩ := h; exact ⟨_, e⟩
  | ins C fs => obtain ⟨dx, vs, e, _⟩ := h; exact ⟨_, e⟩
  | dK fs => obtain ⟨vs, e, _⟩ := h; exact ⟨_, e⟩
  | dT fs => obtain ⟨vs, e, _⟩ := h; exact ⟨_, e⟩
theorem AtM.up {K : PySem.W.Frag} {G G' H H' : Hp} {a : Addr} {mo : MO} (e : Same G G') (q : H' a = H a) (h : AtM K G H a mo) : AtM K G' H' a mo := by
  cases mo with
  | lst ds => obtain ⟨vs, e1, r⟩ := h; exact ⟨vs, by rw [q]; exact e1, r.up e⟩
  | xd fs => obtain ⟨vs, e1, r⟩ := h; exact ⟨vs, by rw [q]; exact e1, r.up e⟩
  | ins C fs => obtain ⟨dx, vs, e1, r⟩ := h; exact ⟨dx, vs, by rw [q]; exact e1, r.up e⟩
  | dK fs => obtain ⟨vs, e1, r⟩ := h; exact ⟨vs, by rw [q]; exact e1, r.up e⟩
  | dT fs => obtain ⟨vs, e1, r⟩ := h; exact ⟨vs, by rw [q]; exact e1, r.up e⟩
/-- a new thing that is never changed -/
theorem SH.new {K : PySem.W.Frag} {G H : Hp} {M : Mem} {p : Addr} {o : HO} (s : SH K G H M) (hp : H p = none) : SH K (upd G p o) (upd H p o) M ∧ Same G (upd G p o) := by
  have gp : G p = none := by
    cases e : G p with
    | none => rfl
    | some u => rw [s.le p u e] at hp; cases hp
  have up : Same G (upd G p o) := fun b u e => by rw [upd_ne (ne_of_none e gp)]; exact e
  refine ⟨⟨fun b u e => ?_, fun b mo e => ?_⟩, up⟩
  · by_cases hb : b = p
    · subst hb; rw [upd_same] at e ⊢; exact e
    · rw [upd_ne hb] at e ⊢; exact s.le b u e
  · obtain ⟨g0, at0⟩ := s.mem b mo e
    obtain ⟨u, hu⟩ := at0.some
    have hb : b ≠ p := ne_of_none hu hp
    exact ⟨by rw [upd_ne hb]; exact g0, at0.up up (upd_ne hb)⟩
/-- a new thing that may be changed -/
theorem SH.newM {K : PySem.W.Frag} {G H : Hp} {M : Mem} {p : Addr} {vs : List V} {ds : List D} (s : SH K G H M) (hp : H p = none) (r : RepL K G vs ds) : SH K G (upd H p (.lst vs)) (M.set p (.lst ds)) ∧ M p = none ∧ G p = none := by
  have gp : G p = none := by
    cases e : G p with
    | none => rfl
    | some u => rw [s.le p u e] at hp; cases hp
  refine ⟨⟨fun b u e => ?_, fun b mo e => ?_⟩, ?_, gp⟩
  · rw [upd_ne (ne_of_none e gp)]; exact s.le b u e
  · by_cases hb : b = p
    · subst hb
      rw [Mem.set_same] at e
      cases e
      exact ⟨gp, vs, upd_same, r⟩
    · rw [Mem.set_ne hb] at e
      obtain ⟨g0, at0⟩ := s.mem b mo e
      exact ⟨g0, at0.up (Same.refl G) (upd_ne hb)⟩
  · cases e : M p with
    | none => rfl
    | some mo =>
      obtain ⟨_, at0⟩ := s.mem p mo e
      obtain ⟨u, hu⟩ := at0.some
      rw [hp] at hu; cases hu
/-- a list that stands in the memory is changed -/
theorem SH.put {K : PySem.W.Frag} {G H : Hp} {M : Mem} {p : Addr} {mo : MO} {vs : List V} {ds : List D} (s : SH K G H M) (hm : M p = some mo) (r : RepL K G vs ds) : SH K G (upd H p (.lst vs)) (M.set p (.lst ds)) := by
  obtain ⟨gp, _⟩ := s.mem p mo hm
  refine ⟨fun b u e => ?_, fun b mo e => ?_⟩
  · rw [upd_ne (ne_of_none e gp)]; exact s.le b u e
  · by_cases hb : b = p
    · subst hb
      rw [Mem.set_same] at e
      cases e
      exact ⟨gp, vs, upd_same, r⟩
    · rw [Mem.set_ne hb] at e
      obtain ⟨g0, at0⟩ := s.mem b mo e
      exact ⟨g0, at0.up (Same.refl G) (upd_ne hb)⟩

/-! ### the slots -/
abbrev Sl := List (Option D)
def RepS (K : PySem.W.Frag) (G : Hp) (σ : L2.St) (ρ : Sl) : Prop := σ.length = ρ.length ∧ ∀ (i : Nat) (d : D), ρ[i]? = some (some d) → ∃ v, σ[i]? = some (some v) ∧ Rep K G v d
theorem RepS.up {K : PySem.W.Frag} {G G' : Hp} {σ : L2.St} {ρ : Sl} (e : Same G G') (h : RepS K G σ ρ) : RepS K G' σ ρ :=
  ⟨h.1, fun i d q => let ⟨v, a, b⟩ := h.2 i d q; ⟨v, a, b.up e⟩⟩
theorem RepS.set {K : PySem.W.Frag} {G : Hp} {σ : L2.St} {ρ : Sl} {v : V} {d : D} (i : Nat) (h : RepS K G σ ρ) (r : Rep K G v d) : RepS K G (σ.set i (some v)) (ρ.set i (some d)) := by
  refine ⟨by rw [List.length_set, List.length_set]; exact h.1, fun j e q => ?_⟩
  by_cases hj : i = j
  · subst hj
    by_cases hl : i < ρ.length
    · rw [List.getElem?_set_self hl] at q
      cases q
      exact ⟨v, List.getElem?_set_self (by rw [h.1]; exact hl), r⟩
    · rw [List.getElem?_eq_none (by rw [List.length_set]; omega)] at q
      cases q
  · rw [List.getElem?_set_ne hj] at q ⊢
    exact h.2 j e q
/-- a slot is forgotten -/
theorem RepS.none {K : PySem.W.Frag} {G : Hp} {σ : L2.St} {ρ : Sl} {x : Option V} (i : Nat) (h : RepS K G σ ρ) : RepS K G (σ.set i x) (ρ.set i Option.none) := by
  refine ⟨by rw [List.length_set, List.length_set]; exact h.1, fun j e q => ?_⟩
  by_cases hj : i = j
  · subst hj
    by_cases hl : i < ρ.length
    · rw [List.getElem?_set_self hl] at q
      cases q
    · rw [List.getElem?_eq_none (by rw [List.length_set]; omega)] at q
      cases q
  · rw [List.getElem?_set_ne hj] at q ⊢
    exact h.2 j e q
/-- of fewer slots known -/
theorem RepS.weak {K : PySem.W.Frag} {G : Hp} {σ : L2.St} {ρ ρ' : Sl} (h : RepS K G σ ρ) (hl : ρ'.length = ρ.length) (hs : ∀ (i : Nat) (d : D), ρ'[i]? = some (some d) → ρ[i]? = some (some d)) : RepS K G σ ρ' :=
  ⟨by rw [h.1, hl], fun i d q => h.2 i d (hs i d q)⟩
structure SA (K : PySem.W.Frag) (G H : Hp) (σ : L2.St) (ρ : Sl) (M : Mem) : Prop where
  sh : SH K G H M
  sl : RepS K G σ ρ

/-! ### the judgements -/
def tE (K : PySem.W.Frag) (ρ : Sl) (M : Mem) (d : D) (M' : Mem) : TE := fun σ H Q => ∃ G, SA K G H σ ρ M ∧ ∀ v G' H', Same G G' → SH K G' H' M' → Rep K G' v d → Q v H'
def tT (K : PySem.W.Frag) (ρ : Sl) (M : Mem) (b : Bool) (M' : Mem) : TT := fun σ H Q => ∃ G, SA K G H σ ρ M ∧ ∀ G' H', Same G G' → SH K G' H' M' → Q b H'
def tA (K : PySem.W.Frag) (ρ : Sl) (M : Mem) (ds : List D) (M' : Mem) : TA := fun σ H Q => ∃ G, SA K G H σ ρ M ∧ ∀ vs G' H', Same G G' → SH K G' H' M' → RepL K G' vs ds → Q vs H'
def tO (K : PySem.W.Frag) (ρ : Sl) (M : Mem) (o : Option Int) (M' : Mem) : TO := fun σ H Q => ∃ G, SA K G H σ ρ M ∧ ∀ G' H', Same G G' → SH K G' H' M' → Q o H'
abbrev EV (X : Cx) (e : Expr) (ρ : Sl) (M : Mem) (d : D) (M' : Mem) : Prop := PE X e (tE X.K ρ M d M')
abbrev TV (X : Cx) (e : Expr) (ρ : Sl) (M : Mem) (b : Bool) (M' : Mem) : Prop := PT X e (tT X.K ρ M b M')
abbrev WV (X : Cx) (e : Expr) (ρ : Sl) (M : Mem) (b : Bool) (M' : Mem) : Prop := PW X e (tT X.K ρ M b M')
abbrev AV (X : Cx) (es : List Expr) (ρ : Sl) (M : Mem) (ds : List D) (M' : Mem) : Prop := PA X es (tA X.K ρ M ds M')
abbrev OV (X : Cx) (e : Option Expr) (ρ : Sl) (M : Mem) (o : Option Int) (M' : Mem) : Prop := PO X e (tO X.K ρ M o M')
inductive Out where
  | nx (ρ : Sl) (M : Mem) | ret (d : D) (M : Mem) | bk (ρ : Sl) (M : Mem) | ct (ρ : Sl) (M : Mem)
def okE (K : PySem.W.Frag) (G0 : Hp) (E : Ends) : Out → Prop
  | .nx ρ M => ∀ σ G H, Same G0 G → SA K G H σ ρ M → E.nx σ H
  | .ret d M => ∀ v G H, Same G0 G → SH K G H M → Rep K G v d → E.rt v H
  | .bk ρ M => ∀ σ G H, Same G0 G → SA K G H σ ρ M → E.bk σ H
  | .ct ρ M => ∀ σ G H, Same G0 G → SA K G H σ ρ M → E.ct σ H
theorem okE.up {K : PySem.W.Frag} {G0 G1 : Hp} {E : Ends} {o : Out} (e : Same G0 G1) (h : okE K G0 E o) : okE K G1 E o := by
  cases o with
  | nx ρ M => exact fun σ G H g => h σ G H (e.trans g)
  | ret d M => exact fun v G H g => h v G H (e.trans g)
  | bk ρ M => exact fun σ G H g => h σ G H (e.trans g)
  | ct ρ M => exact fun σ G H g => h σ G H (e.trans g)
def tS (K : PySem.W.Frag) (ρ : Sl) (M : Mem) (Ψ : Out → Prop) : TS := fun E σ H => ∃ G, SA K G H σ ρ M ∧ ∀ o, Ψ o → okE K G E o
abbrev SV (X : Cx) (st : Stmt) (ρ : Sl) (M : Mem) (Ψ : Out → Prop) : Prop := PS X st (tS X.K ρ M Ψ)
abbrev BV (X : Cx) (sts : List Stmt) (ρ : Sl) (M : Mem) (Ψ : Out → Prop) : Prop := PSs X sts (tS X.K ρ M Ψ)

section
variable {X : Cx}
theorem _root_.L2.PE.mono {e : Expr} {t t' : TE} (h : PE X e t) (i : ∀ σ H Q, t' σ H Q → t σ H Q) : PE X e t' := ⟨fun pins s σ H Q I q => h.run pins s σ H Q I (i σ H Q q)⟩
theorem _root_.L2.PT.mono {e : Expr} {t t' : TT} (h : PT X e t) (i : ∀ σ H Q, t' σ H Q → t σ H Q) : PT X e t' := ⟨fun pins s σ H Q I q => h.run pins s σ H Q I (i σ H Q q)⟩
theorem _root_.L2.PW.mono {e : Expr} {t t' : TT} (h : PW X e t) (i : ∀ σ H Q, t' σ H Q → t σ H Q) : PW X e t' := ⟨fun wh pins s σ H Q I q => h.run wh pins s σ H Q I (i σ H Q q)⟩
theorem _root_.L2.PA.mono {e : List Expr} {t t' : TA} (h : PA X e t) (i : ∀ σ H Q, t' σ H Q → t σ H Q) : PA X e t' := ⟨fun pos pins s σ H Q I q => h.run pos pins s σ H Q I (i σ H Q q)⟩
theorem _root_.L2.PO.mono {e : Option Expr} {t t' : TO} (h : PO X e t) (i : ∀ σ H Q, t' σ H Q → t σ H Q) : PO X e t' := ⟨fun pins s σ H Q I q => h.run pins s σ H Q I (i σ H Q q)⟩
theorem _root_.L2.PS.mono {e : Stmt} {t t' : TS} (h : PS X e t) (i : ∀ E σ H, t' E σ H → t E σ H) : PS X e t' := ⟨fun pins s σ H E I q => h.run pins s σ H E I (i E σ H q)⟩
theorem _root_.L2.PSs.mono {e : List Stmt} {t t' : TS} (h : PSs X e t) (i : ∀ E σ H, t' E σ H → t E σ H) : PSs X e t' := ⟨fun pins s σ H E I q => h.run pins s σ H E I (i E σ H q)⟩
end

section
variable {X : Cx} {ρ : Sl} {M M1 M2 M3 : Mem} {a b c e : Expr} {es : List Expr} {d d1 d2 : D} {ds : List D} {pos : Pos}
/-! ### leaves -/
theorem ev_var (i : Nat) {x : Str} (hρ : ρ[i]? = some (some d)) (hN : X.N[i]? = some x := by rfl) (hv : Vis X.env.scope x := by first | exact Or.inl rfl | exact Or.inr (Or.inl rfl) | exact Or.inr (Or.inr rfl))
    (hd : (x == ("__debug__" : Str)) = false := by decide) (hcd : (x == ("__classdict__" : Str)) = false := by decide) : EV X (.Name x pos) ρ M d M :=
  (pe_var hN hv hd hcd).mono fun σ H Q ⟨G, sa, k⟩ => let ⟨v, e1, r⟩ := sa.sl.2 i d hρ; ⟨v, e1, k v G H (Same.refl G) sa.sh r⟩
theorem ev_int {i : Int} {j} : EV X (.Constant (.int i) j pos) ρ M (dI i) M := pe_int.mono fun σ H Q ⟨G, sa, k⟩ => k _ G H (Same.refl G) sa.sh (.val _)
theorem ev_bl {i : Bool} {j} : EV X (.Constant (.bool i) j pos) ρ M (dB i) M := pe_bl.mono fun σ H Q ⟨G, sa, k⟩ => k _ G H (Same.refl G) sa.sh (.val _)
theorem ev_non {j} : EV X (.Constant .none j pos) ρ M dN M := pe_non.mono fun σ H Q ⟨G, sa, k⟩ => k _ G H (Same.refl G) sa.sh (.val _)
theorem ev_str {x : Str} {j} : EV X (.Constant (.str x) j pos) ρ M (dS x) M := pe_str.mono fun σ H Q ⟨G, sa, k⟩ => k _ G H (Same.refl G) sa.sh (.val _)
theorem ev_glob {x : Str} {v : V} {u : Value} (hg : Gl X x) (hm : X.mg x = some u) (r : RelV v u) (hd : (x == ("__debug__" : Str)) = false := by decide) : EV X (.Name x pos) ρ M (.val v) M :=
  (pe_glob hg hm r hd).mono fun σ H Q ⟨G, sa, k⟩ => k _ G H (Same.refl G) sa.sh (.val _)
/-- a tuple or a list of the module, written -/
theorem ev_globD {x : Str} {f : Addr} (hg : Gl X x) (hm : X.mg x = some (.ref f)) (h : ∀ G, Rep X.K G (.ref f) d) (hd : (x == ("__debug__" : Str)) = false := by decide) : EV X (.Name x pos) ρ M d M :=
  (pe_glob (v := .ref f) hg hm rfl hd).mono fun σ H Q ⟨G, sa, k⟩ => k _ G H (Same.refl G) sa.sh (h G)

/-! ### operators by values -/
def RS (r : R2) (x y z : V) : Prop := ∀ H Q, Q z H → r x y H Q
def RU (r : V → Hp → VK → Prop) (x z : V) : Prop := ∀ H Q, Q z H → r x H Q
theorem ev_op {op : Operator} {r : R2} {x y z : V} (ho : OpR X (binaryOp op) r) (ha : EV X a ρ M (.val x) M1) (hb : EV X b ρ M1 (.val y) M2) (hr : RS r x y z) : EV X (.BinOp a op b pos) ρ M (.val z) M2 :=
  (pe_op ho ha hb).mono fun σ H Q ⟨G, sa, k⟩ => ⟨G, sa, fun v1 G1 H1 g1 sh1 r1 => ⟨G1, ⟨sh1, sa.sl.up g1⟩, fun v2 G2 H2 g2 sh2 r2 => by
    rw [r1.of_val, r2.of_val]
    exact hr H2 Q (k _ G2 H2 (g1.trans g2) sh2 (.val _))⟩⟩
theorem ev_un {op : UnaryOp} {r : V → Hp → VK → Prop} {x z : V} (ho : UnR X (unaryOp op) r) (ha : EV X a ρ M (.val x) M1) (hr : RU r x z) : EV X (.UnaryOp op a pos) ρ M (.val z) M1 :=
  (pe_un ho ha).mono fun σ H Q ⟨G, sa, k⟩ => ⟨G, sa, fun v1 G1 H1 g1 sh1 r1 => by
    rw [r1.of_val]
    exact hr H1 Q (k _ G1 H1 g1 sh1 (.val _))⟩
theorem ev_cmpR {op : CmpOp} {r : R2} {x y z : V} (ho : OpR X (compareOp op) r) (ha : EV X a ρ M (.val x) M1) (hb : EV X b ρ M1 (.val y) M2) (hr : RS r x y z) (hm : behindInMarks op b = false) : EV X (.Compare a [op] [b] pos) ρ M (.val z) M2 :=
  (pe_cmpR ho ha hb hm).mono fun σ H Q ⟨G, sa, k⟩ => ⟨G, sa, fun v1 G1 H1 g1 sh1 r1 => ⟨G1, ⟨sh1, sa.sl.up g1⟩, fun v2 G2 H2 g2 sh2 r2 => by
    rw [r1.of_val, r2.of_val]
    exact hr H2 Q (k _ G2 H2 (g1.trans g2) sh2 (.val _))⟩⟩
theorem tv_cmpR {op : CmpOp} {r : R2} {x y : V} {z : Bool} (ho : OpR X (compareOp op) r) (ha : EV X a ρ M (.val x) M1) (hb : EV X b ρ M1 (.val y) M2) (hr : RS r x y (.bl z)) (hm : behindInMarks op b = false) : TV X (.Compare a [op] [b] pos) ρ M z M2 :=
  (pt_cmpR ho ha hb hm).mono fun σ H Q ⟨G, sa, k⟩ => ⟨G, sa, fun v1 G1 H1 g1 sh1 r1 => ⟨G1, ⟨sh1, sa.sl.up g1⟩, fun v2 G2 H2 g2 sh2 r2 => by
    rw [r1.of_val, r2.of_val]
    exact hr H2 _ ⟨_, rfl, k G2 H2 (g1.trans g2) sh2⟩⟩⟩
theorem rs_I0 {g : Int → Int → V} {i j : Int} : RS (rI0 g) (.int i) (.int j) (g i j) := fun H Q q => ⟨i, j, rfl, rfl, q⟩
theorem rs_I {C : Int → Int → Prop} {g : Int → Int → V} {i j : Int} (h : C i j) : RS (rI C g) (.int i) (.int j) (g i j) := fun H Q q => ⟨i, j, rfl, rfl, h, q⟩
theorem rs_eq {x y : V} (h : scal x y = true) : RS rEq x y (.bl (decide (x = y))) := fun H Q q => ⟨h, q⟩
theorem rs_ne {x y : V} (h : scal x y = true) : RS rNe x y (.bl (!decide (x = y))) := fun H Q q => ⟨h, q⟩

theorem sc_ii {i j : Int} : scal (.int i) (.int j) = true := rfl
theorem sc_ss {i j : Str} : scal (.str i) (.str j) = true := rfl
theorem sc_bb {i j : Bool} : scal (.bl i) (.bl j) = true := rfl

/-! ### tests -/
theorem tv_val {b : Bool} (h : EV X e ρ M (dB b) M1) (he : ∀ whole, isTrue e X.env whole = (do let v ← whole; standAt e.pos; holding [v] (truthy v)) := by intro _; rfl) : TV X e ρ M b M1 :=
  (pt_val h he).mono fun σ H Q ⟨G, sa, k⟩ => ⟨G, sa, fun v1 G1 H1 g1 sh1 r1 => ⟨b, r1.of_val, k G1 H1 g1 sh1⟩⟩
theorem wv_one_and {b : Bool} {pos} (h : TV X e ρ M b M1) : WV X (.BoolOp .And [e] pos) ρ M b M1 := pw_and1 h
theorem wv_one_or {b : Bool} {pos} (h : TV X e ρ M b M1) : WV X (.BoolOp .Or [e] pos) ρ M b M1 := pw_or1 h
/-- a and b and ..: what stands behind a is asked only where a is true; it changes nothing -/
theorem wv_and {p q : Bool} {rest : List Expr} (ha : TV X a ρ M p M1) (hb : p = true → WV X (.BoolOp .And (b :: rest) pos) ρ M1 q M1) : WV X (.BoolOp .And (a :: b :: rest) pos) ρ M (p && q) M1 := by
  cases p with
  | true => exact (pw_and ha (hb rfl)).mono fun σ H Q ⟨G, sa, k⟩ => ⟨G, sa, fun G1 H1 g1 sh1 => (⟨G1, ⟨sh1, sa.sl.up g1⟩, fun G2 H2 g2 sh2 => k G2 H2 (g1.trans g2) sh2⟩ : tT _ _ _ _ _ σ H1 Q)⟩
  | false => exact (pw_and (tB' := fun _ _ _ => False) ha ⟨fun _ _ _ _ _ _ _ h => h.elim⟩).mono fun σ H Q ⟨G, sa, k⟩ => ⟨G, sa, fun G1 H1 g1 sh1 => (k G1 H1 g1 sh1 : Q false H1)⟩
theorem wv_or {p q : Bool} {rest : List Expr} (ha : TV X a ρ M p M1) (hb : p = false → WV X (.BoolOp .Or (b :: rest) pos) ρ M1 q M1) : WV X (.BoolOp .Or (a :: b :: rest) pos) ρ M (p || q) M1 := by
  cases p with
  | false => exact (pw_or ha (hb rfl)).mono fun σ H Q ⟨G, sa, k⟩ => ⟨G, sa, fun G1 H1 g1 sh1 => (⟨G1, ⟨sh1, sa.sl.up g1⟩, fun G2 H2 g2 sh2 => k G2 H2 (g1.trans g2) sh2⟩ : tT _ _ _ _ _ σ H1 Q)⟩
  | true => exact (pw_or (tB' := fun _ _ _ => False) ha ⟨fun _ _ _ _ _ _ _ h => h.elim⟩).mono fun σ H Q ⟨G, sa, k⟩ => ⟨G, sa, fun G1 H1 g1 sh1 => (k G1 H1 g1 sh1 : Q true H1)⟩
/-- what stands behind may change the memory: the way is known -/
theorem wv_andT {q : Bool} {rest : List Expr} (ha : TV X a ρ M true M1) (hb : WV X (.BoolOp .And (b :: rest) pos) ρ M1 q M2) : WV X (.BoolOp .And (a :: b :: rest) pos) ρ M q M2 :=
  (pw_and ha hb).mono fun σ H Q ⟨G, sa, k⟩ => ⟨G, sa, fun G1 H1 g1 sh1 => (⟨G1, ⟨sh1, sa.sl.up g1⟩, fun G2 H2 g2 sh2 => k G2 H2 (g1.trans g2) sh2⟩ : tT _ _ _ _ _ σ H1 Q)⟩
theorem wv_andF {rest : List Expr} (ha : TV X a ρ M false M1) : WV X (.BoolOp .And (a :: b :: rest) pos) ρ M false M1 :=
  (pw_and (tB' := fun _ _ _ => False) ha ⟨fun _ _ _ _ _ _ _ h => h.elim⟩).mono fun σ H Q ⟨G, sa, k⟩ => ⟨G, sa, fun G1 H1 g1 sh1 => (k G1 H1 g1 sh1 : Q false H1)⟩
theorem wv_orT {rest : List Expr} (ha : TV X a ρ M true M1) : WV X (.BoolOp .Or (a :: b :: rest) pos) ρ M true M1 :=
  (pw_or (tB' := fun _ _ _ => False) ha ⟨fun _ _ _ _ _ _ _ h => h.elim⟩).mono fun σ H Q ⟨G, sa, k⟩ => ⟨G, sa, fun G1 H1 g1 sh1 => (k G1 H1 g1 sh1 : Q true H1)⟩
theorem wv_orF {q : Bool} {rest : List Expr} (ha : TV X a ρ M false M1) (hb : WV X (.BoolOp .Or (b :: rest) pos) ρ M1 q M2) : WV X (.BoolOp .Or (a :: b :: rest) pos) ρ M q M2 :=
  (pw_or ha hb).mono fun σ H Q ⟨G, sa, k⟩ => ⟨G, sa, fun G1 H1 g1 sh1 => (⟨G1, ⟨sh1, sa.sl.up g1⟩, fun G2 H2 g2 sh2 => k G2 H2 (g1.trans g2) sh2⟩ : tT _ _ _ _ _ σ H1 Q)⟩
theorem tv_not {b : Bool} (h : TV X e ρ M b M1) : TV X (.UnaryOp .Not e pos) ρ M (!b) M1 :=
  (pt_not h).mono fun σ H Q ⟨G, sa, k⟩ => ⟨G, sa, fun G1 H1 g1 sh1 => k G1 H1 g1 sh1⟩
theorem tv_to {b b' : Bool} (h : TV X e ρ M b M1) (q : b = b') : TV X e ρ M b' M1 := q ▸ h
theorem ev_to {d d' : D} (h : EV X e ρ M d M1) (q : d = d') : EV X e ρ M d' M1 := q ▸ h
theorem ev_toM {d : D} (h : EV X e ρ M d M1) (q : M1 = M2) : EV X e ρ M d M2 := q ▸ h
theorem wv_to {b b' : Bool} (h : WV X e ρ M b M1) (q : b = b') : WV X e ρ M b' M1 := q ▸ h

/-! ### and, or, not as values -/
theorem ev_one {op} {b : Bool} (h : EV X e ρ M d M1) : EV X (.BoolOp op [e] pos) ρ M d M1 := pe_one h
theorem ev_and {p : Bool} {d : D} {rest : List Expr} (ha : EV X a ρ M (dB p) M1) (hb : p = true → EV X (.BoolOp .And (b :: rest) pos) ρ M1 d M1) (hf : p = false → d = dB false) : EV X (.BoolOp .And (a :: b :: rest) pos) ρ M d M1 := by
  cases p with
  | true => exact (pe_and ha (hb rfl)).mono fun σ H Q ⟨G, sa, k⟩ => ⟨G, sa, fun v1 G1 H1 g1 sh1 r1 => ⟨true, r1.of_val, (⟨G1, ⟨sh1, sa.sl.up g1⟩, fun v G2 H2 g2 sh2 => k v G2 H2 (g1.trans g2) sh2⟩ : tE _ _ _ _ _ σ H1 Q)⟩⟩
  | false =>
    cases hf rfl
    exact (pe_and (tb := fun _ _ _ => False) ha ⟨fun _ _ _ _ _ _ h => h.elim⟩).mono fun σ H Q ⟨G, sa, k⟩ => ⟨G, sa, fun v1 G1 H1 g1 sh1 r1 => ⟨false, r1.of_val, (k _ G1 H1 g1 sh1 (.val _) : Q (.bl false) H1)⟩⟩
theorem ev_andB {p q : Bool} {rest : List Expr} (ha : EV X a ρ M (dB p) M1) (hb : p = true → EV X (.BoolOp .And (b :: rest) pos) ρ M1 (dB q) M1) : EV X (.BoolOp .And (a :: b :: rest) pos) ρ M (dB (p && q)) M1 := by
  refine ev_and ha (fun h => ?_) fun h => by rw [h]; rfl
  rw [h]
  exact hb h
theorem ev_orB {p q : Bool} {rest : List Expr} (ha : EV X a ρ M (dB p) M1) (hb : p = false → EV X (.BoolOp .Or (b :: rest) pos) ρ M1 (dB q) M1) : EV X (.BoolOp .Or (a :: b :: rest) pos) ρ M (dB (p || q)) M1 := by
  cases p with
  | false => exact (pe_or ha (hb rfl)).mono fun σ H Q ⟨G, sa, k⟩ => ⟨G, sa, fun v1 G1 H1 g1 sh1 r1 => ⟨false, r1.of_val, (⟨G1, ⟨sh1, sa.sl.up g1⟩, fun v G2 H2 g2 sh2 => k v G2 H2 (g1.trans g2) sh2⟩ : tE _ _ _ _ _ σ H1 Q)⟩⟩
  | true => exact (pe_or (tb := fun _ _ _ => False) ha ⟨fun _ _ _ _ _ _ h => h.elim⟩).mono fun σ H Q ⟨G, sa, k⟩ => ⟨G, sa, fun v1 G1 H1 g1 sh1 r1 => ⟨true, r1.of_val, (k _ G1 H1 g1 sh1 (.val _) : Q (.bl true) H1)⟩⟩
theorem ev_notB {p : Bool} (h : EV X e ρ M (dB p) M1) : EV X (.UnaryOp .Not e pos) ρ M (dB (!p)) M1 :=
  (pe_not h).mono fun σ H Q ⟨G, sa, k⟩ => ⟨G, sa, fun v1 G1 H1 g1 sh1 r1 => ⟨p, r1.of_val, k _ G1 H1 g1 sh1 (.val _)⟩⟩
/-- a if c else b -/
theorem ev_if {p : Bool} (hc : TV X c ρ M p M1) (ha : p = true → EV X a ρ M1 d M2) (hb : p = false → EV X b ρ M1 d M2) : EV X (.IfExp c a b pos) ρ M d M2 := by
  cases p with
  | true => exact (pe_ifExp (tb := fun _ _ _ => False) hc (ha rfl) ⟨fun _ _ _ _ _ _ h => h.elim⟩).mono fun σ H Q ⟨G, sa, k⟩ => ⟨G, sa, fun G1 H1 g1 sh1 => (⟨G1, ⟨sh1, sa.sl.up g1⟩, fun v G2 H2 g2 sh2 => k v G2 H2 (g1.trans g2) sh2⟩ : tE _ _ _ _ _ σ H1 Q)⟩
  | false => exact (pe_ifExp (ta := fun _ _ _ => False) hc ⟨fun _ _ _ _ _ _ h => h.elim⟩ (hb rfl)).mono fun σ H Q ⟨G, sa, k⟩ => ⟨G, sa, fun G1 H1 g1 sh1 => (⟨G1, ⟨sh1, sa.sl.up g1⟩, fun v G2 H2 g2 sh2 => k v G2 H2 (g1.trans g2) sh2⟩ : tE _ _ _ _ _ σ H1 Q)⟩
theorem ev_ifB {p : Bool} (hc : TV X c ρ M p M1) (ha : EV X a ρ M1 d1 M2) (hb : EV X b ρ M1 d2 M2) : EV X (.IfExp c a b pos) ρ M (if p = true then d1 else d2) M2 :=
  ev_if hc (fun h => by rw [if_pos h]; exact ha) (fun h => by rw [h, if_neg Bool.false_ne_true]; exact hb)

/-! ### arguments, displays -/
theorem av_nil : AV X [] ρ M [] M := pa_nil.mono fun σ H Q ⟨G, sa, k⟩ => k [] G H (Same.refl G) sa.sh .nil
theorem av_cons (ha : EV X e ρ M d M1) (hr : AV X es ρ M1 ds M2) (hs : starEach (e :: es) X.env = (false, eval e X.env) :: starEach es X.env := by rfl) : AV X (e :: es) ρ M (d :: ds) M2 :=
  (pa_cons ha hr hs).mono fun σ H Q ⟨G, sa, k⟩ => ⟨G, sa, fun v1 G1 H1 g1 sh1 r1 => ⟨G1, ⟨sh1, sa.sl.up g1⟩, fun vs G2 H2 g2 sh2 r2 => k _ G2 H2 (g1.trans g2) sh2 (.cons (r1.up g2) r2)⟩⟩
theorem ev_tup {x1} (h : AV X es ρ M ds M1) (hl : ds.length ≤ sizeLine := by first | (simp only [List.length_cons, List.length_nil]; decide) | decide) : EV X (.Tuple es x1 pos) ρ M (.tup ds) M1 :=
  (pe_tup h).mono fun σ H Q ⟨G, sa, k⟩ => ⟨G, sa, fun vs G1 H1 g1 sh1 r1 => ⟨by rw [r1.len]; exact hl, fun p hp => by
    obtain ⟨sh2, g2⟩ := sh1.new (o := .tup vs) hp
    exact k _ _ _ (g1.trans g2) sh2 (.tup (.inl (.inl upd_same)) (r1.up g2))⟩⟩
theorem ev_lst (h : AV X es ρ M ds M1) (hl : ds.length ≤ sizeLine := by first | (simp only [List.length_cons, List.length_nil]; decide) | decide) : EV X (.List es pos) ρ M (.lst ds) M1 :=
  (pe_lst h).mono fun σ H Q ⟨G, sa, k⟩ => ⟨G, sa, fun vs G1 H1 g1 sh1 r1 => ⟨by rw [r1.len]; exact hl, fun p hp => by
    obtain ⟨sh2, g2⟩ := sh1.new (o := .lst vs) hp
    exact k _ _ _ (g1.trans g2) sh2 (.lst (.inl (.inl upd_same)) (r1.up g2))⟩⟩

/-! ### items -/
theorem atI_up {K : PySem.W.Frag} {G : Hp} {vs : List V} {i : Int} (r : RepL K G vs ds) (h : atI ds i = some d) : ∃ v, atI vs i = some v ∧ Rep K G v d := by
  unfold atI at h ⊢
  rw [r.len]
  cases q : ixN ds.length i with
  | none => rw [q] at h; cases h
  | some j =>
    rw [q] at h
    exact r.get h
theorem ev_ixT {i : Int} (ha : EV X a ρ M (.tup ds) M1) (hb : EV X b ρ M1 (dI i) M2) (h : atI ds i = some d) (hs : PlainIx b := by (intro _ _; rfl)) : EV X (.Subscript a b pos) ρ M d M2 :=
  (pe_ix ix_tup ha hb hs).mono fun σ H Q ⟨G, sa, k⟩ => ⟨G, sa, fun v1 G1 H1 g1 sh1 r1 => ⟨G1, ⟨sh1, sa.sl.up g1⟩, fun v2 G2 H2 g2 sh2 r2 => by
    cases r1 with
    | tup q r =>
      obtain ⟨v, e, rv⟩ := atI_up (r.up g2) h
      exact ⟨_, _, i, v, rfl, r2.of_val, sqtUp sh2.le (sqtUp g2 q), e, k _ G2 H2 (g1.trans g2) sh2 rv⟩⟩⟩
theorem ev_ixL {i : Int} (ha : EV X a ρ M (.lst ds) M1) (hb : EV X b ρ M1 (dI i) M2) (h : atI ds i = some d) (hs : PlainIx b := by (intro _ _; rfl)) : EV X (.Subscript a b pos) ρ M d M2 :=
  (pe_ix ix_list ha hb hs).mono fun σ H Q ⟨G, sa, k⟩ => ⟨G, sa, fun v1 G1 H1 g1 sh1 r1 => ⟨G1, ⟨sh1, sa.sl.up g1⟩, fun v2 G2 H2 g2 sh2 r2 => by
    cases r1 with
    | lst q r =>
      obtain ⟨v, e, rv⟩ := atI_up (r.up g2) h
      exact ⟨_, _, i, v, rfl, r2.of_val, sqlUp sh2.le (sqlUp g2 q), e, k _ G2 H2 (g1.trans g2) sh2 rv⟩⟩⟩
/-- an item of a list of the memory -/
theorem ev_ixM {p : Addr} {i : Int} (ha : EV X a ρ M (dP p) M1) (hb : EV X b ρ M1 (dI i) M2) (hm : M2 p = some (.lst ds)) (h : atI ds i = some d) (hs : PlainIx b := by (intro _ _; rfl)) : EV X (.Subscript a b pos) ρ M d M2 :=
  (pe_ix ix_list ha hb hs).mono fun σ H Q ⟨G, sa, k⟩ => ⟨G, sa, fun v1 G1 H1 g1 sh1 r1 => ⟨G1, ⟨sh1, sa.sl.up g1⟩, fun v2 G2 H2 g2 sh2 r2 => by
    obtain ⟨_, vs, hv, r⟩ := sh2.mem p _ hm
    obtain ⟨v, e, rv⟩ := atI_up r h
    exact ⟨p, vs, i, v, r1.of_val, r2.of_val, .inl (.inl hv), e, k _ G2 H2 (g1.trans g2) sh2 rv⟩⟩⟩
theorem ev_ixS {z : Str} {i : Int} {ch : Nat} (ha : EV X a ρ M (dS z) M1) (hb : EV X b ρ M1 (dI i) M2) (hz : z.length ≤ sizeLine) (h : atI z.cps.toList i = some ch) (hs : PlainIx b := by (intro _ _; rfl)) : EV X (.Subscript a b pos) ρ M (dS ⟨#[ch]⟩) M2 :=
  (pe_ix ix_str ha hb hs).mono fun σ H Q ⟨G, sa, k⟩ => ⟨G, sa, fun v1 G1 H1 g1 sh1 r1 => ⟨G1, ⟨sh1, sa.sl.up g1⟩, fun v2 G2 H2 g2 sh2 r2 =>
    ⟨z, i, ch, r1.of_val, r2.of_val, hz, h, k _ G2 H2 (g1.trans g2) sh2 (.val _)⟩⟩⟩

/-! ### calls -/
/-- what a def of trees promises -/
def spD (K : PySem.W.Frag) (Pr : List D → Mem → D → Mem → Prop) : Sp := fun vs H Q _ => ∃ G ds M d M', SH K G H M ∧ RepL K G vs ds ∧ Pr ds M d M' ∧ ∀ v G' H', Same G G' → SH K G' H' M' → Rep K G' v d → Q v H'
structure Cal (P : Program) (w : World) (K : PySem.W.Frag) (mg : Str → Option Value) (base : Heap) (k : Nat) (x : Str) (sp : Sp) : Prop where
  ex : ∃ f fd ps, mg x = some (.ref f) ∧ PySem.W.keepIn K (.ref f) = true ∧ Binds K fd ps [] ∧ FnOk P w K mg base CX0 k f fd ps sp
theorem Cal.mono {P : Program} {w : World} {K : PySem.W.Frag} {mg : Str → Option Value} {base : Heap} {j k : Nat} {x : Str} {sp : Sp} (C : Cal P w K mg base j x sp) (h : j ≤ k) : Cal P w K mg base k x sp :=
  let ⟨f, fd, ps, a, b, c, F⟩ := C.ex
  ⟨f, fd, ps, a, b, c, F.mono h⟩
theorem Cal.imp {P : Program} {w : World} {K : PySem.W.Frag} {mg : Str → Option Value} {base : Heap} {k : Nat} {x : Str} {sp sp' : Sp} (C : Cal P w K mg base k x sp) (h : ∀ vs H Q E, sp' vs H Q E → sp vs H Q E) : Cal P w K mg base k x sp' :=
  let ⟨f, fd, ps, a, b, c, F⟩ := C.ex
  ⟨f, fd, ps, a, b, c, F.imp h⟩
theorem ev_call {k : Nat} {x : Str} {Pr : List D → Mem → D → Mem → Prop} {p : Pos} (C : Cal X.prog X.w X.K X.mg X.base k x (spD X.K Pr)) (hr : Room k X.A) (ha : AV X (e :: es) ρ M ds M1) (hp : Pr ds M1 d M2) (hg : Gl X x := by rfl)
    (hd : (x == ("__debug__" : Str)) = false := by decide) (hst : starEach (e :: es) X.env = (false, eval e X.env) :: starEach es X.env := by rfl) (hpl : (backTo pos (starEach es X.env)).any (·.1) = false := by rfl) : EV X (.Call (.Name x p) (e :: es) [] pos) ρ M d M2 := by
  obtain ⟨f, fd, ps, hm, hk, hb, F⟩ := C.ex
  refine (pe_call F hr hg hm hk hb .nil pass0 ha (hdb := hd) (he := hst) (hpl := hpl)).mono fun σ H Q ⟨G, sa, k⟩ => ⟨G, sa, fun vs G1 H1 g1 sh1 r1 => ?_⟩
  show spD X.K Pr (vs ++ []) H1 Q E0
  rw [List.append_nil]
  exact ⟨G1, ds, M1, d, M2, sh1, r1, hp, fun v G' H' g sh r => k v G' H' (g1.trans g) sh r⟩
/-- a built-in of scalars -/
def RC (r : List V → Hp → VK → Prop) (vs : List V) (z : V) : Prop := ∀ H Q, Q z H → r vs H Q
theorem ev_cb {x : Str} {p : Pos} {id : String} {r : List V → Hp → VK → Prop} {vs : List V} {z : V} (hc : CallR X (.builtin id) r) (hm : X.mg x = none) (hv : bootBuiltins x = some (.builtin id)) (ha : AV X (e :: es) ρ M (vs.map D.val) M1) (hr : RC r vs z) (hg : Gl X x := by rfl)
    (hn : x ≠ "__name__" := by decide) (hd : (x == ("__debug__" : Str)) = false := by decide) (hst : starEach (e :: es) X.env = (false, eval e X.env) :: starEach es X.env := by rfl) (hpl : (backTo pos (starEach es X.env)).any (·.1) = false := by rfl) : EV X (.Call (.Name x p) (e :: es) [] pos) ρ M (.val z) M1 :=
  (pe_callB hc hg hm hv ha hn hd hst hpl).mono fun σ H Q ⟨G, sa, k⟩ => ⟨G, sa, fun vs' G1 H1 g1 sh1 r1 => by
    rw [RepL.of_vals r1]
    exact hr H1 Q (k _ G1 H1 g1 sh1 (.val _))⟩
theorem ev_ct {x : Str} {p : Pos} {id : String} {r : List V → Hp → VK → Prop} {vs : List V} {z : V} (hc : CallR X (.type id) r) (hm : X.mg x = none) (hv : bootBuiltins x = some (.type id)) (ha : AV X (e :: es) ρ M (vs.map D.val) M1) (hr : RC r vs z) (hg : Gl X x := by rfl)
    (hn : x ≠ "__name__" := by decide) (hd : (x == ("__debug__" : Str)) = false := by decide) (hst : starEach (e :: es) X.env = (false, eval e X.env) :: starEach es X.env := by rfl) (hpl : (backTo pos (starEach es X.env)).any (·.1) = false := by rfl) : EV X (.Call (.Name x p) (e :: es) [] pos) ρ M (.val z) M1 :=
  (pe_callTy hc hg hm hv ha hn hd hst hpl).mono fun σ H Q ⟨G, sa, k⟩ => ⟨G, sa, fun vs' G1 H1 g1 sh1 r1 => by
    rw [RepL.of_vals r1]
    exact hr H1 Q (k _ G1 H1 g1 sh1 (.val _))⟩
/-- int(i) -/
theorem ev_intI {i : Int} {p : Pos} (hm : X.mg "int" = none) (ha : EV X e ρ M (dI i) M1) (hg : Gl X "int" := by rfl) (hst : starEach [e] X.env = [(false, eval e X.env)] := by rfl) : EV X (.Call (.Name "int" p) [e] [] pos) ρ M (dI i) M1 :=
  (pe_callTy call_int1 hg hm (by decide +kernel) (av_cons ha av_nil hst) (he := hst)).mono fun σ H Q ⟨G, sa, k⟩ => ⟨G, sa, fun vs' G1 H1 g1 sh1 r1 => by
    rw [RepL.of_vals (xs := [.int i]) r1]
    exact .inl ⟨i, rfl, k _ G1 H1 g1 sh1 (.val _)⟩⟩
/-- len of a tree, of a list of the memory, of a text -/
theorem ev_lenT {p : Pos} (hm : X.mg "len" = none) (ha : EV X e ρ M (.tup ds) M1) (hg : Gl X "len" := by rfl) (hst : starEach [e] X.env = [(false, eval e X.env)] := by rfl) : EV X (.Call (.Name "len" p) [e] [] pos) ρ M (dI ds.length) M1 :=
  (pe_callB call_len_seq hg hm PySem.boot_len (av_cons ha av_nil hst) (he := hst)).mono fun σ H Q ⟨G, sa, k⟩ => ⟨G, sa, fun vs' G1 H1 g1 sh1 r1 => by
    cases r1 with
    | cons h t =>
      cases t
      cases h with
      | tup q r => exact ⟨_, _, rfl, .inr (sqtUp sh1.le q), by rw [r.len]; exact k _ G1 H1 g1 sh1 (.val _)⟩⟩
theorem ev_lenL {p : Pos} (hm : X.mg "len" = none) (ha : EV X e ρ M (.lst ds) M1) (hg : Gl X "len" := by rfl) (hst : starEach [e] X.env = [(false, eval e X.env)] := by rfl) : EV X (.Call (.Name "len" p) [e] [] pos) ρ M (dI ds.length) M1 :=
  (pe_callB call_len_seq hg hm PySem.boot_len (av_cons ha av_nil hst) (he := hst)).mono fun σ H Q ⟨G, sa, k⟩ => ⟨G, sa, fun vs' G1 H1 g1 sh1 r1 => by
    cases r1 with
    | cons h t =>
      cases t
      cases h with
      | lst q r => exact ⟨_, _, rfl, .inl (sqlUp sh1.le q), by rw [r.len]; exact k _ G1 H1 g1 sh1 (.val _)⟩⟩
theorem ev_lenM {a : Addr} {p : Pos} (hm : X.mg "len" = none) (ha : EV X e ρ M (dP a) M1) (h : M1 a = some (.lst ds)) (hg : Gl X "len" := by rfl) (hst : starEach [e] X.env = [(false, eval e X.env)] := by rfl) : EV X (.Call (.Name "len" p) [e] [] pos) ρ M (dI ds.length) M1 :=
  (pe_callB call_len_seq hg hm PySem.boot_len (av_cons ha av_nil hst) (he := hst)).mono fun σ H Q ⟨G, sa, k⟩ => ⟨G, sa, fun vs' G1 H1 g1 sh1 r1 => by
    obtain ⟨_, vs, hv, r⟩ := sh1.mem a _ h
    rw [RepL.of_vals (xs := [.ref a]) r1]
    exact ⟨a, vs, rfl, .inl (.inl (.inl hv)), by rw [r.len]; exact k _ G1 H1 g1 sh1 (.val _)⟩⟩
theorem ev_lenS {z : Str} {p : Pos} (hm : X.mg "len" = none) (ha : EV X e ρ M (dS z) M1) (hz : z.length ≤ sizeLine) (hg : Gl X "len" := by rfl) (hst : starEach [e] X.env = [(false, eval e X.env)] := by rfl) : EV X (.Call (.Name "len" p) [e] [] pos) ρ M (dI z.length) M1 :=
  (pe_callB call_len_str hg hm PySem.boot_len (av_cons ha av_nil hst) (he := hst)).mono fun σ H Q ⟨G, sa, k⟩ => ⟨G, sa, fun vs' G1 H1 g1 sh1 r1 => by
    rw [RepL.of_vals (xs := [.str z]) r1]
    exact ⟨z, rfl, hz, k _ G1 H1 g1 sh1 (.val _)⟩⟩

/-! ### statements -/
variable {Ψ : Out → Prop} {st : Stmt} {rest : List Stmt}
/-- what follows -/
def thenR (X : Cx) (rest : List Stmt) (Ψ : Out → Prop) : Out → Prop
  | .nx ρ M => BV X rest ρ M Ψ
  | o => Ψ o
theorem bv_nil (h : Ψ (.nx ρ M)) : BV X [] ρ M Ψ := pss_nil.mono fun E σ H ⟨G, sa, k⟩ => k _ h σ G H (Same.refl G) sa
theorem bv_cons (h : SV X st ρ M (thenR X rest Ψ)) : BV X (st :: rest) ρ M Ψ := by
  refine (pss_cons (u := fun E σ H => ∃ ρ' M', BV X rest ρ' M' Ψ ∧ tS X.K ρ' M' Ψ E σ H) h ⟨fun pins s σ H E I ⟨ρ', M', hb, q⟩ => hb.run pins s σ H E I q⟩).mono fun E σ H ⟨G, sa, k⟩ => ⟨G, sa, fun o ho => ?_⟩
  cases o with
  | nx ρ' M' => exact fun σ' G' H' g sa' => ⟨ρ', M', ho, G', sa', fun o' ho' => (k o' ho').up g⟩
  | ret d M' => exact k _ ho
  | bk ρ' M' => exact k _ ho
  | ct ρ' M' => exact k _ ho
theorem bv_one (h : SV X st ρ M Ψ) : BV X [st] ρ M Ψ := pss_one h
theorem sv_to {Ψ' : Out → Prop} (h : SV X st ρ M Ψ) (i : ∀ o, Ψ o → Ψ' o) : SV X st ρ M Ψ' := h.mono fun E σ H ⟨G, sa, k⟩ => ⟨G, sa, fun o ho => k o (i o ho)⟩
theorem bv_to {Ψ' : Out → Prop} (h : BV X rest ρ M Ψ) (i : ∀ o, Ψ o → Ψ' o) : BV X rest ρ M Ψ' := h.mono fun E σ H ⟨G, sa, k⟩ => ⟨G, sa, fun o ho => k o (i o ho)⟩
/-- fewer slots known, the same memory -/
theorem bv_weak {ρ' : Sl} (h : BV X rest ρ' M Ψ) (hl : ρ'.length = ρ.length) (hs : ∀ (i : Nat) (d : D), ρ'[i]? = some (some d) → ρ[i]? = some (some d)) : BV X rest ρ M Ψ := h.mono fun E σ H ⟨G, sa, k⟩ => ⟨G, ⟨sa.sh, sa.sl.weak hl hs⟩, k⟩
theorem sv_ret (h : EV X e ρ M d M1) (hΨ : Ψ (.ret d M1)) : SV X (.Return (some e) pos) ρ M Ψ :=
  (ps_ret h).mono fun E σ H ⟨G, sa, k⟩ => ⟨G, sa, fun v G1 H1 g1 sh1 r1 => k _ hΨ v G1 H1 g1 sh1 r1⟩
theorem sv_retN (hΨ : Ψ (.ret dN M)) : SV X (.Return none pos) ρ M Ψ :=
  ps_retN.mono fun E σ H ⟨G, sa, k⟩ => k _ hΨ _ G H (Same.refl G) sa.sh (.val _)
theorem sv_pass (hΨ : Ψ (.nx ρ M)) : SV X (.Pass pos) ρ M Ψ := ps_pass.mono fun E σ H ⟨G, sa, k⟩ => k _ hΨ σ G H (Same.refl G) sa
theorem sv_break (hΨ : Ψ (.bk ρ M)) : SV X (.Break pos) ρ M Ψ := ps_break.mono fun E σ H ⟨G, sa, k⟩ => k _ hΨ σ G H (Same.refl G) sa
theorem sv_cont (hΨ : Ψ (.ct ρ M)) : SV X (.Continue pos) ρ M Ψ := ps_continue.mono fun E σ H ⟨G, sa, k⟩ => k _ hΨ σ G H (Same.refl G) sa
theorem sv_expr (h : EV X e ρ M d M1) (hΨ : Ψ (.nx ρ M1)) (hs : swapsWith e none pos.line X.env = pure false := by rfl) : SV X (.Expr e pos) ρ M Ψ :=
  (ps_expr h hs).mono fun E σ H ⟨G, sa, k⟩ => ⟨G, sa, fun v G1 H1 g1 sh1 r1 => k _ hΨ σ G1 H1 g1 ⟨sh1, sa.sl.up g1⟩⟩
/-- x = e -/
theorem sv_set (i : Nat) {x : Str} {pos' : Pos} (hN : X.N.Nodup) (he : EV X e ρ M d M1) (hΨ : Ψ (.nx (ρ.set i (some d)) M1)) (hi : X.N[i]? = some x := by rfl) (hx : L2.Loc X.env.scope x := by first | exact Or.inl rfl | exact Or.inr rfl) (hs : swapsWith e (some (.Name x pos')) pos.line X.env = pure false := by rfl)
    (hf : X.fn x = true ∨ X.env.scope.names.lookup x = some .local := by first | exact .inl rfl | exact .inr rfl) : SV X (.Assign [.Name x pos'] e pos) ρ M Ψ :=
  (ps_set hN hi hx he hs hf).mono fun E σ H ⟨G, sa, k⟩ => ⟨G, sa, fun v G1 H1 g1 sh1 r1 => k _ hΨ _ G1 H1 g1 ⟨sh1, (sa.sl.up g1).set i r1⟩⟩
/-- x = a new list that is going to be changed: its address p is new -/
theorem sv_setNew (i : Nat) {x : Str} {pos' pl : Pos} (hN : X.N.Nodup) (ha : AV X es ρ M ds M1) (hΨ : ∀ p, M1 p = none → Ψ (.nx (ρ.set i (some (dP p))) (M1.set p (.lst ds)))) (hl : ds.length ≤ sizeLine := by first | (simp only [List.length_cons, List.length_nil]; decide) | decide) (hi : X.N[i]? = some x := by rfl) (hx : L2.Loc X.env.scope x := by first | exact Or.inl rfl | exact Or.inr rfl)
    (hs : swapsWith (.List es pl) (some (.Name x pos')) pos.line X.env = pure false := by rfl) (hf : X.fn x = true ∨ X.env.scope.names.lookup x = some .local := by first | exact .inl rfl | exact .inr rfl) : SV X (.Assign [.Name x pos'] (.List es pl) pos) ρ M Ψ :=
  (ps_set hN hi hx (pe_lst ha) hs hf).mono fun E σ H ⟨G, sa, k⟩ => ⟨G, sa, fun vs G1 H1 g1 sh1 r1 => ⟨by rw [r1.len]; exact hl, fun p hp => by
    obtain ⟨sh2, mp, gp⟩ := sh1.newM hp r1
    exact k _ (hΨ p mp) _ G1 _ g1 ⟨sh2, (sa.sl.up g1).set i (.val _)⟩⟩⟩
theorem sv_if {p : Bool} {as bs : List Stmt} (hc : TV X c ρ M p M1) (ha : p = true → BV X as ρ M1 Ψ) (hb : p = false → BV X bs ρ M1 Ψ) : SV X (.If c as bs pos) ρ M Ψ := by
  cases p with
  | true => exact (ps_if (u := fun _ _ _ => False) hc (ha rfl) ⟨fun _ _ _ _ _ _ h => h.elim⟩).mono fun E σ H ⟨G, sa, k⟩ => ⟨G, sa, fun G1 H1 g1 sh1 => (⟨G1, ⟨sh1, sa.sl.up g1⟩, fun o ho => (k o ho).up g1⟩ : tS _ _ _ _ E σ H1)⟩
  | false => exact (ps_if (t := fun _ _ _ => False) hc ⟨fun _ _ _ _ _ _ h => h.elim⟩ (hb rfl)).mono fun E σ H ⟨G, sa, k⟩ => ⟨G, sa, fun G1 H1 g1 sh1 => (⟨G1, ⟨sh1, sa.sl.up g1⟩, fun o ho => (k o ho).up g1⟩ : tS _ _ _ _ E σ H1)⟩
/-- the list at p, which slot i names, is changed no more -/
theorem SH.freeze {K : PySem.W.Frag} {G H : Hp} {M : Mem} {p : Addr} {ds : List D} (s : SH K G H (M.set p (.lst ds))) (hm : M p = none) : ∃ vs, SH K (upd G p (.lst vs)) H M ∧ Same G (upd G p (.lst vs)) ∧ RepL K G vs ds := by
  obtain ⟨gp, vs, hv, r⟩ := s.mem p _ Mem.set_same
  have up : Same G (upd G p (.lst vs)) := fun b u e => by rw [upd_ne (ne_of_none e gp)]; exact e
  refine ⟨vs, ⟨fun b u e => ?_, fun b mo e => ?_⟩, up, r⟩
  · by_cases hb : b = p
    · subst hb; rw [upd_same] at e; rw [← e]; exact hv
    · rw [upd_ne hb] at e; exact s.le b u e
  · have hb : b ≠ p := fun q => by rw [q, hm] at e; cases e
    obtain ⟨g0, at0⟩ := s.mem b mo (by rw [Mem.set_ne hb]; exact e)
    exact ⟨by rw [upd_ne hb]; exact g0, at0.up up rfl⟩
theorem bv_freeze (i : Nat) {p : Addr} (hρ : ρ[i]? = some (some (dP p))) (hm : M p = none) (h : BV X rest (ρ.set i (some (.lst ds))) M Ψ) : BV X rest ρ (M.set p (.lst ds)) Ψ := h.mono fun E σ H ⟨G, sa, k⟩ => by
  obtain ⟨vs, sh, g, r⟩ := sa.sh.freeze hm
  obtain ⟨v, e1, r1⟩ := sa.sl.2 i _ hρ
  refine ⟨_, ⟨sh, ?_⟩, fun o ho => (k o ho).up g⟩
  have q := (sa.sl.up g).set i (v := .ref p) (d := .lst ds) (.lst (.inl (.inl upd_same)) (r.up g))
  have e2 : σ.set i (some (V.ref p)) = σ := by
    have ev : v = V.ref p := r1.of_val
    rw [ev] at e1
    obtain ⟨hi, e3⟩ := List.getElem?_eq_some_iff.mp e1
    rw [← e3]
    exact List.set_getElem_self hi
  rw [e2] at q
  exact q

/-- a def's promise by its body -/
def Fin (d : D) (M' : Mem) : Out → Prop
  | .ret d' M'' => d' = d ∧ Mle M' M''
  | .nx _ M'' => d = dN ∧ Mle M' M''
  | _ => False
def startD (N : List Str) (ds : List D) : Sl := ds.map some ++ List.replicate (N.length - ds.length) none
theorem start_rep {K : PySem.W.Frag} {G : Hp} {N : List Str} : ∀ {vs : List V} {ds : List D}, RepL K G vs ds → RepS K G (L2.start N vs) (startD N ds) := fun {vs ds} r => by
  have hl := r.len
  unfold L2.start startD
  refine ⟨by simp [hl], fun i d e => ?_⟩
  by_cases hi : i < ds.length
  · rw [List.getElem?_append_left (by simpa using hi), List.getElem?_map] at e
    rw [List.getElem?_append_left (by simpa [hl] using hi), List.getElem?_map]
    cases q : ds[i]? with
    | none => rw [q] at e; cases e
    | some d' =>
      rw [q] at e
      cases e
      obtain ⟨v, h1, h2⟩ := r.get q
      exact ⟨v, by rw [h1]; rfl, h2⟩
  · rw [List.getElem?_append_right (by simpa using hi), List.getElem?_replicate] at e
    split at e <;> cases e
theorem fn_ok {P : Program} {w : World} {K : PySem.W.Frag} {mg : Str → Option Value} {base : Heap} {x qual : Str} {sd : Stmt} {f : Addr} {fd : FuncData} {N ps : List Str} {k : Nat} {Pr : List D → Mem → D → Mem → Prop} (F : Fun K x qual sd f fd) (S : FnScope N ps (defScope sd))
    (len : ∀ ds M d M', Pr ds M d M' → ds.length = ps.length)
    (hb : ∀ (cdv : Value) (A : Around) (outer : List Env) (s : Shared) (H : Hp) (E : XK) (ds : List D) (M : Mem) (d : D) (M' : Mem), Room k (A.deeper (envOfC qual (defScope sd) s.heap.objs.size f cdv)) → Pr ds M d M' →
      BV (cxOf CX0 P w K mg base N qual (defScope sd) f cdv A outer s H E).nox (defBody sd) (startD N ds) M (Fin d M')) : FnOk P w K mg base CX0 (k + 1) f fd ps (spD K Pr) := by
  refine F.ok S (fun vs H Q E ⟨G, ds, M, d, M', sh, r, p, q⟩ => by rw [r.len]; exact len _ _ _ _ p) fun cdv A outer s H vs Q E hr ⟨G, ds, M, d, M', sh, r, p, q⟩ => ?_
  refine ⟨_, hb cdv A outer s H E ds M d M' hr p, G, ⟨sh, start_rep r⟩, fun o ho => ?_⟩
  cases o with
  | ret d' M'' =>
    obtain ⟨rfl, hm⟩ := ho
    exact fun v G' H' g sh' r' => q v G' H' g (sh'.weak hm) r'
  | nx ρ M'' =>
    obtain ⟨rfl, hm⟩ := ho
    exact fun σ' G' H' g sa' => q .non G' H' g (sa'.sh.weak hm) (.val _)
  | bk _ _ => exact ho.elim
  | ct _ _ => exact ho.elim
theorem cal_of {P : Program} {w : World} {K : PySem.W.Frag} {mg : Str → Option Value} {base : Heap} {x qual : Str} {sd : Stmt} {f : Addr} {fd : FuncData} {N ps : List Str} {k : Nat} {Pr : List D → Mem → D → Mem → Prop} (F : Fun K x qual sd f fd) (S : FnScope N ps (defScope sd)) (hm : mg x = some (.ref f))
    (hbind : ∀ (kV doc pm : Value) (an : Option Addr) (cdv ct : Value) (us : List Value), us.length = ps.length → bindArgs (PySem.W.fnOf x qual (defArgs sd) (defBody sd) (defScope sd) .none kV doc pm an cdv ct) ⟨us, []⟩ = pure (ps.zip us))
    (len : ∀ ds M d M', Pr ds M d M' → ds.length = ps.length)
    (hb : ∀ (cdv : Value) (A : Around) (outer : List Env) (s : Shared) (H : Hp) (E : XK) (ds : List D) (M : Mem) (d : D) (M' : Mem), Room k (A.deeper (envOfC qual (defScope sd) s.heap.objs.size f cdv)) → Pr ds M d M' →
      BV (cxOf CX0 P w K mg base N qual (defScope sd) f cdv A outer s H E).nox (defBody sd) (startD N ds) M (Fin d M')) : Cal P w K mg base (k + 1) x (spD K Pr) :=
  ⟨f, fd, ps, hm, F.kp, F.binds hbind, fn_ok F S len hb⟩

/-! ### a list or a tuple -/
def sq (b : Bool) (ds : List D) : D := if b = true then .lst ds else .tup ds

/-! ### isinstance, is None, abs, texts of ints -/
theorem rs_eqI {i j : Int} : RS rEq (.int i) (.int j) (.bl (decide (i = j))) := fun H Q q => ⟨rfl, by
  have e : decide (V.int i = V.int j) = decide (i = j) := decide_eq_decide.mpr ⟨fun h => by cases h; rfl, fun h => by rw [h]⟩
  rw [e]; exact q⟩
theorem rs_neI {i j : Int} : RS rNe (.int i) (.int j) (.bl (!decide (i = j))) := fun H Q q => ⟨rfl, by
  have e : decide (V.int i = V.int j) = decide (i = j) := decide_eq_decide.mpr ⟨fun h => by cases h; rfl, fun h => by rw [h]⟩
  rw [e]; exact q⟩
theorem rs_eqS {i j : Str} : RS rEq (.str i) (.str j) (.bl (decide (i = j))) := fun H Q q => ⟨rfl, by
  have e : decide (V.str i = V.str j) = decide (i = j) := decide_eq_decide.mpr ⟨fun h => by cases h; rfl, fun h => by rw [h]⟩
  rw [e]; exact q⟩
theorem rs_neS {i j : Str} : RS rNe (.str i) (.str j) (.bl (!decide (i = j))) := fun H Q q => ⟨rfl, by
  have e : decide (V.str i = V.str j) = decide (i = j) := decide_eq_decide.mpr ⟨fun h => by cases h; rfl, fun h => by rw [h]⟩
  rw [e]; exact q⟩
theorem rs_eqB {i j : Bool} : RS rEq (.bl i) (.bl j) (.bl (decide (i = j))) := fun H Q q => ⟨rfl, by
  have e : decide (V.bl i = V.bl j) = decide (i = j) := decide_eq_decide.mpr ⟨fun h => by cases h; rfl, fun h => by rw [h]⟩
  rw [e]; exact q⟩
theorem ru_neg {i : Int} : RU (rU fun i => .int (-i)) (.int i) (.int (-i)) := fun H Q q => ⟨i, rfl, q⟩
theorem cm_l {i j : Int} (h1 : -(2 ^ 64) < i) (h2 : i < 2 ^ 64) : CMul i j := .inl ⟨h1, h2⟩
theorem cm_r {i j : Int} (h1 : -(2 ^ 64) < j) (h2 : j < 2 ^ 64) : CMul i j := .inr ⟨h1, h2⟩
/-- the kind of a tree: isinstance's left side -/
def tyD : D → Option String
  | .val .non => some "NoneType"
  | .val (.bl _) => some "bool"
  | .val (.int _) => some "int"
  | .val (.str _) => some "str"
  | .val _ => none
  | .tup _ => some "tuple"
  | .lst _ => some "list"
  | .dic => some "dict"
theorem tyx_of {K : PySem.W.Frag} {G H : Hp} {v : V} {d : D} {t : String} (e : Same G H) (r : Rep K G v d) (h : tyD d = some t) : TyX K H v (.type t) := by
  cases r with
  | val v =>
    cases v with
    | non => cases h; exact .base .non
    | bl b => cases h; exact .base (.bl b)
    | int i => cases h; exact .base (.int i)
    | str z => cases h; exact .base (.str z)
    | _ => cases h
  | tup q _ =>
    cases h
    rcases sqtUp e q with (q | ⟨o, q⟩) | ⟨o, its, n, q, c, _⟩
    · exact .base (.tup q)
    · exact .fTuple q
    · exact .kTuple q c
  | lst q _ =>
    cases h
    rcases sqlUp e q with (q | ⟨o, q⟩) | ⟨o, its, n, q, c, _⟩
    · exact .base (.lst q)
    · exact .base (.frz q)
    · exact .kList q c
  | dic q =>
    cases h
    exact .base (.dK (e _ _ q))
/-- isinstance(a, T), T a built-in type -/
theorem ev_isi {x : Str} {T t : String} {r : Bool} {p p2 : Pos} (hm : X.mg "isinstance" = none) (hT : X.mg x = none) (hv : bootBuiltins x = some (.type T)) (ha : EV X a ρ M d M1) (ht : tyD d = some t) (hk : kitB t T = some r) (hg : Gl X "isinstance" := by rfl) (hgT : Gl X x := by rfl)
    (hn : x ≠ "__name__" := by decide) (hd : (x == ("__debug__" : Str)) = false := by decide)
    (h1 : starEach [a, .Name x p2] X.env = (false, eval a X.env) :: starEach [.Name x p2] X.env := by rfl) (h2 : starEach [.Name x p2] X.env = (false, eval (.Name x p2) X.env) :: starEach [] X.env := by rfl) (hpl : (backTo pos (starEach [.Name x p2] X.env)).any (·.1) = false := by rfl) :
    EV X (.Call (.Name "isinstance" p) [a, .Name x p2] [] pos) ρ M (dB r) M1 :=
  (pe_callB call_isi hg hm boot_isinstance (pa_cons ha (pa_cons (pe_bltn (v := .ty T) hgT hT hv rfl hn hd) pa_nil h2) h1) (hpl := hpl) (he := h1)).mono fun σ H Q ⟨G, sa, k⟩ => ⟨G, sa, fun v1 G1 H1 g1 sh1 r1 => 
    ⟨v1, .ty T, .type t, .type T, r, rfl, .ty T, tyx_of sh1.le r1 ht, kit_ty hk, k _ G1 H1 g1 sh1 (.val _)⟩⟩
theorem ev_isN {j} {v : V} {p2 : Pos} (ha : EV X a ρ M (.val v) M1) : EV X (.Compare a [.Is] [.Constant .none j p2] pos) ρ M (dB (decide (v = .non))) M1 :=
  (pe_cmp (pc_isN ha)).mono fun σ H Q ⟨G, sa, k⟩ => ⟨G, sa, fun v1 G1 H1 g1 sh1 r1 => by rw [r1.of_val]; exact k _ G1 H1 g1 sh1 (.val _)⟩
theorem tv_isN {j} {v : V} {p2 : Pos} (ha : EV X a ρ M (.val v) M1) : TV X (.Compare a [.Is] [.Constant .none j p2] pos) ρ M (decide (v = .non)) M1 :=
  (pt_cmp (pc_isN ha)).mono fun σ H Q ⟨G, sa, k⟩ => ⟨G, sa, fun v1 G1 H1 g1 sh1 r1 => by rw [r1.of_val]; exact ⟨_, rfl, k G1 H1 g1 sh1⟩⟩
theorem tv_isND {j} {b : Bool} {p2 : Pos} (ha : EV X a ρ M d M1) (h : ∀ v, d ≠ .val v) : TV X (.Compare a [.Is] [.Constant .none j p2] pos) ρ M false M1 :=
  (pt_cmp (pc_isN ha)).mono fun σ H Q ⟨G, sa, k⟩ => ⟨G, sa, fun v1 G1 H1 g1 sh1 r1 => by
    cases r1 with
    | val _ => exact absurd rfl (h _)
    | tup _ _ => exact ⟨_, rfl, k G1 H1 g1 sh1⟩
    | lst _ _ => exact ⟨_, rfl, k G1 H1 g1 sh1⟩
    | dic _ => exact ⟨_, rfl, k G1 H1 g1 sh1⟩⟩

/-! ### lists -/
/-- list(x) of a tree: a new list that stands as it is -/
theorem ev_listL {b : Bool} {p : Pos} (hm : X.mg "list" = none) (ha : EV X e ρ M (sq b ds) M1) (hg : Gl X "list" := by rfl) (hst : starEach [e] X.env = [(false, eval e X.env)] := by rfl) : EV X (.Call (.Name "list" p) [e] [] pos) ρ M (.lst ds) M1 :=
  (pe_callTy call_list_of hg hm boot_list (av_cons ha av_nil hst) (he := hst)).mono fun σ H Q ⟨G, sa, k⟩ => ⟨G, sa, fun vs' G1 H1 g1 sh1 r1 => by
    cases r1 with
    | cons h t =>
      cases t
      cases b with
      | true =>
        cases (show Rep X.K G1 _ (.lst ds) from h) with
        | lst q r => exact ⟨_, _, rfl, .inl (sqlUp sh1.le q), fun l hl => by
            obtain ⟨sh2, g2⟩ := sh1.new (o := .lst _) hl
            exact k _ _ _ (g1.trans g2) sh2 (.lst (.inl (.inl upd_same)) (r.up g2))⟩
      | false =>
        cases (show Rep X.K G1 _ (.tup ds) from h) with
        | tup q r => exact ⟨_, _, rfl, .inr (sqtUp sh1.le q), fun l hl => by
            obtain ⟨sh2, g2⟩ := sh1.new (o := .lst _) hl
            exact k _ _ _ (g1.trans g2) sh2 (.lst (.inl (.inl upd_same)) (r.up g2))⟩⟩
/-- tuple(x) of a tree -/
theorem ev_tupOf {b : Bool} {p : Pos} (hm : X.mg "tuple" = none) (ha : EV X e ρ M (sq b ds) M1) (hg : Gl X "tuple" := by rfl) (hst : starEach [e] X.env = [(false, eval e X.env)] := by rfl) : EV X (.Call (.Name "tuple" p) [e] [] pos) ρ M (.tup ds) M1 :=
  (pe_callTy call_tuple_of hg hm boot_tuple (av_cons ha av_nil hst) (he := hst)).mono fun σ H Q ⟨G, sa, k⟩ => ⟨G, sa, fun vs' G1 H1 g1 sh1 r1 => by
    cases r1 with
    | cons h t =>
      cases t
      cases b with
      | true =>
        cases (show Rep X.K G1 _ (.lst ds) from h) with
        | lst q r => exact ⟨_, _, rfl, .inl ⟨sqlUp sh1.le q, fun l hl => by
            obtain ⟨sh2, g2⟩ := sh1.new (o := .tup _) hl
            exact k _ _ _ (g1.trans g2) sh2 (.tup (.inl (.inl upd_same)) (r.up g2))⟩⟩
      | false =>
        cases (show Rep X.K G1 _ (.tup ds) from h) with
        | tup q r => exact ⟨_, _, rfl, .inr ⟨sqtUp sh1.le q, k _ G1 H1 g1 sh1 (.tup q r)⟩⟩⟩
theorem ev_ixQ {b' : Bool} {i : Int} (ha : EV X a ρ M (sq b' ds) M1) (hb : EV X b ρ M1 (dI i) M2) (h : atI ds i = some d) (hs : PlainIx b := by (intro _ _; rfl)) : EV X (.Subscript a b pos) ρ M d M2 := by
  cases b' with
  | true => exact ev_ixL ha hb h hs
  | false => exact ev_ixT ha hb h hs
theorem ev_lenQ {b' : Bool} {p : Pos} (hm : X.mg "len" = none) (ha : EV X e ρ M (sq b' ds) M1) (hg : Gl X "len" := by rfl) (hst : starEach [e] X.env = [(false, eval e X.env)] := by rfl) : EV X (.Call (.Name "len" p) [e] [] pos) ρ M (dI ds.length) M1 := by
  cases b' with
  | true => exact ev_lenL hm ha hg hst
  | false => exact ev_lenT hm ha hg hst
/-- all(x) of a list of bools -/
theorem ev_all {bs : List Bool} {p : Pos} (hc : X.calm = true) (hm : X.mg "all" = none) (ha : EV X e ρ M (.lst (bs.map dB)) M1) (hg : Gl X "all" := by rfl) (hst : starEach [e] X.env = [(false, eval e X.env)] := by rfl) : EV X (.Call (.Name "all" p) [e] [] pos) ρ M (dB (bs.all id)) M1 :=
  (pe_callB (cr_all hc) hg hm boot_all (av_cons ha av_nil hst) (he := hst)).mono fun σ H Q ⟨G, sa, k⟩ => ⟨G, sa, fun vs' G1 H1 g1 sh1 r1 => by
    cases r1 with
    | cons h t =>
      cases t
      cases h with
      | lst q r =>
        have e : bs.map dB = (bs.map V.bl).map D.val := by rw [List.map_map] <;> rfl
        rw [e] at r
        rw [RepL.of_vals r] at q
        exact ⟨_, bs, rfl, sqlUp sh1.le q, k _ G1 H1 g1 sh1 (.val _)⟩⟩
/-- tuple + tuple -/
theorem ev_catT {es : List D} (ha : EV X a ρ M (.tup ds) M1) (hb : EV X b ρ M1 (.tup es) M2) (hl : ds.length + es.length ≤ sizeLine) : EV X (.BinOp a .Add b pos) ρ M (.tup (ds ++ es)) M2 :=
  (pe_op op_catA ha hb).mono fun σ H Q ⟨G, sa, k⟩ => ⟨G, sa, fun v1 G1 H1 g1 sh1 r1 => ⟨G1, ⟨sh1, sa.sl.up g1⟩, fun v2 G2 H2 g2 sh2 r2 => by
    cases r1 with
    | tup q r =>
      cases r2 with
      | tup q2 r2 =>
        have rr := r.up g2
        refine ⟨_, _, _, _, rfl, rfl, sqtUp sh2.le (sqtUp g2 q), sqtUp sh2.le q2, by rw [r.len, r2.len]; exact hl, fun e => ?_, fun _ e => ?_, fun _ _ p hp => ?_⟩
        · subst e
          cases rr
          exact k _ G2 H2 (g1.trans g2) sh2 (.tup q2 r2)
        · subst e
          cases r2
          rw [List.append_nil] at k
          exact k _ G2 H2 (g1.trans g2) sh2 (.tup (sqtUp g2 q) rr)
        · obtain ⟨sh3, g3⟩ := sh2.new (o := .tup _) hp
          exact k _ _ _ ((g1.trans g2).trans g3) sh3 (.tup (.inl (.inl upd_same)) ((rr.append r2).up g3))⟩⟩
/-- xs.append(e), xs a list of the memory -/
theorem sv_append {p : Addr} {ap cp : Pos} (ho : EV X a ρ M (dP p) M1) (ha : EV X e ρ M1 d M2) (hm1 : ∃ es, M1 p = some (.lst es)) (hm : M2 p = some (.lst ds)) (hl : ds.length < sizeLine) (hΨ : Ψ (.nx ρ (M2.set p (.lst (ds ++ [d])))))
    (h1 : attributeBase a "append" X.env (eval a X.env) = eval a X.env := by rfl) (h3 : (ap.endLine == cp.line) = true := by decide) (h4 : starEach [e] X.env = (false, eval e X.env) :: starEach [] X.env := by rfl)
    (h2 : (((((backTo cp (starEach [e] X.env)).all fun x => !x.fst) && (backToKw cp (keywordEach [] X.env)).all fun x => x.fst.isSome) && decide (([e].length + ([] : List Keyword).length + if ([] : List Keyword).isEmpty = true then 0 else 1) < 30)) = true) := by rfl)
    (h5 : (((backTo cp (starEach [] X.env)).any fun x => x.fst) = false) := by rfl)
    (hs : swapsWith (.Call (.Attribute a "append" ap) [e] [] cp) none pos.line X.env = pure false := by rfl) : SV X (.Expr (.Call (.Attribute a "append" ap) [e] [] cp) pos) ρ M Ψ :=
  (ps_expr (pe_bm PySem.F.plainAttrs_list PySem.F.slot_list_append PySem.F.type_list_append mt_append ho (av_cons ha av_nil h4) h1 h2 h3 h4 h5) hs).mono fun E σ H ⟨G, sa, k⟩ => ⟨G, sa, fun v1 G1 H1 g1 sh1 r1 => by
    obtain ⟨es, hes⟩ := hm1
    obtain ⟨_, vs1, hv1, _⟩ := sh1.mem p _ hes
    rw [r1.of_val]
    refine ⟨.inl ⟨rfl, _, .inl (.inl hv1)⟩, G1, ⟨sh1, sa.sl.up g1⟩, fun vs G2 H2 g2 sh2 r2 => ?_⟩
    cases r2 with
    | cons r2 t =>
      cases t
      obtain ⟨_, vs2, hv2, rl⟩ := sh2.mem p _ hm
      exact ⟨p, vs2, _, rfl, rfl, hv2, by rw [rl.len]; exact hl, k _ hΨ σ G2 _ (g1.trans g2) ⟨sh2.put hm (rl.append (.cons r2 .nil)), (sa.sl.up g1).up g2⟩⟩⟩
/-- xs.pop(i) -/
theorem ev_pop {p : Addr} {i : Nat} {ap : Pos} (ho : EV X a ρ M (dP p) M1) (ha : EV X e ρ M1 (dI i) M2) (hm1 : ∃ es, M1 p = some (.lst es)) (hm : M2 p = some (.lst ds)) (hi : ds[i]? = some d)
    (h1 : attributeBase a "pop" X.env (eval a X.env) = eval a X.env := by rfl) (h3 : (ap.endLine == pos.line) = true := by decide) (h4 : starEach [e] X.env = (false, eval e X.env) :: starEach [] X.env := by rfl)
    (h2 : (((((backTo pos (starEach [e] X.env)).all fun x => !x.fst) && (backToKw pos (keywordEach [] X.env)).all fun x => x.fst.isSome) && decide (([e].length + ([] : List Keyword).length + if ([] : List Keyword).isEmpty = true then 0 else 1) < 30)) = true) := by rfl)
    (h5 : (((backTo pos (starEach [] X.env)).any fun x => x.fst) = false) := by rfl) (hz : ds.length < 2 ^ 62) : EV X (.Call (.Attribute a "pop" ap) [e] [] pos) ρ M d (M2.set p (.lst (ds.eraseIdx i))) :=
  (pe_bm PySem.F.plainAttrs_list PySem.F.slot_list_pop PySem.F.type_list_pop mt_popAt ho (av_cons ha av_nil h4) h1 h2 h3 h4 h5).mono fun σ H Q ⟨G, sa, k⟩ => ⟨G, sa, fun v1 G1 H1 g1 sh1 r1 => by
    obtain ⟨es, hes⟩ := hm1
    obtain ⟨_, vs1, hv1, _⟩ := sh1.mem p _ hes
    rw [r1.of_val]
    refine ⟨.inl ⟨rfl, _, .inl (.inl hv1)⟩, G1, ⟨sh1, sa.sl.up g1⟩, fun vs G2 H2 g2 sh2 r2 => ?_⟩
    rw [RepL.of_vals (xs := [.int i]) r2]
    obtain ⟨_, vs2, hv2, rl⟩ := sh2.mem p _ hm
    obtain ⟨v, hv, rv⟩ := rl.get hi
    have hlt : i < vs2.length := (List.getElem?_eq_some_iff.mp hv).1
    have hll := rl.len
    refine ⟨p, vs2, i, i, v, rfl, rfl, hv2, by omega, by omega, ?_, hv, k _ G2 _ (g1.trans g2) (sh2.put hm (rl.erase i)) rv⟩
    unfold seqIndex?
    have e1 : ¬ ((i : Int) < 0) := by omega
    simp only [e1, if_false]
    rw [if_pos (by simp only [Bool.and_eq_true, decide_eq_true_eq]; omega)]
    rfl⟩
/-- xs[i] = e -/
theorem sv_setItem {p : Addr} {i : Nat} {tp : Pos} (he : EV X e ρ M d M1) (ho : EV X a ρ M1 (dP p) M2) (hi : EV X b ρ M2 (dI i) M3) (hm : M3 p = some (.lst ds)) (hlt : i < ds.length) (hΨ : Ψ (.nx ρ (M3.set p (.lst (ds.set i d)))))
    (ha : ∀ v, assign (.Subscript a b tp) X.env v = (do
      let ov ← holding [v] (eval a X.env)
      let iv ← holding [v, ov] (eval b X.env)
      standAt tp
      holding [v, ov, iv] (setItem ov iv v)
      release [v, ov, iv] []) := by intro _; rfl)
    (hs : swapsWithSole [.Subscript a b tp] e pos.line X.env = pure false := by rfl) (hw : swappedStores [.Subscript a b tp] e X.env = pure none := by rfl)
    (h1 : (assignEach [.Subscript a b tp] X.env).map (·.2) = [assign (.Subscript a b tp) X.env] := by rfl) : SV X (.Assign [.Subscript a b tp] e pos) ρ M Ψ :=
  (ps_asg he (pg_sub ho hi set_list ha) hs hw h1).mono fun E σ H ⟨G, sa, k⟩ => ⟨G, sa, fun v G1 H1 g1 sh1 r1 => ⟨G1, ⟨sh1, sa.sl.up g1⟩, fun v2 G2 H2 g2 sh2 r2 => ⟨G2, ⟨sh2, (sa.sl.up g1).up g2⟩, fun v3 G3 H3 g3 sh3 r3 => by
    obtain ⟨_, vs, hv, rl⟩ := sh3.mem p _ hm
    refine ⟨p, vs, i, i, r2.of_val, r3.of_val, hv, ?_, k _ hΨ σ G3 _ ((g1.trans g2).trans g3) ⟨sh3.put hm (rl.set ((r1.up g2).up g3) i), ((sa.sl.up g1).up g2).up g3⟩⟩
    have hl := rl.len
    unfold ixN
    rw [if_pos (by omega), if_pos (by omega)]
    simp⟩⟩⟩

/-! ### targets -/
/-- g stores d: the slots are ρ' then -/
def TG1 (K : PySem.W.Frag) (g : TG) (ρ : Sl) (d : D) (ρ' : Sl) : Prop := ∀ v σ G H Q, Same G H → RepS K G σ ρ → Rep K G v d → (∀ σ', RepS K G σ' ρ' → Q σ' H) → g v σ H Q
def TG2 (K : PySem.W.Frag) (g : TGs) (ρ : Sl) (ds : List D) (ρ' : Sl) : Prop := ∀ vs σ G H Q, Same G H → RepS K G σ ρ → RepL K G vs ds → (∀ σ', RepS K G σ' ρ' → Q σ' H) → g vs σ H Q
variable {K : PySem.W.Frag} {ρ' ρ'' : Sl} {g : TG} {gs : TGs}
theorem tg_name {i : Nat} : TG1 K (gName i) ρ d (ρ.set i (some d)) := fun v σ G H Q e h r k => k _ (h.set i r)
theorem tg_nil : TG2 K gNil ρ [] ρ := fun vs σ G H Q e h r k => by
  cases r
  exact ⟨rfl, k σ h⟩
theorem tg_cons (h1 : TG1 K g ρ d ρ') (h2 : TG2 K gs ρ' ds ρ'') : TG2 K (gCons g gs) ρ (d :: ds) ρ'' := fun vs σ G H Q e h r k => by
  cases r with
  | cons r t => exact ⟨_, _, rfl, h1 _ σ G H _ e h r fun σ' h' => h2 _ σ' G H _ e h' t k⟩
theorem tg_tup {n : Nat} (h : TG2 K gs ρ ds ρ') (hl : ds.length = n := by rfl) : TG1 K (gTup K n gs) ρ (.tup ds) ρ' := fun v σ G H Q e h0 r k => by
  cases r with
  | tup q r => exact ⟨_, _, rfl, sqtUp e q, r.len.trans hl, h _ σ G H _ e h0 r k⟩
theorem tg_lst {n : Nat} (h : TG2 K gs ρ ds ρ') (hl : ds.length = n := by rfl) : TG1 K (gUnl K n gs) ρ (.lst ds) ρ' := fun v σ G H Q e h0 r k => by
  cases r with
  | lst q r => exact ⟨_, _, rfl, sqlUp e q, r.len.trans hl, h _ σ G H _ e h0 r k⟩
/-- target = e -/
theorem sv_asg {tg : Expr} (he : EV X e ρ M d M1) (hg : PG X tg g) (ht : TG1 X.K g ρ d ρ') (hΨ : Ψ (.nx ρ' M1)) (hs : swapsWithSole [tg] e pos.line X.env = pure false := by rfl) (hw : swappedStores [tg] e X.env = pure none := by rfl)
    (h1 : (assignEach [tg] X.env).map (·.2) = [assign tg X.env] := by rfl) : SV X (.Assign [tg] e pos) ρ M Ψ :=
  (ps_asg he hg hs hw h1).mono fun E σ H ⟨G, sa, k⟩ => ⟨G, sa, fun v G1 H1 g1 sh1 r1 => ht v σ G1 H1 _ sh1.le (sa.sl.up g1) r1 fun σ' h' => k _ hΨ σ' G1 H1 g1 ⟨sh1, h'⟩⟩

/-! ### what is walked -/
def JW (K : PySem.W.Frag) (J : It) (G : Hp) (ds : List D) : Prop := ∀ (i : Nat) H, Same G H → (∀ d, ds[i]? = some d → J.go i H ∧ ∀ x H', J.yld i H x H' → H' = H ∧ Rep K G x d) ∧ (ds.length ≤ i → J.stop i H)
def tI (K : PySem.W.Frag) (ρ : Sl) (M : Mem) (ds : List D) (M1 : Mem) : TI := fun σ H R => ∃ G, SA K G H σ ρ M ∧ ∀ J G' H', Same G G' → SH K G' H' M1 → JW K J G' ds → R J H'
abbrev IV (X : Cx) (tg iter : Expr) (ρ : Sl) (M : Mem) (ds : List D) (M1 : Mem) : Prop := PI X tg iter (tI X.K ρ M ds M1)
theorem _root_.L2.PI.mono {tg iter : Expr} {t t' : TI} (h : PI X tg iter t) (i : ∀ σ H R, t' σ H R → t σ H R) : PI X tg iter t' := ⟨fun pins s σ H R I q => h.run pins s σ H R I (i σ H R q)⟩
theorem JW.range {lo : Int} {n : Nat} {G : Hp} : JW K (Itr lo n) G ((List.range n).map fun i => dI (lo + (i : Nat))) := fun i H e => ⟨fun d h => by
    rw [List.getElem?_map] at h
    have hi : i < n := by
      rcases Nat.lt_or_ge i n with q | q
      · exact q
      · rw [List.getElem?_eq_none (by simpa using q)] at h; cases h
    rw [List.getElem?_range hi] at h
    cases h
    exact ⟨hi, fun x H' ⟨e1, e2⟩ => ⟨e1, by rw [e2]; exact .val _⟩⟩, fun h => by
    rw [List.length_map, List.length_range] at h
    exact h⟩
theorem JW.list {p : Addr} {vs : List V} {G : Hp} (q : SqL K G p vs) (r : RepL K G vs ds) : JW K (Itl K p) G ds := fun i H e => ⟨fun d h => by
    obtain ⟨v, hv, rv⟩ := r.get h
    exact ⟨⟨vs, v, sqlUp e q, hv⟩, fun x H' ⟨e1, e2⟩ => ⟨e1, by
      have := e2 vs (sqlUp e q)
      rw [hv] at this
      cases this
      exact rv⟩⟩, fun h => ⟨vs, sqlUp e q, by rw [r.len]; exact h⟩⟩
theorem JW.tup {p : Addr} {vs : List V} {G : Hp} (q : SqT K G p vs) (r : RepL K G vs ds) : JW K (Itt K p) G ds := fun i H e => ⟨fun d h => by
    obtain ⟨v, hv, rv⟩ := r.get h
    exact ⟨⟨vs, v, sqtUp e q, hv⟩, fun x H' ⟨e1, e2⟩ => ⟨e1, by
      have := e2 vs (sqtUp e q)
      rw [hv] at this
      cases this
      exact rv⟩⟩, fun h => ⟨vs, sqtUp e q, by rw [r.len]; exact h⟩⟩
theorem iv_list {tg : Expr} (h : EV X e ρ M (.lst ds) M1) : IV X tg e ρ M ds M1 :=
  (pi_list h).mono fun σ H R ⟨G, sa, k⟩ => ⟨G, sa, fun v G1 H1 g1 sh1 r1 => by
    cases r1 with
    | lst q r => exact ⟨_, rfl, ⟨_, sqlUp sh1.le q⟩, k _ G1 H1 g1 sh1 (JW.list q r)⟩⟩
theorem iv_tup {tg : Expr} (h : EV X e ρ M (.tup ds) M1) : IV X tg e ρ M ds M1 :=
  (pi_tup h).mono fun σ H R ⟨G, sa, k⟩ => ⟨G, sa, fun v G1 H1 g1 sh1 r1 => by
    cases r1 with
    | tup q r => exact ⟨_, rfl, ⟨_, sqtUp sh1.le q⟩, k _ G1 H1 g1 sh1 (JW.tup q r)⟩⟩
def rgD (lo : Int) (n : Nat) : List D := (List.range n).map fun i => dI (lo + (i : Nat))
theorem rgD_len {lo : Int} {n : Nat} : (rgD lo n).length = n := by unfold rgD; rw [List.length_map, List.length_range]
theorem rgD_get {lo : Int} {n i : Nat} {d : D} (h : (rgD lo n)[i]? = some d) : i < n ∧ d = dI (lo + (i : Nat)) := by
  have hi : i < n := by
    rcases Nat.lt_or_ge i n with q | q
    · exact q
    · rw [List.getElem?_eq_none (by rw [rgD_len]; exact q)] at h; cases h
  unfold rgD at h
  rw [List.getElem?_map, List.getElem?_range hi] at h
  cases h
  exact ⟨hi, rfl⟩
theorem iv_range1 {tg : Expr} {j : Int} {p : Pos} (hm : X.mg "range" = none) (h : EV X e ρ M (dI j) M1) (hj : -(2 ^ 62) ≤ j ∧ j < 2 ^ 62) (hg : Gl X "range" := by rfl) (hst : starEach [e] X.env = [(false, eval e X.env)] := by rfl) : IV X tg (.Call (.Name "range" p) [e] [] pos) ρ M (rgD 0 j.toNat) M1 :=
  (pi_range1 hg hm (av_cons h av_nil hst) hst).mono fun σ H R ⟨G, sa, k⟩ => ⟨G, sa, fun vs G1 H1 g1 sh1 r1 => by
    rw [RepL.of_vals (xs := [.int j]) r1]
    exact ⟨j, rfl, hj.1, hj.2, k _ G1 H1 g1 sh1 JW.range⟩⟩
theorem iv_range2 {tg : Expr} {i j : Int} {p : Pos} (hm : X.mg "range" = none) (ha : EV X a ρ M (dI i) M1) (hb : EV X b ρ M1 (dI j) M2) (hj : -(2 ^ 62) ≤ i ∧ i < 2 ^ 62 ∧ -(2 ^ 62) ≤ j ∧ j < 2 ^ 62) (hg : Gl X "range" := by rfl)
    (hst : starEach [a, b] X.env = [(false, eval a X.env), (false, eval b X.env)] := by rfl) (hs2 : starEach [b] X.env = [(false, eval b X.env)] := by rfl) : IV X tg (.Call (.Name "range" p) [a, b] [] pos) ρ M (rgD i (j - i).toNat) M2 :=
  (pi_range2 hg hm (av_cons ha (av_cons hb av_nil hs2) (by rw [hst, hs2])) hst hs2).mono fun σ H R ⟨G, sa, k⟩ => ⟨G, sa, fun vs G1 H1 g1 sh1 r1 => by
    rw [RepL.of_vals (xs := [.int i, .int j]) r1]
    exact ⟨i, j, rfl, hj, k _ G1 H1 g1 sh1 JW.range⟩⟩

/-! ### for -/
def loopR (Inv : Nat → Sl → Mem → Prop) (Ψ : Out → Prop) (i : Nat) : Out → Prop
  | .nx ρ M => Inv (i + 1) ρ M
  | .ct ρ M => Inv (i + 1) ρ M
  | .bk ρ M => Ψ (.nx ρ M)
  | .ret d M => Ψ (.ret d M)
theorem sv_for {tg iter : Expr} {body : List Stmt} (hc : X.calm = true) (hi : IV X tg iter ρ M ds M1) (hg : PG X tg g) (Iv : Nat → Sl → Mem → Prop) (start : Iv 0 ρ M1)
    (step : ∀ i d ρ' M', ds[i]? = some d → Iv i ρ' M' → ∃ ρ'', TG1 X.K g ρ' d ρ'' ∧ BV X body ρ'' M' (loopR Iv Ψ i)) (done : ∀ ρ' M', Iv ds.length ρ' M' → Ψ (.nx ρ' M'))
    (hp : PassesOwn (model X.prog X.w) X.A X.env X.xe := by exact PassesOwn.never) (hs : ∀ x, foldedSetIterable iter X.env x = pure x := by intro _; rfl) : SV X (.For tg iter body [] pos) ρ M Ψ := by
  refine (ps_for (tb := fun E σ H => ∃ ρ M Ψ', BV X body ρ M Ψ' ∧ tS X.K ρ M Ψ' E σ H) hp hc hi hg ⟨fun pins s σ H E I ⟨ρ', M', Ψ', hb, q⟩ => hb.run pins s σ H E I q⟩ hs).mono fun E σ H ⟨G, sa, k⟩ => ⟨G, sa, fun J G1 H1 g1 sh1 jw => ?_⟩
  refine ⟨fun i m σ H => m = ds.length - i ∧ i ≤ ds.length ∧ ∃ G ρ M, Same G1 G ∧ SA X.K G H σ ρ M ∧ Iv i ρ M, ⟨ds.length, by simp, Nat.zero_le _, G1, ρ, M1, Same.refl _, ⟨sh1, sa.sl.up g1⟩, start⟩, ?_⟩
  rintro i m σ2 H2 ⟨rfl, hi, G2, ρ2, M2, g2, sa2, iv⟩
  obtain ⟨j1, j2⟩ := jw i H2 (g2.trans sa2.sh.le)
  by_cases hlt : i < ds.length
  · have hd : ds[i]? = some ds[i] := List.getElem?_eq_getElem hlt
    obtain ⟨go, yl⟩ := j1 _ hd
    refine .inr ⟨go, fun σ3 H3 => ∃ G ρ M, Same G1 G ∧ SA X.K G H3 σ3 ρ M ∧ Iv (i + 1) ρ M, fun σ' H' p' => ⟨ds.length - (i + 1), by omega, rfl, hlt, p'⟩, fun x H' y => ?_⟩
    obtain ⟨e, rx⟩ := yl x H' y
    subst e
    obtain ⟨ρ3, tg3, bv⟩ := step i _ ρ2 M2 hd iv
    refine tg3 x σ2 G2 H' _ sa2.sh.le sa2.sl (rx.up g2) fun σ3 rs3 => ⟨ρ3, M2, _, bv, G2, ⟨sa2.sh, rs3⟩, fun o ho => ?_⟩
    cases o with
    | nx ρ4 M4 => exact fun σ4 G4 H4 g4 sa4 => ⟨G4, ρ4, M4, g2.trans g4, sa4, ho⟩
    | ct ρ4 M4 => exact fun σ4 G4 H4 g4 sa4 => ⟨G4, ρ4, M4, g2.trans g4, sa4, ho⟩
    | bk ρ4 M4 => exact fun σ4 G4 H4 g4 sa4 => k _ ho σ4 G4 H4 ((g1.trans g2).trans g4) sa4
    | ret d4 M4 => exact fun v G4 H4 g4 sh4 r4 => k _ ho v G4 H4 ((g1.trans g2).trans g4) sh4 r4
  · have e : i = ds.length := by omega
    subst e
    exact .inl ⟨j2 (Nat.le_refl _), k _ (done ρ2 M2 iv) σ2 G2 H2 (g1.trans g2) sa2⟩

/-! ### a list comprehension (one clause, no test) -/
def wipeD (ρ : Sl) : List Nat → Sl
  | [] => ρ
  | v :: vs => (wipeD ρ vs).set v none
theorem wipe_rep {G : Hp} {σ : L2.St} (h : RepS K G σ ρ) : ∀ vs, RepS K G (wipe σ vs) (wipeD ρ vs)
  | [] => h
  | v :: vs => (wipe_rep h vs).none v
/-- g stores d in slots that are the block's own -/
def TGb (K : PySem.W.Frag) (g : TG) (vs : List Nat) (ρ : Sl) (d : D) (ρ' : Sl) : Prop := ∀ v σ G H Q, Same G H → RepS K G (wipe σ vs) ρ → Rep K G v d → (∀ σ', RepS K G σ' ρ' → wipe σ' vs = wipe σ vs → Q σ' H) → g v (wipe σ vs) H Q
theorem tgb_name {i : Nat} : TGb K (gName i) [i] ρ d (ρ.set i (some d)) := fun v σ G H Q e h r k => k _ (h.set i r) (by
  show ((wipe σ [i]).set i (some v)).set i none = (wipe σ [i])
  show ((σ.set i none).set i (some v)).set i none = σ.set i none
  rw [List.set_set, List.set_set])
/-- the reading of a list comprehension -/
theorem lc_read {elt tg iter : Expr} {scope : Scope} {own : List (Str × Nat)}
    (f : Nat → D) (m : Nat → Mem) (h0 : m 0 = M1) (hm : ∀ i p, M1 p = none → m i p = none) (hlen : ds.length ≤ sizeLine)
    (step : ∀ i d, ds[i]? = some d → ∃ ρ', TGb X.K g (own.map (·.2)) (wipeD ρ (own.map (·.2))) d ρ' ∧ ∀ (p : Addr) (acc : List D), M1 p = none → ∀ (s : Shared) (H : Hp) (C : Addr) (cl : List (Str × Addr)) (fp : List Addr),
      EV (X.blk s H scope (compEnvC scope cl C X.env) fp) elt ρ' ((m i).set p (.lst acc)) (f i) ((m (i + 1)).set p (.lst acc))) (σ : L2.St) (H : Hp) (Q : VK) (h : tE X.K ρ M (.lst ((List.range ds.length).map f)) (m ds.length) σ H Q) :
    tLc (tI X.K ρ M ds M1) g tYes (fun σ H Q => ∃ ρ' M' d' M'', (∀ (s : Shared) (H : Hp) (C : Addr) (cl : List (Str × Addr)) (fp : List Addr), EV (X.blk s H scope (compEnvC scope cl C X.env) fp) elt ρ' M' d' M'') ∧ tE X.K ρ' M' d' M'' σ H Q) (own.map (·.2)) σ H Q := by
  obtain ⟨G, sa, k⟩ := h
  refine ⟨G, sa, fun J G1 H1 g1 sh1 jw => fun p hp => ?_⟩
  obtain ⟨shp, mp, gp⟩ := sh1.newM hp (RepL.nil (K := X.K) (G := G1))
  refine ⟨fun i mm H => mm = ds.length - i ∧ i ≤ ds.length ∧ ∃ G, Same G1 G ∧ SH X.K G H ((m i).set p (.lst ((List.range i).map f))), ⟨ds.length, by simp, Nat.zero_le _, G1, Same.refl _, by rw [h0]; exact shp⟩, ?_⟩
  rintro i mm H2 ⟨rfl, hi, G2, g2, sh2⟩
  obtain ⟨j1, j2⟩ := jw i H2 (g2.trans sh2.le)
  by_cases hlt : i < ds.length
  · have hd : ds[i]? = some ds[i] := List.getElem?_eq_getElem hlt
    obtain ⟨go, yl⟩ := j1 _ hd
    refine .inr ⟨go, fun H3 => ∃ G, Same G1 G ∧ SH X.K G H3 ((m (i + 1)).set p (.lst ((List.range (i + 1)).map f))), fun H' p' => ⟨ds.length - (i + 1), by omega, rfl, hlt, p'⟩, fun x H' y => ?_⟩
    obtain ⟨e, rx⟩ := yl x H' y
    subst e
    obtain ⟨ρ3, tg3, ev⟩ := step i _ hd
    refine tg3 x σ G2 H' _ sh2.le (wipe_rep ((sa.sl.up g1).up g2) _) (rx.up g2) fun σ3 rs3 hw => ⟨hw, ?_⟩
    show ∃ ρ' M' d' M'', _ ∧ tE X.K ρ' M' d' M'' σ3 H' _
    refine ⟨ρ3, _, _, _, ev p _ mp, G2, ⟨sh2, rs3⟩, fun v G4 H4 g4 sh4 r4 => ?_⟩
    obtain ⟨_, vs, hv, rl⟩ := sh4.mem p _ Mem.set_same
    refine ⟨vs, hv, ?_, G4, g2.trans g4, ?_⟩
    · rw [rl.len, List.length_map, List.length_range]
      exact Nat.lt_of_lt_of_le hlt hlen
    · have q := sh4.put (ds := (List.range i).map f ++ [f i]) Mem.set_same (rl.append (.cons r4 .nil))
      rw [Mem.set_set] at q
      rw [List.range_succ, List.map_append]
      exact q
  · have e : i = ds.length := by omega
    subst e
    obtain ⟨vs, sh3, g3, rl⟩ := sh2.freeze (hm _ p mp)
    exact .inl ⟨j2 (Nat.le_refl _), k _ _ H2 ((g1.trans g2).trans g3) sh3 (.lst (.inl (.inl upd_same)) (rl.up g3))⟩
theorem ev_lc {elt tg iter : Expr} {scope : Scope} {own : List (Str × Nat)} (hc : X.calm = true) (hN : X.N.Nodup) (hi : IV X tg iter ρ M ds M1) (ok : BlkOk X.N X.env.scope scope own)
    (hg : ∀ (s : Shared) (H : Hp) (C : Addr) (cl : List (Str × Addr)) (fp : List Addr), PG (X.blk s H scope (compEnvC scope cl C X.env) fp) tg g)
    (f : Nat → D) (m : Nat → Mem) (h0 : m 0 = M1) (hm : ∀ i p, M1 p = none → m i p = none) (hlen : ds.length ≤ sizeLine)
    (step : ∀ i d, ds[i]? = some d → ∃ ρ', TGb X.K g (own.map (·.2)) (wipeD ρ (own.map (·.2))) d ρ' ∧ ∀ (p : Addr) (acc : List D), M1 p = none → ∀ (s : Shared) (H : Hp) (C : Addr) (cl : List (Str × Addr)) (fp : List Addr),
      EV (X.blk s H scope (compEnvC scope cl C X.env) fp) elt ρ' ((m i).set p (.lst acc)) (f i) ((m (i + 1)).set p (.lst acc)))
    (hs : ∀ x, foldedSetIterable iter X.env x = pure x := by intro _; rfl) : EV X (.ListComp elt [⟨tg, iter, [], 0⟩] scope pos) ρ M (.lst ((List.range ds.length).map f)) (m ds.length) :=
  (pe_lc hc hN hi ok hg (fun _ _ _ _ _ => pts_nil) (fun s H C cl fp => ⟨fun pins s' σ H' Q I ⟨ρ', M', d', M'', hb, q⟩ => (hb s H C cl fp).run pins s' σ H' Q I q⟩) hs).mono (lc_read (tg := tg) (iter := iter) f m h0 hm hlen step)
/-- y = [e for x in ..] -/
theorem sv_setLc (i : Nat) {y : Str} {py : Pos} {elt tg iter : Expr} {scope : Scope} {own : List (Str × Nat)} {spos : Pos} (hc : X.calm = true) (hN : X.N.Nodup) (hy : X.N[i]? = some y) (hl : X.env.scope.names.lookup y = some .local)
    (hw : swapsWith (.ListComp elt [⟨tg, iter, [], 0⟩] scope pos) (some (.Name y py)) spos.line X.env = pure true) (hi : IV X tg iter ρ M ds M1) (ok : BlkOk X.N X.env.scope scope own)
    (hg : ∀ (s : Shared) (H : Hp) (C : Addr) (cl : List (Str × Addr)) (fp : List Addr), PG (X.blk s H scope (compEnvC scope cl C X.env) fp) tg g)
    (f : Nat → D) (m : Nat → Mem) (h0 : m 0 = M1) (hm : ∀ i p, M1 p = none → m i p = none) (hlen : ds.length ≤ sizeLine)
    (step : ∀ i d, ds[i]? = some d → ∃ ρ', TGb X.K g (own.map (·.2)) (wipeD ρ (own.map (·.2))) d ρ' ∧ ∀ (p : Addr) (acc : List D), M1 p = none → ∀ (s : Shared) (H : Hp) (C : Addr) (cl : List (Str × Addr)) (fp : List Addr),
      EV (X.blk s H scope (compEnvC scope cl C X.env) fp) elt ρ' ((m i).set p (.lst acc)) (f i) ((m (i + 1)).set p (.lst acc)))
    (hΨ : Ψ (.nx (ρ.set i (some (.lst ((List.range ds.length).map f)))) (m ds.length))) (hs : ∀ x, foldedSetIterable iter X.env x = pure x := by intro _; rfl) : SV X (.Assign [.Name y py] (.ListComp elt [⟨tg, iter, [], 0⟩] scope pos) spos) ρ M Ψ :=
  (ps_setLc hc hN hy hl hw hi ok hg (fun _ _ _ _ _ => pts_nil) (fun s H C cl fp => ⟨fun pins s' σ H' Q I ⟨ρ', M', d', M'', hb, q⟩ => (hb s H C cl fp).run pins s' σ H' Q I q⟩) hs).mono fun E σ H ⟨G, sa, k⟩ =>
    lc_read (tg := tg) (iter := iter) f m h0 hm hlen step σ H _ ⟨G, sa, fun v G1 H1 g1 sh1 r1 => k _ hΨ _ G1 H1 g1 ⟨sh1, (sa.sl.up g1).set i r1⟩⟩
end
end Vt
namespace Vt
open PySem PySem.Spec PyProof.Rows L2
/-! ### new lists that may be changed -/
def tN (K : PySem.W.Frag) (ρ : Sl) (M : Mem) (ds : List D) (M' : Mem) : TE := fun σ H Q => ∃ G, SA K G H σ ρ M ∧ ∀ p G' H', Same G G' → M' p = none → SH K G' H' (M'.set p (.lst ds)) → Q (.ref p) H'
abbrev EN (X : Cx) (e : Expr) (ρ : Sl) (M : Mem) (ds : List D) (M' : Mem) : Prop := PE X e (tN X.K ρ M ds M')
def spN (K : PySem.W.Frag) (Pr : List D → Mem → List D → Mem → Prop) : Sp := fun vs H Q _ => ∃ G ds M es M', SH K G H M ∧ RepL K G vs ds ∧ Pr ds M es M' ∧ ∀ p G' H', Same G G' → M' p = none → SH K G' H' (M'.set p (.lst es)) → Q (.ref p) H'
theorem Mem.set_comm {M : Mem} {a b : Addr} {o u : MO} (h : a ≠ b) : (M.set a o).set b u = (M.set b u).set a o := by
  funext c
  unfold Mem.set
  by_cases h1 : c = a
  · by_cases h2 : c = b
    · exact absurd (h1.symm.trans h2) h
    · rw [if_neg h2, if_pos h1, if_pos h1]
  · by_cases h2 : c = b
    · rw [if_pos h2, if_neg h1, if_pos h2]
    · rw [if_neg h2, if_neg h1, if_neg h1, if_neg h2]
theorem mle_new {M M' : Mem} {p : Addr} {o : MO} (h : Mle M M') (hp : M p = none) : Mle M (M'.set p o) := fun b u e => by
  rw [Mem.set_ne (fun q => by rw [q, hp] at e; cases e)]
  exact h b u e
/-- what a def that makes a list promises, by its body -/
def FinN (es : List D) (M' : Mem) : Out → Prop
  | .ret d M'' => ∃ p, d = dP p ∧ M' p = none ∧ Mle (M'.set p (.lst es)) M''
  | _ => False
section
variable {X : Cx} {ρ : Sl} {M M1 M2 M3 : Mem} {a b c e : Expr} {es : List Expr} {d d1 d2 : D} {ds : List D} {pos : Pos} {Ψ : Out → Prop}
theorem en_lst (h : AV X es ρ M ds M1) (hl : ds.length ≤ sizeLine := by first | (simp only [List.length_cons, List.length_nil]; decide) | decide) : EN X (.List es pos) ρ M ds M1 :=
  (pe_lst h).mono fun σ H Q ⟨G, sa, k⟩ => ⟨G, sa, fun vs G1 H1 g1 sh1 r1 => ⟨by rw [r1.len]; exact hl, fun p hp => by
    obtain ⟨sh2, mp, gp⟩ := sh1.newM hp r1
    exact k p _ _ g1 mp sh2⟩⟩
theorem en_listRg {n : Int} {p p2 pos2 : Pos} (hc : X.calm = true) (hm : X.mg "list" = none) (hm2 : X.mg "range" = none) (h : EV X e ρ M (dI n) M1) (hn : 0 ≤ n ∧ n ≤ 16777216) (hg : Gl X "list" := by rfl) (hg2 : Gl X "range" := by rfl)
    (n1 : starEach [e] X.env = (false, eval e X.env) :: starEach [] X.env := by rfl)
    (n2 : starEach [.Call (.Name "range" p2) [e] [] pos2] X.env = (false, eval (.Call (.Name "range" p2) [e] [] pos2) X.env) :: starEach [] X.env := by rfl) : EN X (.Call (.Name "list" p) [.Call (.Name "range" p2) [e] [] pos2] [] pos) ρ M (rgD 0 n.toNat) M1 :=
  (pe_listRg hc hg hm (prg_1 hg2 hm2 h n1) n2).mono fun σ H Q ⟨G, sa, k⟩ => ⟨G, sa, fun v G1 H1 g1 sh1 r1 => ⟨n, r1.of_val, RgOk.of_le (by omega) hn.2 (by omega) hn.1, fun p hp => by
    have r : RepL X.K G1 (rgV 0 n) (rgD 0 n.toNat) := by
      have q := RepL.vals (K := X.K) (G := G1) (rgV 0 n)
      have e : (rgV 0 n).map D.val = rgD 0 n.toNat := by
        unfold rgV rgD
        rw [List.map_map, Int.sub_zero]
        rfl
      rw [e] at q
      exact q
    obtain ⟨sh2, mp, gp⟩ := sh1.newM hp r
    exact k p _ _ g1 mp sh2⟩⟩
theorem sv_setN (i : Nat) {x : Str} {pos' : Pos} (hN : X.N.Nodup) (he : EN X e ρ M ds M1) (hΨ : ∀ p, M1 p = none → Ψ (.nx (ρ.set i (some (dP p))) (M1.set p (.lst ds)))) (hi : X.N[i]? = some x := by rfl) (hx : L2.Loc X.env.scope x := by first | exact Or.inl rfl | exact Or.inr rfl)
    (hs : swapsWith e (some (.Name x pos')) pos.line X.env = pure false := by rfl) (hf : X.fn x = true ∨ X.env.scope.names.lookup x = some .local := by first | exact .inl rfl | exact .inr rfl) : SV X (.Assign [.Name x pos'] e pos) ρ M Ψ :=
  (ps_set hN hi hx he hs hf).mono fun E σ H ⟨G, sa, k⟩ => ⟨G, sa, fun p G1 H1 g1 mp sh1 => k _ (hΨ p mp) _ G1 H1 g1 ⟨sh1, (sa.sl.up g1).set i (.val _)⟩⟩
theorem sv_retNew (he : EN X e ρ M ds M1) (hΨ : ∀ p, M1 p = none → Ψ (.ret (dP p) (M1.set p (.lst ds)))) : SV X (.Return (some e) pos) ρ M Ψ :=
  (ps_ret he).mono fun E σ H ⟨G, sa, k⟩ => ⟨G, sa, fun p G1 H1 g1 mp sh1 => k _ (hΨ p mp) _ G1 H1 g1 sh1 (.val _)⟩
theorem en_call {k : Nat} {x : Str} {Pr : List D → Mem → List D → Mem → Prop} {es' : List D} {p : Pos} (C : Cal X.prog X.w X.K X.mg X.base k x (spN X.K Pr)) (hr : Room k X.A) (ha : AV X (e :: es) ρ M ds M1) (hp : Pr ds M1 es' M2) (hg : Gl X x := by rfl)
    (hd : (x == ("__debug__" : Str)) = false := by decide) (hst : starEach (e :: es) X.env = (false, eval e X.env) :: starEach es X.env := by rfl) (hpl : (backTo pos (starEach es X.env)).any (·.1) = false := by rfl) : EN X (.Call (.Name x p) (e :: es) [] pos) ρ M es' M2 := by
  obtain ⟨f, fd, ps, hm, hk, hb, F⟩ := C.ex
  refine (pe_call F hr hg hm hk hb .nil pass0 ha (hdb := hd) (he := hst) (hpl := hpl)).mono fun σ H Q ⟨G, sa, k⟩ => ⟨G, sa, fun vs G1 H1 g1 sh1 r1 => ?_⟩
  show spN X.K Pr (vs ++ []) H1 Q E0
  rw [List.append_nil]
  exact ⟨G1, ds, M1, es', M2, sh1, r1, hp, fun q G' H' g mq sh => k q G' H' (g1.trans g) mq sh⟩
theorem calN_of {P : Program} {w : World} {K : PySem.W.Frag} {mg : Str → Option Value} {base : Heap} {x qual : Str} {sd : Stmt} {f : Addr} {fd : FuncData} {N ps : List Str} {k : Nat} {Pr : List D → Mem → List D → Mem → Prop} (F : Fun K x qual sd f fd) (S : FnScope N ps (defScope sd)) (hm : mg x = some (.ref f))
    (hbind : ∀ (kV doc pm : Value) (an : Option Addr) (cdv ct : Value) (us : List Value), us.length = ps.length → bindArgs (PySem.W.fnOf x qual (defArgs sd) (defBody sd) (defScope sd) .none kV doc pm an cdv ct) ⟨us, []⟩ = pure (ps.zip us))
    (len : ∀ ds M es M', Pr ds M es M' → ds.length = ps.length)
    (hb : ∀ (cdv : Value) (A : Around) (outer : List Env) (s : Shared) (H : Hp) (E : XK) (ds : List D) (M : Mem) (es : List D) (M' : Mem), Room k (A.deeper (envOfC qual (defScope sd) s.heap.objs.size f cdv)) → Pr ds M es M' →
      BV (cxOf CX0 P w K mg base N qual (defScope sd) f cdv A outer s H E).nox (defBody sd) (startD N ds) M (FinN es M')) : Cal P w K mg base (k + 1) x (spN K Pr) := by
  refine ⟨f, fd, ps, hm, F.kp, F.binds hbind, F.ok S (fun vs H Q E ⟨G, ds, M, es, M', sh, r, p, q⟩ => by rw [r.len]; exact len _ _ _ _ p) fun cdv A outer s H vs Q E hr ⟨G, ds, M, es, M', sh, r, p, q⟩ => ?_⟩
  refine ⟨_, hb cdv A outer s H E ds M es M' hr p, G, ⟨sh, start_rep r⟩, fun o ho => ?_⟩
  cases o with
  | ret d' M'' =>
    obtain ⟨p, rfl, mp, hm⟩ := ho
    exact fun v G' H' g sh' r' => by
      rw [r'.of_val]
      exact q p G' H' g mp (sh'.weak hm)
  | nx ρ M'' => exact ho.elim
  | bk _ _ => exact ho.elim
  | ct _ _ => exact ho.elim
/-- [F(x) for x in ..] that changes nothing -/
theorem range_getD {α β : Type} (x0 : α) (g : α → β) : ∀ (xs : List α), (List.range xs.length).map (fun i => g (xs.getD i x0)) = xs.map g := fun xs => by
  apply List.ext_getElem?
  intro i
  rw [List.getElem?_map, List.getElem?_map]
  rcases Nat.lt_or_ge i xs.length with h | h
  · rw [List.getElem?_range h, List.getElem?_eq_getElem h]
    show some (g (xs.getD i x0)) = some (g xs[i])
    rw [List.getD_eq_getElem?_getD, List.getElem?_eq_getElem h]
    rfl
  · rw [List.getElem?_eq_none (by simpa using h), List.getElem?_eq_none h]
    rfl
theorem getD_of {α : Type} {xs : List α} {i : Nat} {x x0 : α} (h : xs[i]? = some x) : xs.getD i x0 = x := by
  rw [List.getD_eq_getElem?_getD, h]
  rfl
theorem ev_lcM {elt tg iter : Expr} {scope : Scope} {own : List (Str × Nat)} {g : TG} (hc : X.calm = true) (hN : X.N.Nodup) (hi : IV X tg iter ρ M ds M1) (ok : BlkOk X.N X.env.scope scope own)
    (hg : ∀ (s : Shared) (H : Hp) (C : Addr) (cl : List (Str × Addr)) (fp : List Addr), PG (X.blk s H scope (compEnvC scope cl C X.env) fp) tg g) (F : D → D) (hlen : ds.length ≤ sizeLine)
    (step : ∀ (i : Nat) d, ds[i]? = some d → ∃ ρ', TGb X.K g (own.map (·.2)) (wipeD ρ (own.map (·.2))) d ρ' ∧ ∀ (M2 : Mem), ∀ (s : Shared) (H : Hp) (C : Addr) (cl : List (Str × Addr)) (fp : List Addr), EV (X.blk s H scope (compEnvC scope cl C X.env) fp) elt ρ' M2 (F d) M2)
    (hs : ∀ x, foldedSetIterable iter X.env x = pure x := by intro _; rfl) : EV X (.ListComp elt [⟨tg, iter, [], 0⟩] scope pos) ρ M (.lst (ds.map F)) M1 := by
  have q := ev_lc (f := fun i => F (ds.getD i dN)) (m := fun _ => M1) (pos := pos) hc hN hi ok hg rfl (fun _ _ h => h) hlen (fun i d h => by
    obtain ⟨ρ', h1, h2⟩ := step i d h
    refine ⟨ρ', h1, fun p acc _ s H C cl fp => ?_⟩
    show EV _ elt ρ' _ (F (ds.getD i dN)) _
    rw [getD_of h]
    exact h2 _ s H C cl fp) hs
  rw [range_getD dN F ds] at q
  exact q
end
end Vt
namespace Vt
open PySem PySem.Spec PyProof.Rows L2
/-! ### == and != of equal trees -/
mutual
def D.py : D → PyData
  | .val .non => .none
  | .val (.bl b) => .bool b
  | .val (.int i) => .int i
  | .val (.str x) => .str x
  | .val _ => .none
  | .tup ds => .tuple (D.pyL ds)
  | .lst ds => .list (D.pyL ds)
  | .dic => .none
def D.pyL : List D → List PyData
  | [] => []
  | d :: ds => D.py d :: D.pyL ds
end

mutual
def D.plain : D → Bool
  | .val .non => true
  | .val (.bl _) => true
  | .val (.int _) => true
  | .val (.str _) => true
  | .val _ => false
  | .tup ds => D.plainL ds
  | .lst ds => D.plainL ds
  | .dic => false
def D.plainL : List D → Bool
  | [] => true
  | d :: ds => D.plain d && D.plainL ds
end
section
variable {K : PySem.W.Frag} {G H : Hp}
mutual
theorem dp_of (e : Same G H) : ∀ (v : V) (d : D), D.plain d = true → Rep K G v d → Dp K H v (D.py d)
  | v, .val u, hp, r => by
    have q := r.of_val
    subst q
    cases v with
    | non => exact .non
    | bl b => exact .bl b
    | int i => exact .int i
    | str x => exact .str x
    | _ => cases hp
  | _, .tup ds, hp, .tup q r => .tup (sqtUp e q) (dpL_of e _ ds hp r)
  | _, .lst ds, hp, .lst q r => .lst (sqlUp e q) (dpL_of e _ ds hp r)
  | _, .dic, hp, _ => nomatch hp
theorem dpL_of (e : Same G H) : ∀ (vs : List V) (ds : List D), D.plainL ds = true → RepL K G vs ds → DpAll K H vs (D.pyL ds)
  | _, [], _, .nil => .nil
  | _, d :: ds, hp, .cons h t => by
    have q := (Bool.and_eq_true_iff.mp hp)
    exact .cons (dp_of e _ d q.1 h) (dpL_of e _ ds q.2 t)
end
end
section
variable {X : Cx} {ρ : Sl} {M M1 M2 M3 : Mem} {a b c e : Expr} {es : List Expr} {d d1 d2 : D} {ds : List D} {pos : Pos} {Ψ : Out → Prop}
theorem shaped_eqv {p : PyData} (h : SeqAt.shaped p = true) : PyData.eqv p p = true := SeqAt.eqv_refl p (SeqAt.canLay_of_shaped h)
theorem ev_eqD (hu : X.A.units + 64 < cLine) (ha : EV X a ρ M d1 M1) (hb : EV X b ρ M1 d2 M2) (p1 : D.plain d1 = true) (p2 : D.plain d2 = true) (s1 : SeqAt.shaped d1.py = true) (s2 : SeqAt.shaped d2.py = true) (hm : behindInMarks .Eq b = false) :
    EV X (.Compare a [.Eq] [b] pos) ρ M (dB (PyData.eqv d1.py d2.py)) M2 :=
  (pe_cmpR (op_eqD hu) ha hb hm).mono fun σ H Q ⟨G, sa, k⟩ => ⟨G, sa, fun v1 G1 H1 g1 sh1 r1 => ⟨G1, ⟨sh1, sa.sl.up g1⟩, fun v2 G2 H2 g2 sh2 r2 =>
    ⟨_, _, dp_of sh2.le _ _ p1 (r1.up g2), dp_of sh2.le _ _ p2 r2, s1, s2, k _ G2 H2 (g1.trans g2) sh2 (.val _)⟩⟩⟩
theorem tv_eqD (hu : X.A.units + 64 < cLine) (ha : EV X a ρ M d1 M1) (hb : EV X b ρ M1 d2 M2) (p1 : D.plain d1 = true) (p2 : D.plain d2 = true) (s1 : SeqAt.shaped d1.py = true) (s2 : SeqAt.shaped d2.py = true) (hm : behindInMarks .Eq b = false) :
    TV X (.Compare a [.Eq] [b] pos) ρ M (PyData.eqv d1.py d2.py) M2 :=
  (pt_cmpR (op_eqD hu) ha hb hm).mono fun σ H Q ⟨G, sa, k⟩ => ⟨G, sa, fun v1 G1 H1 g1 sh1 r1 => ⟨G1, ⟨sh1, sa.sl.up g1⟩, fun v2 G2 H2 g2 sh2 r2 =>
    ⟨_, _, dp_of sh2.le _ _ p1 (r1.up g2), dp_of sh2.le _ _ p2 r2, s1, s2, _, rfl, k G2 H2 (g1.trans g2) sh2⟩⟩⟩
theorem ev_neD (hu : X.A.units + 64 < cLine) (ha : EV X a ρ M d1 M1) (hb : EV X b ρ M1 d2 M2) (p1 : D.plain d1 = true) (p2 : D.plain d2 = true) (s1 : SeqAt.shaped d1.py = true) (s2 : SeqAt.shaped d2.py = true) (hm : behindInMarks .NotEq b = false) :
    EV X (.Compare a [.NotEq] [b] pos) ρ M (dB (!PyData.eqv d1.py d2.py)) M2 :=
  (pe_cmpR (op_neD hu) ha hb hm).mono fun σ H Q ⟨G, sa, k⟩ => ⟨G, sa, fun v1 G1 H1 g1 sh1 r1 => ⟨G1, ⟨sh1, sa.sl.up g1⟩, fun v2 G2 H2 g2 sh2 r2 =>
    ⟨_, _, dp_of sh2.le _ _ p1 (r1.up g2), dp_of sh2.le _ _ p2 r2, s1, s2, k _ G2 H2 (g1.trans g2) sh2 (.val _)⟩⟩⟩
theorem tv_neD (hu : X.A.units + 64 < cLine) (ha : EV X a ρ M d1 M1) (hb : EV X b ρ M1 d2 M2) (p1 : D.plain d1 = true) (p2 : D.plain d2 = true) (s1 : SeqAt.shaped d1.py = true) (s2 : SeqAt.shaped d2.py = true) (hm : behindInMarks .NotEq b = false) :
    TV X (.Compare a [.NotEq] [b] pos) ρ M (!PyData.eqv d1.py d2.py) M2 :=
  (pt_cmpR (op_neD hu) ha hb hm).mono fun σ H Q ⟨G, sa, k⟩ => ⟨G, sa, fun v1 G1 H1 g1 sh1 r1 => ⟨G1, ⟨sh1, sa.sl.up g1⟩, fun v2 G2 H2 g2 sh2 r2 =>
    ⟨_, _, dp_of sh2.le _ _ p1 (r1.up g2), dp_of sh2.le _ _ p2 r2, s1, s2, _, rfl, k G2 H2 (g1.trans g2) sh2⟩⟩⟩
/-- of one tree: != is false -/
theorem tv_neSame (hu : X.A.units + 64 < cLine) (ha : EV X a ρ M d M1) (hb : EV X b ρ M1 d M2) (p1 : D.plain d = true) (s1 : SeqAt.shaped d.py = true) (hm : behindInMarks .NotEq b = false) : TV X (.Compare a [.NotEq] [b] pos) ρ M false M2 := by
  have q := tv_neD (pos := pos) hu ha hb p1 p1 s1 s1 hm
  rw [shaped_eqv s1] at q
  exact q
theorem tv_eqSame (hu : X.A.units + 64 < cLine) (ha : EV X a ρ M d M1) (hb : EV X b ρ M1 d M2) (p1 : D.plain d = true) (s1 : SeqAt.shaped d.py = true) (hm : behindInMarks .Eq b = false) : TV X (.Compare a [.Eq] [b] pos) ρ M true M2 := by
  have q := tv_eqD (pos := pos) hu ha hb p1 p1 s1 s1 hm
  rw [shaped_eqv s1] at q
  exact q

/-! ### values that are known by what they meet alone -/
def tW (K : PySem.W.Frag) (ρ : Sl) (M : Mem) (Φ : D → Mem → Prop) : TE := fun σ H Q => ∃ G, SA K G H σ ρ M ∧ ∀ v G' H' d M', Φ d M' → Same G G' → SH K G' H' M' → Rep K G' v d → Q v H'
abbrev EW (X : Cx) (e : Expr) (ρ : Sl) (M : Mem) (Φ : D → Mem → Prop) : Prop := PE X e (tW X.K ρ M Φ)
def spW (K : PySem.W.Frag) (R : List D → Mem → (D → Mem → Prop) → Prop) : Sp := fun vs H Q _ => ∃ G ds M Φ, SH K G H M ∧ RepL K G vs ds ∧ R ds M Φ ∧ ∀ v G' H' d M', Φ d M' → Same G G' → SH K G' H' M' → Rep K G' v d → Q v H'
variable {Φ Φ' : D → Mem → Prop}
theorem ew_ev (h : EV X e ρ M d M1) (q : Φ d M1) : EW X e ρ M Φ := h.mono fun σ H Q ⟨G, sa, k⟩ => ⟨G, sa, fun v G1 H1 g1 sh1 r1 => k v G1 H1 d M1 q g1 sh1 r1⟩
theorem ew_to (h : EW X e ρ M Φ) (q : ∀ d M, Φ d M → Φ' d M) : EW X e ρ M Φ' := h.mono fun σ H Q ⟨G, sa, k⟩ => ⟨G, sa, fun v G1 H1 d M1 p => k v G1 H1 d M1 (q _ _ p)⟩
theorem ew_call {k : Nat} {x : Str} {R : List D → Mem → (D → Mem → Prop) → Prop} {p : Pos} (C : Cal X.prog X.w X.K X.mg X.base k x (spW X.K R)) (hr : Room k X.A) (ha : AV X (e :: es) ρ M ds M1) (hp : R ds M1 Φ) (hg : Gl X x := by rfl)
    (hd : (x == ("__debug__" : Str)) = false := by decide) (hst : starEach (e :: es) X.env = (false, eval e X.env) :: starEach es X.env := by rfl) (hpl : (backTo pos (starEach es X.env)).any (·.1) = false := by rfl) : EW X (.Call (.Name x p) (e :: es) [] pos) ρ M Φ := by
  obtain ⟨f, fd, ps, hm, hk, hb, F⟩ := C.ex
  refine (pe_call F hr hg hm hk hb .nil pass0 ha (hdb := hd) (he := hst) (hpl := hpl)).mono fun σ H Q ⟨G, sa, k⟩ => ⟨G, sa, fun vs G1 H1 g1 sh1 r1 => ?_⟩
  show spW X.K R (vs ++ []) H1 Q E0
  rw [List.append_nil]
  exact ⟨G1, ds, M1, Φ, sh1, r1, hp, fun v G' H' d M' q g sh r => k v G' H' d M' q (g1.trans g) sh r⟩
/-- x = e -/
theorem sv_setW (i : Nat) {x : Str} {pos' : Pos} (hN : X.N.Nodup) (he : EW X e ρ M Φ) (hΨ : ∀ d M1, Φ d M1 → Ψ (.nx (ρ.set i (some d)) M1)) (hi : X.N[i]? = some x := by rfl) (hx : L2.Loc X.env.scope x := by first | exact Or.inl rfl | exact Or.inr rfl) (hs : swapsWith e (some (.Name x pos')) pos.line X.env = pure false := by rfl)
    (hf : X.fn x = true ∨ X.env.scope.names.lookup x = some .local := by first | exact .inl rfl | exact .inr rfl) : SV X (.Assign [.Name x pos'] e pos) ρ M Ψ :=
  (ps_set hN hi hx he hs hf).mono fun E σ H ⟨G, sa, k⟩ => ⟨G, sa, fun v G1 H1 d M1 p g1 sh1 r1 => k _ (hΨ d M1 p) _ G1 H1 g1 ⟨sh1, (sa.sl.up g1).set i r1⟩⟩
theorem sv_retW (he : EW X e ρ M Φ) (hΨ : ∀ d M1, Φ d M1 → Ψ (.ret d M1)) : SV X (.Return (some e) pos) ρ M Ψ :=
  (ps_ret he).mono fun E σ H ⟨G, sa, k⟩ => ⟨G, sa, fun v G1 H1 d M1 p g1 sh1 r1 => k _ (hΨ d M1 p) v G1 H1 g1 sh1 r1⟩
/-- target = e -/
theorem sv_asgW {tg : Expr} {g : TG} (he : EW X e ρ M Φ) (hg : PG X tg g) (ht : ∀ d M1, Φ d M1 → ∃ ρ', TG1 X.K g ρ d ρ' ∧ Ψ (.nx ρ' M1)) (hs : swapsWithSole [tg] e pos.line X.env = pure false := by rfl) (hw : swappedStores [tg] e X.env = pure none := by rfl)
    (h1 : (assignEach [tg] X.env).map (·.2) = [assign tg X.env] := by rfl) : SV X (.Assign [tg] e pos) ρ M Ψ :=
  (ps_asg he hg hs hw h1).mono fun E σ H ⟨G, sa, k⟩ => ⟨G, sa, fun v G1 H1 d M1 p g1 sh1 r1 => by
    obtain ⟨ρ', t, q⟩ := ht d M1 p
    exact t v σ G1 H1 _ sh1.le (sa.sl.up g1) r1 fun σ' h' => k _ q σ' G1 H1 g1 ⟨sh1, h'⟩⟩
/-- a and b, a true -/
theorem ew_and {rest : List Expr} {Φ1 : Mem → Prop} (ha : EW X a ρ M (fun d M1 => d = dB true ∧ Φ1 M1)) (hb : ∀ M1, Φ1 M1 → EW X (.BoolOp .And (b :: rest) pos) ρ M1 Φ) : EW X (.BoolOp .And (a :: b :: rest) pos) ρ M Φ :=
  (pe_and (tb := fun σ H Q => ∃ M1, EW X (.BoolOp .And (b :: rest) pos) ρ M1 Φ ∧ tW X.K ρ M1 Φ σ H Q) ha ⟨fun pins s σ H Q I ⟨M1, hb, q⟩ => hb.run pins s σ H Q I q⟩).mono fun σ H Q ⟨G, sa, k⟩ => ⟨G, sa, fun v1 G1 H1 d M1 ⟨e, p⟩ g1 sh1 r1 => by
    subst e
    refine ⟨true, r1.of_val, ?_⟩
    show ∃ M1, EW X (.BoolOp .And (b :: rest) pos) ρ M1 Φ ∧ tW X.K ρ M1 Φ σ H1 Q
    exact ⟨M1, hb M1 p, G1, ⟨sh1, sa.sl.up g1⟩, fun v G2 H2 d2 M2 p2 g2 sh2 r2 => k v G2 H2 d2 M2 p2 (g1.trans g2) sh2 r2⟩⟩
theorem ew_one {op} (h : EW X e ρ M Φ) : EW X (.BoolOp op [e] pos) ρ M Φ := pe_one h
/-- a test of such a value: if e: as else: bs -/
theorem sv_ifW {as bs : List Stmt} (hc : EW X c ρ M Φ) (h : ∀ d M1, Φ d M1 → ∃ p, d = dB p ∧ (p = true → BV X as ρ M1 Ψ) ∧ (p = false → BV X bs ρ M1 Ψ)) (he : ∀ whole, isTrue c X.env whole = (do let v ← whole; standAt c.pos; holding [v] (truthy v)) := by intro _; rfl) : SV X (.If c as bs pos) ρ M Ψ :=
  (ps_if (t := fun E σ H => ∃ M1, BV X as ρ M1 Ψ ∧ tS X.K ρ M1 Ψ E σ H) (u := fun E σ H => ∃ M1, BV X bs ρ M1 Ψ ∧ tS X.K ρ M1 Ψ E σ H) (pt_val hc he) ⟨fun pins s σ H E I ⟨M1, hb, q⟩ => hb.run pins s σ H E I q⟩ ⟨fun pins s σ H E I ⟨M1, hb, q⟩ => hb.run pins s σ H E I q⟩).mono
    fun E σ H ⟨G, sa, k⟩ => ⟨G, sa, fun v G1 H1 d M1 p g1 sh1 r1 => by
      obtain ⟨b, rfl, h1, h2⟩ := h d M1 p
      refine ⟨b, r1.of_val, ?_⟩
      cases b with
      | true => exact ⟨M1, h1 rfl, G1, ⟨sh1, sa.sl.up g1⟩, fun o ho => (k o ho).up g1⟩
      | false => exact ⟨M1, h2 rfl, G1, ⟨sh1, sa.sl.up g1⟩, fun o ho => (k o ho).up g1⟩⟩
def FinW (Φ : D → Mem → Prop) : Out → Prop
  | .ret d M'' => ∃ M', Φ d M' ∧ Mle M' M''
  | .nx _ M'' => ∃ M', Φ dN M' ∧ Mle M' M''
  | _ => False
theorem calW_of {P : Program} {w : World} {K : PySem.W.Frag} {mg : Str → Option Value} {base : Heap} {x qual : Str} {sd : Stmt} {f : Addr} {fd : FuncData} {N ps : List Str} {k : Nat} {R : List D → Mem → (D → Mem → Prop) → Prop} (F : Fun K x qual sd f fd) (S : FnScope N ps (defScope sd)) (hm : mg x = some (.ref f))
    (hbind : ∀ (kV doc pm : Value) (an : Option Addr) (cdv ct : Value) (us : List Value), us.length = ps.length → bindArgs (PySem.W.fnOf x qual (defArgs sd) (defBody sd) (defScope sd) .none kV doc pm an cdv ct) ⟨us, []⟩ = pure (ps.zip us))
    (len : ∀ ds M Φ, R ds M Φ → ds.length = ps.length)
    (hb : ∀ (cdv : Value) (A : Around) (outer : List Env) (s : Shared) (H : Hp) (E : XK) (ds : List D) (M : Mem) (Φ : D → Mem → Prop), Room k (A.deeper (envOfC qual (defScope sd) s.heap.objs.size f cdv)) → R ds M Φ →
      BV (cxOf CX0 P w K mg base N qual (defScope sd) f cdv A outer s H E).nox (defBody sd) (startD N ds) M (FinW Φ)) : Cal P w K mg base (k + 1) x (spW K R) := by
  refine ⟨f, fd, ps, hm, F.kp, F.binds hbind, F.ok S (fun vs H Q E ⟨G, ds, M, Φ, sh, r, p, q⟩ => by rw [r.len]; exact len _ _ _ p) fun cdv A outer s H vs Q E hr ⟨G, ds, M, Φ, sh, r, p, q⟩ => ?_⟩
  refine ⟨_, hb cdv A outer s H E ds M Φ hr p, G, ⟨sh, start_rep r⟩, fun o ho => ?_⟩
  cases o with
  | ret d' M'' =>
    obtain ⟨M', hp, hm⟩ := ho
    exact fun v G' H' g sh' r' => q v G' H' d' M' hp g (sh'.weak hm) r'
  | nx ρ M'' =>
    obtain ⟨M', hp, hm⟩ := ho
    exact fun σ' G' H' g sa' => q .non G' H' dN M' hp g (sa'.sh.weak hm) (.val _)
  | bk _ _ => exact ho.elim
  | ct _ _ => exact ho.elim
/-- the law's own promise: of a list of at most 63 ints it hands back True -/
def spLaw (K : PySem.W.Frag) : Sp := fun vs H Q _ => ∃ (a : Addr) (ns : List Int), vs = [.ref a] ∧ SqL K H a (ns.map V.int) ∧ ns.length ≤ 63 ∧ ∀ H', Q (.bl true) H'
def FinL : Out → Prop
  | .ret d _ => d = dB true
  | _ => False
theorem law_of {P : Program} {w : World} {K : PySem.W.Frag} {mg : Str → Option Value} {base : Heap} {sd : Stmt} {f : Addr} {fd : FuncData} {N : List Str} {k : Nat} (F : Fun K "law" "law" sd f fd) (S : FnScope N ["script"] (defScope sd))
    (hb : ∀ (cdv : Value) (A : Around) (outer : List Env) (s : Shared) (H : Hp) (E : XK) (ns : List Int), Room k (A.deeper (envOfC "law" (defScope sd) s.heap.objs.size f cdv)) → ns.length ≤ 63 →
      BV (cxOf CX0 P w K mg base N "law" (defScope sd) f cdv A outer s H E).nox (defBody sd) (startD N [.lst (ns.map dI)]) (fun _ => none) FinL) : FnOk P w K mg base CX0 (k + 1) f fd ["script"] (spLaw K) := by
  refine F.ok S (fun vs H Q E ⟨a, ns, e, _⟩ => by rw [e]; rfl) fun cdv A outer s H vs Q E hr ⟨a, ns, e, hs, hl, q⟩ => ?_
  subst e
  have r : RepL K H [V.ref a] [.lst (ns.map dI)] := by
    refine .cons (.lst hs ?_) .nil
    have e := RepL.vals (K := K) (G := H) (ns.map V.int)
    rw [List.map_map] at e
    exact e
  refine ⟨_, hb cdv A outer s H E ns hr hl, H, ⟨⟨Same.refl _, fun b mo e => by cases e⟩, start_rep r⟩, fun o ho => ?_⟩
  cases o with
  | ret d M'' =>
    have e : d = dB true := ho
    subst e
    exact fun v G' H' g sh' r' => by
      rw [r'.of_val]
      exact q H'
  | nx ρ M'' => exact ho.elim
  | bk _ _ => exact ho.elim
  | ct _ _ => exact ho.elim
theorem walk {l : PySem.W.OpenLaw} {q : Program} {loose : List Str} {XP : (Str → Option Value) → Heap → Prop} {YP : World → Heap → Prop} {d : DefRec} {K : Params → PySem.W.Frag} {k : Nat} (hk : Room k callerA) (hn : l.most = some 63) (hdf : d.params.defaults = [])
    (hY : ∀ (w : World) (h : Heap), YP w h → (K w.params).In h)
    (F : ∀ (w : World) (mg : Str → Option Value) (fa : Addr) (h : Heap), (K w.params).In h → h.Ns mainGlobals mg → mg d.name = some (.ref fa) →
      ∃ fd : FuncData, (∀ (s : Shared) (u : Value), BindsTo s fd ⟨[u], []⟩ [("script", u)]) ∧ ∀ base : Heap, (K w.params).In base → base.Ns mainGlobals mg → FnOk l.prog w (K w.params) mg base CX0 k fa fd ["script"] (spLaw (K w.params))) :
    PySem.W.WalkO q loose XP YP l.row.toRowW d [] (fun f vs => PySem.call f vs) :=
  L2.walk_of (n := 63) (k := k) (x := "script") (CX := fun _ => CX0) (sp := fun w => spLaw (K w.params)) hn (by decide) hdf hk hY F (fun _ _ a ns hl _ hS => ⟨a, ns, rfl, hS, hl, fun _ => rfl⟩) fun _ _ _ _ _ z => z
end
end Vt
namespace Vt
open PySem PySem.Spec PyProof.Rows L2
/-! ### sorted of pairs of ints -/
def kOf (h : Heap) : Value → Int × Int
  | .ref t => match h.get? t with
    | some o => match o.data with
      | .seq arr _ => match arr.toList with
        | [.int i _, .int j _] => (i, j)
        | _ => (0, 0)
      | _ => (0, 0)
    | none => (0, 0)
  | _ => (0, 0)
def IsPr (K : PySem.W.Frag) (H : Hp) (x : V) (pr : Int × Int) : Prop := ∃ t, x = V.ref t ∧ SqT K H t [.int pr.1, .int pr.2]
def rSq (K : PySem.W.Frag) : List V → Hp → VK → Prop := fun vs H Q => ∃ (a : Addr) (xs : List V) (prs : List (Int × Int)) (G : Hp), vs = [V.ref a] ∧ SqL K H a xs ∧ Same G H ∧ Paired (IsPr K G) xs prs ∧
  ∀ ys qs p, Paired (IsPr K G) ys qs → qs.Perm prs → qs.Pairwise (fun a b => SrtO.lexB b a = false) → H p = none → Q (.ref p) (upd H p (.lst ys))
section
variable {X : Cx} {pins : List (Addr × Obj)} {s : Shared} {σ : L2.St} {G H : Hp}
theorem pr_val (I : Inv X pins σ H s) (g : Same G H) {x : V} {pr : Int × Int} {u : Value} (h : IsPr X.K G x pr) (r : RelV x u) : kOf s.heap u = pr ∧ Srt.IsPair s.heap u pr.1 pr.2 ∧ ∃ t, u = Value.ref t ∧ x = V.ref t := by
  obtain ⟨t, rfl, q⟩ := h
  obtain rfl : u = Value.ref t := r
  obtain ⟨its, rv, ⟨o, ho, hc, n, hd⟩, _⟩ := I.tuple (sqtUp g q)
  obtain ⟨u1, u2, rfl, ri, rj⟩ := vals2 rv
  obtain ⟨t1, rfl⟩ := ri
  obtain ⟨t2, rfl⟩ := rj
  refine ⟨?_, ⟨t, o, t1, t2, n, rfl, ho, hc, hd⟩, t, rfl, rfl⟩
  unfold kOf
  simp only [ho, hd]
theorem prs_val (I : Inv X pins σ H s) (g : Same G H) : ∀ {xs : List V} {prs : List (Int × Int)} {us : List Value}, Paired (IsPr X.K G) xs prs → Vals xs us →
    us.map (kOf s.heap) = prs ∧ ∀ u ∈ us, Srt.IsPair s.heap u (kOf s.heap u).1 (kOf s.heap u).2 ∧ ∃ t, u = Value.ref t ∧ IsPr X.K G (.ref t) (kOf s.heap u)
  | _, _, _, .nil, .nil => ⟨rfl, fun u hu => absurd hu (by simp)⟩
  | _, _, _, .cons h t, .cons r rr => by
    obtain ⟨e1, e2⟩ := prs_val I g t rr
    obtain ⟨k1, k2, t', k3, k4⟩ := pr_val I g h r
    refine ⟨by rw [List.map_cons, k1, e1], fun u hu => ?_⟩
    rcases List.mem_cons.mp hu with e | hu
    · subst e
      rw [k1]
      refine ⟨k2, t', k3, ?_⟩
      rw [← k4]
      exact h
    · exact e2 u hu
theorem paired_map {α β γ : Type} {F : β → γ → Prop} {f : α → β} {g : α → γ} : ∀ (l : List α), (∀ x ∈ l, F (f x) (g x)) → Paired F (l.map f) (l.map g)
  | [], _ => .nil
  | x :: l, h => .cons (h x List.mem_cons_self) (paired_map l fun y hy => h y (List.mem_cons_of_mem _ hy))
theorem cr_sq : CallR X (.builtin "sorted") (rSq X.K) := by
  intro pins s σ H vs us Q I r h
  obtain ⟨a, xs, prs, G, rfl, hs, g, hp, q⟩ := h
  obtain ⟨its, rv, hl, hz⟩ := I.list hs
  obtain ⟨u, rfl, ru⟩ := vals1 r
  obtain rfl : u = Value.ref a := ru
  obtain ⟨e1, e2⟩ := prs_val I g hp rv
  have hzz : its.length ≤ sizeLine := by
    have := rv.length
    omega
  refine SrtO.sorted_pairsO (k := kOf s.heap) hl.isList hzz (fun v hv => (e2 v hv).1) fun h' d out h1 h2 kp hd hn => ?_
  obtain ⟨n, hn⟩ := hn
  have hmem : ∀ u ∈ out, u ∈ its := fun u hu => h2.perm.mem_iff.mp hu
  have hv : Vals (out.map backV) out := by
    have : ∀ l : List Value, (∀ u ∈ l, u ∈ its) → Vals (l.map backV) l := fun l => by
      induction l with
      | nil => exact fun _ => .nil
      | cons u l ih =>
        intro hl
        obtain ⟨t, e, _⟩ := (e2 u (hl u List.mem_cons_self)).2
        refine .cons ?_ (ih fun v hv => hl v (List.mem_cons_of_mem _ hv))
        subst e
        rfl
    exact this out hmem
  refine ⟨.ref d, upd H d (.lst (out.map backV)), I.laid (t' := s.toks) kp hd (show ObjOk X.prog X.w _ _ _ (.lst (out.map backV)) from ⟨?_, out, n, hv, hn⟩), rfl, q _ (out.map (kOf s.heap)) d (paired_map out fun u hu => ?_) ?_ ?_ (I.hok.fresh hd)⟩
  · rw [List.length_map, h2.perm.length_eq]
    exact hzz
  · obtain ⟨t, e, h3⟩ := (e2 u (hmem u hu)).2
    subst e
    exact h3
  · rw [← e1]
    exact h2.perm.map _
  · exact List.pairwise_map.mpr h1
end
abbrev pD (pr : Int × Int) : D := .tup [dI pr.1, dI pr.2]
theorem pr_rep {K : PySem.W.Frag} {G : Hp} : ∀ {vs : List V} {prs : List (Int × Int)}, RepL K G vs (prs.map pD) → Paired (IsPr K G) vs prs
  | [], [], .nil => .nil
  | _ :: _, pr :: prs, .cons h t => by
    refine .cons ?_ (pr_rep t)
    cases h with
    | tup q r =>
      refine ⟨_, rfl, ?_⟩
      have e2 := RepL.of_vals (xs := [.int pr.1, .int pr.2]) r
      rw [e2] at q
      exact q
theorem rep_pr {K : PySem.W.Frag} {G : Hp} : ∀ {vs : List V} {prs : List (Int × Int)}, Paired (IsPr K G) vs prs → RepL K G vs (prs.map pD)
  | _, _, .nil => .nil
  | _, _, .cons h t => by
    obtain ⟨a, rfl, q⟩ := h
    exact .cons (.tup q (RepL.vals (K := K) (G := G) [.int _, .int _])) (rep_pr t)
/-- what is sorted and has the same items is the same -/
theorem lex_uniq : ∀ {l m : List (Int × Int)}, l.Pairwise (fun a b => SrtO.lexB b a = false) → m.Pairwise (fun a b => SrtO.lexB b a = false) → l.Perm m → l = m
  | [], m, _, _, h => (List.Perm.eq_nil h.symm).symm
  | x :: l, [], _, _, h => absurd h.length_eq (by simp)
  | x :: l, y :: m, hl, hm, h => by
    have hx : x ∈ y :: m := h.mem_iff.mp List.mem_cons_self
    have hy : y ∈ x :: l := h.mem_iff.mpr List.mem_cons_self
    have e : x = y := by
      rcases List.mem_cons.mp hx with e | hx
      · exact e
      · rcases List.mem_cons.mp hy with e | hy
        · exact e.symm
        · have h1 := (List.pairwise_cons.mp hm).1 x hx
          have h2 := (List.pairwise_cons.mp hl).1 y hy
          have q1 := SrtO.lexB_no.mp h1
          have q2 := SrtO.lexB_no.mp h2
          apply Prod.ext <;> omega
    subst e
    rw [lex_uniq (List.pairwise_cons.mp hl).2 (List.pairwise_cons.mp hm).2 h.cons_inv]
section
variable {X : Cx} {ρ : Sl} {M M1 M2 M3 : Mem} {a b c e : Expr} {es : List Expr} {d d1 d2 : D} {ds : List D} {pos : Pos} {Ψ : Out → Prop}
theorem ev_sortedM {q : Addr} {prs qs : List (Int × Int)} {p : Pos} (hm : X.mg "sorted" = none) (ha : EV X e ρ M (dP q) M1) (h : M1 q = some (.lst (prs.map pD))) (hq : qs.Pairwise (fun a b => SrtO.lexB b a = false)) (hp : qs.Perm prs) (hg : Gl X "sorted" := by rfl)
    (hst : starEach [e] X.env = [(false, eval e X.env)] := by rfl) : EV X (.Call (.Name "sorted" p) [e] [] pos) ρ M (.lst (qs.map pD)) M1 :=
  (pe_callB cr_sq hg hm boot_sorted (av_cons ha av_nil hst) (he := hst)).mono fun σ H Q ⟨G, sa, k⟩ => ⟨G, sa, fun vs' G1 H1 g1 sh1 r1 => by
    obtain ⟨gq, vs, hv, r⟩ := sh1.mem q _ h
    rw [RepL.of_vals (xs := [.ref q]) r1]
    refine ⟨q, vs, prs, G1, rfl, .inl (.inl hv), sh1.le, pr_rep r, fun ys qs' l hys hperm hsort hl => ?_⟩
    have e : qs' = qs := lex_uniq hsort hq (hperm.trans hp.symm)
    subst e
    obtain ⟨sh2, g2⟩ := sh1.new (o := .lst ys) hl
    exact k _ _ _ (g1.trans g2) sh2 (.lst (.inl (.inl upd_same)) ((rep_pr hys).up g2))⟩
theorem ev_abs {i : Int} {p : Pos} (hm : X.mg "abs" = none) (ha : EV X e ρ M (dI i) M1) (hg : Gl X "abs" := by rfl) (hst : starEach [e] X.env = [(false, eval e X.env)] := by rfl) : EV X (.Call (.Name "abs" p) [e] [] pos) ρ M (dI (if i < 0 then -i else i)) M1 :=
  (pe_callB call_abs hg hm boot_abs (av_cons ha av_nil hst) (he := hst)).mono fun σ H Q ⟨G, sa, k⟩ => ⟨G, sa, fun vs' G1 H1 g1 sh1 r1 => by
    rw [RepL.of_vals (xs := [.int i]) r1]
    exact ⟨i, rfl, k _ G1 H1 g1 sh1 (.val _)⟩⟩
theorem JW.rangeC {K : PySem.W.Frag} {lo c : Int} {n : Nat} {G : Hp} : JW K (Itc lo c n) G ((List.range n).map fun i => dI (lo + (i : Nat) * c)) := fun i H e => ⟨fun d h => by
    rw [List.getElem?_map] at h
    have hi : i < n := by
      rcases Nat.lt_or_ge i n with q | q
      · exact q
      · rw [List.getElem?_eq_none (by simpa using q)] at h; cases h
    rw [List.getElem?_range hi] at h
    cases h
    exact ⟨hi, fun x H' ⟨e1, e2⟩ => ⟨e1, by rw [e2]; exact .val _⟩⟩, fun h => by
    rw [List.length_map, List.length_range] at h
    exact h⟩
theorem iv_range3 {tg : Expr} {i j k : Int} {n : Nat} {p : Pos} (hm : X.mg "range" = none) (ha : EV X a ρ M (dI i) M1) (hb : EV X b ρ M1 (dI j) M2) (hc : EV X c ρ M2 (dI k) M3) (hr : RgC i j k n) (hg : Gl X "range" := by rfl)
    (h1 : starEach [a, b, c] X.env = (false, eval a X.env) :: starEach [b, c] X.env := by rfl) (h2 : starEach [b, c] X.env = (false, eval b X.env) :: starEach [c] X.env := by rfl) (h3 : starEach [c] X.env = (false, eval c X.env) :: starEach [] X.env := by rfl)
    (hpl : (backTo pos (starEach [b, c] X.env)).any (·.1) = false := by rfl) : IV X tg (.Call (.Name "range" p) [a, b, c] [] pos) ρ M ((List.range n).map fun m => dI (i + (m : Nat) * k)) M3 :=
  (pi_range3 hg hm (av_cons ha (av_cons hb (av_cons hc av_nil h3) h2) h1) h1 hpl).mono fun σ H R ⟨G, sa, kk⟩ => ⟨G, sa, fun vs G1 H1 g1 sh1 r1 => by
    rw [RepL.of_vals (xs := [.int i, .int j, .int k]) r1]
    exact ⟨i, j, k, n, rfl, hr, kk _ G1 H1 g1 sh1 JW.rangeC⟩⟩
theorem rgC_up {i j k : Int} {n : Nat} (h1 : -1000000000 < i ∧ i < 1000000000) (h2 : -1000000000 < j ∧ j < 1000000000) (h3 : 0 < k ∧ k < 1000000000) (hn : Builtin.Range.rangeSize i j k = n) (hs : Builtin.Range.small i j k = true) : RgC i j k n :=
  ⟨by omega, by omega, hs, hn⟩
end
end Vt
namespace Vt
open PySem PySem.Spec PyProof.Rows L2
/-! ### texts by their signs -/
def S (l : List Nat) : Str := ⟨l.toArray⟩
theorem S_list (l : List Nat) : (S l).cps.toList = l := by show l.toArray.toList = l; simp
theorem S_len (l : List Nat) : (S l).length = l.length := by show l.toArray.size = _; simp
theorem S_of (z : Str) : S z.cps.toList = z := by
  cases z with
  | mk c => show (⟨c.toList.toArray⟩ : Str) = ⟨c⟩; simp
theorem S_app (l m : List Nat) : S l ++ S m = S (l ++ m) := by
  show (⟨l.toArray ++ m.toArray⟩ : Str) = ⟨(l ++ m).toArray⟩
  simp
theorem S_one (c : Nat) : (⟨#[c]⟩ : Str) = S [c] := rfl
theorem S_inj {l m : List Nat} (h : S l = S m) : l = m := by
  have := congrArg (fun z : Str => z.cps.toList) h
  simpa [S] using this
theorem fold_app : ∀ (n : Nat) (c : Nat) (acc : Array Nat), (List.replicate n #[c]).foldl (· ++ ·) acc = acc ++ (List.replicate n c).toArray
  | 0, c, acc => by simp
  | n + 1, c, acc => by
    rw [List.replicate_succ, List.foldl_cons, fold_app n c, List.replicate_succ]
    apply Array.ext'
    simp
/-- one sign, so many times -/
def rRepS : R2 := fun x y H Q => ∃ (c : Nat) (n : Int), x = .str (S [c]) ∧ y = .int n ∧ (-1000000 ≤ n ∧ n ≤ 1000000) ∧ Q (.str (S (List.replicate n.toNat c))) H
section
variable {X : Cx}
theorem op_repS : OpR X (binaryOp .Mult) rRepS := by
  intro pins s σ H x y v u Q I rx ry h
  obtain ⟨c, n, rfl, rfl, hn, q⟩ := h
  obtain ⟨t, rfl⟩ := rx
  obtain ⟨t', rfl⟩ := ry
  refine P.mul_str (x := S [c]) ?_ (fun h1 _ => ?_) (fun h1 _ => ?_) ?_
  · rw [decide_eq_false (by omega), decide_eq_false (by omega)]
    rfl
  · show ¬ (((1 : Nat) : Int) > (2 ^ 63 - 1) / n)
    have : (1 : Int) ≤ (2 ^ 63 - 1) / n := by
      rw [Int.le_ediv_iff_mul_le (by omega)]
      omega
    omega
  · have : (S [c]).length * n.toNat ≤ 1000000 := by
      rw [S_len]
      show 1 * n.toNat ≤ 1000000
      omega
    show decide _ = false
    refine decide_eq_false ?_
    have e : (1000000 : Nat) ≤ sizeLine := by decide
    omega
  · by_cases h1 : n < 1
    · rw [if_pos h1]
      have e : n.toNat = 0 := by omega
      rw [e] at q
      exact ⟨by decide, .str _, H, I.tok _, ⟨_, rfl⟩, q⟩
    · rw [if_neg h1]
      by_cases h2 : (n == 1 || (S [c]).length == 0) = true
      · rw [if_pos h2]
        have e : n = 1 := by
          rw [Bool.or_eq_true, beq_iff_eq, beq_iff_eq, S_len] at h2
          rcases h2 with h2 | h2
          · exact h2
          · cases h2
        subst e
        exact ⟨.str (S [c]), H, I, ⟨_, rfl⟩, q⟩
      · rw [if_neg h2]
        have e : (⟨(List.replicate n.toNat (S [c]).cps).foldl (· ++ ·) #[]⟩ : Str) = S (List.replicate n.toNat c) := by
          have e2 := fold_app n.toNat c #[]
          show (⟨(List.replicate n.toNat #[c]).foldl (· ++ ·) #[]⟩ : Str) = ⟨_⟩
          rw [e2]
          simp
        rw [e]
        refine ⟨?_, .str _, H, I.tok _, ⟨_, rfl⟩, q⟩
        rw [S_len, List.length_replicate]
        exact Nat.le_trans (show n.toNat ≤ 1000000 by omega) (by decide)
end
section
variable {X : Cx} {ρ : Sl} {M M1 M2 M3 : Mem} {a b c e : Expr} {es : List Expr} {d d1 d2 : D} {ds : List D} {pos : Pos} {Ψ : Out → Prop}
theorem ev_repS {ch : Nat} {n : Int} (ha : EV X a ρ M (dS (S [ch])) M1) (hb : EV X b ρ M1 (dI n) M2) (hn : -1000000 ≤ n ∧ n ≤ 1000000) : EV X (.BinOp a .Mult b pos) ρ M (dS (S (List.replicate n.toNat ch))) M2 :=
  ev_op op_repS ha hb fun H Q q => ⟨ch, n, rfl, rfl, hn, q⟩
theorem ev_catS {l m : List Nat} (ha : EV X a ρ M (dS (S l)) M1) (hb : EV X b ρ M1 (dS (S m)) M2) (hn : l.length + m.length ≤ 1000000) : EV X (.BinOp a .Add b pos) ρ M (dS (S (l ++ m))) M2 :=
  ev_op op_add_str ha hb fun H Q q => ⟨S l, S m, rfl, rfl, by rw [S_len, S_len]; exact Nat.le_trans hn (by decide), by rw [S_app]; exact q⟩
theorem ev_strI {i : Int} {p : Pos} (hm : X.mg "str" = none) (ha : EV X e ρ M (dI i) M1) (hi : -1000000000 < i ∧ i < 1000000000) (hg : Gl X "str" := by rfl) (hst : starEach [e] X.env = [(false, eval e X.env)] := by rfl) : EV X (.Call (.Name "str" p) [e] [] pos) ρ M (dS (toString i : String)) M1 :=
  (pe_callTy call_str_int hg hm boot_str (av_cons ha av_nil hst) (he := hst)).mono fun σ H Q ⟨G, sa, k⟩ => ⟨G, sa, fun vs' G1 H1 g1 sh1 r1 => by
    rw [RepL.of_vals (xs := [.int i]) r1]
    refine ⟨i, rfl, ?_, k _ G1 H1 g1 sh1 (.val _)⟩
    have h1 : i.natAbs < 1000000000 := by omega
    have h2 : i.natAbs < 2 ^ 30 := by omega
    rcases Nat.eq_zero_or_pos i.natAbs with h0 | h0
    · rw [h0]; decide
    · exact Nat.lt_trans ((Nat.log2_lt (by omega)).mpr h2) (by decide)⟩
theorem ev_intS {z : Str} {n : Int} {p : Pos} (hm : X.mg "int" = none) (ha : EV X e ρ M (dS z) M1) (hz : PySem.intText? z = some n) (hl : z.length ≤ 640) (hg : Gl X "int" := by rfl) (hst : starEach [e] X.env = [(false, eval e X.env)] := by rfl) : EV X (.Call (.Name "int" p) [e] [] pos) ρ M (dI n) M1 :=
  (pe_callTy call_int_str hg hm (by decide +kernel) (av_cons ha av_nil hst) (he := hst)).mono fun σ H Q ⟨G, sa, k⟩ => ⟨G, sa, fun vs' G1 H1 g1 sh1 r1 => by
    rw [RepL.of_vals (xs := [.str z]) r1]
    exact ⟨z, n, rfl, hz, hl, k _ G1 H1 g1 sh1 (.val _)⟩⟩
/-- c in z -/
theorem rs_inC {ch : Nat} {z : Str} : RS (fun x y H Q => ∃ (c : Nat) (z : Str), x = .str ⟨#[c]⟩ ∧ y = .str z ∧ Q (.bl (decide (c ∈ z.cps.toList))) H) (.str (S [ch])) (.str z) (.bl (decide (ch ∈ z.cps.toList))) := fun H Q q => ⟨ch, z, rfl, rfl, q⟩
theorem ov_none : OV X none ρ M none M := po_none.mono fun σ H Q ⟨G, sa, k⟩ => k G H (Same.refl G) sa.sh
theorem ov_some {i : Int} (h : EV X e ρ M (dI i) M1) : OV X (some e) ρ M (some i) M1 := (po_some h).mono fun σ H Q ⟨G, sa, k⟩ => ⟨G, sa, fun v G1 H1 g1 sh1 r1 => ⟨i, r1.of_val, k G1 H1 g1 sh1⟩⟩
theorem ev_sliceS {lo hi : Option Expr} {l : List Nat} {o1 o2 : Option Int} {p2 : Pos} (ha : EV X a ρ M (dS (S l)) M1) (h1 : OV X lo ρ M1 o1 M2) (h2 : OV X hi ρ M2 o2 M3) (hl : l.length ≤ 1000000) :
    EV X (.Subscript a (.Slice lo hi none p2) pos) ρ M (dS (S ((l.drop (HT.sIx l.length 0 o1)).take (HT.sIx l.length l.length o2 - HT.sIx l.length 0 o1)))) M3 :=
  (pe_slice sl_str ha h1 h2).mono fun σ H Q ⟨G, sa, k⟩ => ⟨G, sa, fun v G1 H1 g1 sh1 r1 => ⟨G1, ⟨sh1, sa.sl.up g1⟩, fun G2 H2 g2 sh2 => ⟨G2, ⟨sh2, (sa.sl.up g1).up g2⟩, fun G3 H3 g3 sh3 => by
    rw [r1.of_val]
    refine ⟨S l, rfl, by rw [S_len]; exact Nat.le_trans hl (by decide), ?_⟩
    have e : cutS (S l) o1 o2 = S ((l.drop (HT.sIx l.length 0 o1)).take (HT.sIx l.length l.length o2 - HT.sIx l.length 0 o1)) := by
      unfold cutS
      rw [S_list, S_len]
      rfl
    rw [e]
    exact k _ G3 H3 ((g1.trans g2).trans g3) sh3 (.val _)⟩⟩⟩
/-- a method of a text with texts as arguments -/
theorem ev_bmS {name : Str} {id : String} {r : V → List V → Hp → VK → Prop} {z : Str} {vs : List V} {y : V} {ap : Pos} (pa : PlainAttrs "str") (slot : Slot "str" name id) (hty : typeOf (.builtin id) = pure (.type "method_descriptor")) (hm : MtR X id r) (ho : EV X a ρ M (dS z) M1) (ha : AV X (e :: es) ρ M1 (vs.map D.val) M2)
    (hr : ∀ H Q, Q y H → r (.str z) vs H Q) (h1 : attributeBase a name X.env (eval a X.env) = eval a X.env := by rfl) (h3 : (ap.endLine == pos.line) = true := by decide) (h4 : starEach (e :: es) X.env = (false, eval e X.env) :: starEach es X.env := by rfl)
    (h2 : (((((backTo pos (starEach (e :: es) X.env)).all fun x => !x.fst) && (backToKw pos (keywordEach [] X.env)).all fun x => x.fst.isSome) && decide (((e :: es).length + ([] : List Keyword).length + if ([] : List Keyword).isEmpty = true then 0 else 1) < 30)) = true) := by rfl)
    (h5 : (((backTo pos (starEach es X.env)).any fun x => x.fst) = false) := by rfl) : EV X (.Call (.Attribute a name ap) (e :: es) [] pos) ρ M (.val y) M2 :=
  (pe_bm pa slot hty hm ho ha h1 h2 h3 h4 h5).mono fun σ H Q ⟨G, sa, k⟩ => ⟨G, sa, fun v1 G1 H1 g1 sh1 r1 => by
    rw [r1.of_val]
    refine ⟨(show tyV X.K "str" (.str z) H1 from rfl), G1, ⟨sh1, sa.sl.up g1⟩, fun vs' G2 H2 g2 sh2 r2 => ?_⟩
    rw [RepL.of_vals r2]
    exact hr H2 Q (k _ G2 H2 (g1.trans g2) sh2 (.val _))⟩
theorem drop_while (p : Nat → Bool) : ∀ l : List Nat, l.drop (l.takeWhile p).length = l.dropWhile p
  | [] => rfl
  | x :: l => by
    by_cases h : p x = true
    · rw [List.takeWhile_cons_of_pos h, List.dropWhile_cons_of_pos h]
      exact drop_while p l
    · rw [List.takeWhile_cons_of_neg h, List.dropWhile_cons_of_neg h]
      rfl
theorem lstripS (l m : List Nat) : Txt.lstripChars (S l) (S m) = S (l.dropWhile fun c => m.contains c) := by
  unfold Txt.lstripChars
  rw [PyProof.Rows.stripBy_eq]
  show (⟨(S l).cps.extract _ _⟩ : Str) = ⟨_⟩
  have e1 : (fun c => (S m).cps.contains c) = fun c => m.contains c := by
    funext c
    show m.toArray.contains c = _
    simp
  have e2 : stripLo (S m).cps.contains true (S l) = (l.takeWhile fun c => m.contains c).length := by
    simp only [stripLo, if_true]
    rw [show (S m).cps.contains = fun c => m.contains c from e1, S_list]
  have e3 : ∀ k, stripHi (S m).cps.contains false (S l) k = l.length := fun k => by
    simp only [stripHi, Bool.false_eq_true, if_false]
    exact S_len l
  rw [e2, e3]
  refine congrArg Str.mk ?_
  rw [← drop_while]
  show l.toArray.extract _ l.length = _
  rw [List.extract_toArray]
  simp [List.extract]
  exact List.take_of_length_le (by rw [List.length_drop]; exact Nat.le_refl _)
/-- z.lstrip(chars) -/
theorem ev_lstrip {l m : List Nat} {ap : Pos} (ho : EV X a ρ M (dS (S l)) M1) (ha : EV X e ρ M1 (dS (S m)) M2) (hl : l.length ≤ 1000000) (h1 : attributeBase a "lstrip" X.env (eval a X.env) = eval a X.env := by rfl) (h3 : (ap.endLine == pos.line) = true := by decide) (h4 : starEach [e] X.env = (false, eval e X.env) :: starEach [] X.env := by rfl)
    (h2 : (((((backTo pos (starEach [e] X.env)).all fun x => !x.fst) && (backToKw pos (keywordEach [] X.env)).all fun x => x.fst.isSome) && decide (([e].length + ([] : List Keyword).length + if ([] : List Keyword).isEmpty = true then 0 else 1) < 30)) = true) := by rfl)
    (h5 : (((backTo pos (starEach [] X.env)).any fun x => x.fst) = false) := by rfl) : EV X (.Call (.Attribute a "lstrip" ap) [e] [] pos) ρ M (dS (S (l.dropWhile fun c => m.contains c))) M2 :=
  ev_bmS (vs := [.str (S m)]) PySem.F.plainAttrs_str PySem.F.slot_str_lstrip PySem.F.type_str_lstrip mt_lstripChars ho (av_cons ha av_nil h4) (fun H Q q => ⟨S l, S m, rfl, rfl, by rw [S_len]; exact Nat.le_trans hl (by decide), by rw [lstripS]; exact q⟩) h1 h3 h4 h2 h5
theorem ev_find {z y : Str} {i : Int} {ap : Pos} (ho : EV X a ρ M (dS z) M1) (ha : EV X e ρ M1 (dS y) M2) (hi : Txt.find z y = i) (h1 : attributeBase a "find" X.env (eval a X.env) = eval a X.env := by rfl) (h3 : (ap.endLine == pos.line) = true := by decide) (h4 : starEach [e] X.env = (false, eval e X.env) :: starEach [] X.env := by rfl)
    (h2 : (((((backTo pos (starEach [e] X.env)).all fun x => !x.fst) && (backToKw pos (keywordEach [] X.env)).all fun x => x.fst.isSome) && decide (([e].length + ([] : List Keyword).length + if ([] : List Keyword).isEmpty = true then 0 else 1) < 30)) = true) := by rfl)
    (h5 : (((backTo pos (starEach [] X.env)).any fun x => x.fst) = false) := by rfl) : EV X (.Call (.Attribute a "find" ap) [e] [] pos) ρ M (dI i) M2 :=
  ev_bmS (vs := [.str y]) PySem.F.plainAttrs_str PySem.F.slot_str_find PySem.F.type_str_find mt_find ho (av_cons ha av_nil h4) (fun H Q q => ⟨z, y, rfl, rfl, by rw [hi]; exact q⟩) h1 h3 h4 h2 h5
theorem ev_count {z y : Str} {i : Int} {ap : Pos} (ho : EV X a ρ M (dS z) M1) (ha : EV X e ρ M1 (dS y) M2) (hi : Txt.count z y = i) (h1 : attributeBase a "count" X.env (eval a X.env) = eval a X.env := by rfl) (h3 : (ap.endLine == pos.line) = true := by decide) (h4 : starEach [e] X.env = (false, eval e X.env) :: starEach [] X.env := by rfl)
    (h2 : (((((backTo pos (starEach [e] X.env)).all fun x => !x.fst) && (backToKw pos (keywordEach [] X.env)).all fun x => x.fst.isSome) && decide (([e].length + ([] : List Keyword).length + if ([] : List Keyword).isEmpty = true then 0 else 1) < 30)) = true) := by rfl)
    (h5 : (((backTo pos (starEach [] X.env)).any fun x => x.fst) = false) := by rfl) : EV X (.Call (.Attribute a "count" ap) [e] [] pos) ρ M (dI i) M2 :=
  ev_bmS (vs := [.str y]) PySem.F.plainAttrs_str PySem.F.slot_str_count PySem.F.type_str_count mt_count ho (av_cons ha av_nil h4) (fun H Q q => ⟨z, y, rfl, rfl, by rw [hi]; exact q⟩) h1 h3 h4 h2 h5
theorem JW.str {K : PySem.W.Frag} {l : List Nat} {G : Hp} : JW K (Its (S l)) G (l.map fun c => dS (S [c])) := fun i H e => ⟨fun d h => by
    rw [List.getElem?_map] at h
    cases q : l[i]? with
    | none => rw [q] at h; cases h
    | some c =>
      rw [q] at h
      cases h
      refine ⟨?_, fun x H' ⟨e1, c', e2, e3⟩ => ⟨e1, ?_⟩⟩
      · show i < l.toArray.size
        have := (List.getElem?_eq_some_iff.mp q).1
        simpa using this
      · have e4 : l.toArray[i]? = some c' := e2
        rw [List.getElem?_toArray, q] at e4
        cases e4
        rw [e3]
        exact .val _, fun h => by
    show l.toArray.size ≤ i
    rw [List.length_map] at h
    simpa using h⟩
theorem iv_str {tg : Expr} {l : List Nat} (h : EV X e ρ M (dS (S l)) M1) : IV X tg e ρ M (l.map fun c => dS (S [c])) M1 :=
  (pi_str h).mono fun σ H R ⟨G, sa, k⟩ => ⟨G, sa, fun v G1 H1 g1 sh1 r1 => ⟨S l, r1.of_val, k _ G1 H1 g1 sh1 JW.str⟩⟩
/-- a <= b <= c of ints -/
theorem tv_chain {op op' : CmpOp} {g g' : Int → Int → Bool} {i j k : Int} (ho : OpR X (compareOp op) (rI0 fun i j => .bl (g i j))) (ho' : OpR X (compareOp op') (rI0 fun i j => .bl (g' i j))) (ha : EV X a ρ M (dI i) M1) (hb : EV X b ρ M1 (dI j) M2) (hc : EV X c ρ M2 (dI k) M2) (hm : lastMarks [op, op'] [b, c] = false := by rfl) :
    TV X (.Compare a [op, op'] [b, c] pos) ρ M (g i j && g' j k) M2 :=
  (pt_chain ho ho' ha hb hc hm).mono fun σ H Q ⟨G, sa, kk⟩ => ⟨G, sa, fun v1 G1 H1 g1 sh1 r1 => ⟨G1, ⟨sh1, sa.sl.up g1⟩, fun v2 G2 H2 g2 sh2 r2 => by
    rw [r1.of_val, r2.of_val]
    refine ⟨i, j, rfl, rfl, g i j, rfl, ?_⟩
    cases q : g i j with
    | true =>
      rw [if_pos rfl]
      refine ⟨G2, ⟨sh2, (sa.sl.up g1).up g2⟩, fun v3 G3 H3 g3 sh3 r3 => ?_⟩
      rw [r3.of_val]
      rw [q] at kk
      exact ⟨j, k, rfl, rfl, _, rfl, kk G3 H3 ((g1.trans g2).trans g3) sh3⟩
    | false =>
      rw [if_neg Bool.false_ne_true]
      rw [q] at kk
      exact ⟨_, rfl, kk G2 H2 (g1.trans g2) sh2⟩⟩⟩
theorem ev_chain {op op' : CmpOp} {g g' : Int → Int → Bool} {i j k : Int} (ho : OpR X (compareOp op) (rI0 fun i j => .bl (g i j))) (ho' : OpR X (compareOp op') (rI0 fun i j => .bl (g' i j))) (ha : EV X a ρ M (dI i) M1) (hb : EV X b ρ M1 (dI j) M2) (hc : EV X c ρ M2 (dI k) M2) (hm : lastMarks [op, op'] [b, c] = false := by rfl) :
    EV X (.Compare a [op, op'] [b, c] pos) ρ M (dB (g i j && g' j k)) M2 :=
  (pe_chain ho ho' ha hb hc hm).mono fun σ H Q ⟨G, sa, kk⟩ => ⟨G, sa, fun v1 G1 H1 g1 sh1 r1 => ⟨G1, ⟨sh1, sa.sl.up g1⟩, fun v2 G2 H2 g2 sh2 r2 => by
    rw [r1.of_val, r2.of_val]
    refine ⟨i, j, rfl, rfl, g i j, rfl, ?_⟩
    cases q : g i j with
    | true =>
      rw [if_pos rfl]
      refine ⟨G2, ⟨sh2, (sa.sl.up g1).up g2⟩, fun v3 G3 H3 g3 sh3 r3 => ?_⟩
      rw [r3.of_val]
      rw [q] at kk
      exact ⟨j, k, rfl, rfl, kk _ G3 H3 ((g1.trans g2).trans g3) sh3 (.val _)⟩
    | false =>
      rw [if_neg Bool.false_ne_true]
      rw [q] at kk
      exact kk _ G2 H2 (g1.trans g2) sh2 (.val _)⟩⟩
/-- isinstance(a, (list, tuple)) -/
theorem ev_isi2 {x y : Str} {T1 T2 t : String} {r1 r2 : Bool} {p p2 p3 p4 : Pos} {k1 : Nat} (hm : X.mg "isinstance" = none) (hT1 : X.mg x = none) (hv1 : bootBuiltins x = some (.type T1)) (hT2 : X.mg y = none) (hv2 : bootBuiltins y = some (.type T2)) (ha : EV X a ρ M d M1) (ht : tyD d = some t) (hk1 : kitB t T1 = some r1) (hk2 : kitB t T2 = some r2)
    (hg : Gl X "isinstance" := by rfl) (hg1 : Gl X x := by rfl) (hg2 : Gl X y := by rfl) (hn1 : x ≠ "__name__" := by decide) (hd1 : (x == ("__debug__" : Str)) = false := by decide) (hn2 : y ≠ "__name__" := by decide) (hd2 : (y == ("__debug__" : Str)) = false := by decide)
    (s1 : starEach [a, .Tuple [.Name x p2, .Name y p3] k1 p4] X.env = (false, eval a X.env) :: starEach [.Tuple [.Name x p2, .Name y p3] k1 p4] X.env := by rfl) (s2 : starEach [.Tuple [.Name x p2, .Name y p3] k1 p4] X.env = (false, eval (.Tuple [.Name x p2, .Name y p3] k1 p4) X.env) :: starEach [] X.env := by rfl)
    (s3 : starEach [.Name x p2, .Name y p3] X.env = (false, eval (.Name x p2) X.env) :: starEach [.Name y p3] X.env := by rfl) (s4 : starEach [.Name y p3] X.env = (false, eval (.Name y p3) X.env) :: starEach [] X.env := by rfl)
    (hpl : (backTo pos (starEach [.Tuple [.Name x p2, .Name y p3] k1 p4] X.env)).any (·.1) = false := by rfl) :
    EV X (.Call (.Name "isinstance" p) [a, .Tuple [.Name x p2, .Name y p3] k1 p4] [] pos) ρ M (dB (r1 || r2)) M1 :=
  (pe_callB call_isiT hg hm boot_isinstance (pa_cons ha (pa_cons (pe_tup (pa_cons (pe_bltn (v := .ty T1) hg1 hT1 hv1 rfl hn1 hd1) (pa_cons (pe_bltn (v := .ty T2) hg2 hT2 hv2 rfl hn2 hd2) pa_nil s4) s3)) pa_nil s2) s1) (hpl := hpl) (he := s1)).mono fun σ H Q ⟨G, sa, k⟩ => ⟨G, sa, fun v1 G1 H1 g1 sh1 rr => ⟨by show 2 ≤ sizeLine; decide, fun q hq => by
    obtain ⟨sh2, g2⟩ := sh1.new (o := .tup [.ty T1, .ty T2]) hq
    refine ⟨v1, q, _, .type t, [.type T1, .type T2], r1 || r2, rfl, upd_same, .cons (.ty T1) (.cons (.ty T2) .nil), tyx_of sh2.le (rr.up g2) ht, kitAny_cons (kit_ty hk1) (fun e => ?_) (fun e => ?_), k _ _ _ (g1.trans g2) sh2 (.val _)⟩
    · subst e
      exact kitAny_cons (kit_ty hk2) (fun e => by subst e; exact kitAny_nil) (fun e => by rw [e]; rfl)
    · rw [e]; rfl⟩⟩
/-- code that is not come to -/
theorem sv_never {st : Stmt} (h : False) : SV X st ρ M Ψ := h.elim
end
/-! ### tuples of ints that stand at the top -/
theorem kVals {ns : List Int} {its : List Value} (h : Vals (ns.map V.int) its) : Vals (ns.map V.int) its := h
theorem rep_kT {K : PySem.W.Frag} {G : Hp} {a : Addr} {o : Obj} {its : Array Value} {n : Nat} {ns : List Int} (hk : K.lookup a = some o) (hc : o.cls = .type "tuple") (hd : o.data = .seq its n) (hz : its.size ≤ sizeLine) (hv : Vals (ns.map V.int) its.toList) : Rep K G (.ref a) (.tup (ns.map dI)) := by
  refine .tup (.inr ⟨o, its, n, hk, hc, hd, hz, hv⟩) ?_
  have e := RepL.vals (K := K) (G := G) (ns.map V.int)
  rw [List.map_map] at e
  exact e
/-! ### further rules: in, is not None, truth of a list, += -/
section
variable {X : Cx} {ρ : Sl} {M M1 M2 M3 : Mem} {a b c e : Expr} {es : List Expr} {d d1 d2 : D} {ds : List D} {pos : Pos} {Ψ : Out → Prop}
theorem ev_inT {x : V} {xs : List V} (ha : EV X a ρ M (.val x) M1) (hb : EV X b ρ M1 (.tup (xs.map D.val)) M2) (fx : flatV x = true) (fs : xs.all flatV = true) (hm : behindInMarks .In b = false) : EV X (.Compare a [.In] [b] pos) ρ M (dB (inV x xs)) M2 :=
  (pe_cmpR op_in_seq ha hb hm).mono fun σ H Q ⟨G, sa, k⟩ => ⟨G, sa, fun v1 G1 H1 g1 sh1 r1 => ⟨G1, ⟨sh1, sa.sl.up g1⟩, fun v2 G2 H2 g2 sh2 r2 => by
    rw [r1.of_val]
    cases r2 with
    | tup q r =>
      rw [RepL.of_vals r] at q
      exact ⟨_, xs, rfl, .inr (sqtUp sh2.le q), fx, fs, k _ G2 H2 (g1.trans g2) sh2 (.val _)⟩⟩⟩
theorem tv_lstM {p : Addr} (ha : EV X e ρ M (dP p) M1) (h : M1 p = some (.lst ds)) (he : ∀ whole, isTrue e X.env whole = (do let v ← whole; standAt e.pos; holding [v] (truthy v)) := by intro _; rfl) : TV X e ρ M (!ds.isEmpty) M1 :=
  (pt_truth ha he).mono fun σ H Q ⟨G, sa, k⟩ => ⟨G, sa, fun v1 G1 H1 g1 sh1 r1 => by
    obtain ⟨_, vs, hv, r⟩ := sh1.mem p _ h
    rw [r1.of_val]
    refine ⟨_, .inl ⟨vs, .inl (.inl hv), rfl⟩, ?_⟩
    have e1 : (!vs.isEmpty) = !ds.isEmpty := by
      have := r.len
      cases vs <;> cases ds <;> first | rfl | cases this
    rw [e1]
    exact k G1 H1 g1 sh1⟩
theorem tv_notN {j} {v : V} {p2 : Pos} (ha : EV X a ρ M (.val v) M1) : TV X (.Compare a [.IsNot] [.Constant .none j p2] pos) ρ M (!decide (v = .non)) M1 :=
  (pt_cmp (pc_notN ha)).mono fun σ H Q ⟨G, sa, k⟩ => ⟨G, sa, fun v1 G1 H1 g1 sh1 r1 => by rw [r1.of_val]; exact ⟨_, rfl, k G1 H1 g1 sh1⟩⟩
theorem tv_notND {j} {p2 : Pos} (ha : EV X a ρ M (.tup ds) M1) : TV X (.Compare a [.IsNot] [.Constant .none j p2] pos) ρ M true M1 :=
  (pt_cmp (pc_notN ha)).mono fun σ H Q ⟨G, sa, k⟩ => ⟨G, sa, fun v1 G1 H1 g1 sh1 r1 => by
    cases r1 with
    | tup q r => exact ⟨_, by rw [decide_eq_false (fun h => V.noConfusion h)]; rfl, k G1 H1 g1 sh1⟩⟩
theorem sv_augI (i : Nat) {x : Str} {n m : Int} {pos' : Pos} (hN : X.N.Nodup) (h0 : ρ[i]? = some (some (dI n))) (he : EV X e ρ M (dI m) M1) (hΨ : Ψ (.nx (ρ.set i (some (dI (n + m)))) M1)) (hi : X.N[i]? = some x := by rfl) (hx : L2.Loc X.env.scope x := by first | exact Or.inl rfl | exact Or.inr rfl)
    (hf : X.fn x = true ∨ X.env.scope.names.lookup x = some .local := by first | exact .inl rfl | exact .inr rfl) : SV X (.AugAssign (.Name x pos') .Add e pos) ρ M Ψ :=
  (ps_aug hN hi hx he ip_add hf).mono fun E σ H ⟨G, sa, k⟩ => by
    obtain ⟨v, e1, r⟩ := sa.sl.2 i _ h0
    refine ⟨v, e1, G, sa, fun y G1 H1 g1 sh1 r1 => ?_⟩
    rw [r.of_val, r1.of_val]
    exact ⟨n, m, rfl, rfl, k _ hΨ _ G1 H1 g1 ⟨sh1, (sa.sl.up g1).set i (.val _)⟩⟩
end
/-! ### try with clauses of all forms that the laws have: tuples of classes that do not match, a class as a name -/
inductive HD where
  | skip (cs : List Value)
  | as (c : Value) (i : Nat) (ts : Addr → Value → Option Addr → TS)
def wG (K : PySem.W.Frag) (Wout : WX) (D : Ends) : List HD → WX
  | [] => Wout
  | .skip cs :: r => fun cls d σ H => PySem.W.exmAny K cls cs = some false ∧ wG K Wout D r cls d σ H
  | .as c i ts :: r => fun cls d σ H => ∃ b, PySem.W.exmOne K cls c = some b ∧ (b = true → ∀ a, H a = none → ts a cls d { nx := fun σ' H' => D.nx (σ'.set i none) H', rt := D.rt, bk := fun σ' H' => D.bk (σ'.set i none) H', ct := fun σ' H' => D.ct (σ'.set i none) H' } (σ.set i (some (.ref a))) H) ∧
      (b = false → wG K Wout D r cls d σ H)
inductive HdsG (X : Cx) : List ExceptHandler → List HD → Prop
  | nil : HdsG X [] []
  | skip2 {x y : Str} {c1 c2 : Value} {b₀ : Stmt} {suite : List Stmt} {p1 p2 p3 pos' : Pos} {kk : Nat} {nm : Option Str} {hds : List ExceptHandler} {l : List HD} (h1 : Names X x c1) (h2 : Names X y c2) (r : HdsG X hds l) :
      HdsG X (.ExceptHandler (some (.Tuple [.Name x p1, .Name y p2] kk p3)) nm (b₀ :: suite) pos' :: hds) (.skip [c1, c2] :: l)
  | as {x n : Str} {c : Value} {i : Nat} {ts : Addr → Value → Option Addr → TS} {b₀ : Stmt} {suite : List Stmt} {np pos' : Pos} {hds : List ExceptHandler} {l : List HD} (hc : Names X x c) (hN : X.N.Nodup) (hi : X.N[i]? = some n) (hln : X.env.kindOf n = some .local)
      (hsu : ∀ (a : Addr) (oe : Obj) (cls : Value) (d : Option Addr) (pn : List (Addr × Obj)), Zc cls d oe → (∃ vs, oe.data = .fields vs) → PSs (X.suite a ((a, oe) :: pn)) (b₀ :: suite) (ts a cls d)) (r : HdsG X hds l) :
      HdsG X (.ExceptHandler (some (.Name x np)) (some n) (b₀ :: suite) pos' :: hds) (.as c i ts :: l)
theorem fly_keeps {base h h' : Heap} {l : List Env} {e : Addr} {Z : Obj → Prop} (R : HandSPX.FlyingZ base l e Z h) (k : ∀ b o, h.get? b = some o → h'.get? b = some o) : HandSPX.FlyingZ base l e Z h' := by
  obtain ⟨f1, f2, f3, oe, ws, T, oT, ts, he, hz, hd, h1, hn, hne, hT, hdT, h3⟩ := R
  exact ⟨fun b o q => k b o (f1 b o q), f2, f3.of_keeps fun b o q _ => ⟨o, k b o q, rfl⟩, oe, ws, T, oT, ts, k _ _ he, hz, hd, h1, hn, hne, k _ _ hT, hdT, h3⟩
section
variable {X : Cx} {body : List Stmt} {h₀ : ExceptHandler} {hds : List ExceptHandler} {l : List HD} {pos : Pos} {tb : WX → TS} {Wout : WX}
theorem ps_try_g (hs : X.stack = X.env :: X.outer) (hf : X.env.frame = some X.env.locals) (tk : Takes X Wout)
    (hb : ∀ (W : WX) (pn : List (Addr × Obj)) (xe : Value → Shared → Prop), Takes (X.tr pn xe) W → PassesOwn (model X.prog X.w) X.A X.env xe → PSs (X.tr pn xe) body (tb W))
    (hh : HdsG X (h₀ :: hds) l) : PS X (.Try body (h₀ :: hds) [] [] pos) (fun D σ H => tb (wG X.K Wout D l) D σ H) := by
  refine ⟨fun pins s σ H D I h => ?_⟩
  have ok := I.ok
  have hfr : X.A.frames = some (X.env :: X.outer) := by rw [ok.frames, hs]
  refine wpAny_Try_except ?_
  refine wpAny_mono ((hb (wG X.K Wout D l) (X.pn ++ pins) (fun e s₁ => wpAny (model X.prog X.w) X.A (noteFrame e X.env) (fun _ s₂ => wpAny (model X.prog X.w) X.A (setFlight e none) (fun _ s₃ =>
    wpAny (model X.prog X.w) X.A (handleBy e X.env (h₀ :: hds)) (SP X pins D) X.xe s₃) X.xe s₂) X.xe s₁) (fun u s' xx => ?_) PassesOwn.looking).run [] s σ H D (I.toTry _) h) (fun f s1 hsp => ?_) (fun e s1 he => he)
  · obtain ⟨a, B, sI, pins', σ', H', cls, d, rfl, J', nb, up, sky, na, os, ag, w⟩ := xx
    have J : Inv X pins σ' H' sI := J'.ofTry ok
    have sky' : Sky B (X.env :: X.outer) a (Zc cls d) X.env.locals s'.heap := by rw [← hs]; exact sky
    show wpAny (model X.prog X.w) X.A (noteFrame (.ref a) X.env) _ _ _
    refine Sky.land Zc.steady hfr hf sky' fun h3 fl3 up3 => ?_
    have go : ∀ {hds' : List ExceptHandler} {l' : List HD}, HdsG X hds' l' → wG X.K Wout D l' cls d σ' H' → ∀ h3, HandSPX.FlyingZ B (X.env :: X.outer) a (Zc cls d) h3 → s'.heap.UpToSlots h3 →
        wpAny (model X.prog X.w) X.A (handleBy (.ref a) X.env hds') (SP X pins D) X.xe { s' with heap := h3 } := by
      intro hds' l' hk
      have notFr : ∀ {h : Heap} {o : Obj} {vs : Array Value}, h.FunFrames B (X.env :: X.outer) → h.get? a = some o → o.data = .fields vs → a ∉ frs (X.env :: X.outer) := fun {h o vs} ff e dd hm => by
        obtain ⟨_, o', e', hnf⟩ := ff.mem hm
        rw [e] at e'; cases e'
        exact hnf _ dd
      have pre : ∀ h3, HandSPX.FlyingZ B (X.env :: X.outer) a (Zc cls d) h3 → s'.heap.UpToSlots h3 → ∃ oe3 vs3, h3.get? a = some oe3 ∧ Zc cls d oe3 ∧ oe3.data = .fields vs3 ∧ a ≠ X.env.locals ∧ a ∉ X.fs ∧ Inv X pins σ' H' { s' with heap := h3 } := fun h3 fl3 up3 => by
        have J3 : Inv X pins σ' H' { s' with heap := h3 } := J.landed nb fl3.1 (up.trans up3) os ag
        obtain ⟨oe3, vs3, he3, hz3, hd3⟩ := fl3.there
        have nfr := notFr fl3.2.2.1 he3 hd3
        refine ⟨oe3, vs3, he3, hz3, hd3, fun z => nfr (List.mem_filterMap.mpr ⟨X.env, List.mem_cons_self, by rw [hf, z]⟩), fun hm => ?_, J3⟩
        obtain ⟨e, he, q⟩ := List.mem_filterMap.mp hm
        exact nfr (List.mem_filterMap.mpr ⟨e, List.mem_cons_of_mem _ he, q⟩)
      have test : ∀ {x : Str} {c : Value} {np : Pos}, Names X x c → ∀ h3, HandSPX.FlyingZ B (X.env :: X.outer) a (Zc cls d) h3 → s'.heap.UpToSlots h3 → ∀ {Q : Value → Shared → Prop} {E : Value → Shared → Prop}, Q c { s' with heap := h3 } → wpAny (model X.prog X.w) (X.A.mark (some (.ref a))) (eval (.Name x np) X.env) Q E { s' with heap := h3 } := fun {x c np} hc h3 fl3 up3 {Q E} q => by
        obtain ⟨oe3, vs3, he3, hz3, hd3, nL, nF, J3⟩ := pre h3 fl3 up3
        have S3 := J3.suite he3 hd3 na nL nF
        obtain ⟨hg, hdbg, hm | ⟨hm, hv, hnn⟩⟩ := hc
        · exact ld_glob (X := X.suite a ((a, oe3) :: (X.pn ++ pins))) S3 hg hm q hdbg
        · exact ld_blt (X := X.suite a ((a, oe3) :: (X.pn ++ pins))) S3 hg hm hv q hnn hdbg
      induction hk with
      | nil =>
        intro w h3 fl3 up3
        obtain ⟨oe3, vs3, he3, hz3, hd3, nL, nF, J3⟩ := pre h3 fl3 up3
        refine wpAny_handleBy_nil ?_
        obtain ⟨k1, k2, k3, oe, vs, T, oT, ts', he, hz, hd, h1, hr⟩ := id fl3
        unfold PySem.passOn
        refine wpAny_bind (wpAny_field he hd h1 ?_)
        rw [if_neg (show ¬ ((Value.ref T == Value.none) = true) from by simp)]
        have fin : wpAny (model X.prog X.w) X.A (setFlight (.ref a) X.env.frame) (fun _ s4 => wpAny (model X.prog X.w) X.A (throw (.ref a) : Sem Flow) (SP X pins D) X.xe s4) X.xe { s' with heap := h3 } := by
          rw [hf]
          refine HandSPX.setFlight_upZ fl3 fun h4 hh4 up4 => wpAny_throw (tk _ _ ?_)
          exact ⟨a, B, sI, pins, σ', H', cls, d, rfl, J, nb, (up.trans up3).trans up4, .inr (.inr (by rw [hs]; exact hh4)), na, os, ag, w⟩
        first
          | exact wpAny_bind (wpAny_pure (wpAny_bind fin))
          | exact wpAny_bind fin
      | skip2 h1 h2 r ih =>
        intro w h3 fl3 up3
        obtain ⟨he, w⟩ := w
        obtain ⟨oe3, vs3, he3, hz3, hd3, nL, nF, J3⟩ := pre h3 fl3 up3
        have LT : PySem.W.Looks (model X.prog X.w) h3 (typeOf (.ref a)) cls := fun A Q E s k q => wpAny_typeOf_ref (k _ _ he3) (by rw [hz3.1]; exact q)
        refine wpAny_handleBy_cons (codeAny_handlers_test ?_) (by intro q; cases q)
        refine wpAny_Tuple ?_
        refine wpAny_items_cons (test h1 h3 fl3 up3 ?_)
        refine wpAny_items_cons (test h2 h3 fl3 up3 ?_)
        refine wpAny_items_nil ⟨by size_fits, ?_⟩
        rename_i c1 c2 _ _ _ _ _ _ _ _ _ _
        have kp : ∀ q o, h3.get? q = some o → (h3.push { cls := .type "tuple", data := .seq [c1, c2].toArray }).get? q = some o := fun _ _ z => Heap.get?_push_of_some _ z
        exact (PySem.W.exm_tup2 (M := model X.prog X.w) ((J3.kIn).keeps kp) (LT.keeps kp) (Heap.get?_push_size h3 rfl) he).here (ih w _ (fly_keeps fl3 kp) (up3.trans (Heap.UpToSlots.of_keeps kp)))
      | @as x n c i ts b₀ suite np pos' hds2 l2 hc hN hi hln hsu r ih =>
        intro w h3 fl3 up3
        obtain ⟨b, hb1, hyes, hno⟩ := w
        obtain ⟨oe3, vs3, he3, hz3, hd3, nL, nF, J3⟩ := pre h3 fl3 up3
        have LT : PySem.W.Looks (model X.prog X.w) h3 (typeOf (.ref a)) cls := fun A Q E s k q => wpAny_typeOf_ref (k _ _ he3) (by rw [hz3.1]; exact q)
        refine wpAny_handleBy_cons (codeAny_handlers_test ?_) (by intro q; cases q)
        have LM := PySem.W.exm_one (M := model X.prog X.w) (J3.kIn) LT hb1
        refine test hc h3 fl3 up3 (LM.here ?_)
        cases b with
        | true =>
          refine codeAny_handlers_suite_as ?_
          refine HandSPX.lands_againZ fl3 fun h4 fl4 up4 => ?_
          have J4 : Inv X pins σ' H' { s' with heap := h4 } := J.landed nb fl4.1 ((up.trans up3).trans up4) os ag
          obtain ⟨oe4, vs4, he4, hz4, hd4⟩ := fl4.there
          have S4 := J4.suite he4 hd4 na nL nF
          refine store_ok (X := X.suite a ((a, oe4) :: (X.pn ++ pins))) (v := .ref a) S4 hN hi (.inl hln) rfl (fun s5 S5 => ?_) (.inr hln)
          refine wpAny_mono ((hsu a oe4 cls d (X.pn ++ pins) hz4 ⟨_, hd4⟩).run [] s5 _ H' _ S5 (hyes rfl a na)) (fun f s6 hsp => ?_) (fun _ _ z => False.elim z)
          have end_ : ∀ {σ6 : L2.St} {H6 : Hp} {Q : Shared → Prop}, Inv (X.suite a ((a, oe4) :: (X.pn ++ pins))) [] σ6 H6 s6 → (∀ s7, Inv X pins (σ6.set i none) H6 s7 → Q s7) →
              wpAny (model X.prog X.w) X.A (do bindName X.env n .none; unbindBehindTheSuite X.env n pos') (fun _ s7 => Q s7) X.xe s6 := fun {σ6 H6 Q} S6 hq => gone_ok (S6.unsuite ok) hN hi hln hq
          cases f with
          | next =>
            obtain ⟨σ6, H6, S6, q6⟩ := hsp
            exact end_ S6 fun s7 J7 => ⟨_, _, J7, q6⟩
          | brk =>
            obtain ⟨σ6, H6, S6, q6⟩ := hsp
            exact end_ S6 fun s7 J7 => ⟨_, _, J7, q6⟩
          | cont =>
            obtain ⟨σ6, H6, S6, q6⟩ := hsp
            exact end_ S6 fun s7 J7 => ⟨_, _, J7, q6⟩
          | ret u =>
            obtain ⟨v6, σ6, H6, S6, r6, q6⟩ := hsp
            exact end_ S6 fun s7 J7 => ⟨_, _, _, J7, r6, q6⟩
        | false =>
          show wpAny _ X.A (handleBy (.ref a) X.env hds2) _ _ _
          exact ih (hno rfl) h3 fl3 up3
    exact go hh w h3 fl3 up3
  · cases f with
    | next =>
      obtain ⟨σ', H', J', q⟩ := hsp
      exact wpAny_execs_nil ⟨σ', H', J'.ofTry ok, q⟩
    | brk =>
      obtain ⟨σ', H', J', q⟩ := hsp
      exact ⟨σ', H', J'.ofTry ok, q⟩
    | cont =>
      obtain ⟨σ', H', J', q⟩ := hsp
      exact ⟨σ', H', J'.ofTry ok, q⟩
    | ret u =>
      obtain ⟨v, σ', H', J', r, q⟩ := hsp
      exact ⟨v, σ', H', J'.ofTry ok, r, q⟩
end
/-! ### what raises: an exception of a class of the program, made without a dict -/
def tX (K : PySem.W.Frag) (W : WX) (ρ : Sl) (M : Mem) (cls : Value) (ρ' : Sl) (M' : Mem) : L2.St → Hp → Prop := fun σ H => ∃ G, SA K G H σ ρ M ∧ ∀ G' H' σ', Same G G' → SA K G' H' σ' ρ' M' → W cls none σ' H'
abbrev EX (X : Cx) (W : WX) (e : Expr) (ρ : Sl) (M : Mem) (cls : Value) (M' : Mem) : Prop := PE X e (fun σ H _ => tX X.K W ρ M cls ρ M' σ H)
abbrev SX (X : Cx) (W : WX) (st : Stmt) (ρ : Sl) (M : Mem) (cls : Value) (ρ' : Sl) (M' : Mem) : Prop := PS X st (fun _ σ H => tX X.K W ρ M cls ρ' M' σ H)
abbrev BX (X : Cx) (W : WX) (sts : List Stmt) (ρ : Sl) (M : Mem) (cls : Value) (ρ' : Sl) (M' : Mem) : Prop := PSs X sts (fun _ σ H => tX X.K W ρ M cls ρ' M' σ H)
def spX (K : PySem.W.Frag) (R : List D → Mem → Value → Mem → Prop) : Sp := fun vs H _ E => ∃ G ds M cls M', SH K G H M ∧ RepL K G vs ds ∧ R ds M cls M' ∧ ∀ G' H', Same G G' → SH K G' H' M' → E cls none H'
structure CalX (P : Program) (w : World) (K : PySem.W.Frag) (mg : Str → Option Value) (base : Heap) (k : Nat) (x : Str) (sp : Sp) : Prop where
  ex : ∃ f fd ps, mg x = some (.ref f) ∧ PySem.W.keepIn K (.ref f) = true ∧ Binds K fd ps [] ∧ FnOk P w K mg base (L2.CX P w) k f fd ps sp
section
variable {X : Cx} {W : WX} {ρ ρ1 ρ' : Sl} {M M1 M2 M' : Mem} {a b c e : Expr} {es : List Expr} {d : D} {ds : List D} {pos : Pos} {cls : Value} {st : Stmt} {rest : List Stmt} {Ψ : Out → Prop}
theorem ex_call {k : Nat} {x : Str} {R : List D → Mem → Value → Mem → Prop} {p : Pos} (C : CalX X.prog X.w X.K X.mg X.base k x (spX X.K R)) (tk : Takes X W) (hr : Room k X.A) (ha : AV X (e :: es) ρ M ds M1) (hp : R ds M1 cls M2) (hg : Gl X x := by rfl)
    (hd : (x == ("__debug__" : Str)) = false := by decide) (hst : starEach (e :: es) X.env = (false, eval e X.env) :: starEach es X.env := by rfl) (hpl : (backTo pos (starEach es X.env)).any (·.1) = false := by rfl) : EX X W (.Call (.Name x p) (e :: es) [] pos) ρ M cls M2 := by
  obtain ⟨f, fd, ps, hm, hk, hb, F⟩ := C.ex
  refine (pe_callS (E := WE W) F hr hg hm hk hb (passAt tk) ha (hdb := hd) (he := hst) (hpl := hpl)).mono fun σ H Q ⟨G, sa, k⟩ => ⟨G, sa, fun vs G1 H1 g1 sh1 r1 => ?_⟩
  exact ⟨G1, ds, M1, cls, M2, sh1, r1, hp, fun G' H' g sh => k G' H' σ (g1.trans g) ⟨sh, (sa.sl.up g1).up g⟩⟩
/-- a op b, a raises -/
theorem ex_opL {op : Operator} {r : R2} (ho : OpR X (binaryOp op) r) (ha : EX X W a ρ M cls M') : EX X W (.BinOp a op b pos) ρ M cls M' :=
  (pe_op (tb := fun _ _ _ => False) ho ha ⟨fun _ _ _ _ _ _ h => h.elim⟩).mono fun _ _ _ h => h
/-- f(a), a raises, f a def of the program -/
theorem ex_arg {k : Nat} {x : Str} {sp : Sp} {p : Pos} (C : Cal X.prog X.w X.K X.mg X.base k x sp) (hr : Room k X.A) (ha : EX X W e ρ M cls M') (hg : Gl X x := by rfl)
    (hd : (x == ("__debug__" : Str)) = false := by decide) (hst : starEach [e] X.env = (false, eval e X.env) :: starEach [] X.env := by rfl) (hpl : (backTo pos (starEach [] X.env)).any (·.1) = false := by rfl) : EX X W (.Call (.Name x p) [e] [] pos) ρ M cls M' := by
  obtain ⟨f, fd, ps, hm, hk, hb, F⟩ := C.ex
  exact (pe_call F hr hg hm hk hb .nil pass0 (pa_cons ha pa_nil hst) (hdb := hd) (he := hst) (hpl := hpl)).mono fun σ H Q h => h
theorem sx_set (i : Nat) {x : Str} {pos' : Pos} (hN : X.N.Nodup) (he : EX X W e ρ M cls M') (hi : X.N[i]? = some x := by rfl) (hx : L2.Loc X.env.scope x := by first | exact Or.inl rfl | exact Or.inr rfl) (hs : swapsWith e (some (.Name x pos')) pos.line X.env = pure false := by rfl)
    (hf : X.fn x = true ∨ X.env.scope.names.lookup x = some .local := by first | exact .inl rfl | exact .inr rfl) : SX X W (.Assign [.Name x pos'] e pos) ρ M cls ρ M' :=
  (ps_set hN hi hx he hs hf).mono fun _ _ _ h => h
theorem sx_ret (he : EX X W e ρ M cls M') : SX X W (.Return (some e) pos) ρ M cls ρ M' := (ps_ret he).mono fun _ _ _ h => h
theorem sx_ifT {as bs : List Stmt} (hc : TV X c ρ M true M1) (ha : BX X W as ρ M1 cls ρ' M') : SX X W (.If c as bs pos) ρ M cls ρ' M' :=
  (ps_if (u := fun _ _ _ => False) hc ha ⟨fun _ _ _ _ _ _ h => h.elim⟩).mono fun E σ H ⟨G, sa, k⟩ => ⟨G, sa, fun G1 H1 g1 sh1 => (⟨G1, ⟨sh1, sa.sl.up g1⟩, fun G' H' σ' g q => k G' H' σ' (g1.trans g) q⟩ : tX _ _ _ _ _ _ _ σ H1)⟩
theorem sx_ifF {as bs : List Stmt} (hc : TV X c ρ M false M1) (hb : BX X W bs ρ M1 cls ρ' M') : SX X W (.If c as bs pos) ρ M cls ρ' M' :=
  (ps_if (t := fun _ _ _ => False) hc ⟨fun _ _ _ _ _ _ h => h.elim⟩ hb).mono fun E σ H ⟨G, sa, k⟩ => ⟨G, sa, fun G1 H1 g1 sh1 => (⟨G1, ⟨sh1, sa.sl.up g1⟩, fun G' H' σ' g q => k G' H' σ' (g1.trans g) q⟩ : tX _ _ _ _ _ _ _ σ H1)⟩
theorem bx_head (h : SX X W st ρ M cls ρ' M') : BX X W (st :: rest) ρ M cls ρ' M' :=
  (pss_cons (u := fun _ _ _ => False) h ⟨fun _ _ _ _ _ _ h => h.elim⟩).mono fun _ _ _ h => h
theorem bx_cons (h : SV X st ρ M (fun o => match o with | .nx ρ1 M1 => BX X W rest ρ1 M1 cls ρ' M' | _ => False)) : BX X W (st :: rest) ρ M cls ρ' M' := by
  refine (pss_cons (u := fun E σ H => ∃ ρ1 M1, BX X W rest ρ1 M1 cls ρ' M' ∧ tX X.K W ρ1 M1 cls ρ' M' σ H) h ⟨fun pins s σ H E I ⟨ρ1, M1, hb, q⟩ => hb.run pins s σ H E I q⟩).mono fun E σ H ⟨G, sa, k⟩ => ⟨G, sa, fun o ho => ?_⟩
  cases o with
  | nx ρ1 M1 => exact fun σ1 G1 H1 g sa1 => ⟨ρ1, M1, ho, G1, sa1, fun G' H' σ' g' q => k G' H' σ' (g.trans g') q⟩
  | ret d M1 => exact ho.elim
  | bk ρ1 M1 => exact ho.elim
  | ct ρ1 M1 => exact ho.elim
/-- raise C('m'), C a class of the program without own __init__ -/
theorem sx_raise {x m : Str} {j : Nat} {p p2 pos' : Pos} {C : Addr} {bmB : List Value} {B newId initId : String} (hc : X.calm = true) (tk : Takes X W) (F : ExcBaseFacts B newId initId bmB) (q : PySem.W.excIn X.K C bmB newId = true) (gC : X.mg x = some (.ref C)) (kC : PySem.W.keepIn X.K (.ref C) = true)
    (h1 : PySem.W.subIn X.K (.ref C) (.type "BaseException") = some true) (h2 : PySem.W.typeIn X.K (.ref C) = some (.type "type")) (hg : Gl X x := by rfl) (hdb : (x == ("__debug__" : Str)) = false := by decide) :
    SX X W (.Raise (some (.Call (.Name x p) [.Constant (.str m) j p2] [] pos)) none pos') ρ M (.ref C) ρ M :=
  (L2.ps_raise hc tk (L2.pmk_own F q gC kC (raises_own h1 h2) hg hdb)).mono fun E σ H ⟨G, sa, k⟩ => k G H σ (Same.refl G) sa
/-- a try whose body raises nothing -/
theorem sv_tryThru {body : List Stmt} {h₀ : ExceptHandler} {hs : List ExceptHandler} (hb : BV X.nox body ρ M Ψ) : SV X (.Try body (h₀ :: hs) [] [] pos) ρ M Ψ := ps_try_thru0 hb
/-- a try whose body raises: two clauses, the first a tuple of two other classes, the second one takes it and returns -/
theorem sv_try2 {body suite : List Stmt} {b₀ : Stmt} {x y z n : Str} {p1 p2 p3 p4 p5 p6 : Pos} {kk i : Nat} {nm : Option Str} {c0 : Stmt} {cr : List Stmt} {c1 c2 : Value} {C : Addr} (hs : X.stack = X.env :: X.outer) (hf : X.env.frame = some X.env.locals) (tk : Takes X (fun _ _ _ _ => False))
    (hb : ∀ (W : WX) (pn : List (Addr × Obj)) (xe : Value → Shared → Prop), Takes (X.tr pn xe) W → BX (X.tr pn xe) W body ρ M (.ref C) ρ' M')
    (h1 : Names X x c1) (h2 : Names X y c2) (h3 : Names X z (.ref C)) (hno : PySem.W.exmAny X.K (.ref C) [c1, c2] = some false) (hyes : PySem.W.exmOne X.K (.ref C) (.ref C) = some true) (hN : X.N.Nodup) (hi : X.N[i]? = some n) (hln : X.env.kindOf n = some .local)
    (hsu : ∀ (a : Addr) (oe : Obj) (pn : List (Addr × Obj)), Zc (.ref C) none oe → (∃ vs, oe.data = .fields vs) → BV (X.suite a ((a, oe) :: pn)) (b₀ :: suite) (ρ'.set i (some (dP a))) M' (fun o => match o with | .ret d M2 => Ψ (.ret d M2) | _ => False)) :
    SV X (.Try body [.ExceptHandler (some (.Tuple [.Name x p1, .Name y p2] kk p3)) nm (c0 :: cr) p4, .ExceptHandler (some (.Name z p5)) (some n) (b₀ :: suite) p6] [] [] pos) ρ M Ψ := by
  refine (ps_try_g (tb := fun W _ σ H => tX X.K W ρ M (.ref C) ρ' M' σ H) (Wout := fun _ _ _ _ => False) (l := [.skip [c1, c2], .as (.ref C) i (fun a cls d D σ H => cls = .ref C ∧ d = none ∧ tS X.K (ρ'.set i (some (dP a))) M' (fun o => match o with | .ret d M2 => Ψ (.ret d M2) | _ => False) D σ H)])
    hs hf tk (fun W pn xe tk' _ => hb W pn xe tk') (.skip2 h1 h2 (.as h3 hN hi hln (fun a oe cls d pn hz hd => ⟨fun pins s σ H D I ⟨e1, e2, h⟩ => ?_⟩) .nil))).mono fun E σ H ⟨G, sa, k⟩ => ⟨G, sa, fun G' H' σ' g q => ⟨hno, true, hyes, fun _ a na => ⟨rfl, rfl, G', ⟨q.sh, q.sl.set i (.val _)⟩, fun o ho => ?_⟩, fun h => nomatch h⟩⟩
  · subst e1 e2
    exact (hsu a oe pn hz hd).run pins s σ H D I h
  · cases o with
    | ret d M2 => exact (k _ ho).up g
    | nx _ _ => exact ho.elim
    | bk _ _ => exact ho.elim
    | ct _ _ => exact ho.elim
/-- isinstance(e, c) in an except suite -/
theorem ev_isE {n x : Str} {a C : Addr} {oe : Obj} {pn : List (Addr × Obj)} {cv : Value} {vc : V} {r : Bool} {p p2 p3 : Pos} {i : Nat} (hm : X.mg "isinstance" = none) (EC : ExcC X.K C) (hz : Zc (.ref C) none oe) (hf : ∃ vs, oe.data = .fields vs)
    (hv : ∀ u, RelV vc u → u = cv) (hk : PySem.W.kitOne X.K (.ref C) cv = some r) (ha : AV (X.suite a ((a, oe) :: pn)) [e, .Name x p2] ρ M [dP a, .val vc] M) (hg : Gl (X.suite a ((a, oe) :: pn)) "isinstance" := by rfl)
    (h1 : starEach [e, .Name x p2] X.env = (false, eval e X.env) :: starEach [.Name x p2] X.env := by rfl) (hpl : (backTo pos (starEach [.Name x p2] X.env)).any (·.1) = false := by rfl) :
    EV (X.suite a ((a, oe) :: pn)) (.Call (.Name "isinstance" p) [e, .Name x p2] [] pos) ρ M (dB r) M :=
  (pe_callB (call_isE EC hz hf) hg hm boot_isinstance ha (hpl := hpl) (he := h1)).mono fun σ H Q ⟨G, sa, k⟩ => ⟨G, sa, fun vs G1 H1 g1 sh1 r1 => by
    rw [RepL.of_vals (xs := [.ref a, vc]) r1]
    exact ⟨vc, cv, r, rfl, hv, hk, k _ G1 H1 g1 sh1 (.val _)⟩⟩
end
theorem calX_of {P : Program} {w : World} {K : PySem.W.Frag} {mg : Str → Option Value} {base : Heap} {x qual : Str} {sd : Stmt} {f : Addr} {fd : FuncData} {N ps : List Str} {k : Nat} {R : List D → Mem → Value → Mem → Prop} (F : Fun K x qual sd f fd) (S : FnScope N ps (defScope sd)) (hm : mg x = some (.ref f))
    (hbind : ∀ (kV doc pm : Value) (an : Option Addr) (cdv ct : Value) (us : List Value), us.length = ps.length → bindArgs (PySem.W.fnOf x qual (defArgs sd) (defBody sd) (defScope sd) .none kV doc pm an cdv ct) ⟨us, []⟩ = pure (ps.zip us))
    (len : ∀ ds M cls M', R ds M cls M' → ds.length = ps.length)
    (hb : ∀ (cdv : Value) (A : Around) (outer : List Env) (s : Shared) (H : Hp) (E : XK) (ds : List D) (M : Mem) (cls : Value) (M' : Mem), Room k (A.deeper (envOfC qual (defScope sd) s.heap.objs.size f cdv)) → R ds M cls M' →
      ∀ W, W = (fun cls d _ H' => E cls d H' : WX) → Takes (cxOf (L2.CX P w) P w K mg base N qual (defScope sd) f cdv A outer s H E) W →
      ∃ ρ', BX (cxOf (L2.CX P w) P w K mg base N qual (defScope sd) f cdv A outer s H E) W (defBody sd) (startD N ds) M cls ρ' M') : CalX P w K mg base (k + 1) x (spX K R) :=
  ⟨f, fd, ps, hm, F.kp, F.binds hbind, F.okX S (fun vs H Q E ⟨G, ds, M, cls, M', sh, r, p, q⟩ => by rw [r.len]; exact len _ _ _ _ p) fun cdv A outer s H vs Q E hr ⟨G, ds, M, cls, M', sh, r, p, q⟩ => by
    obtain ⟨ρ', h⟩ := hb cdv A outer s H E ds M cls M' hr p _ rfl (takes_of (E := E) rfl rfl rfl rfl)
    exact ⟨_, h, G, ⟨sh, start_rep r⟩, fun G' H' σ' g sa => q G' H' g sa.sh⟩⟩
section
variable {X : Cx} {ρ : Sl} {M M1 M2 : Mem} {a e : Expr} {pos : Pos}
theorem ev_sindex {z y : Str} {i : Nat} {rest : List Nat} {ap : Pos} (ho : EV X a ρ M (dS z) M1) (ha : EV X e ρ M1 (dS y) M2) (hi : Builtin.Str.occurrences z y 0 z.length 1 = i :: rest) (h1 : attributeBase a "index" X.env (eval a X.env) = eval a X.env := by rfl) (h3 : (ap.endLine == pos.line) = true := by decide) (h4 : starEach [e] X.env = (false, eval e X.env) :: starEach [] X.env := by rfl)
    (h2 : (((((backTo pos (starEach [e] X.env)).all fun x => !x.fst) && (backToKw pos (keywordEach [] X.env)).all fun x => x.fst.isSome) && decide (([e].length + ([] : List Keyword).length + if ([] : List Keyword).isEmpty = true then 0 else 1) < 30)) = true) := by rfl)
    (h5 : (((backTo pos (starEach [] X.env)).any fun x => x.fst) = false) := by rfl) : EV X (.Call (.Attribute a "index" ap) [e] [] pos) ρ M (dI (i : Int)) M2 :=
  ev_bmS (vs := [.str y]) PySem.F.plainAttrs_str PySem.F.slot_str_index PySem.F.type_str_index mt_sindex ho (av_cons ha av_nil h4) (fun H Q q => ⟨z, y, i, rest, rfl, rfl, hi, q⟩) h1 h3 h4 h2 h5
end
end Vt
namespace Vt
open PySem PySem.Spec PyProof.Rows L2
/-! ### defs that run where no guard is up: repr of trees -/
structure FnG (P : Program) (w : World) (K : PySem.W.Frag) (mg : Str → Option Value) (base : Heap) (k : Nat) (f : Addr) (fd : FuncData) (ps : List Str) (sp : Sp) : Prop where
  size : ∀ vs H Q E, sp vs H Q E → vs.length = ps.length
  goes : ∀ (A : Around) (out : List Env) (s : Shared) (H : Hp) (args : Args) (us : List Value) (vs : List V) (Q : VK) (E : XK), A.guards = some [] → Room k A → Env0 P w K mg base A out s H → BindsTo s fd args (ps.zip us) → Vals vs us → sp vs H Q E → codeAny (model P w) A (.call (.ref f) args) (CR CX0 out P w H s Q E) s
def bodyEnds (Q : VK) : Ends := { nx := fun _ H' => Q .non H', rt := Q }
theorem okG {P : Program} {w : World} {K : PySem.W.Frag} {mg : Str → Option Value} {base : Heap} {x qual : Str} {sd : Stmt} {f : Addr} {fd : FuncData} {N ps : List Str} {k : Nat} {sp : Sp} (F : Fun K x qual sd f fd) (S : FnScope N ps (defScope sd)) (size : ∀ vs H Q E, sp vs H Q E → vs.length = ps.length)
    (body : ∀ (cdv : Value) (A : Around) (out : List Env) (s : Shared) (H : Hp) (vs : List V) (Q : VK) (E : XK), (A.deeper (envOfC qual (defScope sd) s.heap.objs.size f cdv)).guards = some [] → Room k (A.deeper (envOfC qual (defScope sd) s.heap.objs.size f cdv)) → sp vs H Q E →
      ∃ t, PSs (cxOf CX0 P w K mg base N qual (defScope sd) f cdv A out s H E).nox (defBody sd) t ∧ t (bodyEnds Q) (L2.start N vs) H) : FnG P w K mg base (k + 1) f fd ps sp := by
  obtain ⟨_, _, _, _, _, _, cdv, _, _, rfl, found, code⟩ := F.ex
  refine ⟨size, fun A out s H args us vs Q E g room env bind rel want => ?_⟩
  have same := size _ _ _ _ want
  have up : ∀ b o, base.get? b = some o → s.heap.get? b = some o := fun b o z => (env.bs b o z).1
  have Kin : K.In s.heap := env.mod.kin.keeps up
  have noL : s.heap.NoLimit := env.mod.nolimit.keeps up
  have kinds : ∀ y ∈ ps.zip us, (defScope sd).names.lookup y.1 = some .local ∨ ((defScope sd).names.lookup y.1 = some .cell ∧ ((cellsFrom (s.heap.objs.size + 1) (defScope sd).names []).lookup y.1).isSome = true) := by
    rintro ⟨n, v⟩ hy
    exact (S.par n (List.of_mem_zip hy).1).imp id fun q => ⟨q, PySem.W.cellsFrom_some _ _ _ (.inl q)⟩
  apply codeAny_call_function room.depth (Kin _ _ found) rfl S.co S.gen rfl (PySem.W.codeRec_of Kin code)
  apply bind
  apply wpAny_newFunctionEnv_cells S.kind kinds
  rintro env1 rfl s1 x
  refine ⟨noL.keeps x.toInCall.keep, codeAny_func ?_⟩
  obtain ⟨t, ht0, atStart⟩ := body cdv A out s H vs Q E g (room.deeper _) want
  have ht := ht0.nox
  have J0 : Inv (cxOf CX0 P w K mg base N qual (defScope sd) f cdv A out s H E) [] (L2.start N vs) H s1 := inv_start S room.hd env same rel x
  refine wpAny_mono (ht.run [] s1 (L2.start N vs) H _ J0 atStart) ?_ (fun _ _ z => z)
  rintro fl s' end_
  match fl, end_ with
  | .ret u, ⟨v, _, H', J, rv, q⟩ => exact ⟨v, H', J.os, J.bare, J.base, J.hok, rv, q⟩
  | .next, ⟨_, H', J, q⟩ => exact ⟨.non, H', J.os, J.bare, J.base, J.hok, rfl, q⟩
  | .brk, ⟨_, _, _, q⟩ => exact q.elim
  | .cont, ⟨_, _, _, q⟩ => exact q.elim
section
variable {X : Cx} {ρ : Sl} {M M1 M2 M3 : Mem} {a b c e : Expr} {es : List Expr} {d d1 d2 : D} {ds : List D} {pos : Pos} {Ψ : Out → Prop}
theorem run_g {k : Nat} {f : Addr} {fd : FuncData} {ps : List Str} {sp : Sp} {pins : List (Addr × Obj)} {σ : L2.St} {H : Hp} {s : Shared} {Q : VK} {us : List Value} {vs : List V} (F : FnG X.prog X.w X.K X.mg X.base k f fd ps sp) (g : X.A.guards = some []) (hr : Room k X.A) (hb : L2.Binds X.K fd ps [])
    (I : Inv X pins σ H s) (r : Vals vs us) (h : sp vs H Q E0) : wpAny (model X.prog X.w) X.A (call (.ref f) us) (EP X pins σ Q) X.xe s := by
  have n : (us ++ []).length = ps.length := by rw [List.append_nil, ← r.length]; exact F.size _ _ _ _ h
  have b := hb s us I.kIn n
  rw [List.append_nil] at b
  refine wpAny_call (codeAny_mono (F.goes X.A X.stack s H ⟨us, []⟩ us vs Q E0 g hr I.env0 b r h) ?_)
  rintro (e | fl) s' hq
  · exact pass0 pins σ H s e s' I hq
  · match fl, hq with
    | .ret u, hq => exact I.after hq
    | .next, hq => exact hq.elim
    | .brk, hq => exact hq.elim
    | .cont, hq => exact hq.elim
structure CalG (P : Program) (w : World) (K : PySem.W.Frag) (mg : Str → Option Value) (base : Heap) (k : Nat) (x : Str) (sp : Sp) : Prop where
  ex : ∃ (f : Addr) (fd : FuncData) (ps : List Str), mg x = some (.ref f) ∧ PySem.W.keepIn K (.ref f) = true ∧ L2.Binds K fd ps [] ∧ FnG P w K mg base k f fd ps sp
theorem pe_callG {k : Nat} {f : Addr} {fd : FuncData} {ps : List Str} {sp : Sp} {x : Str} {p : Pos} {t : TA} (F : FnG X.prog X.w X.K X.mg X.base k f fd ps sp) (g : X.A.guards = some []) (hr : Room k X.A) (hg : Gl X x) (hm : X.mg x = some (.ref f)) (hk : PySem.W.keepIn X.K (.ref f) = true) (hb : L2.Binds X.K fd ps [])
    (ha : PA X (e :: es) t) (hdb : (x == ("__debug__" : Str)) = false) (he : starEach (e :: es) X.env = (false, eval e X.env) :: starEach es X.env) (hpl : (backTo pos (starEach es X.env)).any (·.1) = false) :
    PE X (.Call (.Name x p) (e :: es) [] pos) (fun σ H Q => t σ H fun vs H1 => sp vs H1 Q E0) :=
  ⟨fun pins s σ H Q I h => wpAny_Call_Name_kw (ld_glob I hg hm (PySem.W.callWith_K (h₀ := X.base) I.ok.mod.kin hk (thn (ha.run pos pins s σ H _ I h) fun _ _ ⟨_, _, J, r, q⟩ => ⟨J.kIn, run_g F g hr hb J r q⟩) he hpl) hdb)⟩
theorem ev_callG {k : Nat} {x : Str} {Pr : List D → Mem → D → Mem → Prop} {p : Pos} (C : CalG X.prog X.w X.K X.mg X.base k x (spD X.K Pr)) (g : X.A.guards = some []) (hr : Room k X.A) (ha : AV X (e :: es) ρ M ds M1) (hp : Pr ds M1 d M2) (hg : Gl X x := by rfl)
    (hd : (x == ("__debug__" : Str)) = false := by decide) (hst : starEach (e :: es) X.env = (false, eval e X.env) :: starEach es X.env := by rfl) (hpl : (backTo pos (starEach es X.env)).any (·.1) = false := by rfl) : EV X (.Call (.Name x p) (e :: es) [] pos) ρ M d M2 := by
  obtain ⟨f, fd, ps, hm, hk, hb, F⟩ := C.ex
  exact (pe_callG F g hr hg hm hk hb ha hd hst hpl).mono fun σ H Q ⟨G, sa, k⟩ => ⟨G, sa, fun vs G1 H1 g1 sh1 r1 => ⟨G1, ds, M1, d, M2, sh1, r1, hp, fun v G' H' g2 sh r => k v G' H' (g1.trans g2) sh r⟩⟩
/-- repr(x) of a tree -/
theorem ev_repr {p : Pos} (g : X.A.guards = some []) (hu : X.A.units + 64 < cLine) (hm : X.mg "repr" = none) (ha : EV X e ρ M d M1) (pl : D.plain d = true) (nv : ∀ v, d ≠ .val v) (nd : d.py.hasDict = false) (ss : d.py.showable = true) (dd : d.py.depth < 60) (sz : d.py.shown.length ≤ sizeLine) (hg : Gl X "repr" := by rfl) (hst : starEach [e] X.env = [(false, eval e X.env)] := by rfl) :
    EV X (.Call (.Name "repr" p) [e] [] pos) ρ M (dS d.py.shown) M1 := by
  have cr : CallR X (.builtin "repr") (fun vs H Q => ∃ a, vs = [V.ref a] ∧ Dp X.K H (.ref a) d.py ∧ Q (.str d.py.shown) H) := by
    intro pins s σ H vs us Q I r h
    obtain ⟨a, rfl, dp, q⟩ := h
    obtain ⟨u, rfl, ru⟩ := vals1 r
    obtain rfl : u = Value.ref a := ru
    obtain ⟨as, rd⟩ := Dp.reads I _ _ _ dp rfl
    refine repr_of_reads' rd ss (fun z => by rw [nd] at z; cases z) g (by omega) (fun _ _ z => z) (fun h' u tk hk => ?_) sz
    exact ⟨.str d.py.shown, H, I.kept hk, ⟨_, rfl⟩, q⟩
  refine (pe_callB cr hg hm boot_repr (av_cons ha av_nil hst) (he := hst) (hpl := by rfl)).mono fun σ H Q ⟨G, sa, k⟩ => ⟨G, sa, fun vs G1 H1 g1 sh1 r1 => ?_⟩
  cases r1 with
  | cons h t =>
    cases t
    have dp := dp_of sh1.le _ _ pl h
    cases h with
    | val => exact absurd rfl (nv _)
    | tup q r => exact ⟨_, rfl, dp, k _ G1 H1 g1 sh1 (.val _)⟩
    | lst q r => exact ⟨_, rfl, dp, k _ G1 H1 g1 sh1 (.val _)⟩
    | dic q => cases pl
end
end Vt
namespace Vt
open PySem PySem.Spec PyProof.Rows L2
/-! ### the end of a law whose body asks repr -/
/-- what may be tracked at the entry: the script alone -/
def soleH (K : PySem.W.Frag) (a : Addr) (o : Obj) (xs : List V) : Hp := fun b => if b = a ∧ (K.lookup a).isNone = true then some (.frz o (.lst xs)) else none
theorem soleH_of {K : PySem.W.Frag} {a b : Addr} {o : Obj} {xs : List V} {u : HO} (h : soleH K a o xs b = some u) : b = a ∧ K.lookup a = none ∧ u = .frz o (.lst xs) := by
  unfold soleH at h
  by_cases c : b = a ∧ (K.lookup a).isNone = true
  · rw [if_pos c] at h
    exact ⟨c.1, Option.isNone_iff_eq_none.mp c.2, (Option.some.inj h).symm⟩
  · rw [if_neg c] at h
    cases h
theorem law_runG {P : Program} {w : World} {K : PySem.W.Frag} {mg mb : Str → Option Value} {k : Nat} {fa a : Addr} {fd : FuncData} {x : Str} {s : Shared} {vs : List Value} {ns : List Int}
    (kin : K.In s.heap) (glob : s.heap.Ns mainGlobals mg) (blt : s.heap.Ns builtinsNs mb) (bltE : ∀ z : Str, z ≠ "__name__" → mb z = bootBuiltins z) (noL : s.heap.NoLimit) (gens : s.gens = #[])
    (at_ : s.heap.get? a = some { cls := .type "list", data := .seq vs.toArray }) (are : IntsAre vs ns) (short : ns.length ≤ 63) (room : Room k callerA)
    (F : ∀ base : Heap, K.In base → base.Ns mainGlobals mg → FnG P w K mg base k fa fd [x] (spLaw K)) (binds : ∀ (s : Shared) (u : Value), BindsTo s fd ⟨[u], []⟩ [(x, u)]) :
    codeAny (model P w) callerA (.call (.ref fa) ⟨[.ref a], []⟩) (fun r s' => r = .ok (.ret (.bool true)) ∧ OldK s.heap s'.heap ∧ s'.os = s.os ∧ AllBare s'.gens) s := by
  have rv := vals_ints are
  have size : ns.length ≤ sizeLine := Nat.le_trans short (by decide)
  let o : Obj := { cls := .type "list", data := .seq vs.toArray }
  let H : Hp := soleH K a o (ns.map V.int)
  have only : ∀ {b : Addr} {u : HO}, H b = some u → b = a ∧ K.lookup a = none ∧ u = .frz o (.lst (ns.map V.int)) := fun h => soleH_of h
  have apart : ∀ {b : Addr} {ob : Obj}, s.heap.get? b = some ob → (b = a → K.lookup a = none → False) → (hidT s.heap H).get? b = some ob := fun {b ob} e no => hidT_get e (by
    cases q : H b with
    | none => rfl
    | some u => exact (no (only q).1 (only q).2.1).elim)
  have names : ∀ {b : Addr} {m : Str → Option Value}, s.heap.Ns b m → (hidT s.heap H).Ns b m := by
    rintro b m ⟨ob, es, ep, e, d, r⟩
    refine ⟨ob, es, ep, apart e (fun z _ => ?_), d, r⟩
    rw [z, at_] at e
    cases e
    cases d
  have kin' : K.In (hidT s.heap H) := fun b ob e => apart (kin b ob e) fun z n => by
    rw [z, n] at e
    cases e
  have lst : SqL K H a (ns.map V.int) := by
    cases q : K.lookup a with
    | none => exact .inl (.inr ⟨o, if_pos ⟨rfl, by rw [q]; rfl⟩⟩)
    | some oa =>
      have e := kin a oa q
      rw [at_] at e
      cases e
      refine .inr ⟨_, vs.toArray, _, q, rfl, rfl, rfl, ?_, by simpa using rv⟩
      rw [List.size_toArray, are.length]
      exact size
  have hok : HOk P w H s.heap := fun b u e => by
    obtain ⟨rfl, _, rfl⟩ := only e
    exact ⟨at_, by rw [List.length_map]; exact size, vs, _, rv, at_⟩
  have env : Env0 P w K mg (hidT s.heap H) callerA [] s H :=
    ⟨rfl, ⟨kin', names glob, ⟨mb, names blt, bltE⟩, let ⟨mc, h1, h2⟩ := noL; ⟨mc, names h1, h2⟩⟩, fun b ob e => of_hidT e, Nat.le_of_eq (hidT_size _ _), trivial, fun b hb => absurd hb List.not_mem_nil, hok, .of_eq gens⟩
  refine codeAny_mono ((F _ kin' (names glob)).goes callerA [] s H ⟨[.ref a], []⟩ [.ref a] [.ref a] (fun v _ => v = .bl true) (fun _ _ _ => False) rfl room env (binds s (.ref a)) (.cons rfl .nil) ⟨a, ns, rfl, lst, short, fun _ => rfl⟩) ?_
  rintro (e | fl) s' end_
  · exact (end_ : False).elim
  · match fl, end_ with
    | .next, z => exact z.elim
    | .brk, z => exact z.elim
    | .cont, z => exact z.elim
    | .ret u, ⟨v, H', os, bare, un, hok', ru, q⟩ =>
      have q : v = .bl true := q
      subst q
      obtain rfl : u = Value.bool true := ru
      have old : ∀ b ob, s.heap.get? b = some ob → s'.heap.get? b = some ob := fun b ob e => by
        cases q : H b with
        | none => exact un.keep b ob e q (fun z => absurd z List.not_mem_nil) (fun z => absurd z List.not_mem_nil)
        | some u =>
          obtain ⟨rfl, _, rfl⟩ := only q
          obtain ⟨e1, _⟩ := hok b _ q
          obtain ⟨e2, _⟩ := hok' b _ (un.frzs b o _ q)
          rw [e] at e1
          cases e1
          exact e2
      exact ⟨rfl, ⟨fun b ob e => .inl (old b ob e), fun b ob e => ⟨ob, old b ob e⟩⟩, os, bare⟩
theorem walkG {l : PySem.W.OpenLaw} {q : Program} {loose : List Str} {XP : (Str → Option Value) → Heap → Prop} {YP : World → Heap → Prop} {d : DefRec} {K : Params → PySem.W.Frag} {k : Nat} (hk : Room k callerA) (hn : l.most = some 63) (hdf : d.params.defaults = [])
    (hY : ∀ (w : World) (h : Heap), YP w h → (K w.params).In h)
    (F : ∀ (w : World) (mg : Str → Option Value) (fa : Addr) (h : Heap), (K w.params).In h → h.Ns mainGlobals mg → mg d.name = some (.ref fa) →
      ∃ fd : FuncData, (∀ (s : Shared) (u : Value), BindsTo s fd ⟨[u], []⟩ [("script", u)]) ∧ ∀ base : Heap, (K w.params).In base → base.Ns mainGlobals mg → FnG l.prog w (K w.params) mg base k fa fd ["script"] (spLaw (K w.params))) :
    PySem.W.WalkO q loose XP YP l.row.toRowW d [] (fun f vs => PySem.call f vs) := by
  refine Att.attach_call hn hdf fun w s₀ s₁ mg mb fa o pm cd doc a vs ns G Y ho hd hcd hmg hobj hints hlen hg => ?_
  obtain ⟨fd, hb, hF⟩ := F w mg fa _ (hY w _ Y) G.T.g hmg
  exact law_runG (hY w _ Y) G.T.g G.T.b G.T.builtins G.T.nolimit hg hobj hints hlen hk hF hb
theorem law_ofG {P : Program} {w : World} {K : PySem.W.Frag} {mg : Str → Option Value} {base : Heap} {sd : Stmt} {f : Addr} {fd : FuncData} {N : List Str} {k : Nat} (F : Fun K "law" "law" sd f fd) (S : FnScope N ["script"] (defScope sd))
    (hb : ∀ (cdv : Value) (A : Around) (outer : List Env) (s : Shared) (H : Hp) (E : XK) (ns : List Int), (A.deeper (envOfC "law" (defScope sd) s.heap.objs.size f cdv)).guards = some [] → Room k (A.deeper (envOfC "law" (defScope sd) s.heap.objs.size f cdv)) → ns.length ≤ 63 →
      BV (cxOf CX0 P w K mg base N "law" (defScope sd) f cdv A outer s H E).nox (defBody sd) (startD N [.lst (ns.map dI)]) (fun _ => none) FinL) : FnG P w K mg base (k + 1) f fd ["script"] (spLaw K) := by
  refine okG F S (fun vs H Q E ⟨a, ns, e, _⟩ => by rw [e]; rfl) fun cdv A outer s H vs Q E g hr ⟨a, ns, e, hs, hl, q⟩ => ?_
  subst e
  have rl : ∀ xs : List Int, RepL K H (xs.map V.int) (xs.map dI) := fun xs => by
    have e := RepL.vals (K := K) (G := H) (xs.map V.int)
    rwa [List.map_map] at e
  have r : RepL K H [V.ref a] [.lst (ns.map dI)] := .cons (.lst hs (rl ns)) .nil
  refine ⟨_, hb cdv A outer s H E ns g hr hl, H, ⟨⟨Same.refl _, fun b mo e => nomatch e⟩, start_rep r⟩, fun o ho => ?_⟩
  cases o with
  | ret d M =>
    have ho : d = dB true := ho
    subst ho
    exact fun v G' H' g sh r => by
      rw [r.of_val]
      exact q H'
  | nx ρ M => exact (show False from ho).elim
  | bk _ _ => exact (show False from ho).elim
  | ct _ _ => exact (show False from ho).elim
end Vt
namespace Vt
open PySem PySem.Spec PyProof.Rows L2
/-! ### the relational calculus: what follows is told in the place of the answer -/
def tAW (K : PySem.W.Frag) (ρ : Sl) (M : Mem) (Φ : List D → Mem → Prop) : TA := fun σ H Q => ∃ G, SA K G H σ ρ M ∧ ∀ vs G' H' ds M', Φ ds M' → Same G G' → SH K G' H' M' → RepL K G' vs ds → Q vs H'
def tTW (K : PySem.W.Frag) (ρ : Sl) (M : Mem) (Φ : Bool → Mem → Prop) : TT := fun σ H Q => ∃ G, SA K G H σ ρ M ∧ ∀ b G' H' M', Φ b M' → Same G G' → SH K G' H' M' → Q b H'
abbrev AW (X : Cx) (es : List Expr) (ρ : Sl) (M : Mem) (Φ : List D → Mem → Prop) : Prop := PA X es (tAW X.K ρ M Φ)
abbrev TW (X : Cx) (e : Expr) (ρ : Sl) (M : Mem) (Φ : Bool → Mem → Prop) : Prop := PT X e (tTW X.K ρ M Φ)
abbrev WW (X : Cx) (e : Expr) (ρ : Sl) (M : Mem) (Φ : Bool → Mem → Prop) : Prop := PW X e (tTW X.K ρ M Φ)
def pkE (X : Cx) (e : Expr) (ρ : Sl) : TE := fun σ H Q => ∃ M Φ, EW X e ρ M Φ ∧ tW X.K ρ M Φ σ H Q
theorem pk_e {X : Cx} {e : Expr} {ρ : Sl} : PE X e (pkE X e ρ) := ⟨fun pins s σ H Q I ⟨_, _, h, q⟩ => h.run pins s σ H Q I q⟩
def pkA (X : Cx) (es : List Expr) (ρ : Sl) : TA := fun σ H Q => ∃ M Φ, AW X es ρ M Φ ∧ tAW X.K ρ M Φ σ H Q
theorem pk_a {X : Cx} {es : List Expr} {ρ : Sl} : PA X es (pkA X es ρ) := ⟨fun pos pins s σ H Q I ⟨_, _, h, q⟩ => h.run pos pins s σ H Q I q⟩
def pkT (X : Cx) (e : Expr) (ρ : Sl) : TT := fun σ H Q => ∃ M Φ, TW X e ρ M Φ ∧ tTW X.K ρ M Φ σ H Q
theorem pk_t {X : Cx} {e : Expr} {ρ : Sl} : PT X e (pkT X e ρ) := ⟨fun pins s σ H Q I ⟨_, _, h, q⟩ => h.run pins s σ H Q I q⟩
def pkW (X : Cx) (e : Expr) (ρ : Sl) : TT := fun σ H Q => ∃ M Φ, WW X e ρ M Φ ∧ tTW X.K ρ M Φ σ H Q
theorem pk_w {X : Cx} {e : Expr} {ρ : Sl} : PW X e (pkW X e ρ) := ⟨fun wh pins s σ H Q I ⟨_, _, h, q⟩ => h.run wh pins s σ H Q I q⟩
def pkB (X : Cx) (sts : List Stmt) (ρ : Sl) (Ψ : Out → Prop) : TS := fun E σ H => ∃ M, BV X sts ρ M Ψ ∧ tS X.K ρ M Ψ E σ H
theorem pk_b {X : Cx} {sts : List Stmt} {ρ : Sl} {Ψ : Out → Prop} : PSs X sts (pkB X sts ρ Ψ) := ⟨fun pins s σ H E I ⟨_, h, q⟩ => h.run pins s σ H E I q⟩
section
variable {X : Cx} {ρ : Sl} {M M1 M2 M3 : Mem} {a b c e : Expr} {es : List Expr} {d d1 d2 : D} {ds : List D} {pos : Pos} {Ψ : Out → Prop} {Φ : D → Mem → Prop} {ΦA : List D → Mem → Prop} {ΦT : Bool → Mem → Prop}
theorem aw_av (h : AV X es ρ M ds M1) (q : ΦA ds M1) : AW X es ρ M ΦA := h.mono fun σ H Q ⟨G, sa, k⟩ => ⟨G, sa, fun vs G1 H1 g1 sh1 r1 => k vs G1 H1 ds M1 q g1 sh1 r1⟩
theorem tw_tv {p : Bool} (h : TV X e ρ M p M1) (q : ΦT p M1) : TW X e ρ M ΦT := h.mono fun σ H Q ⟨G, sa, k⟩ => ⟨G, sa, fun G1 H1 g1 sh1 => k p G1 H1 M1 q g1 sh1⟩
theorem ww_wv {p : Bool} (h : WV X e ρ M p M1) (q : ΦT p M1) : WW X e ρ M ΦT := h.mono fun σ H Q ⟨G, sa, k⟩ => ⟨G, sa, fun G1 H1 g1 sh1 => k p G1 H1 M1 q g1 sh1⟩
theorem aw_nil (q : ΦA [] M) : AW X [] ρ M ΦA := aw_av av_nil q
theorem aw_cons (h : EW X e ρ M (fun d M1 => AW X es ρ M1 (fun ds M2 => ΦA (d :: ds) M2))) (hs : starEach (e :: es) X.env = (false, eval e X.env) :: starEach es X.env := by rfl) : AW X (e :: es) ρ M ΦA :=
  (pa_cons h pk_a hs).mono fun σ H Q ⟨G, sa, k⟩ => ⟨G, sa, fun v1 G1 H1 d M1 h g1 sh1 r1 => ⟨M1, _, h, G1, ⟨sh1, sa.sl.up g1⟩, fun vs G2 H2 ds M2 p g2 sh2 r2 => k _ G2 H2 _ M2 p (g1.trans g2) sh2 (.cons (r1.up g2) r2)⟩⟩
theorem ew_op {op : Operator} {r : R2} (ho : OpR X (binaryOp op) r) (h : EW X a ρ M (fun d1 M1 => ∃ x, d1 = .val x ∧ EW X b ρ M1 (fun d2 M2 => ∃ y z, d2 = .val y ∧ RS r x y z ∧ Φ (.val z) M2))) : EW X (.BinOp a op b pos) ρ M Φ :=
  (pe_op ho h pk_e).mono fun σ H Q ⟨G, sa, k⟩ => ⟨G, sa, fun v1 G1 H1 d1 M1 ⟨x, e1, h⟩ g1 sh1 r1 => ⟨M1, _, h, G1, ⟨sh1, sa.sl.up g1⟩, fun v2 G2 H2 d2 M2 ⟨y, z, e2, hr, p⟩ g2 sh2 r2 => by
    subst e1 e2
    rw [r1.of_val, r2.of_val]
    exact hr H2 Q (k _ G2 H2 _ M2 p (g1.trans g2) sh2 (.val _))⟩⟩
theorem ew_un {op : UnaryOp} {r : V → Hp → VK → Prop} (ho : UnR X (unaryOp op) r) (h : EW X a ρ M (fun d1 M1 => ∃ x z, d1 = .val x ∧ RU r x z ∧ Φ (.val z) M1)) : EW X (.UnaryOp op a pos) ρ M Φ :=
  (pe_un ho h).mono fun σ H Q ⟨G, sa, k⟩ => ⟨G, sa, fun v1 G1 H1 d1 M1 ⟨x, z, e1, hr, p⟩ g1 sh1 r1 => by
    subst e1
    rw [r1.of_val]
    exact hr H1 Q (k _ G1 H1 _ M1 p g1 sh1 (.val _))⟩
theorem ew_cmp {op : CmpOp} {r : R2} (ho : OpR X (compareOp op) r) (h : EW X a ρ M (fun d1 M1 => ∃ x, d1 = .val x ∧ EW X b ρ M1 (fun d2 M2 => ∃ y z, d2 = .val y ∧ RS r x y z ∧ Φ (.val z) M2))) (hm : behindInMarks op b = false) : EW X (.Compare a [op] [b] pos) ρ M Φ :=
  (pe_cmpR ho h pk_e hm).mono fun σ H Q ⟨G, sa, k⟩ => ⟨G, sa, fun v1 G1 H1 d1 M1 ⟨x, e1, h⟩ g1 sh1 r1 => ⟨M1, _, h, G1, ⟨sh1, sa.sl.up g1⟩, fun v2 G2 H2 d2 M2 ⟨y, z, e2, hr, p⟩ g2 sh2 r2 => by
    subst e1 e2
    rw [r1.of_val, r2.of_val]
    exact hr H2 Q (k _ G2 H2 _ M2 p (g1.trans g2) sh2 (.val _))⟩⟩
theorem tw_cmp {op : CmpOp} {r : R2} (ho : OpR X (compareOp op) r) (h : EW X a ρ M (fun d1 M1 => ∃ x, d1 = .val x ∧ EW X b ρ M1 (fun d2 M2 => ∃ y z, d2 = .val y ∧ RS r x y (.bl z) ∧ ΦT z M2))) (hm : behindInMarks op b = false) : TW X (.Compare a [op] [b] pos) ρ M ΦT :=
  (pt_cmpR ho h pk_e hm).mono fun σ H Q ⟨G, sa, k⟩ => ⟨G, sa, fun v1 G1 H1 d1 M1 ⟨x, e1, h⟩ g1 sh1 r1 => ⟨M1, _, h, G1, ⟨sh1, sa.sl.up g1⟩, fun v2 G2 H2 d2 M2 ⟨y, z, e2, hr, p⟩ g2 sh2 r2 => by
    subst e1 e2
    rw [r1.of_val, r2.of_val]
    exact hr H2 _ ⟨z, rfl, k z G2 H2 M2 p (g1.trans g2) sh2⟩⟩⟩
theorem tw_val (h : EW X e ρ M (fun d M1 => ∃ p, d = dB p ∧ ΦT p M1)) (he : ∀ whole, isTrue e X.env whole = (do let v ← whole; standAt e.pos; holding [v] (truthy v)) := by intro _; rfl) : TW X e ρ M ΦT :=
  (pt_val h he).mono fun σ H Q ⟨G, sa, k⟩ => ⟨G, sa, fun v1 G1 H1 d M1 ⟨p, e1, q⟩ g1 sh1 r1 => by
    subst e1
    exact ⟨p, r1.of_val, k p G1 H1 M1 q g1 sh1⟩⟩
theorem tw_not (h : TW X e ρ M (fun p M1 => ΦT (!p) M1)) : TW X (.UnaryOp .Not e pos) ρ M ΦT :=
  (pt_not h).mono fun σ H Q ⟨G, sa, k⟩ => ⟨G, sa, fun p G1 H1 M1 q g1 sh1 => k _ G1 H1 M1 q g1 sh1⟩
theorem ww_one_and (h : TW X e ρ M ΦT) : WW X (.BoolOp .And [e] pos) ρ M ΦT := pw_and1 h
theorem ww_one_or (h : TW X e ρ M ΦT) : WW X (.BoolOp .Or [e] pos) ρ M ΦT := pw_or1 h
theorem ww_and {rest : List Expr} (h : TW X a ρ M (fun p M1 => (p = true → WW X (.BoolOp .And (b :: rest) pos) ρ M1 ΦT) ∧ (p = false → ΦT false M1))) : WW X (.BoolOp .And (a :: b :: rest) pos) ρ M ΦT :=
  (pw_and h pk_w).mono fun σ H Q ⟨G, sa, k⟩ => ⟨G, sa, fun p G1 H1 M1 ⟨h1, h2⟩ g1 sh1 => by
    cases p with
    | true => exact (⟨M1, _, h1 rfl, G1, ⟨sh1, sa.sl.up g1⟩, fun p G2 H2 M2 q g2 sh2 => k p G2 H2 M2 q (g1.trans g2) sh2⟩ : pkW X _ ρ σ H1 Q)
    | false => exact (k false G1 H1 M1 (h2 rfl) g1 sh1 : Q false H1)⟩
theorem ww_or {rest : List Expr} (h : TW X a ρ M (fun p M1 => (p = false → WW X (.BoolOp .Or (b :: rest) pos) ρ M1 ΦT) ∧ (p = true → ΦT true M1))) : WW X (.BoolOp .Or (a :: b :: rest) pos) ρ M ΦT :=
  (pw_or h pk_w).mono fun σ H Q ⟨G, sa, k⟩ => ⟨G, sa, fun p G1 H1 M1 ⟨h1, h2⟩ g1 sh1 => by
    cases p with
    | false => exact (⟨M1, _, h1 rfl, G1, ⟨sh1, sa.sl.up g1⟩, fun p G2 H2 M2 q g2 sh2 => k p G2 H2 M2 q (g1.trans g2) sh2⟩ : pkW X _ ρ σ H1 Q)
    | true => exact (k true G1 H1 M1 (h2 rfl) g1 sh1 : Q true H1)⟩
/-- a and b as values: bools -/
theorem ew_andB {rest : List Expr} (h : EW X a ρ M (fun d M1 => ∃ p, d = dB p ∧ (p = true → EW X (.BoolOp .And (b :: rest) pos) ρ M1 Φ) ∧ (p = false → Φ (dB false) M1))) : EW X (.BoolOp .And (a :: b :: rest) pos) ρ M Φ :=
  (pe_and h pk_e).mono fun σ H Q ⟨G, sa, k⟩ => ⟨G, sa, fun v1 G1 H1 d M1 ⟨p, e1, h1, h2⟩ g1 sh1 r1 => by
    subst e1
    refine ⟨p, r1.of_val, ?_⟩
    cases p with
    | true => exact (⟨M1, _, h1 rfl, G1, ⟨sh1, sa.sl.up g1⟩, fun v G2 H2 d2 M2 q g2 sh2 r2 => k v G2 H2 d2 M2 q (g1.trans g2) sh2 r2⟩ : pkE X _ ρ σ H1 Q)
    | false => exact (k _ G1 H1 _ M1 (h2 rfl) g1 sh1 (.val _) : Q (.bl false) H1)⟩
theorem ew_orB {rest : List Expr} (h : EW X a ρ M (fun d M1 => ∃ p, d = dB p ∧ (p = false → EW X (.BoolOp .Or (b :: rest) pos) ρ M1 Φ) ∧ (p = true → Φ (dB true) M1))) : EW X (.BoolOp .Or (a :: b :: rest) pos) ρ M Φ :=
  (pe_or h pk_e).mono fun σ H Q ⟨G, sa, k⟩ => ⟨G, sa, fun v1 G1 H1 d M1 ⟨p, e1, h1, h2⟩ g1 sh1 r1 => by
    subst e1
    refine ⟨p, r1.of_val, ?_⟩
    cases p with
    | false => exact (⟨M1, _, h1 rfl, G1, ⟨sh1, sa.sl.up g1⟩, fun v G2 H2 d2 M2 q g2 sh2 r2 => k v G2 H2 d2 M2 q (g1.trans g2) sh2 r2⟩ : pkE X _ ρ σ H1 Q)
    | true => exact (k _ G1 H1 _ M1 (h2 rfl) g1 sh1 (.val _) : Q (.bl true) H1)⟩
theorem ew_notB (h : EW X e ρ M (fun d M1 => ∃ p, d = dB p ∧ Φ (dB (!p)) M1)) : EW X (.UnaryOp .Not e pos) ρ M Φ :=
  (pe_not h).mono fun σ H Q ⟨G, sa, k⟩ => ⟨G, sa, fun v1 G1 H1 d M1 ⟨p, e1, q⟩ g1 sh1 r1 => by
    subst e1
    exact ⟨p, r1.of_val, k _ G1 H1 _ M1 q g1 sh1 (.val _)⟩⟩
theorem ew_if (h : TW X c ρ M (fun p M1 => (p = true → EW X a ρ M1 Φ) ∧ (p = false → EW X b ρ M1 Φ))) : EW X (.IfExp c a b pos) ρ M Φ :=
  (pe_ifExp h pk_e pk_e).mono fun σ H Q ⟨G, sa, k⟩ => ⟨G, sa, fun p G1 H1 M1 ⟨h1, h2⟩ g1 sh1 => by
    cases p with
    | true => exact (⟨M1, _, h1 rfl, G1, ⟨sh1, sa.sl.up g1⟩, fun v G2 H2 d2 M2 q g2 sh2 r2 => k v G2 H2 d2 M2 q (g1.trans g2) sh2 r2⟩ : pkE X _ ρ σ H1 Q)
    | false => exact (⟨M1, _, h2 rfl, G1, ⟨sh1, sa.sl.up g1⟩, fun v G2 H2 d2 M2 q g2 sh2 r2 => k v G2 H2 d2 M2 q (g1.trans g2) sh2 r2⟩ : pkE X _ ρ σ H1 Q)⟩
theorem ew_tup {x1} (h : AW X es ρ M (fun ds M1 => ds.length ≤ sizeLine ∧ Φ (.tup ds) M1)) : EW X (.Tuple es x1 pos) ρ M Φ :=
  (pe_tup h).mono fun σ H Q ⟨G, sa, k⟩ => ⟨G, sa, fun vs G1 H1 ds M1 ⟨hl, q⟩ g1 sh1 r1 => ⟨by rw [r1.len]; exact hl, fun p hp => by
    obtain ⟨sh2, g2⟩ := sh1.new (o := .tup vs) hp
    exact k _ _ _ _ M1 q (g1.trans g2) sh2 (.tup (.inl (.inl upd_same)) (r1.up g2))⟩⟩
theorem ew_lst (h : AW X es ρ M (fun ds M1 => ds.length ≤ sizeLine ∧ Φ (.lst ds) M1)) : EW X (.List es pos) ρ M Φ :=
  (pe_lst h).mono fun σ H Q ⟨G, sa, k⟩ => ⟨G, sa, fun vs G1 H1 ds M1 ⟨hl, q⟩ g1 sh1 r1 => ⟨by rw [r1.len]; exact hl, fun p hp => by
    obtain ⟨sh2, g2⟩ := sh1.new (o := .lst vs) hp
    exact k _ _ _ _ M1 q (g1.trans g2) sh2 (.lst (.inl (.inl upd_same)) (r1.up g2))⟩⟩
theorem ew_ixQ (h : EW X a ρ M (fun d1 M1 => ∃ q ds, d1 = sq q ds ∧ EW X b ρ M1 (fun d2 M2 => ∃ i d, d2 = dI i ∧ atI ds i = some d ∧ Φ d M2))) (hs : PlainIx b := by (intro _ _; rfl)) : EW X (.Subscript a b pos) ρ M Φ :=
  (pe_ix ix_seq h pk_e hs).mono fun σ H Q ⟨G, sa, k⟩ => ⟨G, sa, fun v1 G1 H1 d1 M1 ⟨q, ds, e1, h2⟩ g1 sh1 r1 => ⟨M1, _, h2, G1, ⟨sh1, sa.sl.up g1⟩, fun v2 G2 H2 d2 M2 ⟨i, d, e2, hat, p⟩ g2 sh2 r2 => by
    subst e1 e2
    cases q with
    | true =>
      cases (show Rep X.K G1 v1 (.lst ds) from r1) with
      | lst q r =>
        obtain ⟨v, e, rv⟩ := atI_up (r.up g2) hat
        exact .inl ⟨_, _, i, v, rfl, r2.of_val, sqlUp sh2.le (sqlUp g2 q), e, k _ G2 H2 _ M2 p (g1.trans g2) sh2 rv⟩
    | false =>
      cases (show Rep X.K G1 v1 (.tup ds) from r1) with
      | tup q r =>
        obtain ⟨v, e, rv⟩ := atI_up (r.up g2) hat
        exact .inr (.inl ⟨_, _, i, v, rfl, r2.of_val, sqtUp sh2.le (sqtUp g2 q), e, k _ G2 H2 _ M2 p (g1.trans g2) sh2 rv⟩)⟩⟩
end
end Vt
namespace Vt
open PySem PySem.Spec PyProof.Rows L2
section
variable {X : Cx} {ρ : Sl} {M M1 M2 M3 : Mem} {a b c e : Expr} {es : List Expr} {d d1 d2 : D} {ds : List D} {pos : Pos} {Ψ : Out → Prop} {Φ : D → Mem → Prop} {ΦA : List D → Mem → Prop} {ΦT : Bool → Mem → Prop}
/-! calls -/
theorem ew_callD {k : Nat} {x : Str} {Pr : List D → Mem → D → Mem → Prop} {p : Pos} (C : Cal X.prog X.w X.K X.mg X.base k x (spD X.K Pr)) (hr : Room k X.A) (h : AW X (e :: es) ρ M (fun ds M1 => ∃ d M2, Pr ds M1 d M2 ∧ Φ d M2)) (hg : Gl X x := by rfl)
    (hd : (x == ("__debug__" : Str)) = false := by decide) (hst : starEach (e :: es) X.env = (false, eval e X.env) :: starEach es X.env := by rfl) (hpl : (backTo pos (starEach es X.env)).any (·.1) = false := by rfl) : EW X (.Call (.Name x p) (e :: es) [] pos) ρ M Φ := by
  obtain ⟨f, fd, ps, hm, hk, hb, F⟩ := C.ex
  refine (pe_call F hr hg hm hk hb .nil pass0 h (hdb := hd) (he := hst) (hpl := hpl)).mono fun σ H Q ⟨G, sa, k⟩ => ⟨G, sa, fun vs G1 H1 ds M1 ⟨d, M2, hp, q⟩ g1 sh1 r1 => ?_⟩
  show spD X.K Pr (vs ++ []) H1 Q E0
  rw [List.append_nil]
  exact ⟨G1, ds, M1, d, M2, sh1, r1, hp, fun v G' H' g sh r => k v G' H' d M2 q (g1.trans g) sh r⟩
theorem ew_callW {k : Nat} {x : Str} {R : List D → Mem → (D → Mem → Prop) → Prop} {p : Pos} (C : Cal X.prog X.w X.K X.mg X.base k x (spW X.K R)) (hr : Room k X.A) (h : AW X (e :: es) ρ M (fun ds M1 => R ds M1 Φ)) (hg : Gl X x := by rfl)
    (hd : (x == ("__debug__" : Str)) = false := by decide) (hst : starEach (e :: es) X.env = (false, eval e X.env) :: starEach es X.env := by rfl) (hpl : (backTo pos (starEach es X.env)).any (·.1) = false := by rfl) : EW X (.Call (.Name x p) (e :: es) [] pos) ρ M Φ := by
  obtain ⟨f, fd, ps, hm, hk, hb, F⟩ := C.ex
  refine (pe_call F hr hg hm hk hb .nil pass0 h (hdb := hd) (he := hst) (hpl := hpl)).mono fun σ H Q ⟨G, sa, k⟩ => ⟨G, sa, fun vs G1 H1 ds M1 hp g1 sh1 r1 => ?_⟩
  show spW X.K R (vs ++ []) H1 Q E0
  rw [List.append_nil]
  exact ⟨G1, ds, M1, Φ, sh1, r1, hp, fun v G' H' d M' q g sh r => k v G' H' d M' q (g1.trans g) sh r⟩
theorem ew_callN {k : Nat} {x : Str} {Pr : List D → Mem → List D → Mem → Prop} {p : Pos} (C : Cal X.prog X.w X.K X.mg X.base k x (spN X.K Pr)) (hr : Room k X.A) (h : AW X (e :: es) ρ M (fun ds M1 => ∃ es' M2, Pr ds M1 es' M2 ∧ ∀ q, M2 q = none → Φ (dP q) (M2.set q (.lst es')))) (hg : Gl X x := by rfl)
    (hd : (x == ("__debug__" : Str)) = false := by decide) (hst : starEach (e :: es) X.env = (false, eval e X.env) :: starEach es X.env := by rfl) (hpl : (backTo pos (starEach es X.env)).any (·.1) = false := by rfl) : EW X (.Call (.Name x p) (e :: es) [] pos) ρ M Φ := by
  obtain ⟨f, fd, ps, hm, hk, hb, F⟩ := C.ex
  refine (pe_call F hr hg hm hk hb .nil pass0 h (hdb := hd) (he := hst) (hpl := hpl)).mono fun σ H Q ⟨G, sa, k⟩ => ⟨G, sa, fun vs G1 H1 ds M1 ⟨es', M2, hp, q⟩ g1 sh1 r1 => ?_⟩
  show spN X.K Pr (vs ++ []) H1 Q E0
  rw [List.append_nil]
  exact ⟨G1, ds, M1, es', M2, sh1, r1, hp, fun p G' H' g mp sh => k _ G' H' _ _ (q p mp) (g1.trans g) sh (.val _)⟩
/-- a new list that is going to be changed -/
theorem ew_lstN (h : AW X es ρ M (fun ds M1 => ds.length ≤ sizeLine ∧ ∀ p, M1 p = none → Φ (dP p) (M1.set p (.lst ds)))) : EW X (.List es pos) ρ M Φ :=
  (pe_lst h).mono fun σ H Q ⟨G, sa, k⟩ => ⟨G, sa, fun vs G1 H1 ds M1 ⟨hl, q⟩ g1 sh1 r1 => ⟨by rw [r1.len]; exact hl, fun p hp => by
    obtain ⟨sh2, mp, gp⟩ := sh1.newM hp r1
    exact k _ _ _ _ _ (q p mp) g1 sh2 (.val _)⟩⟩
/-! built-ins -/
theorem aw_one (h : EW X e ρ M (fun d M1 => ΦA [d] M1)) (hs : starEach [e] X.env = (false, eval e X.env) :: starEach [] X.env := by rfl) : AW X [e] ρ M ΦA := aw_cons (ew_to h fun _ _ q => aw_nil q) hs
theorem ew_intI {p : Pos} (hm : X.mg "int" = none) (h : EW X e ρ M (fun d M1 => ∃ i, d = dI i ∧ Φ (dI i) M1)) (hg : Gl X "int" := by rfl) (hst : starEach [e] X.env = [(false, eval e X.env)] := by rfl) : EW X (.Call (.Name "int" p) [e] [] pos) ρ M Φ :=
  (pe_callTy call_int1 hg hm (by decide +kernel) (aw_one (ΦA := fun ds M1 => ∃ i, ds = [dI i] ∧ Φ (dI i) M1) (ew_to h fun d M1 ⟨i, e, q⟩ => ⟨i, by rw [e], q⟩) hst) (he := hst)).mono fun σ H Q ⟨G, sa, k⟩ => ⟨G, sa, fun vs G1 H1 ds M1 ⟨i, e, q⟩ g1 sh1 r1 => by
    subst e
    rw [RepL.of_vals (xs := [.int i]) r1]
    exact .inl ⟨i, rfl, k _ G1 H1 _ M1 q g1 sh1 (.val _)⟩⟩
theorem ew_lenQ {p : Pos} (hm : X.mg "len" = none) (h : EW X e ρ M (fun d M1 => ∃ q ds, d = sq q ds ∧ Φ (dI ds.length) M1)) (hg : Gl X "len" := by rfl) (hst : starEach [e] X.env = [(false, eval e X.env)] := by rfl) : EW X (.Call (.Name "len" p) [e] [] pos) ρ M Φ :=
  (pe_callB call_len_seq hg hm PySem.boot_len (aw_one (ΦA := fun ds M1 => ∃ q es, ds = [sq q es] ∧ Φ (dI es.length) M1) (ew_to h fun d M1 ⟨i, es, e, q⟩ => ⟨i, es, by rw [e], q⟩) hst) (he := hst)).mono fun σ H Q ⟨G, sa, k⟩ => ⟨G, sa, fun vs G1 H1 ds M1 ⟨q, es, e, p⟩ g1 sh1 r1 => by
    subst e
    cases r1 with
    | cons h t =>
      cases t
      cases q with
      | true =>
        cases (show Rep X.K G1 _ (.lst es) from h) with
        | lst q r => exact ⟨_, _, rfl, .inl (sqlUp sh1.le q), by rw [r.len]; exact k _ G1 H1 _ M1 p g1 sh1 (.val _)⟩
      | false =>
        cases (show Rep X.K G1 _ (.tup es) from h) with
        | tup q r => exact ⟨_, _, rfl, .inr (sqtUp sh1.le q), by rw [r.len]; exact k _ G1 H1 _ M1 p g1 sh1 (.val _)⟩⟩
theorem ew_tupOf {p : Pos} (hm : X.mg "tuple" = none) (h : EW X e ρ M (fun d M1 => ∃ q ds, d = sq q ds ∧ Φ (.tup ds) M1)) (hg : Gl X "tuple" := by rfl) (hst : starEach [e] X.env = [(false, eval e X.env)] := by rfl) : EW X (.Call (.Name "tuple" p) [e] [] pos) ρ M Φ :=
  (pe_callTy call_tuple_of hg hm boot_tuple (aw_one (ΦA := fun ds M1 => ∃ q es, ds = [sq q es] ∧ Φ (.tup es) M1) (ew_to h fun d M1 ⟨i, es, e, q⟩ => ⟨i, es, by rw [e], q⟩) hst) (he := hst)).mono fun σ H Q ⟨G, sa, k⟩ => ⟨G, sa, fun vs' G1 H1 ds M1 ⟨b, es, e, p⟩ g1 sh1 r1 => by
    subst e
    cases r1 with
    | cons h t =>
      cases t
      cases b with
      | true =>
        cases (show Rep X.K G1 _ (.lst es) from h) with
        | lst q r => exact ⟨_, _, rfl, .inl ⟨sqlUp sh1.le q, fun l hl => by
            obtain ⟨sh2, g2⟩ := sh1.new (o := .tup _) hl
            exact k _ _ _ _ M1 p (g1.trans g2) sh2 (.tup (.inl (.inl upd_same)) (r.up g2))⟩⟩
      | false =>
        cases (show Rep X.K G1 _ (.tup es) from h) with
        | tup q r => exact ⟨_, _, rfl, .inr ⟨sqtUp sh1.le q, k _ G1 H1 _ M1 p g1 sh1 (.tup q r)⟩⟩⟩
theorem ew_listL {p : Pos} (hm : X.mg "list" = none) (h : EW X e ρ M (fun d M1 => ∃ q ds, d = sq q ds ∧ Φ (.lst ds) M1)) (hg : Gl X "list" := by rfl) (hst : starEach [e] X.env = [(false, eval e X.env)] := by rfl) : EW X (.Call (.Name "list" p) [e] [] pos) ρ M Φ :=
  (pe_callTy call_list_of hg hm boot_list (aw_one (ΦA := fun ds M1 => ∃ q es, ds = [sq q es] ∧ Φ (.lst es) M1) (ew_to h fun d M1 ⟨i, es, e, q⟩ => ⟨i, es, by rw [e], q⟩) hst) (he := hst)).mono fun σ H Q ⟨G, sa, k⟩ => ⟨G, sa, fun vs' G1 H1 ds M1 ⟨b, es, e, p⟩ g1 sh1 r1 => by
    subst e
    cases r1 with
    | cons h t =>
      cases t
      cases b with
      | true =>
        cases (show Rep X.K G1 _ (.lst es) from h) with
        | lst q r => exact ⟨_, _, rfl, .inl (sqlUp sh1.le q), fun l hl => by
            obtain ⟨sh2, g2⟩ := sh1.new (o := .lst _) hl
            exact k _ _ _ _ M1 p (g1.trans g2) sh2 (.lst (.inl (.inl upd_same)) (r.up g2))⟩
      | false =>
        cases (show Rep X.K G1 _ (.tup es) from h) with
        | tup q r => exact ⟨_, _, rfl, .inr (sqtUp sh1.le q), fun l hl => by
            obtain ⟨sh2, g2⟩ := sh1.new (o := .lst _) hl
            exact k _ _ _ _ M1 p (g1.trans g2) sh2 (.lst (.inl (.inl upd_same)) (r.up g2))⟩⟩
theorem ew_all {p : Pos} (hc : X.calm = true) (hm : X.mg "all" = none) (h : EW X e ρ M (fun d M1 => ∃ bs : List Bool, d = .lst (bs.map dB) ∧ Φ (dB (bs.all id)) M1)) (hg : Gl X "all" := by rfl) (hst : starEach [e] X.env = [(false, eval e X.env)] := by rfl) : EW X (.Call (.Name "all" p) [e] [] pos) ρ M Φ :=
  (pe_callB (cr_all hc) hg hm boot_all (aw_one (ΦA := fun ds M1 => ∃ bs : List Bool, ds = [.lst (bs.map dB)] ∧ Φ (dB (bs.all id)) M1) (ew_to h fun d M1 ⟨bs, e, q⟩ => ⟨bs, by rw [e], q⟩) hst) (he := hst)).mono fun σ H Q ⟨G, sa, k⟩ => ⟨G, sa, fun vs' G1 H1 ds M1 ⟨bs, e, p⟩ g1 sh1 r1 => by
    subst e
    cases r1 with
    | cons h t =>
      cases t
      cases h with
      | lst q r =>
        have e : bs.map dB = (bs.map V.bl).map D.val := by rw [List.map_map] <;> rfl
        rw [e] at r
        rw [RepL.of_vals r] at q
        exact ⟨_, bs, rfl, sqlUp sh1.le q, k _ G1 H1 _ M1 p g1 sh1 (.val _)⟩⟩
end
end Vt
namespace Vt
open PySem PySem.Spec PyProof.Rows L2
/-! statements -/
section
variable {X : Cx} {ρ ρ' : Sl} {M M1 M2 M3 : Mem} {a b c e : Expr} {es : List Expr} {d d1 d2 : D} {ds : List D} {pos : Pos} {Ψ : Out → Prop} {Φ : D → Mem → Prop} {g : TG}
theorem sw_set (i : Nat) {x : Str} {pos' : Pos} (hN : X.N.Nodup) (he : EW X e ρ M (fun d M1 => Ψ (.nx (ρ.set i (some d)) M1))) (hi : X.N[i]? = some x := by rfl) (hx : L2.Loc X.env.scope x := by first | exact Or.inl rfl | exact Or.inr rfl) (hs : swapsWith e (some (.Name x pos')) pos.line X.env = pure false := by rfl)
    (hf : X.fn x = true ∨ X.env.scope.names.lookup x = some .local := by first | exact .inl rfl | exact .inr rfl) : SV X (.Assign [.Name x pos'] e pos) ρ M Ψ := sv_setW i hN he (fun _ _ h => h) hi hx hs hf
theorem sw_ret (he : EW X e ρ M (fun d M1 => Ψ (.ret d M1))) : SV X (.Return (some e) pos) ρ M Ψ := sv_retW he fun _ _ h => h
theorem sw_expr (h : EW X e ρ M (fun _ M1 => Ψ (.nx ρ M1))) (hs : swapsWith e none pos.line X.env = pure false := by rfl) : SV X (.Expr e pos) ρ M Ψ :=
  (ps_expr h hs).mono fun E σ H ⟨G, sa, k⟩ => ⟨G, sa, fun v G1 H1 d M1 q g1 sh1 r1 => k _ q σ G1 H1 g1 ⟨sh1, sa.sl.up g1⟩⟩
theorem sw_if {as bs : List Stmt} (hc : TW X c ρ M (fun p M1 => (p = true → BV X as ρ M1 Ψ) ∧ (p = false → BV X bs ρ M1 Ψ))) : SV X (.If c as bs pos) ρ M Ψ :=
  (ps_if hc pk_b pk_b).mono fun E σ H ⟨G, sa, k⟩ => ⟨G, sa, fun p G1 H1 M1 ⟨h1, h2⟩ g1 sh1 => by
    cases p with
    | true => exact (⟨M1, h1 rfl, G1, ⟨sh1, sa.sl.up g1⟩, fun o ho => (k o ho).up g1⟩ : pkB X as ρ Ψ E σ H1)
    | false => exact (⟨M1, h2 rfl, G1, ⟨sh1, sa.sl.up g1⟩, fun o ho => (k o ho).up g1⟩ : pkB X bs ρ Ψ E σ H1)⟩
theorem sw_asg {tg : Expr} (hg : PG X tg g) (he : EW X e ρ M (fun d M1 => ∃ ρ', TG1 X.K g ρ d ρ' ∧ Ψ (.nx ρ' M1))) (hs : swapsWithSole [tg] e pos.line X.env = pure false := by rfl) (hw : swappedStores [tg] e X.env = pure none := by rfl)
    (h1 : (assignEach [tg] X.env).map (·.2) = [assign tg X.env] := by rfl) : SV X (.Assign [tg] e pos) ρ M Ψ := sv_asgW he hg (fun _ _ h => h) hs hw h1
/-- xs.append(e), xs a list of the memory -/
theorem sw_append {p : Addr} {ap cp : Pos} (ho : EV X a ρ M (dP p) M1) (hm1 : ∃ es, M1 p = some (.lst es)) (ha : EW X e ρ M1 (fun d M2 => ∃ ds, M2 p = some (.lst ds) ∧ ds.length < sizeLine ∧ Ψ (.nx ρ (M2.set p (.lst (ds ++ [d]))))))
    (h1 : attributeBase a "append" X.env (eval a X.env) = eval a X.env := by rfl) (h3 : (ap.endLine == cp.line) = true := by decide) (h4 : starEach [e] X.env = (false, eval e X.env) :: starEach [] X.env := by rfl)
    (h2 : (((((backTo cp (starEach [e] X.env)).all fun x => !x.fst) && (backToKw cp (keywordEach [] X.env)).all fun x => x.fst.isSome) && decide (([e].length + ([] : List Keyword).length + if ([] : List Keyword).isEmpty = true then 0 else 1) < 30)) = true) := by rfl)
    (h5 : (((backTo cp (starEach [] X.env)).any fun x => x.fst) = false) := by rfl)
    (hs : swapsWith (.Call (.Attribute a "append" ap) [e] [] cp) none pos.line X.env = pure false := by rfl) : SV X (.Expr (.Call (.Attribute a "append" ap) [e] [] cp) pos) ρ M Ψ :=
  (ps_expr (pe_bm PySem.F.plainAttrs_list PySem.F.slot_list_append PySem.F.type_list_append mt_append ho (aw_one (ΦA := fun ds' M2 => ∃ d ds, ds' = [d] ∧ M2 p = some (.lst ds) ∧ ds.length < sizeLine ∧ Ψ (.nx ρ (M2.set p (.lst (ds ++ [d]))))) (ew_to ha fun d M2 ⟨ds, q1, q2, q3⟩ => ⟨d, ds, rfl, q1, q2, q3⟩) h4) h1 h2 h3 h4 h5) hs).mono fun E σ H ⟨G, sa, k⟩ => ⟨G, sa, fun v1 G1 H1 g1 sh1 r1 => by
    obtain ⟨es, hes⟩ := hm1
    obtain ⟨_, vs1, hv1, _⟩ := sh1.mem p _ hes
    rw [r1.of_val]
    refine ⟨.inl ⟨rfl, _, .inl (.inl hv1)⟩, G1, ⟨sh1, sa.sl.up g1⟩, fun vs G2 H2 ds' M2 ⟨d, ds, e, hm, hl, hΨ⟩ g2 sh2 r2 => ?_⟩
    subst e
    cases r2 with
    | cons r2 t =>
      cases t
      obtain ⟨_, vs2, hv2, rl⟩ := sh2.mem p _ hm
      exact ⟨p, vs2, _, rfl, rfl, hv2, by rw [rl.len]; exact hl, k _ hΨ σ G2 _ (g1.trans g2) ⟨sh2.put hm (rl.append (.cons r2 .nil)), (sa.sl.up g1).up g2⟩⟩⟩
/-! what is walked -/
/-- what is walked may make new items -/
def JW2 (K : PySem.W.Frag) (J : It) (G : Hp) (ds : List D) : Prop := ∀ (i : Nat) H, Same G H → (∀ d, ds[i]? = some d → J.go i H ∧ ∀ x H', J.yld i H x H' → ∀ G2 M, Same G G2 → SH K G2 H M → ∃ G3, Same G2 G3 ∧ SH K G3 H' M ∧ Rep K G3 x d) ∧ (ds.length ≤ i → J.stop i H)
theorem JW.two {K : PySem.W.Frag} {J : It} {G : Hp} {ds : List D} (h : JW K J G ds) : JW2 K J G ds := fun i H e => ⟨fun d hd => ⟨((h i H e).1 d hd).1, fun x H' y G2 M g2 sh => by
  obtain ⟨e2, r⟩ := ((h i H e).1 d hd).2 x H' y
  subst e2
  exact ⟨G2, Same.refl _, sh, r.up g2⟩⟩, (h i H e).2⟩
def tIW (K : PySem.W.Frag) (ρ : Sl) (M : Mem) (Φ : List D → Mem → Prop) : TI := fun σ H R => ∃ G, SA K G H σ ρ M ∧ ∀ J G' H' ds M1, Φ ds M1 → Same G G' → SH K G' H' M1 → JW2 K J G' ds → R J H'
abbrev IW (X : Cx) (tg iter : Expr) (ρ : Sl) (M : Mem) (Φ : List D → Mem → Prop) : Prop := PI X tg iter (tIW X.K ρ M Φ)
variable {tg iter : Expr} {ΦI : List D → Mem → Prop}
theorem iw_iv (h : IV X tg iter ρ M ds M1) (q : ΦI ds M1) : IW X tg iter ρ M ΦI := h.mono fun σ H R ⟨G, sa, k⟩ => ⟨G, sa, fun J G1 H1 g1 sh1 jw => k J G1 H1 ds M1 q g1 sh1 jw.two⟩
theorem iw_list (h : EW X e ρ M (fun d M1 => ∃ ds, d = .lst ds ∧ ΦI ds M1)) : IW X tg e ρ M ΦI :=
  (pi_list h).mono fun σ H R ⟨G, sa, k⟩ => ⟨G, sa, fun v G1 H1 d M1 ⟨ds, e, p⟩ g1 sh1 r1 => by
    subst e
    cases r1 with
    | lst q r => exact ⟨_, rfl, ⟨_, sqlUp sh1.le q⟩, k _ G1 H1 _ M1 p g1 sh1 (JW.list q r).two⟩⟩
theorem iw_tup (h : EW X e ρ M (fun d M1 => ∃ ds, d = .tup ds ∧ ΦI ds M1)) : IW X tg e ρ M ΦI :=
  (pi_tup h).mono fun σ H R ⟨G, sa, k⟩ => ⟨G, sa, fun v G1 H1 d M1 ⟨ds, e, p⟩ g1 sh1 r1 => by
    subst e
    cases r1 with
    | tup q r => exact ⟨_, rfl, ⟨_, sqtUp sh1.le q⟩, k _ G1 H1 _ M1 p g1 sh1 (JW.tup q r).two⟩⟩
theorem iw_range1 {p : Pos} (hm : X.mg "range" = none) (h : EW X e ρ M (fun d M1 => ∃ j : Int, d = dI j ∧ (-(2 ^ 62) ≤ j ∧ j < 2 ^ 62) ∧ ΦI (rgD 0 j.toNat) M1)) (hg : Gl X "range" := by rfl) (hst : starEach [e] X.env = [(false, eval e X.env)] := by rfl) : IW X tg (.Call (.Name "range" p) [e] [] pos) ρ M ΦI :=
  (pi_range1 hg hm (aw_one (ΦA := fun ds M1 => ∃ j : Int, ds = [dI j] ∧ (-(2 ^ 62) ≤ j ∧ j < 2 ^ 62) ∧ ΦI (rgD 0 j.toNat) M1) (ew_to h fun d M1 ⟨j, e, q1, q2⟩ => ⟨j, by rw [e], q1, q2⟩) hst) hst).mono fun σ H R ⟨G, sa, k⟩ => ⟨G, sa, fun vs G1 H1 ds M1 ⟨j, e, hj, q⟩ g1 sh1 r1 => by
    subst e
    rw [RepL.of_vals (xs := [.int j]) r1]
    exact ⟨j, rfl, hj.1, hj.2, k _ G1 H1 _ M1 q g1 sh1 JW.range.two⟩⟩
/-- for: Iv i is what holds ahead of turn i -/
theorem sw_for {body : List Stmt} (hc : X.calm = true) (hg : PG X tg g)
    (hi : IW X tg iter ρ M (fun ds M1 => ∃ Iv : Nat → Sl → Mem → Prop, Iv 0 ρ M1 ∧ (∀ i d ρ' M', ds[i]? = some d → Iv i ρ' M' → ∃ ρ'', TG1 X.K g ρ' d ρ'' ∧ BV X body ρ'' M' (loopR Iv Ψ i)) ∧ ∀ ρ' M', Iv ds.length ρ' M' → Ψ (.nx ρ' M')))
    (hp : PassesOwn (model X.prog X.w) X.A X.env X.xe := by exact PassesOwn.never) (hs : ∀ x, foldedSetIterable iter X.env x = pure x := by intro _; rfl) : SV X (.For tg iter body [] pos) ρ M Ψ := by
  refine (ps_for (tb := fun E σ H => ∃ ρ M Ψ', BV X body ρ M Ψ' ∧ tS X.K ρ M Ψ' E σ H) hp hc hi hg ⟨fun pins s σ H E I ⟨ρ', M', Ψ', hb, q⟩ => hb.run pins s σ H E I q⟩ hs).mono fun E σ H ⟨G, sa, k⟩ => ⟨G, sa, fun J G1 H1 ds M1 ⟨Iv, iv0, step, done⟩ g1 sh1 jw => ?_⟩
  refine ⟨fun i m σ H => m = ds.length - i ∧ i ≤ ds.length ∧ ∃ G ρ M, Same G1 G ∧ SA X.K G H σ ρ M ∧ Iv i ρ M, ⟨ds.length, by simp, Nat.zero_le _, G1, ρ, M1, Same.refl _, ⟨sh1, sa.sl.up g1⟩, iv0⟩, ?_⟩
  rintro i m σ2 H2 ⟨rfl, hi, G2, ρ2, M2, g2, sa2, iv⟩
  obtain ⟨j1, j2⟩ := jw i H2 (g2.trans sa2.sh.le)
  by_cases hlt : i < ds.length
  · have hd : ds[i]? = some ds[i] := List.getElem?_eq_getElem hlt
    obtain ⟨go, yl⟩ := j1 _ hd
    refine .inr ⟨go, fun σ3 H3 => ∃ G ρ M, Same G1 G ∧ SA X.K G H3 σ3 ρ M ∧ Iv (i + 1) ρ M, fun σ' H' p' => ⟨ds.length - (i + 1), by omega, rfl, hlt, p'⟩, fun x H' y => ?_⟩
    obtain ⟨G3, g3, sh3, rx⟩ := yl x H' y G2 M2 g2 sa2.sh
    have g2 := g2.trans g3
    obtain ⟨ρ3, tg3, bv⟩ := step i _ ρ2 M2 hd iv
    refine tg3 x σ2 G3 H' _ sh3.le (sa2.sl.up g3) rx fun σ3 rs3 => ⟨ρ3, M2, _, bv, G3, ⟨sh3, rs3⟩, fun o ho => ?_⟩
    cases o with
    | nx ρ4 M4 => exact fun σ4 G4 H4 g4 sa4 => ⟨G4, ρ4, M4, g2.trans g4, sa4, ho⟩
    | ct ρ4 M4 => exact fun σ4 G4 H4 g4 sa4 => ⟨G4, ρ4, M4, g2.trans g4, sa4, ho⟩
    | bk ρ4 M4 => exact fun σ4 G4 H4 g4 sa4 => k _ ho σ4 G4 H4 ((g1.trans g2).trans g4) sa4
    | ret d4 M4 => exact fun v G4 H4 g4 sh4 r4 => k _ ho v G4 H4 ((g1.trans g2).trans g4) sh4 r4
  · have e : i = ds.length := by omega
    subst e
    exact .inl ⟨j2 (Nat.le_refl _), k _ (done ρ2 M2 iv) σ2 G2 H2 (g1.trans g2) sa2⟩
/-- [e for x in ..]: Iv i acc is what holds of the memory ahead of turn i (without the list that is being made) -/
def LcI (X : Cx) (g : TG) (own : List (Str × Nat)) (scope : Scope) (elt : Expr) (ρ : Sl) (Φ : D → Mem → Prop) (ds : List D) (M1 : Mem) : Prop :=
  ds.length ≤ sizeLine ∧ ∃ Iv : Nat → List D → Mem → Prop, Iv 0 [] M1 ∧
    (∀ i d acc M, ds[i]? = some d → acc.length = i → Iv i acc M → ∃ ρ', TGb X.K g (own.map (·.2)) (wipeD ρ (own.map (·.2))) d ρ' ∧ ∀ (p : Addr), M p = none → ∀ (s : Shared) (H : Hp) (C : Addr) (cl : List (Str × Addr)) (fp : List Addr),
      EW (X.blk s H scope (compEnvC scope cl C X.env) fp) elt ρ' (M.set p (.lst acc)) (fun d' M' => ∃ M2, M' = M2.set p (.lst acc) ∧ M2 p = none ∧ Iv (i + 1) (acc ++ [d']) M2)) ∧
    ∀ acc M, acc.length = ds.length → Iv ds.length acc M → Φ (.lst acc) M
theorem lcw_read {elt : Expr} {scope : Scope} {own : List (Str × Nat)} (σ : L2.St) (H : Hp) (Q : VK) (hΦ : ∃ G, SA X.K G H σ ρ M ∧ ∀ v G' H' d M', Φ d M' → Same G G' → SH X.K G' H' M' → Rep X.K G' v d → Q v H') :
    tLc (tIW X.K ρ M (LcI X g own scope elt ρ Φ)) g tYes (fun σ H Q => ∃ ρ' M' Φ', (∀ (s : Shared) (H : Hp) (C : Addr) (cl : List (Str × Addr)) (fp : List Addr), EW (X.blk s H scope (compEnvC scope cl C X.env) fp) elt ρ' M' Φ') ∧ tW X.K ρ' M' Φ' σ H Q) (own.map (·.2)) σ H Q := by
  obtain ⟨G, sa, k⟩ := hΦ
  refine ⟨G, sa, fun J G1 H1 ds M1 ⟨hlen, Iv, h0, step, done⟩ g1 sh1 jw => fun p hp => ?_⟩
  obtain ⟨shp, mp, gp⟩ := sh1.newM hp (RepL.nil (K := X.K) (G := G1))
  refine ⟨fun i mm H => mm = ds.length - i ∧ i ≤ ds.length ∧ ∃ G acc M, Same G1 G ∧ acc.length = i ∧ M p = none ∧ Iv i acc M ∧ SH X.K G H (M.set p (.lst acc)), ⟨ds.length, by simp, Nat.zero_le _, G1, [], M1, Same.refl _, rfl, mp, h0, shp⟩, ?_⟩
  rintro i mm H2 ⟨rfl, hi, G2, acc, M2, g2, hacc, hmp, iv, sh2⟩
  obtain ⟨j1, j2⟩ := jw i H2 (g2.trans sh2.le)
  by_cases hlt : i < ds.length
  · have hd : ds[i]? = some ds[i] := List.getElem?_eq_getElem hlt
    obtain ⟨go, yl⟩ := j1 _ hd
    refine .inr ⟨go, fun H3 => ∃ G acc M, Same G1 G ∧ acc.length = i + 1 ∧ M p = none ∧ Iv (i + 1) acc M ∧ SH X.K G H3 (M.set p (.lst acc)), fun H' p' => ⟨ds.length - (i + 1), by omega, rfl, hlt, p'⟩, fun x H' y => ?_⟩
    obtain ⟨G3, g3, sh3, rx⟩ := yl x H' y G2 _ g2 sh2
    have g2 := g2.trans g3
    obtain ⟨ρ3, tg3, ev⟩ := step i _ acc M2 hd hacc iv
    refine tg3 x σ G3 H' _ sh3.le (wipe_rep ((sa.sl.up g1).up g2) _) rx fun σ3 rs3 hw => ⟨hw, ?_⟩
    show ∃ ρ' M' Φ', _ ∧ tW X.K ρ' M' Φ' σ3 H' _
    refine ⟨ρ3, _, _, ev p hmp, G3, ⟨sh3, rs3⟩, fun v G4 H4 d4 M4 ⟨M5, e5, n5, iv5⟩ g4 sh4 r4 => ?_⟩
    subst e5
    obtain ⟨_, vs, hv, rl⟩ := sh4.mem p _ Mem.set_same
    refine ⟨vs, hv, ?_, G4, acc ++ [d4], M5, g2.trans g4, by rw [List.length_append, hacc]; rfl, n5, iv5, ?_⟩
    · rw [rl.len, hacc]
      exact Nat.lt_of_lt_of_le hlt hlen
    · have q := sh4.put (ds := acc ++ [d4]) Mem.set_same (rl.append (.cons r4 .nil))
      rw [Mem.set_set] at q
      exact q
  · have e : i = ds.length := by omega
    subst e
    obtain ⟨vs, sh3, g3, rl⟩ := sh2.freeze hmp
    exact .inl ⟨j2 (Nat.le_refl _), k _ _ H2 _ M2 (done acc M2 hacc iv) ((g1.trans g2).trans g3) sh3 (.lst (.inl (.inl upd_same)) (rl.up g3))⟩
theorem ew_lc {elt : Expr} {scope : Scope} {own : List (Str × Nat)} (hc : X.calm = true) (hN : X.N.Nodup) (ok : BlkOk X.N X.env.scope scope own)
    (hg : ∀ (s : Shared) (H : Hp) (C : Addr) (cl : List (Str × Addr)) (fp : List Addr), PG (X.blk s H scope (compEnvC scope cl C X.env) fp) tg g) (hi : IW X tg iter ρ M (LcI X g own scope elt ρ Φ))
    (hs : ∀ x, foldedSetIterable iter X.env x = pure x := by intro _; rfl) : EW X (.ListComp elt [⟨tg, iter, [], 0⟩] scope pos) ρ M Φ :=
  (pe_lc hc hN hi ok hg (fun _ _ _ _ _ => pts_nil) (fun s H C cl fp => ⟨fun pins s' σ H' Q I ⟨ρ', M', Φ', hb, q⟩ => (hb s H C cl fp).run pins s' σ H' Q I q⟩) hs).mono fun σ H Q h => lcw_read σ H Q h
theorem sw_setLc (i : Nat) {y : Str} {py : Pos} {elt : Expr} {scope : Scope} {own : List (Str × Nat)} {spos : Pos} (hc : X.calm = true) (hN : X.N.Nodup) (ok : BlkOk X.N X.env.scope scope own)
    (hg : ∀ (s : Shared) (H : Hp) (C : Addr) (cl : List (Str × Addr)) (fp : List Addr), PG (X.blk s H scope (compEnvC scope cl C X.env) fp) tg g) (hi : IW X tg iter ρ M (LcI X g own scope elt ρ (fun d M1 => Ψ (.nx (ρ.set i (some d)) M1))))
    (hw : swapsWith (.ListComp elt [⟨tg, iter, [], 0⟩] scope pos) (some (.Name y py)) spos.line X.env = pure true := by rfl) (hy : X.N[i]? = some y := by rfl) (hl : X.env.scope.names.lookup y = some .local := by rfl)
    (hs : ∀ x, foldedSetIterable iter X.env x = pure x := by intro _; rfl) : SV X (.Assign [.Name y py] (.ListComp elt [⟨tg, iter, [], 0⟩] scope pos) spos) ρ M Ψ :=
  (ps_setLc hc hN hy hl hw hi ok hg (fun _ _ _ _ _ => pts_nil) (fun s H C cl fp => ⟨fun pins s' σ H' Q I ⟨ρ', M', Φ', hb, q⟩ => (hb s H C cl fp).run pins s' σ H' Q I q⟩) hs).mono fun E σ H ⟨G, sa, k⟩ =>
    lcw_read (Φ := fun d M1 => Ψ (.nx (ρ.set i (some d)) M1)) σ H _ ⟨G, sa, fun v G1 H1 d M1 q g1 sh1 r1 => k _ q _ G1 H1 g1 ⟨sh1, (sa.sl.up g1).set i r1⟩⟩
end
end Vt
namespace Vt
open PySem PySem.Spec PyProof.Rows L2
section
variable {X : Cx} {ρ : Sl} {M M1 : Mem} {a b c e : Expr} {pos : Pos} {Ψ : Out → Prop}
/-- x, y = a, b -/
theorem sw_par (i j : Nat) {x y : Str} {px py pt pt2 : Pos} {kt k2} (hc : X.calm = true) (hN : X.N.Nodup) (h : AW X [a, b] ρ M (fun ds M1 => ∃ d1 d2, ds = [d1, d2] ∧ Ψ (.nx ((ρ.set i (some d1)).set j (some d2)) M1)))
    (hij : i ≠ j := by decide) (hi : X.N[i]? = some x := by rfl) (hj : X.N[j]? = some y := by rfl) (hx : X.env.scope.names.lookup x = some .local := by rfl) (hy : X.env.scope.names.lookup y = some .local := by rfl)
    (hw : swappedStores [.Tuple [.Name x px, .Name y py] kt pt] (.Tuple [a, b] k2 pt2) X.env = pure (some [x, y]) := by rfl) : SV X (.Assign [.Tuple [.Name x px, .Name y py] kt pt] (.Tuple [a, b] k2 pt2) pos) ρ M Ψ :=
  (ps_par hc hN hi hj hij hx hy h hw).mono fun E σ H ⟨G, sa, k⟩ => ⟨G, sa, fun vs G1 H1 ds M1 ⟨d1, d2, e, q⟩ g1 sh1 r1 => by
    subst e
    match vs, r1 with
    | [v1, v2], .cons r1 (.cons r2 .nil) => exact ⟨v1, v2, rfl, k _ q _ G1 H1 g1 ⟨sh1, ((sa.sl.up g1).set i r1).set j r2⟩⟩⟩
theorem sw_par3 (i j l : Nat) {x y z : Str} {px py pz pt pt2 : Pos} {kt k2} (hc : X.calm = true) (hN : X.N.Nodup) (h : AW X [a, b, c] ρ M (fun ds M1 => ∃ d1 d2 d3, ds = [d1, d2, d3] ∧ Ψ (.nx (((ρ.set i (some d1)).set j (some d2)).set l (some d3)) M1)))
    (hij : i ≠ j := by decide) (hil : i ≠ l := by decide) (hjl : j ≠ l := by decide) (hi : X.N[i]? = some x := by rfl) (hj : X.N[j]? = some y := by rfl) (hl : X.N[l]? = some z := by rfl) (hx : X.env.scope.names.lookup x = some .local := by rfl) (hy : X.env.scope.names.lookup y = some .local := by rfl) (hz : X.env.scope.names.lookup z = some .local := by rfl)
    (hw : swappedStores [.Tuple [.Name x px, .Name y py, .Name z pz] kt pt] (.Tuple [a, b, c] k2 pt2) X.env = pure (some [x, y, z]) := by rfl) : SV X (.Assign [.Tuple [.Name x px, .Name y py, .Name z pz] kt pt] (.Tuple [a, b, c] k2 pt2) pos) ρ M Ψ :=
  (ps_par3 hc hN hi hj hl hij hil hjl hx hy hz h hw).mono fun E σ H ⟨G, sa, k⟩ => ⟨G, sa, fun vs G1 H1 ds M1 ⟨d1, d2, d3, e, q⟩ g1 sh1 r1 => by
    subst e
    match vs, r1 with
    | [v1, v2, v3], .cons r1 (.cons r2 (.cons r3 .nil)) => exact ⟨v1, v2, v3, rfl, k _ q _ G1 H1 g1 ⟨sh1, (((sa.sl.up g1).set i r1).set j r2).set l r3⟩⟩⟩
end
end Vt
namespace Vt
open PySem PySem.Spec PyProof.Rows L2
/-! targets and walks over tuples or lists -/
def gSq (K : PySem.W.Frag) (b : Bool) (n : Nat) (t : TGs) : TG := if b = true then gUnl K n t else gTup K n t
section
variable {X : Cx} {K : PySem.W.Frag} {ρ ρ' ρ'' : Sl} {M M1 : Mem} {e : Expr} {es : List Expr} {d : D} {ds : List D} {pos : Pos} {g : TG} {gs : TGs} {tg : Expr}
theorem pg_sq (b : Bool) {k n : Nat} (hc : X.calm = true) (h : PGs X es gs) (hn : (assignEach es X.env).length = n := by rfl) (hst : (assignEach es X.env).findIdx? (·.1) = none := by rfl) : PG X (.Tuple es k pos) (gSq X.K b n gs) := by
  cases b with
  | true => exact pg_unl hc h hn hst
  | false => exact pg_tup hc h hn hst
theorem tg_sq {b : Bool} {n : Nat} (h : TG2 K gs ρ ds ρ') (hl : ds.length = n := by rfl) : TG1 K (gSq K b n gs) ρ (sq b ds) ρ' := by
  cases b with
  | true => exact tg_lst h hl
  | false => exact tg_tup h hl
theorem iv_sq {b : Bool} (h : EV X e ρ M (sq b ds) M1) : IV X tg e ρ M ds M1 := by
  cases b with
  | true => exact iv_list h
  | false => exact iv_tup h
/-- the same within a comprehension: what is stored in are slots of the block's own, vs -/
def TBs (K : PySem.W.Frag) (gs : TGs) (vs : List Nat) (ρ : Sl) (ds : List D) (ρ' : Sl) : Prop := ∀ xs σ0 σ G H Q, Same G H → RepS K G σ ρ → wipe σ vs = wipe σ0 vs → RepL K G xs ds → (∀ σ', RepS K G σ' ρ' → wipe σ' vs = wipe σ0 vs → Q σ' H) → gs xs σ H Q
def TB (K : PySem.W.Frag) (g : TG) (vs : List Nat) (ρ : Sl) (d : D) (ρ' : Sl) : Prop := ∀ x σ0 σ G H Q, Same G H → RepS K G σ ρ → wipe σ vs = wipe σ0 vs → Rep K G x d → (∀ σ', RepS K G σ' ρ' → wipe σ' vs = wipe σ0 vs → Q σ' H) → g x σ H Q
theorem wipe_set {vs : List Nat} {i : Nat} {x : Option V} (hi : i ∈ vs) : ∀ {σ : L2.St}, wipe (σ.set i x) vs = wipe σ vs := by
  induction vs with
  | nil => cases hi
  | cons v vs ih =>
    intro σ
    show (wipe (σ.set i x) vs).set v none = (wipe σ vs).set v none
    by_cases hv : i ∈ vs
    · rw [ih hv]
    · have e : i = v := by
        rcases List.mem_cons.mp hi with e | e
        · exact e
        · exact absurd e hv
      subst e
      have key : ∀ (ws : List Nat), i ∉ ws → ∀ σ : L2.St, wipe (σ.set i x) ws = (wipe σ ws).set i x := by
        intro ws
        induction ws with
        | nil => intro _ σ; rfl
        | cons w ws ihw =>
          intro hw σ
          show (wipe (σ.set i x) ws).set w none = ((wipe σ ws).set w none).set i x
          rw [ihw (fun z => hw (List.mem_cons_of_mem _ z)), List.set_comm _ _ (fun z => hw (by rw [z]; exact List.mem_cons_self))]
      rw [key vs hv, List.set_set]
theorem wipe_wipe {vs : List Nat} : ∀ {σ : L2.St}, wipe (wipe σ vs) vs = wipe σ vs := by
  have key : ∀ (ws vs : List Nat), (∀ v ∈ vs, v ∈ ws) → ∀ σ : L2.St, wipe (wipe σ vs) ws = wipe σ ws := by
    intro ws vs
    induction vs with
    | nil => intro _ σ; rfl
    | cons v vs ih =>
      intro h σ
      show wipe ((wipe σ vs).set v none) ws = _
      rw [wipe_set (h v List.mem_cons_self), ih (fun u hu => h u (List.mem_cons_of_mem _ hu))]
  exact fun {σ} => key vs vs (fun _ h => h) σ
theorem tb_name {vs : List Nat} {i : Nat} (hi : i ∈ vs := by decide) : TB K (gName i) vs ρ d (ρ.set i (some d)) := fun x σ0 σ G H Q e h hw r k => k _ (h.set i r) (by rw [wipe_set hi]; exact hw)
theorem tbs_nil {vs : List Nat} : TBs K gNil vs ρ [] ρ := fun xs σ0 σ G H Q e h hw r k => by
  cases r
  exact ⟨rfl, k σ h hw⟩
theorem tbs_cons {vs : List Nat} (h1 : TB K g vs ρ d ρ') (h2 : TBs K gs vs ρ' ds ρ'') : TBs K (gCons g gs) vs ρ (d :: ds) ρ'' := fun xs σ0 σ G H Q e h hw r k => by
  cases r with
  | cons r t => exact ⟨_, _, rfl, h1 _ σ0 σ G H _ e h hw r fun σ' h' hw' => h2 _ σ0 σ' G H _ e h' hw' t k⟩
theorem tb_tup {vs : List Nat} {n : Nat} (h : TBs K gs vs ρ ds ρ') (hl : ds.length = n := by rfl) : TB K (gTup K n gs) vs ρ (.tup ds) ρ' := fun x σ0 σ G H Q e h0 hw r k => by
  cases r with
  | tup q r => exact ⟨_, _, rfl, sqtUp e q, r.len.trans hl, h _ σ0 σ G H _ e h0 hw r k⟩
theorem tb_sq {vs : List Nat} {b : Bool} {n : Nat} (h : TBs K gs vs ρ ds ρ') (hl : ds.length = n := by rfl) : TB K (gSq K b n gs) vs ρ (sq b ds) ρ' := by
  cases b with
  | false => exact tb_tup h hl
  | true =>
    intro x σ0 σ G H Q e h0 hw r k
    cases (show Rep K G x (.lst ds) from r) with
    | lst q r => exact ⟨_, _, rfl, sqlUp e q, r.len.trans hl, h _ σ0 σ G H _ e h0 hw r k⟩
theorem tgb_of {vs : List Nat} (h : TB K g vs ρ d ρ') : TGb K g vs ρ d ρ' := fun x σ G H Q e hs r k => h x σ (wipe σ vs) G H Q e hs wipe_wipe r k
end
end Vt
namespace Vt
open PySem PySem.Spec PyProof.Rows L2
/-! ### enumerate of a tuple -/
end Vt
namespace VtEnum
open PySem
open PySem.Sem (wp)
open AutoSeq1 (wpAny_loadPart')
/-- what enumerate(t) makes: the walk of t, and the enumeration -/
def walkO (t : Addr) : Obj := { cls := .type "tuple_iterator", data := .fields #[.ref t, .int 0 0] }
def enumO (it : Addr) (i : Int) (old : Value) : Obj := { cls := .type "enumerate", data := .fields #[.none, .bool false, .ref it, rawInt i, .none, old] }
theorem meets_new (t : Addr) (items : Array Value) (n : Nat) (dd : Option Addr) (sl : Array (Option Value)) :
    Meets (Builtin.«enumerate.__new__» ⟨[.type "enumerate", .ref t], []⟩) (fun _ R s => s.heap.get? t = some { cls := .type "tuple", dict := dd, data := .seq items n, slots := sl } ∧
      R (.ok (.ret (.ref (s.heap.push (walkO t)).objs.size))) { s with heap := (s.heap.push (walkO t)).push (enumO s.heap.objs.size 0 .none) }) :=
  .of_wp fun prog w A R s z => by
    obtain ⟨hp, gens, dr, tk, os⟩ := s
    obtain ⟨ht, z⟩ := z
    have sub := sub_enumerate
    have isT : Heap.IsTuple (Shared.heap ⟨hp, gens, dr, tk, os⟩) t items := ⟨_, ht, rfl, n, rfl⟩
    wp_walk using wpAny_loadPart' ht
    refine wpAny_stack_any fun _ => wpAny_pure ?_
    split
    · rename_i c _ _ _ _ _
      cases (c == Value.type "enumerate") <;>
      · wp_walk using wpAny_loadPart' ht, wpAny_pyIter_tuple isT
        exact ⟨_, rfl, z⟩
    · wp_walk using wpAny_loadPart' ht, wpAny_pyIter_tuple isT
      exact ⟨_, rfl, z⟩
section
variable {prog : Program} {w : World} {A : Around} {E : Value → Shared → Prop} {s : Shared}
theorem call_new {t : Addr} {items : Array Value} {Q : Value → Shared → Prop} (isT : s.heap.IsTuple t items)
    (k : ∀ h', IsEnum h' (s.heap.objs.size + 1) s.heap.objs.size 0 .none → h'.IsTupleIter s.heap.objs.size t 0 → (∀ b o, s.heap.get? b = some o → h'.get? b = some o) → Q (.ref (s.heap.objs.size + 1)) { s with heap := h' }) :
    wpAny (model prog w) A (call (.type "enumerate") [.ref t]) Q E s := by
  obtain ⟨⟨c, dct, dt, sl⟩, ht, hc, n, hd⟩ := isT
  have hc : c = .type "tuple" := hc
  have hd : dt = .seq items n := hd
  subst hc hd
  have sz : (s.heap.push (walkO t)).objs.size = s.heap.objs.size + 1 := Heap.size_push ..
  have e1 : IsEnum ((s.heap.push (walkO t)).push (enumO s.heap.objs.size 0 .none)) (s.heap.objs.size + 1) s.heap.objs.size 0 .none := by
    have q := Heap.get?_push_size (s.heap.push (walkO t)) (o := enumO s.heap.objs.size 0 .none) rfl
    rwa [sz] at q
  refine callType_new F.called_enumerate (by decide) (F.typeCall_enumerate_1 _) (F.newCall_enumerate_1 _) (fun obj => F.args_object_init_2 obj _) F.entry_enumerate_new (meets_new t items n dct sl) ⟨ht, ?_⟩
  show _ ∧ _
  rw [sz]
  exact ⟨⟨_, e1, rfl⟩, k _ e1 ⟨_, Heap.get?_push_of_some _ (Heap.get?_push_size _ rfl), rfl, rfl⟩ fun b o x => Heap.get?_push_of_some _ (Heap.get?_push_of_some _ x)⟩
/-- a turn -/
theorem turn_item {e it t : Addr} {i : Nat} {items : Array Value} {x old : Value} {Q : Value → Shared → Prop} (en : IsEnum s.heap e it i old) (wk : s.heap.IsTupleIter it t i) (tp : s.heap.IsTuple t items) (hx : items[i]? = some x) (apart : e ≠ it)
    (k : ∀ h', IsEnumOut h' e it ((i : Int) + 1) x s.heap.objs.size → h'.IsTupleIter it t (i + 1) → h'.get? s.heap.objs.size = some { cls := .type "tuple", data := .seq #[.int i s.toks, x] } →
      (∀ b o, b ≠ e → b ≠ it → s.heap.get? b = some o → h'.get? b = some o) → Q (.ref s.heap.objs.size) { s with heap := h', toks := s.toks + 1 }) :
    wpAny (model prog w) A (Builtin.«enumerate.__next__» ⟨[.ref e], []⟩) (fun fin s' => ∃ v, fin = .done (.ret v) ∧ Q v s') E s := by
  obtain ⟨h0, gens, dr, tk, os⟩ := s
  have back := apart.symm
  show wpAny _ _ (field (.ref e) 2 >>= _) _ _ _
  apply wpAny_bind
  refine wpAny_field en rfl (x := .ref it) rfl (wpAny_bind (RZ.nextOf_tuple_item wk tp hx fun h1 wk1 (q1 : Heap.SameBut it h0 h1) => ?_))
  have en1 : IsEnum h1 e it i old := (q1.2 e apart).trans en
  show wpAny _ _ (field (.ref e) 3 >>= _) _ _ ⟨h1, gens, dr, tk, os⟩
  refine wpAny_bind (wpAny_field en1 rfl (x := rawInt i) rfl ?_)
  show wpAny _ _ (field (.ref e) 4 >>= _) _ _ ⟨h1, gens, dr, tk, os⟩
  refine wpAny_bind (wpAny_field en1 rfl (x := .none) rfl ?_)
  show wpAny _ _ (mkInt i >>= _) _ _ ⟨h1, gens, dr, tk, os⟩
  refine wpAny_bind (wpAny_mkInt ?_)
  show wpAny _ _ (setField (.ref e) 3 (rawInt ((i : Int) + 1)) >>= _) _ _ ⟨h1, gens, dr, tk + 1, os⟩
  refine wpAny_bind (wpAny_setField_rec en1 (by simp) fun h2 (en2 : IsEnum h2 e it ((i : Int) + 1) old) (q2 : Heap.SameBut e h1 h2) => ?_)
  show wpAny _ _ (setField (.ref e) 4 .none >>= _) _ _ ⟨h2, gens, dr, tk + 1, os⟩
  refine wpAny_bind (wpAny_setField_rec en2 (by simp) fun h3 (en3 : IsEnum h3 e it ((i : Int) + 1) old) (q3 : Heap.SameBut e h2 h3) => ?_)
  show wpAny _ _ (newTuple [.int i tk, x] >>= _) _ _ ⟨h3, gens, dr, tk + 1, os⟩
  refine wpAny_bind (wpAny_newTuple ?_)
  have s3 : h3.objs.size = h0.objs.size := by rw [q3.1, q2.1, q1.1]
  have below : e < h0.objs.size := Heap.lt_size en
  obtain ⟨h4, e4⟩ : ∃ h4, h4 = h3.push { cls := .type "tuple", data := .seq #[.int i tk, x] } := ⟨_, rfl⟩
  have en4 : IsEnum h4 e it ((i : Int) + 1) old := by rw [e4]; exact Heap.get?_push_of_some _ en3
  have new4 : h4.get? h0.objs.size = some { cls := .type "tuple", data := .seq #[.int i tk, x] } := by rw [e4, ← s3]; exact Heap.get?_push_size _ rfl
  have old4 : ∀ b o, b ≠ e → b ≠ it → h0.get? b = some o → h4.get? b = some o := fun b o n1 n2 hb => by
    rw [e4]
    exact Heap.get?_push_of_some _ (q3.extBut b o n1 (q2.extBut b o n1 (q1.extBut b o n2 hb)))
  have wk4 : h4.IsTupleIter it t (i + 1) := by
    obtain ⟨o, ho, r⟩ := (wk1.extBut q2.extBut back).extBut q3.extBut back
    rw [e4]
    exact ⟨o, Heap.get?_push_of_some _ ho, r⟩
  show wpAny _ _ (Builtin.SmallTypes.ownedTupleIsFree (.ref e) >>= _) _ _ ⟨_, gens, dr, tk + 1, os⟩
  rw [← e4, s3]
  clear e4 en3 q3 en2 q2 en1 q1 wk1 s3
  refine wpAny_bind ?_
  unfold Builtin.SmallTypes.ownedTupleIsFree
  refine wpAny_bind (wpAny_field en4 rfl (x := .none) rfl (wpAny_pure ?_))
  simp only [if_true]
  refine wpAny_bind (wpAny_rule (wpAny_bind (wpAny_field en4 rfl (x := old) rfl (wpAny_bind (wpAny_setField_rec en4 (by simp) fun h5 (en5 : IsEnum h5 e it ((i : Int) + 1) x) (q5 : Heap.SameBut e h4 h5) => ?_)))))
  show wpAny _ _ (Builtin.SmallTypes.ownedTupleHandOut (.ref e) (.ref h0.objs.size) >>= _) _ _ ⟨h5, gens, dr, tk + 1, os⟩
  refine wpAny_bind ?_
  unfold Builtin.SmallTypes.ownedTupleHandOut
  refine wpAny_bind (wpAny_setField_rec en5 (by simp) fun h6 (en6 : IsEnumOut h6 e it ((i : Int) + 1) x h0.objs.size) (q6 : Heap.SameBut e h5 h6) => ?_)
  refine wpAny_setField_rec en6 (by simp) fun h7 (en7 : IsEnumOut h7 e it ((i : Int) + 1) x h0.objs.size) (q7 : Heap.SameBut e h6 h7) => ?_
  have on : ∀ b o, b ≠ e → h4.get? b = some o → h7.get? b = some o := fun b o n hb => q7.extBut b o n (q6.extBut b o n (q5.extBut b o n hb))
  refine wpAny_bind (wpAny_letGo (wpAny_pure ⟨_, rfl, k h7 en7 ?_ (on _ _ (Nat.ne_of_gt below) new4) fun b o n1 n2 hb => on b o n1 (old4 b o n1 n2 hb)⟩))
  exact ((wk4.extBut q5.extBut back).extBut q6.extBut back).extBut q7.extBut back
theorem next_item {e it t : Addr} {i : Nat} {items : Array Value} {x old : Value} {Q : Option Value → Shared → Prop} (en : IsEnum s.heap e it i old) (wk : s.heap.IsTupleIter it t i) (tp : s.heap.IsTuple t items) (hx : items[i]? = some x) (apart : e ≠ it)
    (k : ∀ h', IsEnumOut h' e it ((i : Int) + 1) x s.heap.objs.size → h'.IsTupleIter it t (i + 1) → h'.get? s.heap.objs.size = some { cls := .type "tuple", data := .seq #[.int i s.toks, x] } →
      (∀ b o, b ≠ e → b ≠ it → s.heap.get? b = some o → h'.get? b = some o) → Q (some (.ref s.heap.objs.size)) { s with heap := h', toks := s.toks + 1 }) : wpAny (model prog w) A (pyNext (.ref e)) Q E s := by
  have ty : s.TypeIs (.ref e) "enumerate" := ⟨_, en, rfl⟩
  unfold pyNext
  refine wpAny_bind (wpAny_attempt (wpAny_callSpecial?_slot (name := Str.ofString "__next__") ty F.slot_enumerate_next (wpAny_call_entry F.slot_enumerate_next ty F.entry_enumerate_next ?_ (F.args_enumerate_next_1 _))))
  exact turn_item en wk tp hx apart fun h' a b c d => wpAny_pure (k h' a b c d)
theorem next_end {e it t : Addr} {i : Nat} {items : Array Value} {old : Value} {Q : Option Value → Shared → Prop} (hh : A.handled = none) (en : IsEnum s.heap e it i old) (wk : s.heap.IsTupleIter it t i) (tp : s.heap.IsTuple t items) (hx : items[i]? = none)
    (k : ∀ h', Heap.ExtBut it s.heap h' → Q none { s with heap := h' }) : wpAny (model prog w) A (pyNext (.ref e)) Q E s := by
  have ty : s.TypeIs (.ref e) "enumerate" := ⟨_, en, rfl⟩
  unfold pyNext
  refine wpAny_bind (wpAny_attempt (wpAny_callSpecial?_slot (name := Str.ofString "__next__") ty F.slot_enumerate_next (wpAny_call_entry F.slot_enumerate_next ty F.entry_enumerate_next ?_ (F.args_enumerate_next_1 _))))
  show wpAny _ _ (field (.ref e) 2 >>= _) _ _ _
  refine wpAny_bind (wpAny_field en rfl (x := .ref it) rfl (wpAny_bind (RZ.nextOf_tuple_end hh wk tp hx fun h' y ext ⟨o, ho, hc⟩ => ?_)))
  exact wpAny_bind (wpAny_isInstance (T := "StopIteration") (b := true) ⟨o, ho, hc⟩ isSubtype_stop (wpAny_pure (k _ ext)))
end
end VtEnum
namespace Vt
open PySem PySem.Spec PyProof.Rows L2
/-- the tuple at a, its items in new pairs -/
def Ite2 (K : PySem.W.Frag) (a : Addr) : It :=
  ⟨fun i H => ∃ (xs : List V) (x : V), SqT K H a xs ∧ xs[i]? = some x, fun i H v H' => ∃ T x, v = .ref T ∧ H T = none ∧ H' = upd H T (.tup [.int (i : Nat), x]) ∧ ∀ xs, SqT K H a xs → xs[i]? = some x, fun i H => ∃ xs : List V, SqT K H a xs ∧ xs.length ≤ i⟩
theorem turn_enumT {P : Program} {w : World} {K : PySem.W.Frag} {elts : List Expr} {kk : Nat} {tpos : Pos} (a e it : Addr) :
    Turn P w K (.Tuple elts kk tpos) (Ite2 K a) [e, it] e (fun i h => (∃ old, IsEnum h e it ((i : Nat) : Int) old) ∧ h.IsTupleIter it a i ∧ e ≠ it) where
  mem := List.mem_cons_self
  obj := by
    rintro i h ⟨⟨old, en⟩, ⟨o, ho, _, hd⟩, _⟩ b hb
    rcases List.mem_cons.mp hb with rfl | hb
    · exact ⟨_, en, fun v z => nomatch z⟩
    · rw [List.mem_singleton.mp hb]
      exact ⟨o, ho, fun v z => by rw [hd] at z; cases z⟩
  keep := by
    rintro i h h' ⟨⟨old, en⟩, wk, ne⟩ k
    exact ⟨⟨old, k e List.mem_cons_self _ en⟩, wk.at fun o z => k it (List.mem_cons_of_mem _ List.mem_cons_self) o z, ne⟩
  item := by
    intro X hP hw hK hc i pins s σ H E I hf st hg
    subst hP hw hK
    obtain ⟨⟨old, en⟩, wk, ne⟩ := st
    obtain ⟨xs, x, hq, hx⟩ := hg
    obtain ⟨its, rv, p, hz⟩ := I.tuple hq
    obtain ⟨u, hu, ru⟩ := rv.get hx
    have le : e < s.heap.objs.size := Heap.lt_size en
    have li : it < s.heap.objs.size := by obtain ⟨_, z, _⟩ := wk; exact Heap.lt_size z
    refine VtEnum.next_item en wk p (x := u) (by simpa using hu) ne fun h' out wk' hT hk => ⟨_, rfl, wpAny_letOwnedTupleGo_enum (s := { s with heap := h', toks := s.toks + 1 }) out fun h'' en' sb => ?_⟩
    have hT2 : h''.get? s.heap.objs.size = some { cls := .type "tuple", data := .seq #[.int i s.toks, u] } := (sb.2 _ (Nat.ne_of_gt le)).trans hT
    have fresh : ObjOk X.prog X.w (upd H s.heap.objs.size (.tup [.int (i : Nat), x])) h'' s.heap.objs.size (.tup [.int (i : Nat), x]) := ⟨by show 2 ≤ sizeLine; decide, [.int i s.toks, u], .cons ⟨_, rfl⟩ (.cons ru .nil), ⟨_, hT2, rfl, _, rfl⟩⟩
    have two : ∀ b, b ∈ [e, it] → b = e ∨ b = it := fun b hb => by simpa using hb
    have J := I.turnedNew (t' := s.toks + 1) (ch := [e, it]) (fun b ob hb z => (sb.2 b (fun y => hb (by simp [y]))).trans (hk b ob (fun y => hb (by simp [y])) (fun y => hb (by simp [y])) z)) hf (Nat.le_refl _) fresh
    refine ⟨.ref s.heap.objs.size, _, J, rfl, ⟨_, x, rfl, I.hok.fresh (Nat.le_refl _), rfl, fun ys hy => by rw [I.tuple_inj hy hq]; exact hx⟩, ⟨⟨u, ?_⟩, wk'.at fun o z => (sb.2 it ne.symm).trans z, ne⟩, fun b hb => ?_⟩
    · rw [show ((i + 1 : Nat) : Int) = (i : Int) + 1 by omega]
      exact en'
    · have lb : b < s.heap.objs.size := by rcases two b hb with z | z <;> rw [z] <;> assumption
      rw [upd_ne (Nat.ne_of_lt lb)]
      exact (hf b hb).1
  done := by
    intro X hP hw hK hc i pins s σ H E I hf st hg
    subst hP hw hK
    obtain ⟨⟨old, en⟩, wk, ne⟩ := st
    obtain ⟨xs, hq, hx⟩ := hg
    obtain ⟨its, rv, p, hz⟩ := I.tuple hq
    obtain ⟨f0, f1, f2, f3, f4, f5⟩ := hf it (by simp)
    have hl := rv.length
    exact VtEnum.next_end (I.ok.hd hc) en wk p (by simp; omega) fun h' eb => ⟨rfl, I.turned (t' := s.toks) (fun b o hb z => eb b o hb z) f0 f1 f3 f4 f5⟩
  self := fun A i s Q E ⟨⟨_, en⟩, _⟩ h => wpAny_pyIter_enum en h
theorem pi_enumT {X : Cx} {e : Expr} {ta : TA} {p pos tpos : Pos} {elts : List Expr} {kk : Nat} (hg : Gl X "enumerate") (hm : X.mg "enumerate" = none) (ha : PA X [e] ta) (hs : starEach [e] X.env = [(false, eval e X.env)]) :
    PI X (.Tuple elts kk tpos) (.Call (.Name "enumerate" p) [e] [] pos) (fun σ H R => ta σ H fun vs H1 => ∃ a xs, vs = [.ref a] ∧ SqT X.K H1 a xs ∧ R (Ite2 X.K a) H1) := by
  refine ⟨fun pins s σ H R I h => Call_ (ld_blt I hg hm boot_enumerate (PyProof.Rows.callWith_type1 (thn (ha.run pos pins s σ H _ I h) fun us s1 ⟨vs, H1, I1, r1, q1⟩ => ?_) hs rfl))⟩
  obtain ⟨a, xs, rfl, hq, q⟩ := q1
  obtain ⟨u, rfl, ru⟩ := vals1 r1
  obtain rfl : u = Value.ref a := ru
  obtain ⟨its, rv, tp, hz⟩ := I1.tuple hq
  refine VtEnum.call_new tp fun h' en wk hk => wpAny_pyIter_enum en ?_
  have I2 : Inv X pins σ H1 { s1 with heap := h' } := I1.kept (t' := s1.toks) hk
  refine ⟨s1.heap.objs.size + 1, [s1.heap.objs.size + 1, s1.heap.objs.size], _, _, H1, rfl, I2, turn_enumT a (s1.heap.objs.size + 1) s1.heap.objs.size, ⟨⟨.none, en⟩, wk, Nat.succ_ne_self _⟩, fun b hb => ?_, q⟩
  have hle : s1.heap.objs.size ≤ b := by
    rcases List.mem_cons.mp hb with z | hb
    · rw [z]; exact Nat.le_succ _
    · rw [List.mem_singleton.mp hb]; exact Nat.le_refl _
  exact I1.fpOk hle (I1.hok.fresh hle)
end Vt
namespace Vt
open PySem PySem.Spec PyProof.Rows L2
/-! ### more of the relational calculus -/
def enD : Nat → List D → List D
  | _, [] => []
  | k, d :: ds => .tup [dI (k : Int), d] :: enD (k + 1) ds
theorem enD_len : ∀ (ds : List D) (k : Nat), (enD k ds).length = ds.length
  | [], _ => rfl
  | _ :: ds, k => congrArg (· + 1) (enD_len ds (k + 1))
theorem enD_get : ∀ {ds : List D} {k i : Nat} {d : D}, (enD k ds)[i]? = some d → ∃ e, ds[i]? = some e ∧ d = .tup [dI ((k + i : Nat) : Int), e]
  | [], _, _, _, h => by simp [enD] at h
  | e :: ds, k, 0, d, h => ⟨e, rfl, by simpa [enD] using h.symm⟩
  | e :: ds, k, i + 1, d, h => by
    obtain ⟨e', h1, h2⟩ := enD_get (ds := ds) (k := k + 1) (i := i) (by simpa [enD] using h)
    exact ⟨e', by simpa using h1, by rw [h2, show k + 1 + i = k + (i + 1) by omega]⟩
theorem enD_at : ∀ {ds : List D} {k i : Nat} {e : D}, ds[i]? = some e → (enD k ds)[i]? = some (.tup [dI ((k + i : Nat) : Int), e])
  | [], _, _, _, h => by simp at h
  | e :: ds, k, 0, _, h => by
    cases h
    rfl
  | e :: ds, k, i + 1, d, h => by
    have q := enD_at (ds := ds) (k := k + 1) (i := i) (e := d) (by simpa using h)
    rw [show k + 1 + i = k + (i + 1) by omega] at q
    simpa [enD] using q
theorem RepL.rev {K : PySem.W.Frag} {G : Hp} : ∀ {vs : List V} {ds : List D}, RepL K G vs ds → RepL K G vs.reverse ds.reverse
  | _, _, .nil => .nil
  | _, _, .cons h t => by
    rw [List.reverse_cons, List.reverse_cons]
    exact (RepL.rev t).append (.cons h .nil)
theorem RepL.drop {K : PySem.W.Frag} {G : Hp} : ∀ {vs : List V} {ds : List D} (n : Nat), RepL K G vs ds → RepL K G (vs.drop n) (ds.drop n)
  | _, _, 0, h => h
  | _, _, _ + 1, .nil => .nil
  | _, _, n + 1, .cons _ t => RepL.drop n t
theorem RepL.take {K : PySem.W.Frag} {G : Hp} : ∀ {vs : List V} {ds : List D} (n : Nat), RepL K G vs ds → RepL K G (vs.take n) (ds.take n)
  | _, _, 0, _ => .nil
  | _, _, _ + 1, .nil => .nil
  | _, _, n + 1, .cons h t => .cons h (RepL.take n t)
def cutD (ds : List D) (lo hi : Option Int) : List D := (ds.drop (HT.sIx ds.length 0 lo)).take (HT.sIx ds.length ds.length hi - HT.sIx ds.length 0 lo)
theorem cut_rep {K : PySem.W.Frag} {G : Hp} {vs : List V} {ds : List D} {lo hi : Option Int} (r : RepL K G vs ds) : RepL K G (cutV vs lo hi) (cutD ds lo hi) := by
  unfold cutV cutD
  rw [r.len]
  exact (r.drop _).take _
section
variable {X : Cx} {K : PySem.W.Frag} {ρ ρ' : Sl} {M M1 M2 M3 : Mem} {a b c e : Expr} {es : List Expr} {d d1 d2 : D} {ds : List D} {pos : Pos} {Ψ : Out → Prop} {Φ : D → Mem → Prop} {ΦI : List D → Mem → Prop}
theorem pairR {G : Hp} {H : Hp} {M : Mem} {T : Addr} {i : Int} {x : V} {d : D} (sh : SH K G H M) (hT : H T = none) (r : Rep K G x d) : ∃ G3, Same G G3 ∧ SH K G3 (upd H T (.tup [.int i, x])) M ∧ Rep K G3 (.ref T) (.tup [dI i, d]) := by
  obtain ⟨sh2, g2⟩ := sh.new (o := .tup [V.int i, x]) hT
  exact ⟨_, g2, sh2, .tup (.inl (.inl upd_same)) (.cons (.val _) (.cons (r.up g2) .nil))⟩
theorem JW2.enumL {p : Addr} {vs : List V} {G : Hp} (q : SqL K G p vs) (r : RepL K G vs ds) : JW2 K (Ite K p) G (enD 0 ds) := fun i H g => ⟨fun d h => by
    obtain ⟨e, h1, rfl⟩ := enD_get h
    obtain ⟨v, hv, rv⟩ := r.get h1
    refine ⟨⟨vs, v, sqlUp g q, hv⟩, ?_⟩
    rintro x H' ⟨T, y, rfl, hT, rfl, e2⟩ G2 M g2 sh
    have := e2 vs (sqlUp g q)
    rw [hv] at this
    cases this
    rw [Nat.zero_add]
    exact pairR sh hT (rv.up g2), fun h => ⟨vs, sqlUp g q, by rw [r.len]; rw [enD_len] at h; exact h⟩⟩
theorem JW2.enumT {p : Addr} {vs : List V} {G : Hp} (q : SqT K G p vs) (r : RepL K G vs ds) : JW2 K (Ite2 K p) G (enD 0 ds) := fun i H g => ⟨fun d h => by
    obtain ⟨e, h1, rfl⟩ := enD_get h
    obtain ⟨v, hv, rv⟩ := r.get h1
    refine ⟨⟨vs, v, sqtUp g q, hv⟩, ?_⟩
    rintro x H' ⟨T, y, rfl, hT, rfl, e2⟩ G2 M g2 sh
    have := e2 vs (sqtUp g q)
    rw [hv] at this
    cases this
    rw [Nat.zero_add]
    exact pairR sh hT (rv.up g2), fun h => ⟨vs, sqtUp g q, by rw [r.len]; rw [enD_len] at h; exact h⟩⟩
/-- for .. in enumerate(x), x a tree -/
theorem iw_enum (b : Bool) {elts : List Expr} {kk : Nat} {tpos p : Pos} (hm : X.mg "enumerate" = none) (h : EV X e ρ M (sq b ds) M1) (q : ΦI (enD 0 ds) M1) (hg : Gl X "enumerate" := by rfl) (hst : starEach [e] X.env = [(false, eval e X.env)] := by rfl) : IW X (.Tuple elts kk tpos) (.Call (.Name "enumerate" p) [e] [] pos) ρ M ΦI := by
  cases b with
  | true => exact (pi_enum hg hm (av_cons h av_nil hst) hst).mono fun σ H R ⟨G, sa, k⟩ => ⟨G, sa, fun vs G1 H1 g1 sh1 r1 => by
      cases r1 with
      | cons r t =>
        cases t
        cases (show Rep X.K G1 _ (.lst ds) from r) with
        | lst q' r => exact ⟨_, _, rfl, sqlUp sh1.le q', k _ G1 H1 _ M1 q g1 sh1 (JW2.enumL q' r)⟩⟩
  | false => exact (pi_enumT hg hm (av_cons h av_nil hst) hst).mono fun σ H R ⟨G, sa, k⟩ => ⟨G, sa, fun vs G1 H1 g1 sh1 r1 => by
      cases r1 with
      | cons r t =>
        cases t
        cases (show Rep X.K G1 _ (.tup ds) from r) with
        | tup q' r => exact ⟨_, _, rfl, sqtUp sh1.le q', k _ G1 H1 _ M1 q g1 sh1 (JW2.enumT q' r)⟩⟩
/-- xs[::-1], xs a tree or a list of the memory -/
theorem ew_rev {kk : Nat} {p1 p2 p3 : Pos} (h : EW X e ρ M (fun d M1 => ∃ ds, (d = .lst ds ∨ ∃ p, d = dP p ∧ M1 p = some (.lst ds)) ∧ Φ (.lst ds.reverse) M1)) : EW X (.Subscript e (.Slice none none (some (.UnaryOp .USub (.Constant (.int 1) kk p1) p2)) p3) pos) ρ M Φ :=
  (pe_revL h).mono fun σ H Q ⟨G, sa, k⟩ => ⟨G, sa, fun v G1 H1 d M1 ⟨ds, c, q⟩ g1 sh1 r1 => by
    have key : ∃ p vs, v = .ref p ∧ SqL X.K H1 p vs ∧ RepL X.K G1 vs ds := by
      rcases c with rfl | ⟨p, rfl, hp⟩
      · cases r1 with
        | lst q' r => exact ⟨_, _, rfl, sqlUp sh1.le q', r⟩
      · obtain ⟨_, vs, hv, r⟩ := sh1.mem p _ hp
        exact ⟨p, vs, r1.of_val, .inl (.inl hv), r⟩
    obtain ⟨p, vs, rfl, hs, r⟩ := key
    have rr : RepL X.K G1 vs.reverse ds.reverse := r.rev
    refine ⟨p, vs, rfl, hs, fun p' hp' => ?_⟩
    obtain ⟨sh2, g2⟩ := sh1.new (o := .lst vs.reverse) hp'
    exact k _ _ _ _ M1 q (g1.trans g2) sh2 (.lst (.inl (.inl upd_same)) (rr.up g2))⟩
/-- xs[i] = e, any sign -/
theorem sw_setItem {tp : Pos} (he : EW X e ρ M (fun d M1 => ∃ p i ds j, EV X a ρ M1 (dP p) M1 ∧ EV X b ρ M1 (dI i) M1 ∧ M1 p = some (.lst ds) ∧ ixN ds.length i = some j ∧ Ψ (.nx ρ (M1.set p (.lst (ds.set j d))))))
    (ha : ∀ v, assign (.Subscript a b tp) X.env v = (do
      let ov ← holding [v] (eval a X.env)
      let iv ← holding [v, ov] (eval b X.env)
      standAt tp
      holding [v, ov, iv] (setItem ov iv v)
      release [v, ov, iv] []) := by intro _; rfl)
    (hs : swapsWithSole [.Subscript a b tp] e pos.line X.env = pure false := by rfl) (hw : swappedStores [.Subscript a b tp] e X.env = pure none := by rfl)
    (h1 : (assignEach [.Subscript a b tp] X.env).map (·.2) = [assign (.Subscript a b tp) X.env] := by rfl) : SV X (.Assign [.Subscript a b tp] e pos) ρ M Ψ :=
  (ps_asg he (pg_sub (pk_e (ρ := ρ)) (pk_e (ρ := ρ)) set_list ha) hs hw h1).mono fun E σ H ⟨G, sa, k⟩ => ⟨G, sa, fun v G1 H1 d M1 ⟨p, i, ds, j, ho, hi, hm, hj, hΨ⟩ g1 sh1 r1 =>
    ⟨M1, fun d' M' => d' = dP p ∧ M' = M1, ew_ev ho ⟨rfl, rfl⟩, G1, ⟨sh1, sa.sl.up g1⟩, fun v2 G2 H2 d2 M2 ⟨e2, e2'⟩ g2 sh2 r2 => ⟨M1, fun d' M' => d' = dI i ∧ M' = M1, ew_ev hi ⟨rfl, rfl⟩, G2, ⟨by rw [e2'] at sh2; exact sh2, (sa.sl.up g1).up g2⟩, fun v3 G3 H3 d3 M3 ⟨e3, e3'⟩ g3 sh3 r3 => by
      subst e2 e3 e3'
      obtain ⟨_, vs, hv, rl⟩ := sh3.mem p _ hm
      exact ⟨p, vs, i, j, r2.of_val, r3.of_val, hv, by rw [rl.len]; exact hj, k _ hΨ σ G3 _ ((g1.trans g2).trans g3) ⟨sh3.put hm (rl.set ((r1.up g2).up g3) j), ((sa.sl.up g1).up g2).up g3⟩⟩⟩⟩⟩
/-- a tree's truth: a list, a tuple -/
theorem tv_sqT {b : Bool} (ha : EV X e ρ M (sq b ds) M1) (he : ∀ whole, isTrue e X.env whole = (do let v ← whole; standAt e.pos; holding [v] (truthy v)) := by intro _; rfl) : TV X e ρ M (!ds.isEmpty) M1 :=
  (pt_truth ha he).mono fun σ H Q ⟨G, sa, k⟩ => ⟨G, sa, fun v1 G1 H1 g1 sh1 r1 => by
    have emp : ∀ {vs : List V}, RepL X.K G1 vs ds → (!vs.isEmpty) = !ds.isEmpty := fun {vs} r => by
      have := r.len
      cases vs <;> cases ds <;> first | rfl | cases this
    cases b with
    | true =>
      cases (show Rep X.K G1 v1 (.lst ds) from r1) with
      | lst q r => exact ⟨_, .inl ⟨_, sqlUp sh1.le q, rfl⟩, by rw [emp r]; exact k G1 H1 g1 sh1⟩
    | false =>
      cases (show Rep X.K G1 v1 (.tup ds) from r1) with
      | tup q r => exact ⟨_, .inr (.inl ⟨_, sqtUp sh1.le q, rfl⟩), by rw [emp r]; exact k G1 H1 g1 sh1⟩⟩
/-- x[a:b] of a tree -/
theorem ev_sliceQ {b' : Bool} {lo hi : Option Expr} {o1 o2 : Option Int} {p2 : Pos} (ha : EV X a ρ M (sq b' ds) M1) (h1 : OV X lo ρ M1 o1 M2) (h2 : OV X hi ρ M2 o2 M3) : EV X (.Subscript a (.Slice lo hi none p2) pos) ρ M (sq b' (cutD ds o1 o2)) M3 := by
  cases b' with
  | true => exact (pe_slice sl_list ha h1 h2).mono fun σ H Q ⟨G, sa, k⟩ => ⟨G, sa, fun v G1 H1 g1 sh1 r1 => ⟨G1, ⟨sh1, sa.sl.up g1⟩, fun G2 H2 g2 sh2 => ⟨G2, ⟨sh2, (sa.sl.up g1).up g2⟩, fun G3 H3 g3 sh3 => by
      cases (show Rep X.K G1 v (.lst ds) from r1) with
      | lst q r =>
        refine ⟨_, _, rfl, sqlUp sh3.le (sqlUp g3 (sqlUp g2 q)), fun p hp => ?_⟩
        obtain ⟨sh4, g4⟩ := sh3.new (o := .lst _) hp
        exact k _ _ _ (((g1.trans g2).trans g3).trans g4) sh4 (.lst (.inl (.inl upd_same)) (cut_rep (((r.up g2).up g3).up g4)))⟩⟩⟩
  | false => exact (pe_slice sl_tupA ha h1 h2).mono fun σ H Q ⟨G, sa, k⟩ => ⟨G, sa, fun v G1 H1 g1 sh1 r1 => ⟨G1, ⟨sh1, sa.sl.up g1⟩, fun G2 H2 g2 sh2 => ⟨G2, ⟨sh2, (sa.sl.up g1).up g2⟩, fun G3 H3 g3 sh3 => by
      cases (show Rep X.K G1 v (.tup ds) from r1) with
      | tup q r =>
        refine ⟨_, _, rfl, sqtUp sh3.le (sqtUp g3 (sqtUp g2 q)), fun hw => ?_, fun hw p hp => ?_⟩
        · have e : cutD ds o1 o2 = ds := by
            rw [r.len] at hw
            unfold cutD
            rw [hw.1, hw.2, List.drop_zero, Nat.sub_zero, List.take_length]
          rw [e] at k
          exact k _ _ _ ((g1.trans g2).trans g3) sh3 (.tup (sqtUp g3 (sqtUp g2 q)) ((r.up g2).up g3))
        · obtain ⟨sh4, g4⟩ := sh3.new (o := .tup _) hp
          exact k _ _ _ (((g1.trans g2).trans g3).trans g4) sh4 (.tup (.inl (.inl upd_same)) (cut_rep (((r.up g2).up g3).up g4)))⟩⟩⟩
end
end Vt
namespace Vt
open PySem PySem.Spec PyProof.Rows L2
/-! is None of any tree -/
def D.isN : D → Bool
  | .val v => decide (v = .non)
  | .tup _ => false
  | .lst _ => false
  | .dic => false
section
variable {X : Cx} {ρ : Sl} {M M1 : Mem} {a e : Expr} {d : D} {pos : Pos} {Φ : D → Mem → Prop} {ΦT : Bool → Mem → Prop}
theorem isN_of {K : PySem.W.Frag} {G : Hp} {v : V} (r : Rep K G v d) : decide (v = .non) = d.isN := by
  cases r with
  | val v => rfl
  | tup _ _ => rfl
  | lst _ _ => rfl
  | dic _ => rfl
theorem ev_isNn {j} {p2 : Pos} (ha : EV X a ρ M d M1) : EV X (.Compare a [.Is] [.Constant .none j p2] pos) ρ M (dB d.isN) M1 :=
  (pe_cmp (pc_isN ha)).mono fun σ H Q ⟨G, sa, k⟩ => ⟨G, sa, fun v1 G1 H1 g1 sh1 r1 => by have q := k _ G1 H1 g1 sh1 (.val _); rw [← isN_of r1] at q; exact q⟩
theorem tv_isNn {j} {p2 : Pos} (ha : EV X a ρ M d M1) : TV X (.Compare a [.Is] [.Constant .none j p2] pos) ρ M d.isN M1 :=
  (pt_cmp (pc_isN ha)).mono fun σ H Q ⟨G, sa, k⟩ => ⟨G, sa, fun v1 G1 H1 g1 sh1 r1 => by have q := k G1 H1 g1 sh1; rw [← isN_of r1] at q; exact ⟨_, rfl, q⟩⟩
theorem ev_notNn {j} {p2 : Pos} (ha : EV X a ρ M d M1) : EV X (.Compare a [.IsNot] [.Constant .none j p2] pos) ρ M (dB (!d.isN)) M1 :=
  (pe_cmp (pc_notN ha)).mono fun σ H Q ⟨G, sa, k⟩ => ⟨G, sa, fun v1 G1 H1 g1 sh1 r1 => by have q := k _ G1 H1 g1 sh1 (.val _); rw [← isN_of r1] at q; exact q⟩
theorem tv_notNn {j} {p2 : Pos} (ha : EV X a ρ M d M1) : TV X (.Compare a [.IsNot] [.Constant .none j p2] pos) ρ M (!d.isN) M1 :=
  (pt_cmp (pc_notN ha)).mono fun σ H Q ⟨G, sa, k⟩ => ⟨G, sa, fun v1 G1 H1 g1 sh1 r1 => by have q := k G1 H1 g1 sh1; rw [← isN_of r1] at q; exact ⟨_, rfl, q⟩⟩
end
section
variable {X : Cx} {ρ : Sl} {M M1 : Mem} {a b e : Expr} {d : D} {ds : List D} {pos : Pos} {Φ : D → Mem → Prop} {ΦT : Bool → Mem → Prop}
/-- tuple + tuple -/
theorem ew_catT (h : EW X a ρ M (fun d1 M1 => ∃ ds, d1 = .tup ds ∧ EW X b ρ M1 (fun d2 M2 => ∃ es, d2 = .tup es ∧ ds.length + es.length ≤ sizeLine ∧ Φ (.tup (ds ++ es)) M2))) : EW X (.BinOp a .Add b pos) ρ M Φ :=
  (pe_op op_catA h pk_e).mono fun σ H Q ⟨G, sa, k⟩ => ⟨G, sa, fun v1 G1 H1 d1 M1 ⟨ds, e1, h⟩ g1 sh1 r1 => ⟨M1, _, h, G1, ⟨sh1, sa.sl.up g1⟩, fun v2 G2 H2 d2 M2 ⟨es, e2, hl, q⟩ g2 sh2 r2 => by
    subst e1 e2
    cases r1 with
    | tup q1 r =>
      cases r2 with
      | tup q2 r2 =>
        have rr := r.up g2
        refine ⟨_, _, _, _, rfl, rfl, sqtUp sh2.le (sqtUp g2 q1), sqtUp sh2.le q2, by rw [r.len, r2.len]; exact hl, fun e => ?_, fun _ e => ?_, fun _ _ p hp => ?_⟩
        · subst e
          cases rr
          exact k _ G2 H2 _ M2 q (g1.trans g2) sh2 (.tup q2 r2)
        · subst e
          cases r2
          rw [List.append_nil] at q
          exact k _ G2 H2 _ M2 q (g1.trans g2) sh2 (.tup (sqtUp g2 q1) rr)
        · obtain ⟨sh3, g3⟩ := sh2.new (o := .tup _) hp
          exact k _ _ _ _ M2 q ((g1.trans g2).trans g3) sh3 (.tup (.inl (.inl upd_same)) ((rr.append r2).up g3))⟩⟩
theorem atI_last {α : Type} {xs : List α} {x : α} (h : xs.getLast? = some x) : atI xs (-1) = some x := by
  rw [List.getLast?_eq_getElem?] at h
  have hl : 0 < xs.length := by
    rcases Nat.eq_zero_or_pos xs.length with e | e
    · rw [List.getElem?_eq_none (by omega)] at h
      cases h
    · exact e
  unfold atI ixN
  rw [if_neg (by omega), if_pos (by omega)]
  show xs[((-1 : Int) + xs.length).toNat]? = _
  rw [show ((-1 : Int) + (xs.length : Nat)).toNat = xs.length - 1 by omega]
  exact h
theorem ixN_last {n : Nat} (h : 0 < n) : ixN n (-1) = some (n - 1) := by
  unfold ixN
  rw [if_neg (by omega), if_pos (by omega), show ((-1 : Int) + n).toNat = n - 1 by omega]
end
end Vt
namespace Vt
open PySem PySem.Spec PyProof.Rows L2
/-! ### answers and errors: what an expression, a statement tells or raises -/
inductive Res where
  | ok (d : D)
  | ex (cls : Value) (dd : Option Addr)
inductive OutX where
  | o (o : Out)
  | ex (cls : Value) (dd : Option Addr) (ρ : Sl) (M : Mem)
def tU (K : PySem.W.Frag) (W : WX) (ρ : Sl) (M : Mem) (Φ : Res → Mem → Prop) : TE := fun σ H Q => ∃ G, SA K G H σ ρ M ∧ (∀ v G' H' d M', Φ (.ok d) M' → Same G G' → SH K G' H' M' → Rep K G' v d → Q v H') ∧
  ∀ cls dd G' H' M', Φ (.ex cls dd) M' → Same G G' → SH K G' H' M' → W cls dd σ H'
abbrev EU (X : Cx) (W : WX) (e : Expr) (ρ : Sl) (M : Mem) (Φ : Res → Mem → Prop) : Prop := PE X e (tU X.K W ρ M Φ)
def okX (K : PySem.W.Frag) (W : WX) (G0 : Hp) (E : Ends) : OutX → Prop
  | .o o => okE K G0 E o
  | .ex cls dd ρ M => ∀ σ G H, Same G0 G → SA K G H σ ρ M → W cls dd σ H
theorem okX.up {K : PySem.W.Frag} {W : WX} {G0 G1 : Hp} {E : Ends} {o : OutX} (e : Same G0 G1) (h : okX K W G0 E o) : okX K W G1 E o := by
  cases o with
  | o o => exact okE.up e h
  | ex cls dd ρ M => exact fun σ G H g => h σ G H (e.trans g)
def tSU (K : PySem.W.Frag) (W : WX) (ρ : Sl) (M : Mem) (Ψ : OutX → Prop) : TS := fun E σ H => ∃ G, SA K G H σ ρ M ∧ ∀ o, Ψ o → okX K W G E o
abbrev SU (X : Cx) (W : WX) (st : Stmt) (ρ : Sl) (M : Mem) (Ψ : OutX → Prop) : Prop := PS X st (tSU X.K W ρ M Ψ)
abbrev BU (X : Cx) (W : WX) (sts : List Stmt) (ρ : Sl) (M : Mem) (Ψ : OutX → Prop) : Prop := PSs X sts (tSU X.K W ρ M Ψ)
def pkU (X : Cx) (W : WX) (sts : List Stmt) (ρ : Sl) (Ψ : OutX → Prop) : TS := fun E σ H => ∃ M, BU X W sts ρ M Ψ ∧ tSU X.K W ρ M Ψ E σ H
theorem pk_u {X : Cx} {W : WX} {sts : List Stmt} {ρ : Sl} {Ψ : OutX → Prop} : PSs X sts (pkU X W sts ρ Ψ) := ⟨fun pins s σ H E I ⟨_, h, q⟩ => h.run pins s σ H E I q⟩
/-- a promise of a def that tells or raises -/
def spU (K : PySem.W.Frag) (R : List D → Mem → (Res → Mem → Prop) → Prop) : Sp := fun vs H Q E => ∃ G ds M Φ, SH K G H M ∧ RepL K G vs ds ∧ R ds M Φ ∧ (∀ v G' H' d M', Φ (.ok d) M' → Same G G' → SH K G' H' M' → Rep K G' v d → Q v H') ∧
  ∀ cls dd G' H' M', Φ (.ex cls dd) M' → Same G G' → SH K G' H' M' → E cls dd H'
section
variable {X : Cx} {W : WX} {ρ ρ1 ρ' : Sl} {M M1 M2 M' : Mem} {a b c e : Expr} {es : List Expr} {d : D} {ds : List D} {pos : Pos} {cls : Value} {st : Stmt} {rest : List Stmt} {Ψ : OutX → Prop} {Φ : Res → Mem → Prop}
theorem eu_ew {Φ' : D → Mem → Prop} (h : EW X e ρ M Φ') (q : ∀ d M, Φ' d M → Φ (.ok d) M) : EU X W e ρ M Φ := h.mono fun σ H Q ⟨G, sa, k, _⟩ => ⟨G, sa, fun v G1 H1 d M1 p => k v G1 H1 d M1 (q _ _ p)⟩
theorem eu_ev (h : EV X e ρ M d M1) (q : Φ (.ok d) M1) : EU X W e ρ M Φ := h.mono fun σ H Q ⟨G, sa, k, _⟩ => ⟨G, sa, fun v G1 H1 g1 sh1 r1 => k v G1 H1 d M1 q g1 sh1 r1⟩
theorem eu_call {k : Nat} {x : Str} {R : List D → Mem → (Res → Mem → Prop) → Prop} {p : Pos} (C : CalX X.prog X.w X.K X.mg X.base k x (spU X.K R)) (tk : Takes X W) (hr : Room k X.A) (h : AW X (e :: es) ρ M (fun ds M1 => R ds M1 Φ)) (hg : Gl X x := by rfl)
    (hd : (x == ("__debug__" : Str)) = false := by decide) (hst : starEach (e :: es) X.env = (false, eval e X.env) :: starEach es X.env := by rfl) (hpl : (backTo pos (starEach es X.env)).any (·.1) = false := by rfl) : EU X W (.Call (.Name x p) (e :: es) [] pos) ρ M Φ := by
  obtain ⟨f, fd, ps, hm, hk, hb, F⟩ := C.ex
  refine (pe_callS (E := WE W) F hr hg hm hk hb (passAt tk) h (hdb := hd) (he := hst) (hpl := hpl)).mono fun σ H Q ⟨G, sa, k1, k2⟩ => ⟨G, sa, fun vs G1 H1 ds M1 hp g1 sh1 r1 => ?_⟩
  exact ⟨G1, ds, M1, Φ, sh1, r1, hp, fun v G' H' d M' q g sh r => k1 v G' H' d M' q (g1.trans g) sh r, fun cls dd G' H' M' q g sh => k2 cls dd G' H' M' q (g1.trans g) sh⟩
theorem su_sv {Ψ' : Out → Prop} (h : SV X st ρ M Ψ') (q : ∀ o, Ψ' o → Ψ (.o o)) : SU X W st ρ M Ψ := h.mono fun E σ H ⟨G, sa, k⟩ => ⟨G, sa, fun o ho => k _ (q o ho)⟩
theorem bu_bv {Ψ' : Out → Prop} (h : BV X rest ρ M Ψ') (q : ∀ o, Ψ' o → Ψ (.o o)) : BU X W rest ρ M Ψ := h.mono fun E σ H ⟨G, sa, k⟩ => ⟨G, sa, fun o ho => k _ (q o ho)⟩
theorem su_to {Ψ' : OutX → Prop} (h : SU X W st ρ M Ψ') (q : ∀ o, Ψ' o → Ψ o) : SU X W st ρ M Ψ := h.mono fun E σ H ⟨G, sa, k⟩ => ⟨G, sa, fun o ho => k _ (q o ho)⟩
def thenU (X : Cx) (W : WX) (rest : List Stmt) (Ψ : OutX → Prop) : OutX → Prop
  | .o (.nx ρ M) => BU X W rest ρ M Ψ
  | o => Ψ o
theorem bu_nil (h : Ψ (.o (.nx ρ M))) : BU X W [] ρ M Ψ := pss_nil.mono fun E σ H ⟨G, sa, k⟩ => k _ h σ G H (Same.refl G) sa
theorem bu_cons (h : SU X W st ρ M (thenU X W rest Ψ)) : BU X W (st :: rest) ρ M Ψ := by
  refine (pss_cons (u := fun E σ H => ∃ ρ', pkU X W rest ρ' Ψ E σ H) h ⟨fun pins s σ H E I ⟨_, _, hb, q⟩ => hb.run pins s σ H E I q⟩).mono fun E σ H ⟨G, sa, k⟩ => ⟨G, sa, fun o ho => ?_⟩
  cases o with
  | ex cls dd ρ' M' => exact k _ ho
  | o o =>
    cases o with
    | nx ρ' M' => exact fun σ' G' H' g sa' => ⟨ρ', M', ho, G', sa', fun o' ho' => (k o' ho').up g⟩
    | ret d M' => exact k _ ho
    | bk ρ' M' => exact k _ ho
    | ct ρ' M' => exact k _ ho
theorem bu_one (h : SU X W st ρ M Ψ) : BU X W [st] ρ M Ψ := pss_one h
/-- a statement that raises nothing, ahead of others -/
theorem bu_sv (h : SV X st ρ M (fun o => match o with | .nx ρ' M' => BU X W rest ρ' M' Ψ | o => Ψ (.o o))) : BU X W (st :: rest) ρ M Ψ := bu_cons (su_sv h fun o ho => by
  cases o with
  | nx ρ' M' => exact ho
  | ret d M' => exact ho
  | bk ρ' M' => exact ho
  | ct ρ' M' => exact ho)
theorem su_if {as bs : List Stmt} (hc : TW X c ρ M (fun p M1 => (p = true → BU X W as ρ M1 Ψ) ∧ (p = false → BU X W bs ρ M1 Ψ))) : SU X W (.If c as bs pos) ρ M Ψ :=
  (ps_if hc pk_u pk_u).mono fun E σ H ⟨G, sa, k⟩ => ⟨G, sa, fun p G1 H1 M1 ⟨h1, h2⟩ g1 sh1 => by
    cases p with
    | true => exact (⟨M1, h1 rfl, G1, ⟨sh1, sa.sl.up g1⟩, fun o ho => (k o ho).up g1⟩ : pkU X W as ρ Ψ E σ H1)
    | false => exact (⟨M1, h2 rfl, G1, ⟨sh1, sa.sl.up g1⟩, fun o ho => (k o ho).up g1⟩ : pkU X W bs ρ Ψ E σ H1)⟩
theorem su_set (i : Nat) {x : Str} {pos' : Pos} (hN : X.N.Nodup) (he : EU X W e ρ M (fun r M1 => match r with | .ok d => Ψ (.o (.nx (ρ.set i (some d)) M1)) | .ex cls dd => Ψ (.ex cls dd ρ M1))) (hi : X.N[i]? = some x := by rfl) (hx : L2.Loc X.env.scope x := by first | exact Or.inl rfl | exact Or.inr rfl)
    (hs : swapsWith e (some (.Name x pos')) pos.line X.env = pure false := by rfl) (hf : X.fn x = true ∨ X.env.scope.names.lookup x = some .local := by first | exact .inl rfl | exact .inr rfl) : SU X W (.Assign [.Name x pos'] e pos) ρ M Ψ :=
  (ps_set hN hi hx he hs hf).mono fun E σ H ⟨G, sa, k⟩ => ⟨G, sa, fun v G1 H1 d M1 q g1 sh1 r1 => k _ q _ G1 H1 g1 ⟨sh1, (sa.sl.up g1).set i r1⟩, fun cls dd G1 H1 M1 q g1 sh1 => k _ q σ G1 H1 g1 ⟨sh1, sa.sl.up g1⟩⟩
theorem su_ret (he : EU X W e ρ M (fun r M1 => match r with | .ok d => Ψ (.o (.ret d M1)) | .ex cls dd => Ψ (.ex cls dd ρ M1))) : SU X W (.Return (some e) pos) ρ M Ψ :=
  (ps_ret he).mono fun E σ H ⟨G, sa, k⟩ => ⟨G, sa, fun v G1 H1 d M1 q g1 sh1 r1 => k _ q v G1 H1 g1 sh1 r1, fun cls dd G1 H1 M1 q g1 sh1 => k _ q σ G1 H1 g1 ⟨sh1, sa.sl.up g1⟩⟩
def loopU (Inv : Nat → Sl → Mem → Prop) (Ψ : OutX → Prop) (i : Nat) : OutX → Prop
  | .o (.nx ρ M) => Inv (i + 1) ρ M
  | .o (.ct ρ M) => Inv (i + 1) ρ M
  | .o (.bk ρ M) => Ψ (.o (.nx ρ M))
  | .o (.ret d M) => Ψ (.o (.ret d M))
  | .ex cls dd ρ M => Ψ (.ex cls dd ρ M)
theorem su_for {tg iter : Expr} {g : TG} {body : List Stmt} (hc : X.calm = true) (hg : PG X tg g)
    (hi : IW X tg iter ρ M (fun ds M1 => ∃ Iv : Nat → Sl → Mem → Prop, Iv 0 ρ M1 ∧ (∀ i d ρ' M', ds[i]? = some d → Iv i ρ' M' → ∃ ρ'', TG1 X.K g ρ' d ρ'' ∧ BU X W body ρ'' M' (loopU Iv Ψ i)) ∧ ∀ ρ' M', Iv ds.length ρ' M' → Ψ (.o (.nx ρ' M'))))
    (hp : PassesOwn (model X.prog X.w) X.A X.env X.xe) (hs : ∀ x, foldedSetIterable iter X.env x = pure x := by intro _; rfl) : SU X W (.For tg iter body [] pos) ρ M Ψ := by
  refine (ps_for (tb := fun E σ H => ∃ ρ Ψ', pkU X W body ρ Ψ' E σ H) hp hc hi hg ⟨fun pins s σ H E I ⟨_, _, _, hb, q⟩ => hb.run pins s σ H E I q⟩ hs).mono fun E σ H ⟨G, sa, k⟩ => ⟨G, sa, fun J G1 H1 ds M1 ⟨Iv, iv0, step, done⟩ g1 sh1 jw => ?_⟩
  refine ⟨fun i m σ H => m = ds.length - i ∧ i ≤ ds.length ∧ ∃ G ρ M, Same G1 G ∧ SA X.K G H σ ρ M ∧ Iv i ρ M, ⟨_, (Nat.sub_zero _).symm, Nat.zero_le _, G1, ρ, M1, Same.refl _, ⟨sh1, sa.sl.up g1⟩, iv0⟩, ?_⟩
  rintro i m σ2 H2 ⟨rfl, hi, G2, ρ2, M2, g2, sa2, iv⟩
  obtain ⟨j1, j2⟩ := jw i H2 (g2.trans sa2.sh.le)
  rcases Nat.lt_or_ge i ds.length with hlt | hge
  · obtain ⟨go, yl⟩ := j1 _ (List.getElem?_eq_getElem hlt)
    refine .inr ⟨go, fun σ3 H3 => ∃ G ρ M, Same G1 G ∧ SA X.K G H3 σ3 ρ M ∧ Iv (i + 1) ρ M, fun σ' H' p' => ⟨_, by omega, rfl, hlt, p'⟩, fun x H' y => ?_⟩
    obtain ⟨G3, g3, sh3, rx⟩ := yl x H' y G2 M2 g2 sa2.sh
    have g13 := g2.trans g3
    obtain ⟨ρ3, tg3, bv⟩ := step i _ ρ2 M2 (List.getElem?_eq_getElem hlt) iv
    refine tg3 x σ2 G3 H' _ sh3.le (sa2.sl.up g3) rx fun σ3 rs3 => ⟨ρ3, _, M2, bv, G3, ⟨sh3, rs3⟩, fun o ho => ?_⟩
    cases o with
    | ex cls dd ρ4 M4 => exact fun σ4 G4 H4 g4 sa4 => k _ ho σ4 G4 H4 ((g1.trans g13).trans g4) sa4
    | o o =>
      cases o with
      | nx ρ4 M4 => exact fun σ4 G4 H4 g4 sa4 => ⟨G4, ρ4, M4, g13.trans g4, sa4, ho⟩
      | ct ρ4 M4 => exact fun σ4 G4 H4 g4 sa4 => ⟨G4, ρ4, M4, g13.trans g4, sa4, ho⟩
      | bk ρ4 M4 => exact fun σ4 G4 H4 g4 sa4 => k _ ho σ4 G4 H4 ((g1.trans g13).trans g4) sa4
      | ret d4 M4 => exact fun v G4 H4 g4 sh4 r4 => k _ ho v G4 H4 ((g1.trans g13).trans g4) sh4 r4
  · obtain rfl : i = ds.length := by omega
    exact .inl ⟨j2 (Nat.le_refl _), k _ (done ρ2 M2 iv) σ2 G2 H2 (g1.trans g2) sa2⟩
end
def FinU (Φ : Res → Mem → Prop) : OutX → Prop
  | .o (.ret d M'') => ∃ M', Φ (.ok d) M' ∧ Mle M' M''
  | .o (.nx _ M'') => ∃ M', Φ (.ok dN) M' ∧ Mle M' M''
  | .ex cls dd _ M'' => ∃ M', Φ (.ex cls dd) M' ∧ Mle M' M''
  | _ => False
theorem calU_of {P : Program} {w : World} {K : PySem.W.Frag} {mg : Str → Option Value} {base : Heap} {x qual : Str} {sd : Stmt} {f : Addr} {fd : FuncData} {N ps : List Str} {k : Nat} {R : List D → Mem → (Res → Mem → Prop) → Prop} (F : Fun K x qual sd f fd) (S : FnScope N ps (defScope sd)) (hm : mg x = some (.ref f))
    (hbind : ∀ (kV doc pm : Value) (an : Option Addr) (cdv ct : Value) (us : List Value), us.length = ps.length → bindArgs (PySem.W.fnOf x qual (defArgs sd) (defBody sd) (defScope sd) .none kV doc pm an cdv ct) ⟨us, []⟩ = pure (ps.zip us))
    (len : ∀ ds M Φ, R ds M Φ → ds.length = ps.length)
    (hb : ∀ (cdv : Value) (A : Around) (outer : List Env) (s : Shared) (H : Hp) (E : XK) (ds : List D) (M : Mem) (Φ : Res → Mem → Prop), Room k (A.deeper (envOfC qual (defScope sd) s.heap.objs.size f cdv)) → R ds M Φ →
      ∀ W, Takes (cxOf (L2.CX P w) P w K mg base N qual (defScope sd) f cdv A outer s H E) W → PassesOwn (model P w) (cxOf (L2.CX P w) P w K mg base N qual (defScope sd) f cdv A outer s H E).A (cxOf (L2.CX P w) P w K mg base N qual (defScope sd) f cdv A outer s H E).env (cxOf (L2.CX P w) P w K mg base N qual (defScope sd) f cdv A outer s H E).xe →
      BU (cxOf (L2.CX P w) P w K mg base N qual (defScope sd) f cdv A outer s H E) W (defBody sd) (startD N ds) M (FinU Φ)) : CalX P w K mg base (k + 1) x (spU K R) :=
  ⟨f, fd, ps, hm, F.kp, F.binds hbind, F.okX S (fun vs H Q E ⟨G, ds, M, Φ, sh, r, p, q⟩ => by rw [r.len]; exact len _ _ _ p) fun cdv A outer s H vs Q E hr ⟨G, ds, M, Φ, sh, r, p, q1, q2⟩ => by
    refine ⟨_, hb cdv A outer s H E ds M Φ hr p (fun cls d _ H' => E cls d H') (takes_of (E := E) rfl rfl rfl rfl) (passes_of rfl), G, ⟨sh, start_rep r⟩, fun o ho => ?_⟩
    cases o with
    | ex cls dd ρ' M'' =>
      obtain ⟨M', hp, hm⟩ := ho
      exact fun σ' G' H' g sa' => q2 cls dd G' H' M' hp g (sa'.sh.weak hm)
    | o o =>
      cases o with
      | ret d' M'' =>
        obtain ⟨M', hp, hm⟩ := ho
        exact fun v G' H' g sh' r' => q1 v G' H' d' M' hp g (sh'.weak hm) r'
      | nx ρ' M'' =>
        obtain ⟨M', hp, hm⟩ := ho
        exact fun σ' G' H' g sa' => q1 _ G' H' dN M' hp g (sa'.sh.weak hm) (.val _)
      | bk ρ' M'' => exact ho.elim
      | ct ρ' M'' => exact ho.elim⟩
/-! ### defs as values -/
structure CalF (P : Program) (w : World) (K : PySem.W.Frag) (mg : Str → Option Value) (base : Heap) (k : Nat) (f : Addr) (sp : Sp) : Prop where
  ex : ∃ fd ps, PySem.W.keepIn K (.ref f) = true ∧ Binds K fd ps [] ∧ FnOk P w K mg base CX0 k f fd ps sp
theorem Cal.val {P : Program} {w : World} {K : PySem.W.Frag} {mg : Str → Option Value} {base : Heap} {k : Nat} {x : Str} {sp : Sp} (C : Cal P w K mg base k x sp) : ∃ f, mg x = some (.ref f) ∧ CalF P w K mg base k f sp :=
  let ⟨f, fd, ps, a, b, c, F⟩ := C.ex
  ⟨f, a, fd, ps, b, c, F⟩
section
variable {X : Cx} {ρ : Sl} {M M1 M2 : Mem} {e : Expr} {es : List Expr} {d : D} {ds : List D} {pos : Pos} {Φ : D → Mem → Prop}
/-- the name of a def, as a value -/
theorem ev_def {x : Str} {f : Addr} (hm : X.mg x = some (.ref f)) (hg : Gl X x := by rfl) (hd : (x == ("__debug__" : Str)) = false := by decide) : EV X (.Name x pos) ρ M (dP f) M :=
  ⟨fun pins s σ H Q I ⟨G, sa, k⟩ => ld_glob I hg hm ⟨.ref f, H, I, rfl, k _ G H (Same.refl G) sa.sh (.val _)⟩ hd⟩
theorem ev_callL {k : Nat} {x : Str} {f : Addr} {Pr : List D → Mem → D → Mem → Prop} {p : Pos} (i : Nat) (C : CalF X.prog X.w X.K X.mg X.base k f (spD X.K Pr)) (hr : Room k X.A) (hρ : ρ[i]? = some (some (dP f))) (ha : AV X (e :: es) ρ M ds M1) (hp : Pr ds M1 d M2) (hN : X.N[i]? = some x := by rfl) (hv : Vis X.env.scope x := by first | exact Or.inl rfl | exact Or.inr (Or.inl rfl) | exact Or.inr (Or.inr rfl))
    (hd : (x == ("__debug__" : Str)) = false := by decide) (hcd : (x == ("__classdict__" : Str)) = false := by decide) (hst : starEach (e :: es) X.env = (false, eval e X.env) :: starEach es X.env := by rfl) (hpl : (backTo pos (starEach es X.env)).any (·.1) = false := by rfl) : EV X (.Call (.Name x p) (e :: es) [] pos) ρ M d M2 := by
  obtain ⟨fd, ps, hk, hb, F⟩ := C.ex
  refine (pe_callL (i := i) (E := E0) F hr hN hv hk hb .nil (fun _ _ _ _ _ _ _ z => z.elim) ha hd hcd hst hpl).mono fun σ H Q ⟨G, sa, k⟩ => ?_
  obtain ⟨v, e1, r⟩ := sa.sl.2 i _ hρ
  rw [r.of_val] at e1
  refine ⟨e1, G, sa, fun vs G1 H1 g1 sh1 r1 => ?_⟩
  show spD X.K Pr (vs ++ []) H1 Q E0
  rw [List.append_nil]
  exact ⟨G1, ds, M1, d, M2, sh1, r1, hp, fun v G' H' g sh r => k v G' H' (g1.trans g) sh r⟩
end
end Vt
namespace Vt
open PySem PySem.Spec PyProof.Rows L2
/-! ### errors of the program with fields: made, raised, read -/
/-- what is known of the class at S whose __init__ is that of ValueError -/
structure BaseE (K : PySem.W.Frag) (S : Addr) : Prop where
  ga : PySem.W.specialIn K (.ref S) "__getattribute__" = some (some (.builtin "type.__getattribute__"))
  rd : PySem.W.readsIn K S (.type "type") = true
  ini : PySem.W.findCls K (.ref S) (.type "type") "__init__" = some (.val (.builtin "ValueError.__init__"))
theorem pe_seinit {X : Cx} {e : Expr} {es : List Expr} {p1 p2 pos : Pos} {ta : TA} {pl : Sem Bool} {S : Addr} (hg : Gl X "ScoreError") (hm : X.mg "ScoreError" = some (.ref S)) (B : BaseE X.K S) (ha : PA X (e :: es) ta)
    (hc : eval (.Call (.Attribute (.Name "ScoreError" p1) "__init__" p2) (e :: es) [] pos) X.env = (do
      let b ← eval (.Name "ScoreError" p1) X.env
      standAt p2.atName
      let (g, l) ← holding [b] (getMethod b "__init__" pl)
      callWith pos g l (backTo pos (starEach (e :: es) X.env)) (backToKw pos (keywordEach [] X.env))) := by rfl)
    (he : starEach (e :: es) X.env = (false, eval e X.env) :: starEach es X.env := by rfl) (hpl : (backTo pos (starEach es X.env)).any (·.1) = false := by rfl) :
    PE X (.Call (.Attribute (.Name "ScoreError" p1) "__init__" p2) (e :: es) [] pos) (tVeI X.K ta) := ⟨fun pins s σ H Q I h => by
  have run {s1 : Shared} (J : Inv X pins σ H s1) : wpAny (model X.prog X.w) X.A (callWith pos (Value.builtin "ValueError.__init__") [] (backTo pos (starEach (e :: es) X.env)) []) (fun u s2 => ∃ v H2, Inv X pins σ H2 s2 ∧ RelV v u ∧ Q v H2) X.xe s1 := by
    refine PyProof.Rows.callWith_method1 (thn (ha.run pos pins _ σ H _ J h) fun us s2 made => ?_) he hpl
    obtain ⟨vs, H2, I2, r, a, C, ws, rfl, short, T, at_, q⟩ := made
    cases r with
    | cons r1 r2 =>
      cases r1
      exact oinit_ok T I2 at_ (Nat.le_trans (Nat.le_of_eq (Paired.length r2).symm) (Nat.le_trans short (by decide))) fun s3 J3 => ⟨V.non, H2, J3, rfl, q⟩
  exact PySem.W.methodCall_KW (ld_glob I hg hm (PySem.W.method_cls I.kIn B.ga (PySem.W.cls_value I.kIn B.rd B.ini rfl (run (I.tok _)))) (by decide)) hc⟩
/-- what C(..) leaves: the fields' names, latest first, each with the place of its argument (behind self) -/
def spI (C : Addr) (fl : List (Str × Nat)) (pre : List V → Prop) : Sp := fun vs H Q _ => ∃ a args, vs = .ref a :: args ∧ H a = some (exo a C none) ∧ pre args ∧ ∀ dx, H dx = none → dx ≠ a → Q .non (upd (upd H dx (exd dx (fl.map fun p => (p.1, args.getD p.2 .non)))) a (exo a C (some dx)))
structure ErrC (P : Program) (w : World) (K : PySem.W.Frag) (mg : Str → Option Value) (base : Heap) (x : Str) (C : Addr) (fl : List (Str × Nat)) (pre : List V → Prop) : Prop where
  ok : OexC K C
  mgC : mg x = some (.ref C)
  ini : ∃ fI fd ps, PySem.W.findIn K (.ref C) "__init__" = some (some (.ref fI)) ∧ PySem.W.typeIn K (.ref fI) = some (.type "function") ∧ Binds K fd ps [] ∧ FnOk P w K mg base CX0 1 fI fd ps (spI C fl pre)
theorem exo_ne {a C dx : Addr} {fs : List (Str × V)} : exo a C none ≠ exd dx fs ∨ True := .inr trivial
/-- two fields stored -/
theorem upd_two {H : Hp} {a dx : Addr} {A A2 B B2 : HO} (n : dx ≠ a) : upd (upd (upd (upd H dx A) a B) dx A2) a B2 = upd (upd H dx A2) a B2 := by
  funext b
  by_cases ha : b = a
  · subst ha
    rw [upd_same, upd_same]
  · rw [upd_ne ha, upd_ne ha]
    by_cases hd : b = dx
    · subst hd
      rw [upd_same, upd_same]
    · rw [upd_ne hd, upd_ne ha, upd_ne hd, upd_ne hd]
/-- the second field behind the first -/
theorem upd_once {H : Hp} {a dx : Addr} {A A2 B : HO} (n : dx ≠ a) (hB : (upd (upd H dx A) a B) a = some B) : upd (upd (upd H dx A) a B) dx A2 = upd (upd H dx A2) a B := by
  funext b
  by_cases hd : b = dx
  · subst hd
    rw [upd_same, upd_ne n, upd_same]
  · rw [upd_ne hd]
    by_cases ha : b = a
    · subst ha
      rw [upd_same, upd_same]
    · rw [upd_ne ha, upd_ne ha, upd_ne hd, upd_ne hd]
theorem SH.newX {K : PySem.W.Frag} {G H : Hp} {M : Mem} {p : Addr} {o : HO} {mo : MO} (s : SH K G H M) (hp : H p = none) (r : AtM K G (upd H p o) p mo) : SH K G (upd H p o) (M.set p mo) ∧ M p = none := by
  have gp : G p = none := by
    cases e : G p with
    | none => rfl
    | some u =>
      have := s.le p u e
      rw [hp] at this
      cases this
  have mp : M p = none := by
    cases e : M p with
    | none => rfl
    | some mo =>
      obtain ⟨u, hu⟩ := (s.mem p mo e).2.some
      rw [hp] at hu
      cases hu
  refine ⟨⟨fun b u e => ?_, fun b mo' e => ?_⟩, mp⟩
  · rw [upd_ne (ne_of_none e gp)]
    exact s.le b u e
  · by_cases hb : b = p
    · subst hb
      rw [Mem.set_same] at e
      cases e
      exact ⟨gp, r⟩
    · rw [Mem.set_ne hb] at e
      exact ⟨(s.mem b mo' e).1, (s.mem b mo' e).2.up (Same.refl G) (upd_ne hb)⟩
theorem RepL.getD {K : PySem.W.Frag} {G : Hp} : ∀ {vs : List V} {ds : List D}, RepL K G vs ds → ∀ i, Rep K G (vs.getD i .non) (ds.getD i dN)
  | _, _, .nil, i => by
    rw [List.getD_eq_getElem?_getD, List.getD_eq_getElem?_getD, List.getElem?_nil, List.getElem?_nil]
    exact .val _
  | _, _, .cons r _, 0 => r
  | _, _, .cons _ t, i + 1 => RepL.getD t i
theorem repF_of {K : PySem.W.Frag} {G : Hp} {vs : List V} {ds : List D} (r : RepL K G vs ds) : ∀ fl : List (Str × Nat), RepF K G (fl.map fun p => (p.1, vs.getD p.2 .non)) (fl.map fun p => (p.1, ds.getD p.2 dN))
  | [] => .nil
  | (n, i) :: fl => .cons (r.getD i) (repF_of r fl)
section
variable {X : Cx} {W : WX} {ρ : Sl} {M M1 : Mem} {e : Expr} {es : List Expr} {pos pos' p : Pos} {Ψ : OutX → Prop}
theorem su_raiseF {x : Str} {C : Addr} {fl : List (Str × Nat)} {pre : List V → Prop} (hc : X.calm = true) (tk : Takes X W) (B : ErrC X.prog X.w X.K X.mg X.base x C fl pre) (hr : Room 2 X.A)
    (h : AW X (e :: es) ρ M (fun ds M1 => ds.length ≤ 1000 ∧ (∀ G vs, RepL X.K G vs ds → pre vs) ∧ ∀ dx, M1 dx = none → Ψ (.ex (.ref C) (some dx) ρ (M1.set dx (.xd (fl.map fun q => (q.1, ds.getD q.2 dN)))))))
    (hg : Gl X x := by rfl) (hdb : (x == ("__debug__" : Str)) = false := by decide) (he : starEach (e :: es) X.env = (false, eval e X.env) :: starEach es X.env := by rfl) (hpl : (backTo pos (starEach es X.env)).any (·.1) = false := by rfl) :
    SU X W (.Raise (some (.Call (.Name x p) (e :: es) [] pos)) none pos') ρ M Ψ := by
  obtain ⟨fI, fd, ps, i1, i2, i3, F⟩ := B.ini
  refine (L2.ps_raise hc tk (pmk_oex (dvs := []) B.ok i1 i2 F hr i3 .nil pass0 hg B.mgC h hdb he hpl)).mono fun E σ H ⟨G, sa, k⟩ => ⟨G, sa, fun vs G1 H1 ds M1 ⟨hl, hpre, q⟩ g1 sh1 r1 => ⟨by rw [r1.len]; exact hl, fun a ha => ?_⟩⟩
  show spI C fl pre (.ref a :: (vs ++ [])) _ _ _
  rw [List.append_nil]
  refine ⟨a, vs, rfl, upd_same, hpre _ _ r1, fun dx hdx hne => ⟨rfl, dx, _, upd_same, by rw [upd_ne hne]; exact upd_same, by rw [upd_ne hne] at hdx; exact hdx, ?_⟩⟩
  have hd1 : H1 dx = none := by rw [upd_ne hne] at hdx; exact hdx
  have eH : upd (L2.del (upd (upd (upd H1 a (exo a C none)) dx (exd dx (fl.map fun p => (p.1, vs.getD p.2 .non)))) a (exo a C (some dx))) a) dx (.xd (fl.map fun p => (p.1, vs.getD p.2 .non))) = upd H1 dx (.xd (fl.map fun p => (p.1, vs.getD p.2 .non))) := by
    funext b
    by_cases hb : b = dx
    · subst hb
      rw [upd_same, upd_same]
    · rw [upd_ne hb, upd_ne hb]
      by_cases hba : b = a
      · subst hba
        rw [del_same, ha]
      · rw [del_ne hba, upd_ne hba, upd_ne hb, upd_ne hba]
  rw [eH]
  obtain ⟨sh2, m0⟩ := sh1.newX (o := .xd (fl.map fun p => (p.1, vs.getD p.2 .non))) (mo := .xd (fl.map fun p => (p.1, ds.getD p.2 dN))) hd1 ⟨_, upd_same, repF_of r1 fl⟩
  exact k _ (q dx m0) σ G1 _ g1 ⟨sh2, sa.sl.up g1⟩
/-- e.f in the suite of an except -/
theorem ev_xfld {a C : Addr} {oe : Obj} {dd : Addr} {pn : List (Addr × Obj)} {n : Str} {d : D} {fs : List (Str × D)} (T : XfC X.K C) (hno : PySem.W.findIn X.K (.ref C) n = some none) (hz : Zc (.ref C) (some dd) oe) (hf : ∃ vs, oe.data = .fields vs)
    (he : EV (X.suite a ((a, oe) :: pn)) e ρ M (dP a) M) (hm : M dd = some (.xd fs)) (hl : fs.lookup n = some d) (hb : attributeBase e n X.env (eval e X.env) = eval e X.env := by rfl) : EV (X.suite a ((a, oe) :: pn)) (.Attribute e n pos) ρ M d M :=
  (pe_xf T hno hz hf he hb).mono fun σ H Q ⟨G, sa, k⟩ => ⟨G, sa, fun v G1 H1 g1 sh1 r1 => by
    obtain ⟨_, fv, hv, r⟩ := sh1.mem dd _ hm
    obtain ⟨u, e1, ru⟩ := r.get hl
    exact ⟨r1.of_val, rfl, dd, fv, u, rfl, hv, e1, k u G1 H1 g1 sh1 ru⟩⟩
theorem call_isF {a D : Addr} {oe : Obj} {dd : Option Addr} {pn : List (Addr × Obj)} (C : ExcC X.K D) (hcl : (PySem.W.clsIn X.K D).isSome = true) (hz : Zc (.ref D) dd oe) (hf : ∃ vs, oe.data = .fields vs) (hd : ∀ x, dd = some x → ∃ fs, M x = some (.xd fs)) :
    ∀ {ρ : Sl} {a1 : Expr} {e1 : Expr} {cv : Value} {vc : V} {r : Bool} {p pos : Pos}, (∀ u, RelV vc u → u = cv) → PySem.W.kitOne X.K (.ref D) cv = some r → X.mg "isinstance" = none → AV (X.suite a ((a, oe) :: pn)) [a1, e1] ρ M [dP a, .val vc] M → (hg : Gl (X.suite a ((a, oe) :: pn)) "isinstance") →
      (h1 : starEach [a1, e1] X.env = (false, eval a1 X.env) :: starEach [e1] X.env) → (hpl : (backTo pos (starEach [e1] X.env)).any (·.1) = false) → EV (X.suite a ((a, oe) :: pn)) (.Call (.Name "isinstance" p) [a1, e1] [] pos) ρ M (dB r) M := by
  intro ρ a1 e1 cv vc r p pos hcv hk hm ha hg h1 hpl
  refine (pe_callB (r := fun xs H Q => (∀ x, dd = some x → ∃ fs, H x = some (.xd fs)) ∧ xs = [.ref a, vc] ∧ Q (.bl r) H) ?_ hg hm boot_isinstance ha (hpl := hpl) (he := h1)).mono fun σ H Q ⟨G, sa, k⟩ => ⟨G, sa, fun vs G1 H1 g1 sh1 r1 => ?_⟩
  · intro pins s σ H xs us Q I rr h
    obtain ⟨hx, rfl, q⟩ := h
    cases rr with
    | cons rx rr =>
      cases rr with
      | cons rt rr =>
        cases rr
        cases rx
        obtain rfl := hcv _ rt
        obtain ⟨there, _⟩ := I.pin (a, oe) (List.mem_append.mpr (Or.inl List.mem_cons_self))
        obtain ⟨flds, isF⟩ := hf
        have at_ : ∃ od, PySem.W.InstAt s.heap a oe D od := by
          obtain ⟨z1, z2⟩ := hz
          have nc : PySem.W.notCls oe = true := by unfold PySem.W.notCls; rw [isF] <;> rfl
          cases dd with
          | none => exact ⟨none, there, z1, nc, by rw [z2]; trivial⟩
          | some x =>
            obtain ⟨fs, hfs⟩ := hx x rfl
            obtain ⟨mA, hns, _⟩ := (I.hok x _ hfs : ObjOk X.prog X.w H s.heap x (.xd fs))
            obtain ⟨ob, here, _⟩ := lookIn_ns hns
            exact ⟨some ob, there, z1, nc, by rw [z2]; exact here⟩
        obtain ⟨od, J⟩ := at_
        exact PySem.W.kia_one (PySem.W.kitx_exc (od := od) hcl C.hg C.hk C.hs C.ha C.hn C.ht C.hm) I.kIn J hk (fun z => nomatch z) fun tk => ⟨V.bl r, H, I.kept (t' := tk) fun _ _ z => z, rfl, q⟩
  · refine ⟨fun x hx => ?_, RepL.of_vals (xs := [.ref a, vc]) r1, k _ G1 H1 g1 sh1 (.val _)⟩
    obtain ⟨fs, hfs⟩ := hd x hx
    obtain ⟨_, fv, hv, _⟩ := sh1.mem x _ hfs
    exact ⟨fv, hv⟩
/-- isinstance(e, c) in the suite of an except, e with fields -/
theorem ev_isF {n x : Str} {a C : Addr} {oe : Obj} {dd : Option Addr} {pn : List (Addr × Obj)} {cv : Value} {vc : V} {r : Bool} {p2 p3 : Pos} {i : Nat} (hm : X.mg "isinstance" = none) (EC : ExcC X.K C) (hcl : (PySem.W.clsIn X.K C).isSome = true) (hz : Zc (.ref C) dd oe) (hf : ∃ vs, oe.data = .fields vs) (hd : ∀ x, dd = some x → ∃ fs, M x = some (.xd fs))
    (hv : ∀ u, RelV vc u → u = cv) (hk : PySem.W.kitOne X.K (.ref C) cv = some r) (ha : AV (X.suite a ((a, oe) :: pn)) [e, .Name x p2] ρ M [dP a, .val vc] M) (hg : Gl (X.suite a ((a, oe) :: pn)) "isinstance" := by rfl)
    (h1 : starEach [e, .Name x p2] X.env = (false, eval e X.env) :: starEach [.Name x p2] X.env := by rfl) (hpl : (backTo pos (starEach [.Name x p2] X.env)).any (·.1) = false := by rfl) :
    EV (X.suite a ((a, oe) :: pn)) (.Call (.Name "isinstance" p) [e, .Name x p2] [] pos) ρ M (dB r) M := call_isF EC hcl hz hf hd hv hk hm ha hg h1 hpl
end
end Vt
namespace Vt
open PySem PySem.Spec PyProof.Rows L2
/-! ### try around what tells or raises -/
def suiteR (i : Nat) (Ψ : Out → Prop) : Out → Prop
  | .ret d M => Ψ (.ret d M)
  | .nx ρ M => Ψ (.nx (ρ.set i none) M)
  | _ => False
section
variable {X : Cx} {ρ : Sl} {M : Mem} {pos : Pos} {Ψ : Out → Prop}
def tryR (X : Cx) (c1 c2 : Value) (C : Addr) (i : Nat) (suite : List Stmt) (Ψ : Out → Prop) : OutX → Prop
  | .o o => Ψ o
  | .ex cls dd ρ' M' => cls = .ref C ∧ ∀ (a : Addr) (oe : Obj) (pn : List (Addr × Obj)), Zc (.ref C) dd oe → (∃ vs, oe.data = .fields vs) → BV (X.suite a ((a, oe) :: pn)) suite (ρ'.set i (some (dP a))) M' (suiteR i Ψ)
theorem sv_tryU {body suite : List Stmt} {b₀ : Stmt} {x y z n : Str} {p1 p2 p3 p4 p5 p6 : Pos} {kk i : Nat} {nm : Option Str} {c0 : Stmt} {cr : List Stmt} {c1 c2 : Value} {C : Addr} (hs : X.stack = X.env :: X.outer) (hf : X.env.frame = some X.env.locals) (tk : Takes X (fun _ _ _ _ => False))
    (h1 : Names X x c1) (h2 : Names X y c2) (h3 : Names X z (.ref C)) (hno : PySem.W.exmAny X.K (.ref C) [c1, c2] = some false) (hyes : PySem.W.exmOne X.K (.ref C) (.ref C) = some true) (hN : X.N.Nodup) (hi : X.N[i]? = some n) (hln : X.env.kindOf n = some .local)
    (hb : ∀ (W : WX) (pn : List (Addr × Obj)) (xe : Value → Shared → Prop), Takes (X.tr pn xe) W → PassesOwn (model X.prog X.w) X.A X.env xe → BU (X.tr pn xe) W body ρ M (tryR X c1 c2 C i (b₀ :: suite) Ψ)) :
    SV X (.Try body [.ExceptHandler (some (.Tuple [.Name x p1, .Name y p2] kk p3)) nm (c0 :: cr) p4, .ExceptHandler (some (.Name z p5)) (some n) (b₀ :: suite) p6] [] [] pos) ρ M Ψ := by
  refine (ps_try_g (tb := fun W => tSU X.K W ρ M (tryR X c1 c2 C i (b₀ :: suite) Ψ)) (Wout := fun _ _ _ _ => False)
    (l := [.skip [c1, c2], .as (.ref C) i (fun a cls d D σ H => ∃ (ρ' : Sl) (M' : Mem), cls = .ref C ∧ (∀ (oe : Obj) (pn : List (Addr × Obj)), Zc (.ref C) d oe → (∃ vs, oe.data = .fields vs) → BV (X.suite a ((a, oe) :: pn)) (b₀ :: suite) (ρ'.set i (some (dP a))) M' (suiteR i Ψ)) ∧ tS X.K (ρ'.set i (some (dP a))) M' (suiteR i Ψ) D σ H)])
    hs hf tk (fun W pn xe tk' po => hb W pn xe tk' po) (.skip2 h1 h2 (.as h3 hN hi hln (fun a oe cls d pn hz hd => ⟨fun pins s σ H D I ⟨ρ', M', e1, run, q⟩ => ?_⟩) .nil))).mono fun E σ H ⟨G, sa, k⟩ => ⟨G, sa, fun o ho => ?_⟩
  · subst e1
    exact (run oe pn hz hd).run pins s σ H D I q
  · cases o with
    | o o => exact k o ho
    | ex cls dd ρ' M' =>
      obtain ⟨rfl, run⟩ := ho
      refine fun σ' G' H' g sa' => ⟨hno, true, hyes, fun _ a na => ⟨ρ', M', rfl, run a, G', ⟨sa'.sh, sa'.sl.set i (.val _)⟩, fun o ho => ?_⟩, fun h => nomatch h⟩
      cases o with
      | ret d M2 => exact (k _ ho).up g
      | nx ρ2 M2 => exact fun σ2 G2 H2 g2 sa2 => (k _ ho).up g _ G2 H2 g2 ⟨sa2.sh, sa2.sl.none i⟩
      | bk ρ2 M2 => exact ho.elim
      | ct ρ2 M2 => exact ho.elim
end
end Vt
namespace Vt
open PySem PySem.Spec PyProof.Rows L2
/-! ### targets that take tuples and lists -/
def gAny (K : PySem.W.Frag) (n : Nat) (gs : TGs) : TG := fun v σ H Q => gTup K n gs v σ H Q ∨ gUnl K n gs v σ H Q
section
variable {X : Cx} {K : PySem.W.Frag} {ρ ρ' : Sl} {es : List Expr} {ds : List D} {pos : Pos} {gs : TGs}
theorem pg_any {k n : Nat} (hc : X.calm = true) (h : PGs X es gs) (hn : (assignEach es X.env).length = n := by rfl) (hst : (assignEach es X.env).findIdx? (·.1) = none := by rfl) : PG X (.Tuple es k pos) (gAny X.K n gs) :=
  ⟨fun pins s σ H v u Q I r hw => hw.elim ((pg_tup hc h hn hst).run pins s σ H v u Q I r) ((pg_unl hc h hn hst).run pins s σ H v u Q I r)⟩
theorem tg_any {b : Bool} {n : Nat} (h : TG2 K gs ρ ds ρ') (hl : ds.length = n := by rfl) : TG1 K (gAny K n gs) ρ (sq b ds) ρ' := fun v σ G H Q e h0 r k => by
  cases b with
  | true => exact .inr (tg_lst h hl v σ G H Q e h0 r k)
  | false => exact .inl (tg_tup h hl v σ G H Q e h0 r k)
theorem tb_any {vs : List Nat} {b : Bool} {n : Nat} (h : TBs K gs vs ρ ds ρ') (hl : ds.length = n := by rfl) : TB K (gAny K n gs) vs ρ (sq b ds) ρ' := fun x σ0 σ G H Q e h0 hw r k => by
  cases b with
  | true => exact .inr (tb_sq (b := true) h hl x σ0 σ G H Q e h0 hw r k)
  | false => exact .inl (tb_sq (b := false) h hl x σ0 σ G H Q e h0 hw r k)
end
end Vt
namespace Vt
open PySem PySem.Spec PyProof.Rows L2
/-! ### more of lists and tuples -/
theorem tup_mul_one (l : Addr) (xs : Array Value) (n : Nat) (dd : Option Addr) (sl : Array (Option Value)) (u : Tok) :
    Meets (Builtin.«tuple.__mul__» ⟨[.ref l, .int 1 u], []⟩) (fun _ R s => s.heap.get? l = some { cls := .type "tuple", dict := dd, data := .seq xs n, slots := sl } ∧ R (.ok (.ret (.ref l))) s) :=
  .of_wp fun prog w A R s h => by
    obtain ⟨hp, g, d, tk, os⟩ := s
    obtain ⟨hl, h⟩ := h
    have f1 := AutoSeq1.idx_int
    have e1 : (xs.isEmpty || (1 : Int) == 1) = true := by cases xs.isEmpty <;> rfl
    wp_walk using wpAny_loadPart' hl
    repeat (first
      | (refine wpAny_ite_false (by decide) ?_; wp_walk using wpAny_loadPart' hl)
      | (refine wpAny_ite_true (by rw [e1]) ?_; wp_walk using wpAny_loadPart' hl)
      | (refine wpAny_ite_true (by decide) ?_; wp_walk using wpAny_loadPart' hl))
    exact ⟨_, rfl, h⟩
theorem tup_mul_none (l : Addr) (xs : Array Value) (n : Nat) (dd : Option Addr) (sl : Array (Option Value)) (k : Int) (u : Tok) (hk : k ≤ 0) (hk2 : -(2 ^ 63) ≤ k) (hx : xs.isEmpty = false) :
    Meets (Builtin.«tuple.__mul__» ⟨[.ref l, .int k u], []⟩) (fun _ R s => s.heap.get? l = some { cls := .type "tuple", dict := dd, data := .seq xs n, slots := sl } ∧
      R (.ok (.ret (Value.ref s.heap.objs.size))) { s with heap := s.heap.push { cls := Value.type "tuple", data := Data.seq #[] }, toks := s.toks }) :=
  .of_wp fun prog w A R s h => by
    obtain ⟨hp, g, d, tk, os⟩ := s
    obtain ⟨hl, h⟩ := h
    have f1 := AutoSeq1.idx_int
    have e0 : (decide (k < -(2 ^ 63)) || decide (k ≥ 2 ^ 63)) = false := by rw [decide_eq_false (by omega), decide_eq_false (by omega)]; rfl
    have e1 : (xs.isEmpty || k == 1) = false := by rw [hx, Bool.false_or]; exact beq_eq_false_iff_ne.mpr (by omega)
    have e2 : (decide (k ≤ 0) || xs.isEmpty) = true := by rw [decide_eq_true hk]; rfl
    wp_walk using wpAny_loadPart' hl
    repeat (first
      | (refine wpAny_ite_false (decide_eq_false (by rw [e0]; exact Bool.false_ne_true)) ?_; wp_walk using wpAny_loadPart' hl)
      | (refine wpAny_ite_false (decide_eq_false (by rw [e1]; exact Bool.false_ne_true)) ?_; wp_walk using wpAny_loadPart' hl)
      | (refine wpAny_ite_true (decide_eq_true (by rw [e2])) ?_; wp_walk using wpAny_loadPart' hl))
    exact ⟨_, rfl, h⟩
/-- (x, ..) * k for k up to 1 -/
def rRep1 (K : PySem.W.Frag) : R2 := fun x y H Q => ∃ l k xs, x = .ref l ∧ y = .int k ∧ SqT K H l xs ∧ xs ≠ [] ∧ ((k = 1 ∧ Q (.ref l) H) ∨ (-1000 ≤ k ∧ k ≤ 0 ∧ ∀ p, H p = none → Q (.ref p) (upd H p (.tup []))))
theorem op_rep1 {X : Cx} : OpR X (binaryOp .Mult) (rRep1 X.K) := fun pins s σ H x y v u Q I rx ry h => by
  obtain ⟨l, k, xs, rfl, rfl, hT, ne, q⟩ := h
  cases rx
  obtain ⟨t, rfl⟩ := ry
  obtain ⟨its, r, ⟨⟨c, dd, data, sl⟩, ho, hc, n, hd⟩, _⟩ := I.tuple hT
  dsimp only at hc hd
  subst hc hd
  have hi : its.toArray.isEmpty = false := by
    cases r with
    | nil => exact absurd rfl ne
    | cons _ _ => rfl
  rcases q with ⟨rfl, q⟩ | ⟨k0, k1, q⟩
  · exact wpAny_binaryOp_repeat_ref (T := "tuple") (U := "int") (by decide) ⟨_, ho, rfl⟩ (fun s' => typeIs_int s' 1 t) noFill_tuple_mul F.fills_int_mul F.slot_int_rmul repeat_tuple F.slot_int_index.lookup
      (call_meets F.slot_int_rmul (typeIs_int s 1 t) F.entry_int_rmul (F.args_int_rmul_2 _ _) (int_rmul_tuple 1 t l its.toArray n dd sl)
        ⟨ho, rfl, ⟨_, ho, rfl⟩, call_meets F.slot_tuple_mul ⟨_, ho, rfl⟩ F.entry_tuple_mul (F.args_tuple_mul_2 _ _) (tup_mul_one l its.toArray n dd sl t) ⟨ho, .ref l, H, I, rfl, q⟩⟩)
  · refine wpAny_binaryOp_repeat_ref (T := "tuple") (U := "int") (by decide) ⟨_, ho, rfl⟩ (fun s' => typeIs_int s' k t) noFill_tuple_mul F.fills_int_mul F.slot_int_rmul repeat_tuple F.slot_int_index.lookup
      (call_meets F.slot_int_rmul (typeIs_int s k t) F.entry_int_rmul (F.args_int_rmul_2 _ _) (int_rmul_tuple k t l its.toArray n dd sl)
        ⟨ho, rfl, ⟨_, ho, rfl⟩, call_meets F.slot_tuple_mul ⟨_, ho, rfl⟩ F.entry_tuple_mul (F.args_tuple_mul_2 _ _) (tup_mul_none l its.toArray n dd sl k t k1 (by omega) hi) ⟨ho, ?_⟩⟩)
    have new := I.laid (t' := s.toks) (a := s.heap.objs.size) (h' := s.heap.push { cls := Value.type "tuple", data := Data.seq #[] }) (o := .tup ([] : List V)) (fun b ob q => Heap.get?_push_of_some _ q) (Nat.le_refl _) ⟨Nat.zero_le _, [], .nil, IsTup.new _ _⟩
    exact ⟨.ref s.heap.objs.size, _, new, rfl, q _ (I.hok.fresh (Nat.le_refl _))⟩
section
variable {X : Cx} {ρ : Sl} {M M1 M2 : Mem} {a b e : Expr} {d : D} {ds es : List D} {pos : Pos} {Φ : D → Mem → Prop}
theorem rep_flat {K : PySem.W.Frag} {G : Hp} {vs : List V} {ds : List D} (r : RepL K G vs ds) : ∀ n, RepL K G (List.replicate n vs).flatten (List.replicate n ds).flatten
  | 0 => .nil
  | n + 1 => r.append (rep_flat r n)
theorem ev_mulT {k : Int} (ha : EV X a ρ M (.tup ds) M1) (hb : EV X b ρ M1 (dI k) M2) (hne : ds ≠ []) (hk : -1000 ≤ k ∧ k ≤ 1000) (hl : ds.length ≤ 1000) : EV X (.BinOp a .Mult b pos) ρ M (.tup (List.replicate k.toNat ds).flatten) M2 := by
  have ne {G : Hp} {vs : List V} (r : RepL X.K G vs ds) : vs ≠ [] := fun e => by
    rw [e] at r
    cases r
    exact hne rfl
  by_cases h2 : 2 ≤ k
  · exact (pe_op op_repT ha hb).mono fun σ H Q ⟨G, sa, kk⟩ => ⟨G, sa, fun v1 G1 H1 g1 sh1 r1 => ⟨G1, ⟨sh1, sa.sl.up g1⟩, fun v2 G2 H2 g2 sh2 r2 => by
      cases r1 with
      | tup q r =>
        refine ⟨_, k, _, rfl, r2.of_val, sqtUp sh2.le (sqtUp g2 q), ne r, h2, hk.2, by rw [r.len]; exact hl, fun p hp => ?_⟩
        obtain ⟨sh3, g3⟩ := sh2.new (o := .tup (List.replicate k.toNat _).flatten) hp
        exact kk _ _ _ ((g1.trans g2).trans g3) sh3 (.tup (.inl (.inl upd_same)) (rep_flat ((r.up g2).up g3) _))⟩⟩
  · refine (pe_op op_rep1 ha hb).mono fun σ H Q ⟨G, sa, kk⟩ => ⟨G, sa, fun v1 G1 H1 g1 sh1 r1 => ⟨G1, ⟨sh1, sa.sl.up g1⟩, fun v2 G2 H2 g2 sh2 r2 => ?_⟩⟩
    cases r1 with
    | tup q r =>
      by_cases h1 : k = 1
      · subst h1
        refine ⟨_, 1, _, rfl, r2.of_val, sqtUp sh2.le (sqtUp g2 q), ne r, .inl ⟨rfl, kk _ _ _ (g1.trans g2) sh2 ?_⟩⟩
        show Rep _ _ _ (.tup (ds ++ []))
        rw [List.append_nil]
        exact .tup (sqtUp g2 q) (r.up g2)
      · refine ⟨_, k, _, rfl, r2.of_val, sqtUp sh2.le (sqtUp g2 q), ne r, .inr ⟨hk.1, by omega, fun p hp => ?_⟩⟩
        obtain ⟨sh3, g3⟩ := sh2.new (o := .tup ([] : List V)) hp
        rw [show k.toNat = 0 by omega] at kk
        exact kk _ _ _ ((g1.trans g2).trans g3) sh3 (.tup (.inl (.inl upd_same)) .nil)
end
section
variable {X : Cx} {ρ : Sl} {M M1 : Mem} {d : D} {ds : List D} {pos : Pos} {Ψ : Out → Prop} {Φ : D → Mem → Prop} {tg iter : Expr} {g : TG}
/-- [e for x in ..], the list is going to be changed -/
def LcN (X : Cx) (g : TG) (own : List (Str × Nat)) (scope : Scope) (elt : Expr) (ρ : Sl) (Φ : D → Mem → Prop) (ds : List D) (M1 : Mem) : Prop :=
  ds.length ≤ sizeLine ∧ ∃ Iv : Nat → List D → Mem → Prop, Iv 0 [] M1 ∧
    (∀ i d acc M, ds[i]? = some d → acc.length = i → Iv i acc M → ∃ ρ', TGb X.K g (own.map (·.2)) (wipeD ρ (own.map (·.2))) d ρ' ∧ ∀ (p : Addr), M p = none → ∀ (s : Shared) (H : Hp) (C : Addr) (cl : List (Str × Addr)) (fp : List Addr),
      EW (X.blk s H scope (compEnvC scope cl C X.env) fp) elt ρ' (M.set p (.lst acc)) (fun d' M' => ∃ M2, M' = M2.set p (.lst acc) ∧ M2 p = none ∧ Iv (i + 1) (acc ++ [d']) M2)) ∧
    ∀ acc M, acc.length = ds.length → Iv ds.length acc M → ∀ p, M p = none → Φ (dP p) (M.set p (.lst acc))
theorem lcw_readN {elt : Expr} {scope : Scope} {own : List (Str × Nat)} (σ : L2.St) (H : Hp) (Q : VK) (hΦ : ∃ G, SA X.K G H σ ρ M ∧ ∀ v G' H' d M', Φ d M' → Same G G' → SH X.K G' H' M' → Rep X.K G' v d → Q v H') :
    tLc (tIW X.K ρ M (LcN X g own scope elt ρ Φ)) g tYes (fun σ H Q => ∃ ρ' M' Φ', (∀ (s : Shared) (H : Hp) (C : Addr) (cl : List (Str × Addr)) (fp : List Addr), EW (X.blk s H scope (compEnvC scope cl C X.env) fp) elt ρ' M' Φ') ∧ tW X.K ρ' M' Φ' σ H Q) (own.map (·.2)) σ H Q := by
  obtain ⟨G, sa, k⟩ := hΦ
  refine ⟨G, sa, fun J G1 H1 ds M1 ⟨hlen, Iv, h0, step, done⟩ g1 sh1 jw => fun p hp => ?_⟩
  obtain ⟨shp, mp, gp⟩ := sh1.newM hp (RepL.nil (K := X.K) (G := G1))
  refine ⟨fun i mm H => mm = ds.length - i ∧ i ≤ ds.length ∧ ∃ G acc M, Same G1 G ∧ acc.length = i ∧ M p = none ∧ Iv i acc M ∧ SH X.K G H (M.set p (.lst acc)), ⟨ds.length, by simp, Nat.zero_le _, G1, [], M1, Same.refl _, rfl, mp, h0, shp⟩, ?_⟩
  rintro i mm H2 ⟨rfl, hi, G2, acc, M2, g2, hacc, hmp, iv, sh2⟩
  obtain ⟨j1, j2⟩ := jw i H2 (g2.trans sh2.le)
  by_cases hlt : i < ds.length
  · have hd : ds[i]? = some ds[i] := List.getElem?_eq_getElem hlt
    obtain ⟨go, yl⟩ := j1 _ hd
    refine .inr ⟨go, fun H3 => ∃ G acc M, Same G1 G ∧ acc.length = i + 1 ∧ M p = none ∧ Iv (i + 1) acc M ∧ SH X.K G H3 (M.set p (.lst acc)), fun H' p' => ⟨ds.length - (i + 1), by omega, rfl, hlt, p'⟩, fun x H' y => ?_⟩
    obtain ⟨G3, g3, sh3, rx⟩ := yl x H' y G2 _ g2 sh2
    have g2 := g2.trans g3
    obtain ⟨ρ3, tg3, ev⟩ := step i _ acc M2 hd hacc iv
    refine tg3 x σ G3 H' _ sh3.le (wipe_rep ((sa.sl.up g1).up g2) _) rx fun σ3 rs3 hw => ⟨hw, ?_⟩
    show ∃ ρ' M' Φ', _ ∧ tW X.K ρ' M' Φ' σ3 H' _
    refine ⟨ρ3, _, _, ev p hmp, G3, ⟨sh3, rs3⟩, fun v G4 H4 d4 M4 ⟨M5, e5, n5, iv5⟩ g4 sh4 r4 => ?_⟩
    subst e5
    obtain ⟨_, vs, hv, rl⟩ := sh4.mem p _ Mem.set_same
    refine ⟨vs, hv, ?_, G4, acc ++ [d4], M5, g2.trans g4, by rw [List.length_append, hacc]; rfl, n5, iv5, ?_⟩
    · rw [rl.len, hacc]
      exact Nat.lt_of_lt_of_le hlt hlen
    · have q := sh4.put (ds := acc ++ [d4]) Mem.set_same (rl.append (.cons r4 .nil))
      rw [Mem.set_set] at q
      exact q
  · have e : i = ds.length := by omega
    subst e
    exact .inl ⟨j2 (Nat.le_refl _), k _ _ H2 _ _ (done acc M2 hacc iv p hmp) (g1.trans g2) sh2 (.val _)⟩
theorem ew_lcN {elt : Expr} {scope : Scope} {own : List (Str × Nat)} (hc : X.calm = true) (hN : X.N.Nodup) (ok : BlkOk X.N X.env.scope scope own)
    (hg : ∀ (s : Shared) (H : Hp) (C : Addr) (cl : List (Str × Addr)) (fp : List Addr), PG (X.blk s H scope (compEnvC scope cl C X.env) fp) tg g) (hi : IW X tg iter ρ M (LcN X g own scope elt ρ Φ))
    (hs : ∀ x, foldedSetIterable iter X.env x = pure x := by intro _; rfl) : EW X (.ListComp elt [⟨tg, iter, [], 0⟩] scope pos) ρ M Φ :=
  (pe_lc hc hN hi ok hg (fun _ _ _ _ _ => pts_nil) (fun s H C cl fp => ⟨fun pins s' σ H' Q I ⟨ρ', M', Φ', hb, q⟩ => (hb s H C cl fp).run pins s' σ H' Q I q⟩) hs).mono fun σ H Q h => lcw_readN σ H Q h
end
section
variable {X : Cx} {ρ : Sl} {M M1 M2 : Mem} {a b e : Expr} {d : D} {ds es : List D} {pos : Pos} {Φ : D → Mem → Prop} {Ψ : Out → Prop}
/-- xs + ys, both new lists -/
theorem ew_catL (h : EW X a ρ M (fun d1 M1 => ∃ p ds, d1 = dP p ∧ M1 p = some (.lst ds) ∧ EW X b ρ M1 (fun d2 M2 => ∃ q es, d2 = dP q ∧ M2 p = some (.lst ds) ∧ M2 q = some (.lst es) ∧ ds.length + es.length ≤ sizeLine ∧ Φ (.lst (ds ++ es)) M2))) : EW X (.BinOp a .Add b pos) ρ M Φ :=
  (pe_op op_cat h pk_e).mono fun σ H Q ⟨G, sa, k⟩ => ⟨G, sa, fun v1 G1 H1 d1 M1 ⟨p, ds, e1, m1, h2⟩ g1 sh1 r1 => ⟨M1, _, h2, G1, ⟨sh1, sa.sl.up g1⟩, fun v2 G2 H2 d2 M2 ⟨q, es, e2, m1', m2, hl, hp⟩ g2 sh2 r2 => by
    subst e1 e2
    obtain ⟨_, vs, hv, r⟩ := sh2.mem p _ m1'
    obtain ⟨_, ws, hw, s⟩ := sh2.mem q _ m2
    refine ⟨p, q, vs, ws, r1.of_val, r2.of_val, hv, hw, by rw [r.len, s.len]; exact hl, fun l hl => ?_⟩
    obtain ⟨sh3, g3⟩ := sh2.new (o := .lst (vs ++ ws)) hl
    exact k _ _ _ _ _ hp ((g1.trans g2).trans g3) sh3 (.lst (.inl (.inl upd_same)) ((r.append s).up g3))⟩⟩
end
end Vt
namespace Vt
open PySem PySem.Spec PyProof.Rows L2
/-! ### lists that are going to be changed; min, in, dict -/
section
variable {X : Cx} {ρ : Sl} {M M1 M2 : Mem} {a b e : Expr} {d : D} {ds es : List D} {pos : Pos} {Φ : D → Mem → Prop} {Ψ : Out → Prop}
theorem ew_listN {p : Pos} (hm : X.mg "list" = none) (h : EW X e ρ M (fun d M1 => ∃ q ds, d = sq q ds ∧ ∀ l, M1 l = none → Φ (dP l) (M1.set l (.lst ds)))) (hg : Gl X "list" := by rfl) (hst : starEach [e] X.env = [(false, eval e X.env)] := by rfl) : EW X (.Call (.Name "list" p) [e] [] pos) ρ M Φ :=
  (pe_callTy call_list_of hg hm boot_list (aw_one (ΦA := fun ds M1 => ∃ q es, ds = [sq q es] ∧ ∀ l, M1 l = none → Φ (dP l) (M1.set l (.lst es))) (ew_to h fun d M1 ⟨i, es, e, q⟩ => ⟨i, es, by rw [e], q⟩) hst) (he := hst)).mono fun σ H Q ⟨G, sa, k⟩ => ⟨G, sa, fun vs' G1 H1 ds M1 ⟨b, es, e, p⟩ g1 sh1 r1 => by
    subst e
    cases r1 with
    | cons h t =>
      cases t
      cases b with
      | true =>
        cases (show Rep X.K G1 _ (.lst es) from h) with
        | lst q r =>
          refine ⟨_, _, rfl, .inl (sqlUp sh1.le q), fun l hl => ?_⟩
          obtain ⟨sh2, m2, _⟩ := sh1.newM hl r
          exact k _ _ _ _ _ (p l m2) g1 sh2 (.val _)
      | false =>
        cases (show Rep X.K G1 _ (.tup es) from h) with
        | tup q r =>
          refine ⟨_, _, rfl, .inr (sqtUp sh1.le q), fun l hl => ?_⟩
          obtain ⟨sh2, m2, _⟩ := sh1.newM hl r
          exact k _ _ _ _ _ (p l m2) g1 sh2 (.val _)⟩
/-- xs[i] = e, i drawn behind e -/
theorem sw_setItemW {tp : Pos} (he : EW X e ρ M (fun d M1 => ∃ p, EV X a ρ M1 (dP p) M1 ∧ EW X b ρ M1 (fun d2 M2 => ∃ i ds j, d2 = dI i ∧ M2 p = some (.lst ds) ∧ ixN ds.length i = some j ∧ Ψ (.nx ρ (M2.set p (.lst (ds.set j d)))))))
    (ha : ∀ v, assign (.Subscript a b tp) X.env v = (do
      let ov ← holding [v] (eval a X.env)
      let iv ← holding [v, ov] (eval b X.env)
      standAt tp
      holding [v, ov, iv] (setItem ov iv v)
      release [v, ov, iv] []) := by intro _; rfl)
    (hs : swapsWithSole [.Subscript a b tp] e pos.line X.env = pure false := by rfl) (hw : swappedStores [.Subscript a b tp] e X.env = pure none := by rfl)
    (h1 : (assignEach [.Subscript a b tp] X.env).map (·.2) = [assign (.Subscript a b tp) X.env] := by rfl) : SV X (.Assign [.Subscript a b tp] e pos) ρ M Ψ :=
  (ps_asg he (pg_sub (pk_e (ρ := ρ)) (pk_e (ρ := ρ)) set_list ha) hs hw h1).mono fun E σ H ⟨G, sa, k⟩ => ⟨G, sa, fun v G1 H1 d M1 ⟨p, ho, hi⟩ g1 sh1 r1 =>
    ⟨M1, fun d' M' => d' = dP p ∧ M' = M1, ew_ev ho ⟨rfl, rfl⟩, G1, ⟨sh1, sa.sl.up g1⟩, fun v2 G2 H2 d2 M2 ⟨e2, e2'⟩ g2 sh2 r2 => ⟨M1, _, hi, G2, ⟨by rw [e2'] at sh2; exact sh2, (sa.sl.up g1).up g2⟩, fun v3 G3 H3 d3 M3 ⟨i, ds, j, e3, hm, hj, hΨ⟩ g3 sh3 r3 => by
      subst e2 e3
      obtain ⟨_, vs, hv, rl⟩ := sh3.mem p _ hm
      exact ⟨p, vs, i, j, r2.of_val, r3.of_val, hv, by rw [rl.len]; exact hj, k _ hΨ σ G3 _ ((g1.trans g2).trans g3) ⟨sh3.put hm (rl.set ((r1.up g2).up g3) j), ((sa.sl.up g1).up g2).up g3⟩⟩⟩⟩⟩
/-- x in xs, xs a list of ints of the memory -/
theorem any_eqI (x : Int) : ∀ xs : List Int, inV (.int x) (xs.map V.int) = decide (x ∈ xs)
  | [] => rfl
  | y :: ys => by
    have ih := any_eqI x ys
    show (eqV (.int y) (.int x) || inV (.int x) (ys.map V.int)) = _
    rw [ih]
    have e : eqV (.int y) (.int x) = decide (y = x) := rfl
    rw [e]
    by_cases h : y = x
    · subst h
      simp
    · have h2 : ¬ x = y := fun q => h q.symm
      simp [h, h2]
theorem flat_ints (xs : List Int) : (xs.map V.int).all flatV = true := by
  induction xs with
  | nil => rfl
  | cons x xs ih => rw [List.map_cons, List.all_cons, ih]; rfl
theorem tv_inM {x : Int} {xs : List Int} {p : Addr} (ha : EV X a ρ M (dI x) M1) (hb : EV X b ρ M1 (dP p) M2) (hm2 : M2 p = some (.lst (xs.map dI))) (hm : behindInMarks .In b = false) : TV X (.Compare a [.In] [b] pos) ρ M (decide (x ∈ xs)) M2 :=
  (pt_cmpR op_in_seq ha hb hm).mono fun σ H Q ⟨G, sa, k⟩ => ⟨G, sa, fun v1 G1 H1 g1 sh1 r1 => ⟨G1, ⟨sh1, sa.sl.up g1⟩, fun v2 G2 H2 g2 sh2 r2 => by
    obtain ⟨_, vs, hv, r⟩ := sh2.mem p _ hm2
    have ev : vs = xs.map V.int := RepL.of_vals (xs := xs.map V.int) (by rw [List.map_map]; exact r)
    subst ev
    refine ⟨p, xs.map V.int, r2.of_val, .inl (.inl (.inl hv)), by rw [r1.of_val]; rfl, flat_ints xs, ?_⟩
    rw [r1.of_val]
    exact ⟨_, congrArg V.bl (any_eqI x xs), k G2 H2 (g1.trans g2) sh2⟩⟩⟩
/-- min(xs), xs a list of ints of the memory -/
theorem ev_minM {xs : List Int} {m : Int} {p : Addr} {np : Pos} (hc : X.calm = true) (hm : X.mg "min" = none) (ha : EV X e ρ M (dP p) M1) (hm2 : M1 p = some (.lst (xs.map dI))) (h0 : m ∈ xs) (h1 : ∀ y ∈ xs, m ≤ y) (hg : Gl X "min" := by rfl) (hst : starEach [e] X.env = [(false, eval e X.env)] := by rfl) : EV X (.Call (.Name "min" np) [e] [] pos) ρ M (dI m) M1 :=
  (pe_callB (cr_min hc) hg hm boot_min (av_cons ha av_nil hst) (he := hst)).mono fun σ H Q ⟨G, sa, k⟩ => ⟨G, sa, fun vs' G1 H1 g1 sh1 r1 => by
    obtain ⟨_, vs, hv, r⟩ := sh1.mem p _ hm2
    have ev : vs = xs.map V.int := RepL.of_vals (xs := xs.map V.int) (by rw [List.map_map]; exact r)
    subst ev
    refine ⟨p, xs, RepL.of_vals (xs := [.ref p]) r1, .inl (.inl hv), List.length_pos_of_mem h0, fun m' i1 i2 => ?_⟩
    have := h1 m' i1
    have := i2 m h0
    obtain rfl : m' = m := by omega
    exact k _ G1 H1 g1 sh1 (.val _)⟩
/-- dict(pairs) -/
theorem pairs_rep {K : PySem.W.Frag} {G H : Hp} (le : Same G H) : ∀ {vs : List V} {kds : List (Int × D)}, RepL K G vs (kds.map fun p => .tup [dI p.1, p.2]) → ∃ (ps : List Addr) (kvs : List (Key × V)), vs = ps.map V.ref ∧ Paired (fun p kv => SqT K H p [kV kv.1, kv.2]) ps kvs
  | [], [], _ => ⟨[], [], rfl, .nil⟩
  | [], _ :: _, r => by cases r
  | _ :: _, [], r => by cases r
  | v :: vs, (k, d) :: kds, r => by
    cases r with
    | cons r t =>
      obtain ⟨ps, kvs, rfl, h⟩ := pairs_rep le (vs := vs) (kds := kds) t
      cases r with
      | tup q r =>
        cases r with
        | cons r1 r2 =>
          cases r2 with
          | cons r2 r3 =>
            cases r3
            rw [r1.of_val] at q
            exact ⟨_ :: ps, (.inl k, _) :: kvs, rfl, .cons (sqtUp le q) h⟩
theorem ew_dict {p : Pos} (hc : X.calm = true) (hm : X.mg "dict" = none) (h : EW X e ρ M (fun d M1 => ∃ kds : List (Int × D), d = .lst (kds.map fun p => .tup [dI p.1, p.2]) ∧ Φ .dic M1)) (hg : Gl X "dict" := by rfl) (hst : starEach [e] X.env = [(false, eval e X.env)] := by rfl) : EW X (.Call (.Name "dict" p) [e] [] pos) ρ M Φ :=
  (pe_callTy (call_dictP hc) hg hm PyProof.Rows.boot_dict (aw_one (ΦA := fun ds M1 => ∃ kds : List (Int × D), ds = [.lst (kds.map fun p => .tup [dI p.1, p.2])] ∧ Φ .dic M1) (ew_to h fun d M1 ⟨kds, e, q⟩ => ⟨kds, by rw [e], q⟩) hst) (he := hst)).mono fun σ H Q ⟨G, sa, k⟩ => ⟨G, sa, fun vs' G1 H1 ds M1 ⟨kds, e, p⟩ g1 sh1 r1 => by
    subst e
    cases r1 with
    | cons h t =>
      cases t
      cases h with
      | lst q r =>
        obtain ⟨ps, kvs, rfl, pr⟩ := pairs_rep sh1.le r
        refine ⟨_, ps, kvs, rfl, sqlUp sh1.le q, pr, fun l hl => ?_⟩
        obtain ⟨sh2, g2⟩ := sh1.new (o := .dK (mergeK [] kvs)) hl
        exact k _ _ _ _ _ p (g1.trans g2) sh2 (.dic upd_same)⟩
end
end Vt
namespace Vt
open PySem PySem.Spec PyProof.Rows L2
section
variable {X : Cx} {ρ : Sl} {M M1 : Mem} {e : Expr} {ds : List D} {pos : Pos}
/-- tuple(xs), xs a list of the memory -/
theorem ev_tupM {q : Addr} {p : Pos} (hm : X.mg "tuple" = none) (ha : EV X e ρ M (dP q) M1) (hq : M1 q = some (.lst ds)) (hg : Gl X "tuple" := by rfl) (hst : starEach [e] X.env = [(false, eval e X.env)] := by rfl) : EV X (.Call (.Name "tuple" p) [e] [] pos) ρ M (.tup ds) M1 :=
  (pe_callTy call_tuple_of hg hm boot_tuple (av_cons ha av_nil hst) (he := hst)).mono fun σ H Q ⟨G, sa, k⟩ => ⟨G, sa, fun vs' G1 H1 g1 sh1 r1 => by
    obtain ⟨_, vs, hv, r⟩ := sh1.mem q _ hq
    have e1 := RepL.of_vals (xs := [.ref q]) r1
    exact ⟨q, vs, e1, .inl ⟨.inl (.inl hv), fun l hl => by
      obtain ⟨sh2, g2⟩ := sh1.new (o := .tup vs) hl
      exact k _ _ _ (g1.trans g2) sh2 (.tup (.inl (.inl upd_same)) (r.up g2))⟩⟩⟩
end
section
variable {X : Cx} {ρ : Sl} {M M1 M2 : Mem} {a b e : Expr} {d : D} {ds es : List D} {pos : Pos} {Φ : D → Mem → Prop} {Ψ : Out → Prop}
theorem tv_ninM {x : Int} {xs : List Int} {p : Addr} (ha : EV X a ρ M (dI x) M1) (hb : EV X b ρ M1 (dP p) M2) (hm2 : M2 p = some (.lst (xs.map dI))) (hm : behindInMarks .NotIn b = false) : TV X (.Compare a [.NotIn] [b] pos) ρ M (!decide (x ∈ xs)) M2 :=
  (pt_cmpR op_notIn_seq ha hb hm).mono fun σ H Q ⟨G, sa, k⟩ => ⟨G, sa, fun v1 G1 H1 g1 sh1 r1 => ⟨G1, ⟨sh1, sa.sl.up g1⟩, fun v2 G2 H2 g2 sh2 r2 => by
    obtain ⟨_, vs, hv, r⟩ := sh2.mem p _ hm2
    have ev : vs = xs.map V.int := RepL.of_vals (xs := xs.map V.int) (by rw [List.map_map]; exact r)
    subst ev
    refine ⟨p, xs.map V.int, r2.of_val, .inl (.inl (.inl hv)), by rw [r1.of_val]; rfl, flat_ints xs, ?_⟩
    rw [r1.of_val]
    exact ⟨_, congrArg V.bl (congrArg (!·) (any_eqI x xs)), k G2 H2 (g1.trans g2) sh2⟩⟩⟩
end
end Vt
namespace Vt
open PySem PySem.Spec PyProof.Rows L2
/-! ### dicts of the module, zip, comprehensions with if, int of a bool, lists times a number, in -/
section
variable {X : Cx} {K : PySem.W.Frag} {ρ ρ' : Sl} {M M1 M2 M3 : Mem} {a b c e : Expr} {es : List Expr} {d d1 d2 : D} {ds : List D} {pos : Pos} {Ψ : Out → Prop} {Φ : D → Mem → Prop} {ΦI : List D → Mem → Prop}
/-- a written dict of the module with texts as keys, read -/
theorem ev_ixK {p : Addr} {z : Str} {v : V} (ha : EV X a ρ M (dP p) M1) (hb : EV X b ρ M1 (dS z) M2) (hk : KDct X.K X.w p z v) (hr : ∀ G, Rep X.K G v d) (hs : NoSl b) : EV X (.Subscript a b pos) ρ M d M2 :=
  (pe_ix ix_kdict ha hb hs).mono fun σ H Q ⟨G, sa, k⟩ => ⟨G, sa, fun v1 G1 H1 g1 sh1 r1 => ⟨G1, ⟨sh1, sa.sl.up g1⟩, fun v2 G2 H2 g2 sh2 r2 =>
    ⟨p, z, v, r1.of_val, r2.of_val, hk, k _ G2 H2 (g1.trans g2) sh2 (hr G2)⟩⟩⟩
theorem KDict.ct {w : World} {a : Addr} {z : Str} {u : Value} {v : V} {es : Array DictEntry} {n : Nat} (D : KDict K w a es n) (e : PySem.W.nsIn K a z = some (some u)) (r : L2.RelV v u) : KDct K w a z v := ⟨es, n, u, D.at_, D.lit, e, r⟩
/-- a written tuple of texts -/
theorem rep_kS {G : Hp} {a : Addr} {o : Obj} {its : Array Value} {n : Nat} {zs : List Str} (hk : K.lookup a = some o) (hc : o.cls = .type "tuple") (hd : o.data = .seq its n) (hz : its.size ≤ sizeLine) (hv : Vals (zs.map V.str) its.toList) : Rep K G (.ref a) (.tup (zs.map dS)) := by
  refine .tup (.inr ⟨o, its, n, hk, hc, hd, hz, hv⟩) ?_
  have e := RepL.vals (K := K) (G := G) (zs.map V.str)
  rw [List.map_map] at e
  exact e
/-- zip of two tuples -/
def zipD : List D → List D → List D
  | d :: ds, e :: es => .tup [d, e] :: zipD ds es
  | _, _ => []
theorem zipD_get : ∀ {ds es : List D} {i : Nat} {d : D}, (zipD ds es)[i]? = some d → ∃ x y, ds[i]? = some x ∧ es[i]? = some y ∧ d = .tup [x, y]
  | [], _, _, _, h => by simp [zipD] at h
  | _ :: _, [], _, _, h => by simp [zipD] at h
  | x :: ds, y :: es, 0, d, h => ⟨x, y, rfl, rfl, by simpa [zipD] using h.symm⟩
  | x :: ds, y :: es, i + 1, d, h => by
    obtain ⟨x', y', h1, h2, h3⟩ := zipD_get (ds := ds) (es := es) (i := i) (by simpa [zipD] using h)
    exact ⟨x', y', by simpa using h1, by simpa using h2, h3⟩
theorem zipD_len : ∀ (ds es : List D), (zipD ds es).length = min ds.length es.length
  | [], _ => by simp [zipD]
  | _ :: _, [] => by simp [zipD]
  | _ :: ds, _ :: es => by
    have := zipD_len ds es
    simp only [zipD, List.length_cons, this]
    omega
theorem pairDT {G : Hp} {H : Hp} {M : Mem} {T : Addr} {x y : V} {d e : D} (sh : SH K G H M) (hT : H T = none) (r : Rep K G x d) (r2 : Rep K G y e) : ∃ G3, Same G G3 ∧ SH K G3 (upd H T (.tup [x, y])) M ∧ Rep K G3 (.ref T) (.tup [d, e]) := by
  obtain ⟨sh2, g2⟩ := sh.new (o := .tup [x, y]) hT
  exact ⟨_, g2, sh2, .tup (.inl (.inl upd_same)) (.cons (r.up g2) (.cons (r2.up g2) .nil))⟩
theorem JW2.zipT {p q : Addr} {vs us : List V} {es : List D} {G : Hp} (hp : SqT K G p vs) (hq : SqT K G q us) (r : RepL K G vs ds) (r2 : RepL K G us es) : JW2 K (RZ.ItzT K p q) G (zipD ds es) := fun i H g => ⟨fun d h => by
    obtain ⟨x, y, h1, h2, rfl⟩ := zipD_get h
    obtain ⟨v, hv, rv⟩ := r.get h1
    obtain ⟨u, hu, ru⟩ := r2.get h2
    refine ⟨⟨vs, us, v, u, sqtUp g hp, sqtUp g hq, hv, hu⟩, ?_⟩
    rintro x H' ⟨T, x1, y1, rfl, hT, rfl, e1, e2⟩ G2 M g2 sh
    have f1 := e1 vs (sqtUp g hp)
    have f2 := e2 us (sqtUp g hq)
    rw [hv] at f1
    rw [hu] at f2
    cases f1
    cases f2
    exact pairDT sh hT (rv.up g2) (ru.up g2), fun h => ⟨vs, us, sqtUp g hp, sqtUp g hq, by rw [r.len, r2.len]; rw [zipD_len] at h; omega⟩⟩
theorem iw_zipT {elts : List Expr} {kk : Nat} {tpos p : Pos} {es' : List D} (hm : X.mg "zip" = none) (h : AV X [a, b] ρ M [.tup ds, .tup es'] M1) (q : ΦI (zipD ds es') M1) (hg : Gl X "zip" := by rfl) (hst : starEach [a, b] X.env = (false, eval a X.env) :: starEach [b] X.env := by rfl)
    (hpl : (backTo pos (starEach [b] X.env)).any (·.1) = false := by rfl) : IW X (.Tuple elts kk tpos) (.Call (.Name "zip" p) [a, b] [] pos) ρ M ΦI :=
  (RZ.pi_zipA hg hm h hst hpl).mono fun σ H R ⟨G, sa, k⟩ => ⟨G, sa, fun vs G1 H1 g1 sh1 r1 => by
    cases r1 with
    | cons r t =>
      cases t with
      | cons r2 t =>
        cases t
        cases r with
        | tup q1 r =>
          cases r2 with
          | tup q2 r2 => exact ⟨_, _, _, _, rfl, .inr ⟨sqtUp sh1.le q1, sqtUp sh1.le q2, k _ G1 H1 _ M1 q g1 sh1 (JW2.zipT q1 q2 r r2)⟩⟩⟩
/-- int of a bool -/
theorem ev_intB {z : Bool} {p : Pos} (hm : X.mg "int" = none) (ha : EV X e ρ M (dB z) M1) (hg : Gl X "int" := by rfl) (hst : starEach [e] X.env = [(false, eval e X.env)] := by rfl) : EV X (.Call (.Name "int" p) [e] [] pos) ρ M (dI (if z then 1 else 0)) M1 :=
  (pe_callTy call_int1 hg hm (by decide +kernel) (av_cons ha av_nil hst) (he := hst)).mono fun σ H Q ⟨G, sa, k⟩ => ⟨G, sa, fun vs' G1 H1 g1 sh1 r1 => by
    rw [RepL.of_vals (xs := [.bl z]) r1]
    exact .inr ⟨z, rfl, k _ G1 H1 g1 sh1 (.val _)⟩⟩
/-- a new list times a number -/
theorem ew_mulN (h : EW X a ρ M (fun d1 M1 => ∃ p ds, d1 = dP p ∧ M1 p = some (.lst ds) ∧ EW X b ρ M1 (fun d2 M2 => ∃ k : Int, d2 = dI k ∧ M2 p = some (.lst ds) ∧ -(2 ^ 63) ≤ k ∧ k < 2 ^ 63 ∧ ds.length * k.toNat ≤ sizeLine ∧
    ∀ l, M2 l = none → Φ (dP l) (M2.set l (.lst (List.replicate k.toNat ds).flatten))))) : EW X (.BinOp a .Mult b pos) ρ M Φ :=
  (pe_op op_rep h pk_e).mono fun σ H Q ⟨G, sa, kk⟩ => ⟨G, sa, fun v1 G1 H1 d1 M1 ⟨p, ds, e1, m1, h2⟩ g1 sh1 r1 => ⟨M1, _, h2, G1, ⟨sh1, sa.sl.up g1⟩, fun v2 G2 H2 d2 M2 ⟨k, e2, m1', hk1, hk2, hl, hp⟩ g2 sh2 r2 => by
    subst e1 e2
    obtain ⟨_, vs, hv, r⟩ := sh2.mem p _ m1'
    refine ⟨p, k, vs, r1.of_val, r2.of_val, hv, hk1, hk2, by rw [r.len]; exact hl, fun l hl => ?_⟩
    obtain ⟨sh3, m3, _⟩ := sh2.newM hl (rep_flat r k.toNat)
    exact kk _ _ _ _ _ (hp l m3) (g1.trans g2) sh3 (.val _)⟩⟩
/-- max, min of two -/
theorem ev_max2 {i j : Int} {p : Pos} (hc : X.calm = true) (hm : X.mg "max" = none) (ha : AV X [a, b] ρ M [dI i, dI j] M1) (hg : Gl X "max" := by rfl) (hst : starEach [a, b] X.env = (false, eval a X.env) :: starEach [b] X.env := by rfl) (hpl : (backTo pos (starEach [b] X.env)).any (·.1) = false := by rfl) : EV X (.Call (.Name "max" p) [a, b] [] pos) ρ M (dI (if j > i then j else i)) M1 :=
  (pe_callB (call_max2 hc) hg hm boot_max ha (he := hst) (hpl := hpl)).mono fun σ H Q ⟨G, sa, k⟩ => ⟨G, sa, fun vs' G1 H1 g1 sh1 r1 => by
    rw [RepL.of_vals (xs := [.int i, .int j]) r1]
    exact ⟨i, j, rfl, k _ G1 H1 g1 sh1 (.val _)⟩⟩
theorem ev_min2 {i j : Int} {p : Pos} (hc : X.calm = true) (hm : X.mg "min" = none) (ha : AV X [a, b] ρ M [dI i, dI j] M1) (hg : Gl X "min" := by rfl) (hst : starEach [a, b] X.env = (false, eval a X.env) :: starEach [b] X.env := by rfl) (hpl : (backTo pos (starEach [b] X.env)).any (·.1) = false := by rfl) : EV X (.Call (.Name "min" p) [a, b] [] pos) ρ M (dI (if j < i then j else i)) M1 :=
  (pe_callB (call_min2 hc) hg hm boot_min ha (he := hst) (hpl := hpl)).mono fun σ H Q ⟨G, sa, k⟩ => ⟨G, sa, fun vs' G1 H1 g1 sh1 r1 => by
    rw [RepL.of_vals (xs := [.int i, .int j]) r1]
    exact ⟨i, j, rfl, k _ G1 H1 g1 sh1 (.val _)⟩⟩
theorem ew_min2 {p : Pos} (hc : X.calm = true) (hm : X.mg "min" = none) (h : AW X [a, b] ρ M (fun ds M1 => ∃ i j : Int, ds = [dI i, dI j] ∧ Φ (dI (if j < i then j else i)) M1)) (hg : Gl X "min" := by rfl) (hst : starEach [a, b] X.env = (false, eval a X.env) :: starEach [b] X.env := by rfl) (hpl : (backTo pos (starEach [b] X.env)).any (·.1) = false := by rfl) : EW X (.Call (.Name "min" p) [a, b] [] pos) ρ M Φ :=
  (pe_callB (call_min2 hc) hg hm boot_min h (he := hst) (hpl := hpl)).mono fun σ H Q ⟨G, sa, k⟩ => ⟨G, sa, fun vs' G1 H1 ds M1 ⟨i, j, e, q⟩ g1 sh1 r1 => by
    subst e
    rw [RepL.of_vals (xs := [.int i, .int j]) r1]
    exact ⟨i, j, rfl, k _ G1 H1 _ M1 q g1 sh1 (.val _)⟩⟩
theorem ew_max2 {p : Pos} (hc : X.calm = true) (hm : X.mg "max" = none) (h : AW X [a, b] ρ M (fun ds M1 => ∃ i j : Int, ds = [dI i, dI j] ∧ Φ (dI (if j > i then j else i)) M1)) (hg : Gl X "max" := by rfl) (hst : starEach [a, b] X.env = (false, eval a X.env) :: starEach [b] X.env := by rfl) (hpl : (backTo pos (starEach [b] X.env)).any (·.1) = false := by rfl) : EW X (.Call (.Name "max" p) [a, b] [] pos) ρ M Φ :=
  (pe_callB (call_max2 hc) hg hm boot_max h (he := hst) (hpl := hpl)).mono fun σ H Q ⟨G, sa, k⟩ => ⟨G, sa, fun vs' G1 H1 ds M1 ⟨i, j, e, q⟩ g1 sh1 r1 => by
    subst e
    rw [RepL.of_vals (xs := [.int i, .int j]) r1]
    exact ⟨i, j, rfl, k _ G1 H1 _ M1 q g1 sh1 (.val _)⟩⟩
/-- x in a tree of plain things -/
theorem op_inT {X : Cx} (hu : X.A.units + 65 < cLine) : OpR X (compareOp .In) (fun x y H Q => ∃ d ds, Dp X.K H x d ∧ Dp X.K H y (.tuple ds) ∧ SeqAt.shaped d = true ∧ SeqAt.shaped (.tuple ds) = true ∧ Q (.bl (ds.any fun z => PyData.eqv z d)) H) := fun pins s σ H x y v u Q I rx ry ⟨d, ds, hd, he, sd, se, q⟩ => by
  obtain ⟨as, r1⟩ := Dp.reads I d x v hd rx
  obtain ⟨bs, r2⟩ := Dp.reads I (.tuple ds) y u he ry
  exact SeqAt.in_tuple_reads r2 r1 (SeqAt.canLay_of_shaped se) (SeqAt.canLay_of_shaped sd) (room_in_shaped sd hu) ⟨.bl _, H, I, rfl, q⟩
theorem ev_inD {d : D} (hu : X.A.units + 65 < cLine) (ha : EV X a ρ M d M1) (hb : EV X b ρ M1 (.tup ds) M2) (pd : d.plain = true) (pds : D.plainL ds = true) (s1 : SeqAt.shaped d.py = true) (s2 : SeqAt.shaped (.tuple (D.pyL ds)) = true) (hm : behindInMarks .In b = false) :
    EV X (.Compare a [.In] [b] pos) ρ M (dB ((D.pyL ds).any fun z => PyData.eqv z d.py)) M2 :=
  (pe_cmpR (op_inT hu) ha hb hm).mono fun σ H Q ⟨G, sa, k⟩ => ⟨G, sa, fun v1 G1 H1 g1 sh1 r1 => ⟨G1, ⟨sh1, sa.sl.up g1⟩, fun v2 G2 H2 g2 sh2 r2 =>
    ⟨_, _, dp_of sh2.le _ _ pd (r1.up g2), dp_of sh2.le _ (.tup ds) pds r2, s1, s2, k _ G2 H2 (g1.trans g2) sh2 (.val _)⟩⟩⟩
end
section
variable {X : Cx} {ρ : Sl} {M M1 : Mem} {d : D} {ds : List D} {pos : Pos} {Ψ : Out → Prop} {Φ : D → Mem → Prop} {tg iter : Expr} {g : TG}
/-- [e for x in .. if c], the list is going to be changed -/
def LcF (X : Cx) (g : TG) (own : List (Str × Nat)) (scope : Scope) (elt cnd : Expr) (ρ : Sl) (Φ : D → Mem → Prop) (ds : List D) (M1 : Mem) : Prop :=
  ds.length ≤ sizeLine ∧ ∃ Iv : Nat → List D → Mem → Prop, Iv 0 [] M1 ∧
    (∀ i d acc M, ds[i]? = some d → acc.length ≤ i → Iv i acc M → ∃ ρ', TGb X.K g (own.map (·.2)) (wipeD ρ (own.map (·.2))) d ρ' ∧ ∀ (p : Addr), M p = none → ∀ (s : Shared) (H : Hp) (C : Addr) (cl : List (Str × Addr)) (fp : List Addr),
      TW (X.blk s H scope (compEnvC scope cl C X.env) fp) cnd ρ' (M.set p (.lst acc)) (fun b M' => ∃ M2, M' = M2.set p (.lst acc) ∧ M2 p = none ∧ (b = false → Iv (i + 1) acc M2) ∧ (b = true → ∀ (s : Shared) (H : Hp) (C : Addr) (cl : List (Str × Addr)) (fp : List Addr),
        EW (X.blk s H scope (compEnvC scope cl C X.env) fp) elt ρ' (M2.set p (.lst acc)) (fun d' M' => ∃ M3, M' = M3.set p (.lst acc) ∧ M3 p = none ∧ Iv (i + 1) (acc ++ [d']) M3)))) ∧
    ∀ acc M, acc.length ≤ ds.length → Iv ds.length acc M → ∀ p, M p = none → Φ (dP p) (M.set p (.lst acc))
theorem lcf_read {elt cnd : Expr} {scope : Scope} {own : List (Str × Nat)} (σ : L2.St) (H : Hp) (Q : VK) (hΦ : ∃ G, SA X.K G H σ ρ M ∧ ∀ v G' H' d M', Φ d M' → Same G G' → SH X.K G' H' M' → Rep X.K G' v d → Q v H') :
    tLc (tIW X.K ρ M (LcF X g own scope elt cnd ρ Φ)) g (fun σ H Q => ∃ ρ' M' Φ', (∀ (s : Shared) (H : Hp) (C : Addr) (cl : List (Str × Addr)) (fp : List Addr), TW (X.blk s H scope (compEnvC scope cl C X.env) fp) cnd ρ' M' Φ') ∧ tTW X.K ρ' M' Φ' σ H Q)
      (fun σ H Q => ∃ ρ' M' Φ', (∀ (s : Shared) (H : Hp) (C : Addr) (cl : List (Str × Addr)) (fp : List Addr), EW (X.blk s H scope (compEnvC scope cl C X.env) fp) elt ρ' M' Φ') ∧ tW X.K ρ' M' Φ' σ H Q) (own.map (·.2)) σ H Q := by
  obtain ⟨G, sa, k⟩ := hΦ
  refine ⟨G, sa, fun J G1 H1 ds M1 ⟨hlen, Iv, h0, step, done⟩ g1 sh1 jw => fun p hp => ?_⟩
  obtain ⟨shp, mp, gp⟩ := sh1.newM hp (RepL.nil (K := X.K) (G := G1))
  refine ⟨fun i mm H => mm = ds.length - i ∧ i ≤ ds.length ∧ ∃ G acc M, Same G1 G ∧ acc.length ≤ i ∧ M p = none ∧ Iv i acc M ∧ SH X.K G H (M.set p (.lst acc)), ⟨ds.length, by simp, Nat.zero_le _, G1, [], M1, Same.refl _, Nat.zero_le _, mp, h0, shp⟩, ?_⟩
  rintro i mm H2 ⟨rfl, hi, G2, acc, M2, g2, hacc, hmp, iv, sh2⟩
  obtain ⟨j1, j2⟩ := jw i H2 (g2.trans sh2.le)
  by_cases hlt : i < ds.length
  · have hd : ds[i]? = some ds[i] := List.getElem?_eq_getElem hlt
    obtain ⟨go, yl⟩ := j1 _ hd
    refine .inr ⟨go, fun H3 => ∃ G acc M, Same G1 G ∧ acc.length ≤ i + 1 ∧ M p = none ∧ Iv (i + 1) acc M ∧ SH X.K G H3 (M.set p (.lst acc)), fun H' p' => ⟨ds.length - (i + 1), by omega, rfl, hlt, p'⟩, fun x H' y => ?_⟩
    obtain ⟨G3, g3, sh3, rx⟩ := yl x H' y G2 _ g2 sh2
    have g2 := g2.trans g3
    obtain ⟨ρ3, tg3, ev⟩ := step i _ acc M2 hd hacc iv
    refine tg3 x σ G3 H' _ sh3.le (wipe_rep ((sa.sl.up g1).up g2) _) rx fun σ3 rs3 hw => ⟨hw, ?_⟩
    show ∃ ρ' M' Φ', _ ∧ tTW X.K ρ' M' Φ' σ3 H' _
    refine ⟨ρ3, _, _, ev p hmp, G3, ⟨sh3, rs3⟩, fun bb G4 H4 M4 ⟨M5, e5, n5, hf, ht⟩ g4 sh4 => ?_⟩
    subst e5
    cases bb with
    | false => exact ⟨G4, acc, M5, g2.trans g4, Nat.le_succ_of_le hacc, n5, hf rfl, sh4⟩
    | true =>
      show ∃ ρ' M' Φ', _ ∧ tW X.K ρ' M' Φ' σ3 H4 _
      refine ⟨ρ3, _, _, ht rfl, G4, ⟨sh4, rs3.up g4⟩, fun v G5 H5 d5 M6 ⟨M7, e7, n7, iv7⟩ g5 sh5 r5 => ?_⟩
      subst e7
      obtain ⟨_, vs, hv, rl⟩ := sh5.mem p _ Mem.set_same
      refine ⟨vs, hv, ?_, G5, acc ++ [d5], M7, (g2.trans g4).trans g5, by rw [List.length_append]; exact Nat.succ_le_succ hacc, n7, iv7, ?_⟩
      · rw [rl.len]
        exact Nat.lt_of_le_of_lt hacc (Nat.lt_of_lt_of_le hlt hlen)
      · have q := sh5.put (ds := acc ++ [d5]) Mem.set_same (rl.append (.cons r5 .nil))
        rw [Mem.set_set] at q
        exact q
  · have e : i = ds.length := by omega
    subst e
    exact .inl ⟨j2 (Nat.le_refl _), k _ _ H2 _ _ (done acc M2 hacc iv p hmp) (g1.trans g2) sh2 (.val _)⟩
theorem ew_lcF {elt cnd : Expr} {scope : Scope} {own : List (Str × Nat)} (hc : X.calm = true) (hN : X.N.Nodup) (ok : BlkOk X.N X.env.scope scope own)
    (hg : ∀ (s : Shared) (H : Hp) (C : Addr) (cl : List (Str × Addr)) (fp : List Addr), PG (X.blk s H scope (compEnvC scope cl C X.env) fp) tg g) (hi : IW X tg iter ρ M (LcF X g own scope elt cnd ρ Φ))
    (hs : ∀ x, foldedSetIterable iter X.env x = pure x := by intro _; rfl) : EW X (.ListComp elt [⟨tg, iter, [cnd], 0⟩] scope pos) ρ M Φ :=
  (pe_lc hc hN hi ok hg (fun s H C cl fp => pts_one ⟨fun pins s' σ H' Q I ⟨ρ', M', Φ', hb, q⟩ => (hb s H C cl fp).run pins s' σ H' Q I q⟩) (fun s H C cl fp => ⟨fun pins s' σ H' Q I ⟨ρ', M', Φ', hb, q⟩ => (hb s H C cl fp).run pins s' σ H' Q I q⟩) hs).mono fun σ H Q h => lcf_read σ H Q h
/-- a new list is changed no more -/
theorem ew_frz {e : Expr} (h : EW X e ρ M (fun d M1 => ∃ p ds M2, d = dP p ∧ M1 = M2.set p (.lst ds) ∧ M2 p = none ∧ Φ (.lst ds) M2)) : EW X e ρ M Φ := h.mono fun σ H Q ⟨G, sa, k⟩ => ⟨G, sa, fun v G1 H1 d M1 ⟨p, ds, M2, e1, e2, hm, q⟩ g1 sh1 r1 => by
  subst e1 e2
  obtain ⟨vs, sh3, g3, rl⟩ := sh1.freeze hm
  rw [r1.of_val]
  exact k _ _ _ _ _ q (g1.trans g3) sh3 (.lst (.inl (.inl upd_same)) (rl.up g3))⟩
end
end Vt
namespace Vt
open PySem PySem.Spec PyProof.Rows L2
/-! ### instances of the program's classes -/
def putD (f : Str) (d : D) : List (Str × D) → List (Str × D)
  | [] => [(f, d)]
  | (g, x) :: r => if g = f then (g, d) :: r else (g, x) :: putD f d r
theorem RepF.put {K : PySem.W.Frag} {G : Hp} {f : Str} {v : V} {d : D} (r : Rep K G v d) : ∀ {fv : List (Str × V)} {fs : List (Str × D)}, RepF K G fv fs → RepF K G (putF f v fv) (putD f d fs)
  | [], [], _ => RepF.cons r RepF.nil
  | [], _ :: _, h => by have := h.ks; cases this
  | _ :: _, [], h => by have := h.ks; cases this
  | (k1, v1) :: fv, (k2, d2) :: fs, ⟨ks, vs⟩ => by
    rw [List.map_cons, List.map_cons] at ks vs
    obtain ⟨e1, e2⟩ := List.cons.inj ks
    obtain rfl : k1 = k2 := e1
    cases vs with
    | cons r1 t =>
      unfold putF putD
      split
      · exact RepF.cons r ⟨e2, t⟩
      · exact RepF.cons r1 (RepF.put r ⟨e2, t⟩)
theorem RepF.len {κ : Type} {K : PySem.W.Frag} {G : Hp} {fv : List (κ × V)} {fs : List (κ × D)} (h : RepF K G fv fs) : fv.length = fs.length := by
  have := congrArg List.length h.ks
  rw [List.length_map, List.length_map] at this
  exact this
theorem SH.putI {K : PySem.W.Frag} {G H : Hp} {M : Mem} {p C dx : Addr} {mo : MO} {fv : List (Str × V)} {fs : List (Str × D)} (s : SH K G H M) (hm : M p = some mo) (r : RepF K G fv fs) : SH K G (upd H p (.ins C dx fv)) (M.set p (.ins C fs)) := by
  obtain ⟨gp, _⟩ := s.mem p mo hm
  refine ⟨fun b u e => ?_, fun b mo e => ?_⟩
  · rw [upd_ne (ne_of_none e gp)]; exact s.le b u e
  · by_cases hb : b = p
    · subst hb
      rw [Mem.set_same] at e
      cases e
      exact ⟨gp, dx, fv, upd_same, r⟩
    · rw [Mem.set_ne hb] at e
      obtain ⟨g0, at0⟩ := s.mem b mo e
      exact ⟨g0, at0.up (Same.refl G) (upd_ne hb)⟩
theorem SH.newI {K : PySem.W.Frag} {G H : Hp} {M : Mem} {x dx C : Addr} (s : SH K G H M) (hx : H x = none) (hd : H dx = none) (_ne : dx ≠ x) : SH K G (upd (upd H dx (.own x)) x (.ins C dx [])) (M.set x (.ins C [])) ∧ M x = none := by
  have gn : ∀ {b}, H b = none → G b = none := fun {b} h => by
    cases e : G b with
    | none => rfl
    | some u => rw [s.le b u e] at h; cases h
  refine ⟨⟨fun b u e => ?_, fun b mo e => ?_⟩, ?_⟩
  · rw [upd_ne (ne_of_none e (gn hx)), upd_ne (ne_of_none e (gn hd))]; exact s.le b u e
  · by_cases hb : b = x
    · subst hb
      rw [Mem.set_same] at e
      cases e
      exact ⟨gn hx, dx, [], upd_same, RepF.nil⟩
    · rw [Mem.set_ne hb] at e
      obtain ⟨g0, at0⟩ := s.mem b mo e
      obtain ⟨u, hu⟩ := at0.some
      exact ⟨g0, at0.up (Same.refl G) (by rw [upd_ne hb, upd_ne (ne_of_none hu hd)])⟩
  · cases e : M x with
    | none => rfl
    | some mo =>
      obtain ⟨_, at0⟩ := s.mem x mo e
      obtain ⟨u, hu⟩ := at0.some
      rw [hx] at hu; cases hu
section
variable {X : Cx} {W : WX} {ρ : Sl} {M M1 M2 : Mem} {a b e o value : Expr} {es : List Expr} {d : D} {ds : List D} {pos pos' : Pos} {Ψ : Out → Prop} {Φ : D → Mem → Prop} {f : Str} {C p : Addr} {fs : List (Str × D)}
/-- o.f -/
theorem ev_fld (ha : EV X e ρ M (dP p) M1) (hm : M1 p = some (.ins C fs)) (c : Cls X.K C) (n : NoAttr X.K C f) (hl : fs.lookup f = some d) (hb : attributeBase e f X.env (eval e X.env) = eval e X.env := by rfl) : EV X (.Attribute e f pos) ρ M d M1 :=
  (pe_fld ha hb).mono fun σ H Q ⟨G, sa, k⟩ => ⟨G, sa, fun v1 G1 H1 g1 sh1 r1 => by
    obtain ⟨_, dx, fv, hv, rf⟩ := sh1.mem p _ hm
    obtain ⟨v, hl2, rv⟩ := rf.get hl
    exact ⟨p, C, dx, fv, v, r1.of_val, hv, c, n, hl2, k v G1 H1 g1 sh1 rv⟩⟩
theorem ew_fld (ha : EW X e ρ M (fun d1 M1 => ∃ p fs d, d1 = dP p ∧ M1 p = some (.ins C fs) ∧ fs.lookup f = some d ∧ Φ d M1)) (c : Cls X.K C) (n : NoAttr X.K C f) (hb : attributeBase e f X.env (eval e X.env) = eval e X.env := by rfl) : EW X (.Attribute e f pos) ρ M Φ :=
  (pe_fld ha hb).mono fun σ H Q ⟨G, sa, k⟩ => ⟨G, sa, fun v1 G1 H1 d1 M1 ⟨p, fs, d, e1, hm, hl, q⟩ g1 sh1 r1 => by
    subst e1
    obtain ⟨_, dx, fv, hv, rf⟩ := sh1.mem p _ hm
    obtain ⟨v, hl2, rv⟩ := rf.get hl
    exact ⟨p, C, dx, fv, v, r1.of_val, hv, c, n, hl2, k v G1 H1 d M1 q g1 sh1 rv⟩⟩
/-- o.f = value -/
theorem sw_fld (hv : EW X value ρ M (fun d M1 => EV X o ρ M1 (dP p) M1 ∧ ∃ fs, M1 p = some (.ins C fs) ∧ fs.length < 1000 ∧ Ψ (.nx ρ (M1.set p (.ins C (putD f d fs)))))) (c : Cls X.K C) (n : NoAttr X.K C f)
    (hs : swapsWith value (some (.Attribute o f pos')) pos.line X.env = pure false := by rfl) : SV X (.Assign [.Attribute o f pos'] value pos) ρ M Ψ :=
  (ps_fld (ta := fun σ H Q => ∃ M1, EV X o ρ M1 (dP p) M1 ∧ tE X.K ρ M1 (dP p) M1 σ H Q) ⟨fun pins s σ H Q I ⟨M1, h, q⟩ => h.run pins s σ H Q I q⟩ hv hs).mono fun E σ H ⟨G, sa, k⟩ => ⟨G, sa, fun v1 G1 H1 d M1 ⟨ho, fs, hm, hl, q⟩ g1 sh1 r1 => ⟨M1, ho, G1, ⟨sh1, sa.sl.up g1⟩, fun v2 G2 H2 g2 sh2 r2 => by
    obtain ⟨_, dx, fv, hv, rf⟩ := sh2.mem p _ hm
    refine ⟨p, C, dx, fv, r2.of_val, hv, c, n, by rw [rf.len]; exact hl, ?_⟩
    exact k _ q σ G2 _ (g1.trans g2) ⟨sh2.putI hm (rf.put (r1.up g2)), (sa.sl.up g1).up g2⟩⟩⟩
end
/-! making one -/
structure MkC (P : Program) (w : World) (K : PySem.W.Frag) (mg : Str → Option Value) (base : Heap) (k : Nat) (x : Str) (C : Addr) (sp : Sp) : Prop where
  ex : ∃ f fd ps, mg x = some (.ref C) ∧ Mk K C f ∧ Binds K fd ps [] ∧ FnOk P w K mg base (L2.CX P w) k f fd ps sp
section
variable {X : Cx} {W : WX} {ρ : Sl} {M : Mem} {e : Expr} {es : List Expr} {pos p1 : Pos} {Φ : Res → Mem → Prop} {x : Str} {C : Addr} {k : Nat}
theorem run_makeW {CX : CXT} {pins : List (Addr × Obj)} {σ : L2.St} {H : Hp} {s : Shared} {Q : VK} {us : List Value} {vs : List V} {E : XK} {f : Addr} {fd : FuncData} {ps : List Str} {sp : Sp} (mk : Mk X.K C f) (Fi : FnOk X.prog X.w X.K X.mg X.base CX k f fd ps sp) (rm : Room (k + 1) X.A) (bi : Binds X.K fd ps [])
    (pa : PassesAt CX X σ E) (J : Inv X pins σ H s) (rv : Vals vs us) (hs : ∀ y dy, H y = none → H dy = none → dy ≠ y → sp (.ref y :: vs) (upd (upd H dy (.own y)) y (.ins C dy [])) (fun v H2 => v = .non ∧ Q (.ref y) H2) E) :
    wpAny (model X.prog X.w) X.A (call (.ref C) us) (EP X pins σ Q) X.xe s := by
  have want := hs (s.heap.objs.size + 1) s.heap.objs.size (J.hok.fresh (Nat.le_succ _)) (J.hok.fresh (Nat.le_refl _)) (Nat.ne_of_lt (Nat.lt_succ_self _))
  have J2 := Inv.made (C := C) J
  have vals : Vals (V.ref (s.heap.objs.size + 1) :: vs) (Value.ref (s.heap.objs.size + 1) :: us) := .cons rfl rv
  have many : (Value.ref (s.heap.objs.size + 1) :: us ++ []).length = ps.length := by
    rw [List.append_nil, ← vals.length]
    exact Fi.len _ _ _ _ want
  have bnd := bi _ (Value.ref (s.heap.objs.size + 1) :: us) J2.kIn many
  rw [List.append_nil] at bnd
  have go := Fi.run _ X.stack _ _ ⟨Value.ref (s.heap.objs.size + 1) :: us, []⟩ (Value.ref (s.heap.objs.size + 1) :: us) _ _ E (rm.make C us []) (J2.env0.make C us []) bnd vals want
  refine wpAny_call (make_map (f := f) J.kIn mk.makes mk.init (beq_iff_eq.mp mk.fn) (codeAny_mono go fun out t ht => ?_))
  match out, ht with
  | .error z, ht => exact pa pins _ _ z t J2 ht
  | .ok (.ret z), ht =>
    obtain ⟨v, H', J3, r3, ev, q3⟩ := J2.after ht
    subst ev
    exact ⟨r3, ⟨V.ref (s.heap.objs.size + 1), H', J3, rfl, q3⟩⟩
  | .ok .next, ht => exact False.elim ht
  | .ok .brk, ht => exact False.elim ht
  | .ok .cont, ht => exact False.elim ht
/-- C(..): its __init__ may raise -/
theorem eu_make {R : List D → Mem → (Res → Mem → Prop) → Prop} (B : MkC X.prog X.w X.K X.mg X.base k x C (spU X.K R)) (tk : Takes X W) (hr : Room (k + 1) X.A)
    (h : AW X (e :: es) ρ M (fun ds M1 => ∀ y, M1 y = none → R (dP y :: ds) (M1.set y (.ins C [])) (fun r M2 => match r with | .ok d => d = dN ∧ Φ (.ok (dP y)) M2 | .ex c dd => Φ (.ex c dd) M2)))
    (hg : Gl X x := by rfl) (hdb : (x == ("__debug__" : Str)) = false := by decide) (he : starEach (e :: es) X.env = (false, eval e X.env) :: starEach es X.env := by rfl) (hpl : (backTo pos (starEach es X.env)).any (·.1) = false := by rfl) : EU X W (.Call (.Name x p1) (e :: es) [] pos) ρ M Φ := by
  obtain ⟨f, fd, ps, hm, mk, bi, Fi⟩ := B.ex
  refine ⟨fun pins s σ H Q I ⟨G, sa, k1, k2⟩ => ?_⟩
  refine wpAny_Call_Name_kw (ld_glob I hg hm ?_ hdb)
  refine PySem.W.callWith_K (h₀ := X.base) I.ok.mod.kin mk.kp (thn (h.run pos pins s σ H (fun vs H1 => ∀ y dy, H1 y = none → H1 dy = none → dy ≠ y → spU X.K R (.ref y :: vs) (upd (upd H1 dy (.own y)) y (.ins C dy [])) (fun v H2 => v = .non ∧ Q (.ref y) H2) (WE W σ)) I ⟨G, sa, fun vs G1 H1 ds M1 hR g1 sh1 r1 y dy hy hdy ne => ?_⟩) fun us s1 ⟨vs, H1, I1, r, q⟩ => ⟨I1.kIn, run_makeW mk Fi hr bi (passAt tk σ) I1 r q⟩) he hpl
  obtain ⟨shn, my⟩ := sh1.newI (C := C) hy hdy ne
  exact ⟨G1, dP y :: ds, _, _, shn, .cons (.val _) r1, hR y my, fun v G' H' d M' hq g sh rr => by
      obtain ⟨rfl, hq⟩ := hq
      exact ⟨rr.of_val, k1 _ G' H' _ M' hq (g1.trans g) sh (.val _)⟩, fun cls dd G' H' M' hq g sh => k2 cls dd G' H' M' hq (g1.trans g) sh⟩
/-- a promise of a def that may raise, from its body, wherever its name stands -/
theorem fnU_of {P : Program} {w : World} {K : PySem.W.Frag} {mg : Str → Option Value} {base : Heap} {x qual : Str} {sd : Stmt} {f : Addr} {fd : FuncData} {N ps : List Str} {k : Nat} {R : List D → Mem → (Res → Mem → Prop) → Prop} (F : Fun K x qual sd f fd) (S : FnScope N ps (defScope sd)) (len : ∀ ds M Φ, R ds M Φ → ds.length = ps.length)
    (hb : ∀ (cdv : Value) (A : Around) (outer : List Env) (s : Shared) (H : Hp) (E : XK) (ds : List D) (M : Mem) (Φ : Res → Mem → Prop), Room k (A.deeper (envOfC qual (defScope sd) s.heap.objs.size f cdv)) → R ds M Φ →
      ∀ W, Takes (cxOf (L2.CX P w) P w K mg base N qual (defScope sd) f cdv A outer s H E) W → PassesOwn (model P w) (cxOf (L2.CX P w) P w K mg base N qual (defScope sd) f cdv A outer s H E).A (cxOf (L2.CX P w) P w K mg base N qual (defScope sd) f cdv A outer s H E).env (cxOf (L2.CX P w) P w K mg base N qual (defScope sd) f cdv A outer s H E).xe →
      BU (cxOf (L2.CX P w) P w K mg base N qual (defScope sd) f cdv A outer s H E) W (defBody sd) (startD N ds) M (FinU Φ)) : FnOk P w K mg base (L2.CX P w) (k + 1) f fd ps (spU K R) :=
  F.okX S (fun vs H Q E ⟨G, ds, M, Φ, sh, r, p, q⟩ => by rw [r.len]; exact len _ _ _ p) fun cdv A outer s H vs Q E hr ⟨G, ds, M, Φ, sh, r, p, q1, q2⟩ => by
    refine ⟨_, hb cdv A outer s H E ds M Φ hr p (fun cls d _ H' => E cls d H') (takes_of (E := E) rfl rfl rfl rfl) (passes_of rfl), G, ⟨sh, start_rep r⟩, fun o ho => ?_⟩
    cases o with
    | ex cls dd ρ' M'' =>
      obtain ⟨M', hp, hm⟩ := ho
      exact fun σ' G' H' g sa' => q2 cls dd G' H' M' hp g (sa'.sh.weak hm)
    | o o =>
      cases o with
      | ret d' M'' =>
        obtain ⟨M', hp, hm⟩ := ho
        exact fun v G' H' g sh' r' => q1 v G' H' d' M' hp g (sh'.weak hm) r'
      | nx ρ' M'' =>
        obtain ⟨M', hp, hm⟩ := ho
        exact fun σ' G' H' g sa' => q1 _ G' H' dN M' hp g (sa'.sh.weak hm) (.val _)
      | bk ρ' M'' => exact ho.elim
      | ct ρ' M'' => exact ho.elim
end
end Vt
namespace Vt
open PySem PySem.Spec PyProof.Rows L2
/-! ### what may raise within larger things -/
section
variable {X : Cx} {W : WX} {ρ : Sl} {M M1 : Mem} {a b e o value : Expr} {d d1 : D} {pos pos' : Pos} {Ψ : OutX → Prop} {Φ : Res → Mem → Prop} {f : Str} {C p : Addr}
theorem ev_dict0 : EV X (.Dict [] [] pos) ρ M .dic M := pe_dnewK.mono fun σ H Q ⟨G, sa, k⟩ p hp => by
  obtain ⟨sh2, g2⟩ := sa.sh.new (o := .dK []) hp
  exact k _ _ _ g2 sh2 (.dic upd_same)
theorem eu_fld (ha : EU X W e ρ M (fun r M1 => match r with | .ok d1 => ∃ p fs d, d1 = dP p ∧ M1 p = some (.ins C fs) ∧ fs.lookup f = some d ∧ Φ (.ok d) M1 | .ex c dd => Φ (.ex c dd) M1)) (c : Cls X.K C) (n : NoAttr X.K C f) (hb : attributeBase e f X.env (eval e X.env) = eval e X.env := by rfl) : EU X W (.Attribute e f pos) ρ M Φ :=
  (pe_fld ha hb).mono fun σ H Q ⟨G, sa, k1, k2⟩ => ⟨G, sa, fun v1 G1 H1 d1 M1 ⟨p, fs, d, e1, hm, hl, q⟩ g1 sh1 r1 => by
    subst e1
    obtain ⟨_, dx, fv, hv, rf⟩ := sh1.mem p _ hm
    obtain ⟨v, hl2, rv⟩ := rf.get hl
    exact ⟨p, C, dx, fv, v, r1.of_val, hv, c, n, hl2, k1 v G1 H1 d M1 q g1 sh1 rv⟩, fun cls dd G1 H1 M1 q g1 sh1 => k2 cls dd G1 H1 M1 q g1 sh1⟩
theorem eu_lenT {np : Pos} (hm : X.mg "len" = none) (h : EU X W e ρ M (fun r M1 => match r with | .ok d => ∃ ds, d = .tup ds ∧ Φ (.ok (dI ds.length)) M1 | .ex c dd => Φ (.ex c dd) M1)) (hg : Gl X "len" := by rfl) (hst : starEach [e] X.env = [(false, eval e X.env)] := by rfl) : EU X W (.Call (.Name "len" np) [e] [] pos) ρ M Φ :=
  (pe_callB call_len_seq hg hm PySem.boot_len (pa_cons h pa_nil hst) (he := hst)).mono fun σ H Q ⟨G, sa, k1, k2⟩ => ⟨G, sa, fun v1 G1 H1 d M1 ⟨ds, e1, q⟩ g1 sh1 r1 => by
    subst e1
    cases r1 with
    | tup q1 r => exact ⟨_, _, rfl, .inr (sqtUp sh1.le q1), by rw [r.len]; exact k1 _ G1 H1 _ M1 q g1 sh1 (.val _)⟩, fun cls dd G1 H1 M1 q g1 sh1 => k2 cls dd G1 H1 M1 q g1 sh1⟩
theorem eu_tup2 {kk : Nat} (ha : EV X a ρ M d1 M1) (hb : EU X W b ρ M1 (fun r M2 => match r with | .ok d2 => Φ (.ok (.tup [d1, d2])) M2 | .ex c dd => Φ (.ex c dd) M2))
    (hs : starEach [a, b] X.env = (false, eval a X.env) :: starEach [b] X.env := by rfl) (hs2 : starEach [b] X.env = (false, eval b X.env) :: starEach [] X.env := by rfl) : EU X W (.Tuple [a, b] kk pos) ρ M Φ :=
  (pe_tup (pa_cons ha (pa_cons hb pa_nil hs2) hs)).mono fun σ H Q ⟨G, sa, k1, k2⟩ => ⟨G, sa, fun v1 G1 H1 g1 sh1 r1 => ⟨G1, ⟨sh1, sa.sl.up g1⟩, fun v2 G2 H2 d2 M2 q g2 sh2 r2 => ⟨by (simp only [List.length_cons, List.length_nil]; decide), fun p hp => by
    obtain ⟨sh3, g3⟩ := sh2.new (o := .tup [v1, v2]) hp
    exact k1 _ _ _ _ _ q ((g1.trans g2).trans g3) sh3 (.tup (.inl (.inl upd_same)) (.cons ((r1.up g2).up g3) (.cons (r2.up g3) .nil)))⟩, fun cls dd G2 H2 M2 q g2 sh2 => k2 cls dd G2 H2 M2 q (g1.trans g2) sh2⟩⟩
/-- o.f = value, the value may raise -/
theorem su_fld (hv : EU X W value ρ M (fun r M1 => match r with | .ok d => EV X o ρ M1 (dP p) M1 ∧ ∃ fs, M1 p = some (.ins C fs) ∧ fs.length < 1000 ∧ Ψ (.o (.nx ρ (M1.set p (.ins C (putD f d fs))))) | .ex c dd => Ψ (.ex c dd ρ M1))) (c : Cls X.K C) (n : NoAttr X.K C f)
    (hs : swapsWith value (some (.Attribute o f pos')) pos.line X.env = pure false := by rfl) : SU X W (.Assign [.Attribute o f pos'] value pos) ρ M Ψ :=
  (ps_fld (ta := fun σ H Q => ∃ M1, EV X o ρ M1 (dP p) M1 ∧ tE X.K ρ M1 (dP p) M1 σ H Q) ⟨fun pins s σ H Q I ⟨M1, h, q⟩ => h.run pins s σ H Q I q⟩ hv hs).mono fun E σ H ⟨G, sa, k⟩ => ⟨G, sa, fun v1 G1 H1 d M1 ⟨ho, fs, hm, hl, q⟩ g1 sh1 r1 => ⟨M1, ho, G1, ⟨sh1, sa.sl.up g1⟩, fun v2 G2 H2 g2 sh2 r2 => by
    obtain ⟨_, dx, fv, hv, rf⟩ := sh2.mem p _ hm
    refine ⟨p, C, dx, fv, r2.of_val, hv, c, n, by rw [rf.len]; exact hl, ?_⟩
    exact k _ q σ G2 _ (g1.trans g2) ⟨sh2.putI hm (rf.put (r1.up g2)), (sa.sl.up g1).up g2⟩⟩, fun cls dd G1 H1 M1 q g1 sh1 => k _ q σ G1 H1 g1 ⟨sh1, sa.sl.up g1⟩⟩
end
section
variable {X : Cx} {ρ : Sl} {M : Mem} {pos : Pos} {Ψ : Out → Prop}
def tryR1 (X : Cx) (C : Addr) (i : Nat) (suite : List Stmt) (Ψ : Out → Prop) : OutX → Prop
  | .o o => Ψ o
  | .ex cls dd ρ' M' => cls = .ref C ∧ ∀ (a : Addr) (oe : Obj) (pn : List (Addr × Obj)), Zc (.ref C) dd oe → (∃ vs, oe.data = .fields vs) → BV (X.suite a ((a, oe) :: pn)) suite (ρ'.set i (some (dP a))) M' (suiteR i Ψ)
/-- try: .. except C as e: .. -/
theorem sv_tryU1 {body suite : List Stmt} {b₀ : Stmt} {z n : Str} {p5 p6 : Pos} {i : Nat} {C : Addr} (hs : X.stack = X.env :: X.outer) (hf : X.env.frame = some X.env.locals) (tk : Takes X (fun _ _ _ _ => False))
    (h3 : Names X z (.ref C)) (hyes : PySem.W.exmOne X.K (.ref C) (.ref C) = some true) (hN : X.N.Nodup) (hi : X.N[i]? = some n) (hln : X.env.kindOf n = some .local)
    (hb : ∀ (W : WX) (pn : List (Addr × Obj)) (xe : Value → Shared → Prop), Takes (X.tr pn xe) W → PassesOwn (model X.prog X.w) X.A X.env xe → BU (X.tr pn xe) W body ρ M (tryR1 X C i (b₀ :: suite) Ψ)) :
    SV X (.Try body [.ExceptHandler (some (.Name z p5)) (some n) (b₀ :: suite) p6] [] [] pos) ρ M Ψ := by
  refine (ps_try_g (tb := fun W => tSU X.K W ρ M (tryR1 X C i (b₀ :: suite) Ψ)) (Wout := fun _ _ _ _ => False)
    (l := [.as (.ref C) i (fun a cls d D σ H => ∃ (ρ' : Sl) (M' : Mem), cls = .ref C ∧ (∀ (oe : Obj) (pn : List (Addr × Obj)), Zc (.ref C) d oe → (∃ vs, oe.data = .fields vs) → BV (X.suite a ((a, oe) :: pn)) (b₀ :: suite) (ρ'.set i (some (dP a))) M' (suiteR i Ψ)) ∧ tS X.K (ρ'.set i (some (dP a))) M' (suiteR i Ψ) D σ H)])
    hs hf tk (fun W pn xe tk' po => hb W pn xe tk' po) (.as h3 hN hi hln (fun a oe cls d pn hz hd => ⟨fun pins s σ H D I ⟨ρ', M', e1, run, q⟩ => ?_⟩) .nil)).mono fun E σ H ⟨G, sa, k⟩ => ⟨G, sa, fun o ho => ?_⟩
  · subst e1
    exact (run oe pn hz hd).run pins s σ H D I q
  · cases o with
    | o o => exact k o ho
    | ex cls dd ρ' M' =>
      obtain ⟨rfl, run⟩ := ho
      refine fun σ' G' H' g sa' => ⟨true, hyes, fun _ a na => ⟨ρ', M', rfl, run a, G', ⟨sa'.sh, sa'.sl.set i (.val _)⟩, fun o ho => ?_⟩, fun h => nomatch h⟩
      cases o with
      | ret d M2 => exact (k _ ho).up g
      | nx ρ2 M2 => exact fun σ2 G2 H2 g2 sa2 => (k _ ho).up g _ G2 H2 g2 ⟨sa2.sh, sa2.sl.none i⟩
      | bk ρ2 M2 => exact ho.elim
      | ct ρ2 M2 => exact ho.elim
end
end Vt
namespace Vt
open PySem PySem.Spec PyProof.Rows L2
/-! ### methods of the program's classes -/
structure MetC (P : Program) (w : World) (K : PySem.W.Frag) (mg : Str → Option Value) (base : Heap) (k : Nat) (C : Addr) (m : Str) (sp : Sp) : Prop where
  ex : ∃ f fd ps, Meth K C m f ∧ Binds K fd ps [] ∧ FnOk P w K mg base CX0 k f fd ps sp
structure MetX (P : Program) (w : World) (K : PySem.W.Frag) (mg : Str → Option Value) (base : Heap) (k : Nat) (C : Addr) (m : Str) (sp : Sp) : Prop where
  ex : ∃ f fd ps, Meth K C m f ∧ Binds K fd ps [] ∧ FnOk P w K mg base (L2.CX P w) k f fd ps sp
theorem RepF.no {K : PySem.W.Frag} {G : Hp} {k : Str} : ∀ {fv : List (Str × V)} {fs : List (Str × D)}, RepF K G fv fs → fs.lookup k = none → fv.lookup k = none
  | [], [], _, _ => rfl
  | [], _ :: _, h, _ => by have := h.ks; cases this
  | _ :: _, [], h, _ => by have := h.ks; cases this
  | (k1, v1) :: fv, (k2, d2) :: fs, ⟨ks, vs⟩, e => by
    rw [List.map_cons, List.map_cons] at ks vs
    obtain ⟨e1, e2⟩ := List.cons.inj ks
    obtain rfl : k1 = k2 := e1
    cases vs with
    | cons r1 t =>
      simp only [List.lookup] at e ⊢
      split at e
      · cases e
      · exact RepF.no ⟨e2, t⟩ e
/-- the promise of a method, from its body -/
theorem fnW_of {P : Program} {w : World} {K : PySem.W.Frag} {mg : Str → Option Value} {base : Heap} {x qual : Str} {sd : Stmt} {f : Addr} {fd : FuncData} {N ps : List Str} {k : Nat} {R : List D → Mem → (D → Mem → Prop) → Prop} (F : Fun K x qual sd f fd) (S : FnScope N ps (defScope sd)) (len : ∀ ds M Φ, R ds M Φ → ds.length = ps.length)
    (hb : ∀ (cdv : Value) (A : Around) (outer : List Env) (s : Shared) (H : Hp) (E : XK) (ds : List D) (M : Mem) (Φ : D → Mem → Prop), Room k (A.deeper (envOfC qual (defScope sd) s.heap.objs.size f cdv)) → R ds M Φ →
      BV (cxOf CX0 P w K mg base N qual (defScope sd) f cdv A outer s H E).nox (defBody sd) (startD N ds) M (FinW Φ)) : FnOk P w K mg base CX0 (k + 1) f fd ps (spW K R) := by
  refine F.ok S (fun vs H Q E ⟨G, ds, M, Φ, sh, r, p, q⟩ => by rw [r.len]; exact len _ _ _ p) fun cdv A outer s H vs Q E hr ⟨G, ds, M, Φ, sh, r, p, q⟩ => ?_
  refine ⟨_, hb cdv A outer s H E ds M Φ hr p, G, ⟨sh, start_rep r⟩, fun o ho => ?_⟩
  cases o with
  | ret d' M'' =>
    obtain ⟨M', hp, hm⟩ := ho
    exact fun v G' H' g sh' r' => q v G' H' d' M' hp g (sh'.weak hm) r'
  | nx ρ M'' =>
    obtain ⟨M', hp, hm⟩ := ho
    exact fun σ' G' H' g sa' => q .non G' H' dN M' hp g (sa'.sh.weak hm) (.val _)
  | bk _ _ => exact ho.elim
  | ct _ _ => exact ho.elim
section
variable {X : Cx} {W : WX} {ρ : Sl} {M M1 : Mem} {o e : Expr} {es : List Expr} {pos apos : Pos} {Φ : D → Mem → Prop} {ΦU : Res → Mem → Prop} {m : Str} {C p : Addr} {k : Nat} {fs : List (Str × D)} {pl : Sem Bool}
/-- o.m(e, ..) -/
theorem ew_meth {R : List D → Mem → (D → Mem → Prop) → Prop} (B : MetC X.prog X.w X.K X.mg X.base k C m (spW X.K R)) (c : Cls X.K C) (hr : Room k X.A) (ho : EV X o ρ M (dP p) M1) (hm : M1 p = some (.ins C fs)) (hl : fs.lookup m = none) (ha : AW X (e :: es) ρ M1 (fun ds M2 => R (dP p :: ds) M2 Φ))
    (hst : starEach (e :: es) X.env = (false, eval e X.env) :: starEach es X.env := by rfl) (hpl : (backTo pos (starEach es X.env)).any (·.1) = false := by rfl)
    (ht : eval (.Call (.Attribute o m apos) (e :: es) [] pos) X.env = (do
      let ov ← eval o X.env
      standAt apos.atName
      let (f, first) ← holding [ov] (getMethod ov m pl)
      callWith pos f first (backTo pos (starEach (e :: es) X.env)) (backToKw pos (keywordEach [] X.env))) := by rfl) :
    EW X (.Call (.Attribute o m apos) (e :: es) [] pos) ρ M Φ := by
  obtain ⟨f, fd, ps, mt, bi, F⟩ := B.ex
  refine (pe_meth ho c mt F hr bi .nil pass0 ha (hst := hst) (hpl := hpl) (ht := ht)).mono fun σ H Q ⟨G, sa, kk⟩ => ⟨G, sa, fun v1 G1 H1 g1 sh1 r1 => ?_⟩
  obtain ⟨_, dx, fv, hv, rf⟩ := sh1.mem p _ hm
  refine ⟨p, dx, fv, r1.of_val, hv, rf.no hl, G1, ⟨sh1, sa.sl.up g1⟩, fun vs G2 H2 ds M2 hR g2 sh2 r2 => ?_⟩
  show spW X.K R (v1 :: (vs ++ [])) H2 Q E0
  rw [List.append_nil]
  exact ⟨G2, dP p :: ds, M2, Φ, sh2, .cons (r1.up g2) r2, hR, fun v G' H' d M' q g sh r => kk v G' H' d M' q ((g1.trans g2).trans g) sh r⟩
/-- o.m() -/
theorem ew_meth0 {R : List D → Mem → (D → Mem → Prop) → Prop} (B : MetC X.prog X.w X.K X.mg X.base k C m (spW X.K R)) (c : Cls X.K C) (hr : Room k X.A) (ho : EV X o ρ M (dP p) M1) (hm : M1 p = some (.ins C fs)) (hl : fs.lookup m = none) (hR : R [dP p] M1 Φ)
    (ht : eval (.Call (.Attribute o m apos) [] [] pos) X.env = (do
      let ov ← eval o X.env
      standAt apos.atName
      let (f, first) ← holding [ov] (getMethod ov m pl)
      callWith pos f first (backTo pos (starEach [] X.env)) (backToKw pos (keywordEach [] X.env))) := by rfl) :
    EW X (.Call (.Attribute o m apos) [] [] pos) ρ M Φ := by
  obtain ⟨f, fd, ps, mt, bi, F⟩ := B.ex
  refine (pe_meth0 ho c mt F hr bi .nil pass0 (ht := ht)).mono fun σ H Q ⟨G, sa, kk⟩ => ⟨G, sa, fun v1 G1 H1 g1 sh1 r1 => ?_⟩
  obtain ⟨_, dx, fv, hv, rf⟩ := sh1.mem p _ hm
  refine ⟨p, dx, fv, r1.of_val, hv, rf.no hl, ?_⟩
  show spW X.K R (v1 :: ([] ++ [])) H1 Q E0
  exact ⟨G1, [dP p], M1, Φ, sh1, .cons r1 .nil, hR, fun v G' H' d M' q g sh r => kk v G' H' d M' q (g1.trans g) sh r⟩
end
def tMethS (C : Addr) (m : Str) (sp : Sp) (E : L2.St → XK) (ta : TE) (t : TA) : TE := fun σ H Q => ta σ H fun x H1 => ∃ a dx fs, x = .ref a ∧ H1 a = some (.ins C dx fs) ∧ fs.lookup m = none ∧ t σ H1 fun vs H2 => sp (x :: vs) H2 Q (E σ)
theorem pe_methSX {X : Cx} {CX : CXT} {k : Nat} {C f : Addr} {fd : FuncData} {ps : List Str} {m : Str} {sp : Sp} {E : L2.St → XK} {o e : Expr} {es : List Expr} {ta : TE} {t : TA} {apos pos : Pos} {pl : Sem Bool} (he : PE X o ta) (c : Cls X.K C) (hm : Meth X.K C m f) (F : FnOk X.prog X.w X.K X.mg X.base CX k f fd ps sp) (hr : Room k X.A) (hb : Binds X.K fd ps []) (hx : ∀ σ, PassesAt CX X σ (E σ)) (ha : PA X (e :: es) t)
    (hst : starEach (e :: es) X.env = (false, eval e X.env) :: starEach es X.env := by rfl) (hpl : (backTo pos (starEach es X.env)).any (·.1) = false := by rfl)
    (ht : eval (.Call (.Attribute o m apos) (e :: es) [] pos) X.env = (do
      let ov ← eval o X.env
      standAt apos.atName
      let (f, first) ← holding [ov] (getMethod ov m pl)
      callWith pos f first (backTo pos (starEach (e :: es) X.env)) (backToKw pos (keywordEach [] X.env))) := by rfl) :
    PE X (.Call (.Attribute o m apos) (e :: es) [] pos) (tMethS C m sp E ta t) := by
  refine ⟨fun pins s σ H Q I h => ?_⟩
  refine PySem.W.methodCall_KW (pl := pl) (thn (he.run pins s σ H _ I h) fun u s1 ⟨x, H1, I1, rx, a, dx, fs, ex, ea, l, q⟩ => ?_) ht
  subst ex
  obtain rfl : u = Value.ref a := rx
  refine getmeth_ok I1 ea c hm l ?_
  refine PySem.W.callWith_K (first := [.ref a]) (h₀ := X.base) I.ok.mod.kin hm.kp (thn (ha.run pos pins s1 σ H1 _ I1 q) fun us s2 ⟨vs, H2, I2, r, q2⟩ => ⟨I2.kIn, ?_⟩) hst hpl
  exact run_fnS (us := .ref a :: us) (vs := .ref a :: vs) F hr hb (hx σ) I2 (.cons rfl r) q2
section
variable {X : Cx} {W : WX} {ρ : Sl} {M M1 : Mem} {o e : Expr} {es : List Expr} {pos apos : Pos} {Φ : Res → Mem → Prop} {m : Str} {C p : Addr} {k : Nat} {fs : List (Str × D)} {pl : Sem Bool}
/-- o.m(e, ..) that may raise -/
theorem eu_meth {R : List D → Mem → (Res → Mem → Prop) → Prop} (B : MetX X.prog X.w X.K X.mg X.base k C m (spU X.K R)) (c : Cls X.K C) (tk : Takes X W) (hr : Room k X.A) (ho : EV X o ρ M (dP p) M1) (hm : M1 p = some (.ins C fs)) (hl : fs.lookup m = none) (ha : AW X (e :: es) ρ M1 (fun ds M2 => R (dP p :: ds) M2 Φ))
    (hst : starEach (e :: es) X.env = (false, eval e X.env) :: starEach es X.env := by rfl) (hpl : (backTo pos (starEach es X.env)).any (·.1) = false := by rfl)
    (ht : eval (.Call (.Attribute o m apos) (e :: es) [] pos) X.env = (do
      let ov ← eval o X.env
      standAt apos.atName
      let (f, first) ← holding [ov] (getMethod ov m pl)
      callWith pos f first (backTo pos (starEach (e :: es) X.env)) (backToKw pos (keywordEach [] X.env))) := by rfl) :
    EU X W (.Call (.Attribute o m apos) (e :: es) [] pos) ρ M Φ := by
  obtain ⟨f, fd, ps, mt, bi, F⟩ := B.ex
  refine (pe_methSX (E := WE W) ho c mt F hr bi (passAt tk) ha (hst := hst) (hpl := hpl) (ht := ht)).mono fun σ H Q ⟨G, sa, k1, k2⟩ => ⟨G, sa, fun v1 G1 H1 g1 sh1 r1 => ?_⟩
  obtain ⟨_, dx, fv, hv, rf⟩ := sh1.mem p _ hm
  refine ⟨p, dx, fv, r1.of_val, hv, rf.no hl, G1, ⟨sh1, sa.sl.up g1⟩, fun vs G2 H2 ds M2 hR g2 sh2 r2 => ?_⟩
  exact ⟨G2, dP p :: ds, M2, Φ, sh2, .cons (r1.up g2) r2, hR, fun v G' H' d M' q g sh r => k1 v G' H' d M' q ((g1.trans g2).trans g) sh r, fun cls dd G' H' M' q g sh => k2 cls dd G' H' M' q ((g1.trans g2).trans g) sh⟩
end
end Vt
namespace Vt
open PySem PySem.Spec PyProof.Rows L2
/-! ### while -/
section
variable {X : Cx} {ρ : Sl} {M : Mem} {c : Expr} {pos : Pos} {Ψ : Out → Prop}
/-- where a turn of a while leads -/
def whileR (J : Nat → Sl → Mem → Prop) (Ψ : Out → Prop) (m : Nat) : Out → Prop
  | .nx ρ M => ∃ k, k < m ∧ J k ρ M
  | .ct ρ M => ∃ k, k < m ∧ J k ρ M
  | .bk ρ M => Ψ (.nx ρ M)
  | .ret d M => Ψ (.ret d M)
/-- while c: J m is what holds ahead of a turn, m grows less -/
theorem sv_while {body : List Stmt} (J : Nat → Sl → Mem → Prop) (m0 : Nat) (h0 : J m0 ρ M) (turn : ∀ m ρ' M', J m ρ' M' → ∃ b, TV X c ρ' M' b M' ∧ (b = true → BV X body ρ' M' (whileR J Ψ m)) ∧ (b = false → Ψ (.nx ρ' M')))
    (hp : PassesOwn (model X.prog X.w) X.A X.env X.xe := by exact PassesOwn.never) : SV X (.While c body [] pos) ρ M Ψ := by
  refine (ps_while (tc := fun σ H Q => ∃ ρ M b, TV X c ρ M b M ∧ tT X.K ρ M b M σ H Q) (tb := fun E σ H => ∃ ρ M Ψ', BV X body ρ M Ψ' ∧ tS X.K ρ M Ψ' E σ H) hp ⟨fun pins s σ H Q I ⟨_, _, _, hb, q⟩ => hb.run pins s σ H Q I q⟩ ⟨fun pins s σ H E I ⟨_, _, _, hb, q⟩ => hb.run pins s σ H E I q⟩).mono fun E σ H ⟨G, sa, k⟩ => ?_
  refine ⟨fun m σ H => ∃ G1 ρ M, Same G G1 ∧ SA X.K G1 H σ ρ M ∧ J m ρ M, ⟨m0, G, ρ, M, Same.refl _, sa, h0⟩, ?_⟩
  rintro m σ1 H1 ⟨G1, ρ1, M1, g1, sa1, j⟩
  obtain ⟨b, tv, yes, no⟩ := turn m ρ1 M1 j
  refine ⟨ρ1, M1, b, tv, G1, sa1, fun G2 H2 g2 sh2 => ?_⟩
  cases b with
  | true =>
    rw [if_pos rfl]
    refine ⟨fun σ3 H3 => ∃ G3 ρ3 M3 k, Same G G3 ∧ SA X.K G3 H3 σ3 ρ3 M3 ∧ k < m ∧ J k ρ3 M3, fun σ' H' ⟨G3, ρ3, M3, k, g3, sa3, hk, jk⟩ => ⟨k, hk, G3, ρ3, M3, g3, sa3, jk⟩, ρ1, M1, _, yes rfl, G2, ⟨sh2, sa1.sl.up g2⟩, fun o ho => ?_⟩
    cases o with
    | nx ρ4 M4 => exact fun σ4 G4 H4 g4 sa4 => let ⟨k, hk, jk⟩ := ho; ⟨G4, ρ4, M4, k, (g1.trans g2).trans g4, sa4, hk, jk⟩
    | ct ρ4 M4 => exact fun σ4 G4 H4 g4 sa4 => let ⟨k, hk, jk⟩ := ho; ⟨G4, ρ4, M4, k, (g1.trans g2).trans g4, sa4, hk, jk⟩
    | bk ρ4 M4 => exact fun σ4 G4 H4 g4 sa4 => k _ ho σ4 G4 H4 ((g1.trans g2).trans g4) sa4
    | ret d4 M4 => exact fun v G4 H4 g4 sh4 r4 => k _ ho v G4 H4 ((g1.trans g2).trans g4) sh4 r4
  | false =>
    rw [if_neg (by decide)]
    exact k _ (no rfl) σ1 G2 H2 (g1.trans g2) ⟨sh2, sa1.sl.up g2⟩
end
/-! ### lcm of three ints -/
section
variable {X : Cx}
def rLcm3 : List V → Hp → VK → Prop := fun vs H Q => ∃ a b c : Int, vs = [.int a, .int b, .int c] ∧ (a.natAbs < 2 ^ 100 ∧ b.natAbs < 2 ^ 100 ∧ c.natAbs < 2 ^ 100) ∧ Q (.int ((Nat.lcm (Nat.lcm a.natAbs b.natAbs) c.natAbs : Nat) : Int)) H
theorem lcm3_run (a : Int) (t : Tok) (b : Int) (u : Tok) (c : Int) (v : Tok) (q1 : ¬(max 1 a.natAbs).log2 / 30 + 1 > 450) (q2 : ¬(max ((Nat.lcm 1 a.natAbs)) b.natAbs).log2 / 30 + 1 > 450) (q3 : ¬(max (((Nat.lcm 1 a.natAbs)).lcm b.natAbs) c.natAbs).log2 / 30 + 1 > 450)
    (hsz : (((((Nat.lcm 1 a.natAbs).lcm b.natAbs).lcm c.natAbs : Nat) : Int)).natAbs.log2 < bitsLine) :
    Gives (Builtin.«math.lcm» ⟨[.int a t, .int b u, .int c v], []⟩) (.int (((((Nat.lcm 1 a.natAbs).lcm b.natAbs).lcm c.natAbs : Nat) : Int))) :=
  .of_wp fun M A E s Q h => by
    obtain ⟨hp, g, d, tk, os⟩ := s
    wp_walk
    rw [if_neg q2]
    wp_walk
    rw [if_neg q3]
    wp_walk
    refine wpAny_ite_false (decide_eq_false (Nat.not_le.mpr hsz)) ?_
    wp_walk
    exact ⟨_, rfl, h⟩
theorem lcm3_args (a b c : Value) : argsOk "math.lcm" ⟨[a, b, c], []⟩ := by unfold argsOk; kernel_rfl
theorem cr_lcm3 : CallR X (.builtin "math.lcm") rLcm3 := by
  intro pins s σ H vs us Q I r h
  obtain ⟨a, b, c, rfl, ⟨ha, hb, hc⟩, q⟩ := h
  obtain ⟨t, u, v, rfl⟩ : ∃ t u v, us = [Value.int a t, Value.int b u, Value.int c v] := by
    cases r with
    | cons r1 t1 =>
      obtain ⟨t, u, rfl⟩ := Vals.int2 t1
      obtain ⟨w, rfl⟩ := r1
      exact ⟨w, t, u, rfl⟩
  have e : (Nat.lcm 1 a.natAbs) = a.natAbs := Nat.lcm_one_left _
  have lt : ∀ {n k : Nat}, n < 2 ^ k → 0 < k → n.log2 ≤ k := fun {n k} h hk => by
    by_cases z : n = 0
    · subst z
      rw [Nat.log2_zero]
      exact Nat.zero_le _
    · exact Nat.le_of_lt ((Nat.log2_lt z).mpr h)
  have h1 : Nat.lcm a.natAbs b.natAbs < 2 ^ 200 := Nat.lt_of_le_of_lt (show a.natAbs * b.natAbs / _ ≤ _ from Nat.div_le_self _ _) (Nat.lt_of_lt_of_eq (Nat.mul_lt_mul'' ha hb) (by decide))
  have h2 : Nat.lcm (Nat.lcm a.natAbs b.natAbs) c.natAbs < 2 ^ 300 := Nat.lt_of_le_of_lt (show Nat.lcm a.natAbs b.natAbs * c.natAbs / _ ≤ _ from Nat.div_le_self _ _) (Nat.lt_of_lt_of_eq (Nat.mul_lt_mul'' h1 hc) (by decide))
  have up : ∀ {n k : Nat}, k ≤ 300 → n < 2 ^ k → n < 2 ^ 300 := fun hk h => Nat.lt_of_lt_of_le h (Nat.pow_le_pow_right (by decide) hk)
  have big : ∀ {n : Nat}, n < 2 ^ 300 → ¬(n.log2 / 30 + 1 > 450) := fun {n} h => by
    have := lt h (by decide)
    omega
  have one : (1 : Nat) < 2 ^ 300 := Nat.one_lt_two_pow (by decide)
  have g := lcm3_run a t b u c v (big (Nat.max_lt.mpr ⟨one, up (by decide) ha⟩)) (by rw [e]; exact big (Nat.max_lt.mpr ⟨up (by decide) ha, up (by decide) hb⟩)) (by rw [e]; exact big (Nat.max_lt.mpr ⟨up (by decide) h1, up (by decide) hc⟩)) (by
    rw [e, Int.natAbs_natCast]
    have := lt h2 (by decide)
    exact Nat.lt_of_le_of_lt this (by decide))
  rw [e] at g
  exact call_function_meets PySem.W.MGF.kind_lcm PySem.W.MGF.plain_lcm PySem.W.MGF.entry_lcm (lcm3_args _ _ _) g.meets ⟨.int _, H, I.tok _, ⟨_, rfl⟩, q⟩
end
end Vt
namespace Vt
open PySem PySem.Spec PyProof.Rows L2
/-! ### the order of rows of ints -/
theorem lexLt_asym : ∀ {x y : List Int}, HT.lexLt x y = true → HT.lexLt y x = false
  | [], [], _ => rfl
  | [], _ :: _, _ => rfl
  | _ :: _, [], h => by cases h
  | a :: x, b :: y, h => by
    rw [HT.lexLt_cons] at h ⊢
    by_cases e : a = b
    · rw [if_pos e] at h
      rw [if_pos e.symm]
      exact lexLt_asym h
    · rw [if_neg e] at h
      rw [if_neg (Ne.symm e)]
      have := of_decide_eq_true h
      exact decide_eq_false (by omega)
theorem lexLt_tr : ∀ {x y z : List Int}, HT.lexLt y x = false → HT.lexLt z y = false → HT.lexLt z x = false
  | [], [], [], h, _ => h
  | [], [], _ :: _, _, _ => rfl
  | [], _ :: _, [], _, h => by cases h
  | [], _ :: _, _ :: _, _, _ => rfl
  | _ :: _, [], _, h, _ => by cases h
  | _ :: _, _ :: _, [], _, h => by cases h
  | a :: x, b :: y, c :: z, h, k => by
    rw [HT.lexLt_cons] at h k ⊢
    by_cases e1 : b = a
    · rw [if_pos e1] at h
      subst e1
      by_cases e2 : c = b
      · rw [if_pos e2] at k ⊢
        exact lexLt_tr h k
      · rw [if_neg e2] at k ⊢
        exact k
    · rw [if_neg e1] at h
      have q1 := of_decide_eq_false h
      by_cases e2 : c = b
      · subst e2
        rw [if_neg e1]
        exact h
      · rw [if_neg e2] at k
        have q2 := of_decide_eq_false k
        rw [if_neg (by omega)]
        exact decide_eq_false (by omega)
theorem lexLt_eq : ∀ {x y : List Int}, x.length = y.length → HT.lexLt x y = false → HT.lexLt y x = false → x = y
  | [], [], _, _, _ => rfl
  | [], _ :: _, h, _, _ => by cases h
  | _ :: _, [], h, _, _ => by cases h
  | a :: x, b :: y, hl, h, k => by
    rw [HT.lexLt_cons] at h k
    by_cases e : a = b
    · rw [if_pos e] at h
      rw [if_pos e.symm] at k
      subst e
      rw [lexLt_eq (by simpa using hl) h k]
    · rw [if_neg e] at h
      rw [if_neg (Ne.symm e)] at k
      have := of_decide_eq_false h
      have := of_decide_eq_false k
      omega
theorem lexLt_swo (k : Value → List Int) : SrtO.Swo (fun u v => HT.lexLt (k u) (k v)) := ⟨fun _ _ h => lexLt_asym h, fun _ _ _ h1 h2 => lexLt_tr h1 h2⟩
/-! ### sorted and min of rows of tuples of ints -/
def IsTs (K : PySem.W.Frag) (H : Hp) (x : V) (ns : List Int) : Prop := ∃ t, x = V.ref t ∧ SqT K H t (ns.map V.int)
section
variable {prog : Program} {w : World} {A : Around} {E : Value → Shared → Prop} {s : Shared}
theorem kat_ints {b : Bool} {Q : Bool → Shared → Prop} : ∀ {us vs : List Value} {ns ms : List Int} (i : Nat), IntsAre us ns → IntsAre vs ms → ns.length = ms.length → Q (HT.lexLt ns ms) s → PySem.W.KatLex prog w A b false Q (us.zip vs) i s
  | _, _, _, _, _, .nil, .nil, _, h => PySem.W.kat_nil h
  | _, _, _, _, _, .nil, .cons _ _ _, e, _ => by cases e
  | _, _, _, _, _, .cons _ _ _, .nil, e, _ => by cases e
  | _, _, _, _, i, .cons p t hx, .cons q u hy, e, h => by
    refine PySem.W.kat_cons (SeqAt.EqAt.int_int p t q u prog w _ _ ?_)
    rw [HT.lexLt_cons] at h
    refine PySem.W.kat_go (fun e1 => ?_) (fun e1 => ?_)
    · have pq : p = q := by simpa using e1
      rw [if_pos pq] at h
      exact PySem.W.kat_yes (kat_ints (i + 1) hx hy (by simpa using e) h)
    · have pq : ¬ p = q := by simpa using e1
      rw [if_neg pq] at h
      exact PySem.W.kat_no (TS.oneLt_ints _ h)
theorem fst_tups {h : Heap} : ∀ (vs : List Value), (∀ v ∈ vs, ∃ ns, TS.TupInts h v ns ∧ 0 < ns.length) → ∃ fs, PySem.W.KatTups h vs fs ∧ fs.length = vs.length ∧ ∀ f ∈ fs, ∃ n t, f = Value.int n t
  | [], _ => ⟨[], .nil, rfl, fun _ hf => absurd hf (by simp)⟩
  | v :: vs, x => by
    obtain ⟨fs, k, hl, hi⟩ := fst_tups vs fun u hu => x u (List.mem_cons_of_mem _ hu)
    obtain ⟨ns, ⟨a, us, rfl, ⟨o, ho, hc, n, hd⟩, it⟩, h0⟩ := x v List.mem_cons_self
    have l0 : 0 < us.toList.length := by rw [it.length]; exact h0
    have l1 : 0 < us.size := by simpa using l0
    obtain ⟨m, t, hy⟩ := it.all (us.toList[0]'l0) (List.getElem_mem l0)
    refine ⟨us.toList[0]'l0 :: fs, .cons ho hc hd ?_ k, by rw [List.length_cons, hl, List.length_cons], fun f hf => ?_⟩
    · rw [Array.getElem?_eq_getElem l1]
      simp
    · rcases List.mem_cons.mp hf with rfl | hf
      · exact ⟨m, t, hy⟩
      · exact hi f hf
theorem tups_sortable {a : Addr} {vs : List Value} {d : Nat} {k : Value → List Int} (h0 : 0 < vs.length) (hd : 0 < d) (hp : ∀ v ∈ vs, TS.TupInts s.heap v (k v) ∧ (k v).length = d) (ha : ∀ o, s.heap.get? a = some o → o.cls ≠ .type "tuple") :
    SrtO.SortableO prog w A s a vs (fun u v => HT.lexLt (k u) (k v)) := by
  intro h' keep
  have hp2 : ∀ v ∈ vs, TS.TupInts h' v (k v) := fun v hv => (hp v hv).1.keeps fun b o e c => keep b o (fun z => by subst z; exact ha o e c) e
  obtain ⟨fs, g1, g2, g3⟩ := fst_tups vs fun v hv => ⟨_, hp2 v hv, by rw [(hp v hv).2]; exact hd⟩
  refine ⟨tuples' true, fun Q E q => ?_, fun x y hx hy => ?_⟩
  · refine PySem.W.kat_kind (T := .type "int") g1 (by omega) (fun f hf => ?_) (by rfl) ?_
    · obtain ⟨n, t, rfl⟩ := g3 f hf
      exact PySem.W.Looks.now
    · have e : (Value.type "int" != Value.type "tuple") = true := by first | decide +kernel | rfl | decide
      rw [e]
      exact q
  · obtain ⟨a1, us1, e1, ⟨o1, ho1, hc1, n1, hd1⟩, i1⟩ := hp2 _ hx
    obtain ⟨a2, us2, e2, ⟨o2, ho2, hc2, n2, hd2⟩, i2⟩ := hp2 _ hy
    show wpAny (model prog w) A (keyLt' (tuples' true) x.1 y.1) (fun r s' => s' = _ ∧ r = HT.lexLt (k x.1) (k y.1)) (fun _ _ => False) _
    have l1 := (hp _ hx).2
    have l2 := (hp _ hy).2
    have z1 := i1.length
    have z2 := i2.length
    rw [Array.length_toList] at z1 z2
    generalize k x.1 = ns at *
    generalize k y.1 = ms at *
    rw [e1, e2]
    refine PySem.W.kat_lt ho1 hd1 ho2 hd2 ?_
    have sz : decide (us1.size < us2.size) = false := decide_eq_false (by omega)
    rw [sz]
    exact kat_ints 0 i1 i2 (by omega) ⟨rfl, rfl⟩
/-- what min holds of the heap: the rows themselves, the walk's own cells -/
theorem min_turns {R : Result → Shared → Prop} {I S : Addr} {fp wr : List Addr} {n : Nat} {P : Nat → Value → Prop} {St : Nat → Heap → Prop} (W : Walks prog w A.in1 I fp wr n P St) (bt : Nat → Nat → Bool) (Kp : Heap → Prop)
    (hK : ∀ h h' : Heap, Kp h → (∀ b o, b ∉ wr → b ≠ S → h.get? b = some o → h'.get? b = some o) → Kp h')
    (hcmp : ∀ i j vi vj (s : Shared) (Q : Value → Shared → Prop) (E : Value → Shared → Prop), Kp s.heap → P i vi → P j vj → Q (.bool (bt i j)) s → wpAny (model prog w) A.in1 (richCompare .Lt vi vj) Q E s) (hSf : S ∉ fp) :
    ∀ (left at_ : Nat) (s : Shared) (best : Value) (c : Nat), n - (at_ + 1) = left → at_ + 1 ≤ n → St (at_ + 1) s.heap → Kp s.heap → P (argBest bt at_) best →
    s.heap.get? S = some { cls := .type "list", dict := none, data := .seq #[best, best] c, slots := #[] } →
    (∀ v h' tk, P (argBest bt (n - 1)) v → (∀ b o, b ∉ wr → b ≠ S → s.heap.get? b = some o → h'.get? b = some o) → R (.ok (.ret v)) { s with heap := h', toks := tk }) →
    codeAny (model prog w) A (.builtin "min.loop" ⟨[.ref I, .none, .ref S], []⟩) R s
  | 0, at_, s, best, c, hleft, hin, hst, kp, hP, hS, hR => by
    have last : at_ + 1 = n := by omega
    have sw : S ∉ wr := fun z => hSf (W.sub _ z)
    refine codeAny_builtin F.entry_min_loop ?_; rw [Around.under_plainId F.plain_min_loop _]
    refine wpAny_bind (m := seqItems? (.ref S)) (wpAny_seqItems hS rfl (wpAny_bind (m := tryCatch (pyNext (.ref I)) _) (wpAny_tryCatch (W.done s _ _ (last ▸ hst) fun h' tk keep => ?_))))
    have hS2 := keep S _ sw hS
    refine wpAny_bind (m := updateSeq S (fun _ => #[])) (wpAny_updateSeq hS2 rfl (wpAny_bind (wpAny_letGo (wpAny_pure (hR best _ tk (by rw [← last]; exact hP) fun b o q1 q2 e => ?_)))))
    exact (Heap.get?_update_other _ _ (Ne.symm q2)).trans (keep b o q1 e)
  | left + 1, at_, s, best, c, hleft, hin, hst, kp, hP, hS, hR => by
    have more : at_ + 1 < n := by omega
    have sw : S ∉ wr := fun z => hSf (W.sub _ z)
    have nm : (toString "min" ++ toString ".loop" : String) = "min.loop" := by decide
    refine codeAny_builtin F.entry_min_loop ?_; rw [Around.under_plainId F.plain_min_loop _]
    refine wpAny_bind (m := seqItems? (.ref S)) (wpAny_seqItems hS rfl (wpAny_bind (m := tryCatch (pyNext (.ref I)) _) (wpAny_tryCatch (W.item (at_ + 1) s _ _ more hst fun v h' tk hv hst2 keep => ?_))))
    have hS2 := keep S _ sw hS
    have kp2 : Kp h' := hK _ _ kp fun b o q1 _ e => keep b o q1 e
    refine wpAny_bind (m := tryCatch (holding [v, v] (richCompare .Lt v best >>= _)) _) (wpAny_tryCatch (wpAny_holding (wpAny_bind (hcmp (at_ + 1) (argBest bt at_) v best _ _ _ kp2 hv hP ?_))))
    refine wpAny_bind (wpAny_holding (wpAny_truthy_bool ?_)); refine wpAny_bind (wpAny_letGo (wpAny_pure ?_))
    cases hb : bt (at_ + 1) (argBest bt at_) with
    | true =>
      simp only [if_true]
      refine wpAny_bind (wpAny_updateSeq hS2 rfl (wpAny_bind (wpAny_letGo ?_)))
      rw [nm]
      refine wpAny_pure ⟨plainId_quiet F.plain_min_loop _, min_turns W bt Kp hK hcmp hSf left (at_ + 1) _ v _ (by omega) more (W.frame _ _ _ hst2 fun b q o e => ?_) (hK _ _ kp2 fun b o _ q e => ?_) (by simp only [argBest, hb, if_true]; exact hv) (Heap.get?_update_self _ hS2 rfl) fun v' h2 tk2 hv2 keep2 => ?_⟩
      · exact (Heap.get?_update_other _ _ (fun z : S = b => hSf (by rw [z]; exact q))).trans e
      · exact (Heap.get?_update_other _ _ (Ne.symm q)).trans e
      · exact hR v' h2 tk2 hv2 fun b o q1 q2 e => keep2 b o q1 q2 ((Heap.get?_update_other _ _ (Ne.symm q2)).trans (keep b o q1 e))
    | false =>
      simp only [Bool.false_eq_true, if_false]; refine wpAny_bind (wpAny_letGo ?_); rw [nm]
      exact wpAny_pure ⟨plainId_quiet F.plain_min_loop _, min_turns W bt Kp hK hcmp hSf left (at_ + 1) _ best c (by omega) more hst2 kp2 (by simp only [argBest, hb, Bool.false_eq_true, if_false]; exact hP) hS2 fun v' h2 tk2 hv2 keep2 => hR v' h2 tk2 hv2 fun b o q1 q2 e => keep2 b o q1 q2 (keep b o q1 e)⟩
theorem min_start {x : Value} {Q : Value → Shared → Prop}
    (h : wpAny (model prog w) A.in1 (pyIter x) (fun it s₂ => ∃ (I : Addr) (fp wr : List Addr) (n : Nat) (P : Nat → Value → Prop) (S0 : Nat → Heap → Prop) (bt : Nat → Nat → Bool) (Kp : Heap → Prop), it = .ref I ∧ Walks prog w A.in1 I fp wr n P S0 ∧ S0 0 s₂.heap ∧ (∀ b ∈ fp, b < s₂.heap.objs.size) ∧ 0 < n ∧ Kp s₂.heap ∧
      (∀ (S : Addr) (h h' : Heap), s₂.heap.objs.size ≤ S → Kp h → (∀ b o, b ∉ wr → b ≠ S → h.get? b = some o → h'.get? b = some o) → Kp h') ∧
      (∀ i j vi vj (s : Shared) (Q : Value → Shared → Prop) (E : Value → Shared → Prop), Kp s.heap → P i vi → P j vj → Q (.bool (bt i j)) s → wpAny (model prog w) A.in1 (richCompare .Lt vi vj) Q E s) ∧
      ∀ v h' tk, P (argBest bt (n - 1)) v → (∀ b o, b ∉ wr → s₂.heap.get? b = some o → h'.get? b = some o) → Q v { s₂ with heap := h', toks := tk }) E s) :
    wpAny (model prog w) A (call (.builtin "min") [x]) Q E s := by
  have nm : (toString "min" ++ toString ".loop" : String) = "min.loop" := by decide
  refine call_function_tree F.kind_min F.plain_min F.entry_min (F.args_min1 _) (wpAny_bind (m := Builtin.Builtins.bindParams "min" ["key", "default"] 0 ⟨[], []⟩) (wpAny_of_eq (show Builtin.Builtins.bindParams "min" ["key", "default"] 0 ⟨[], []⟩ = pure [none, none] from rfl) (wpAny_bind (wpAny_pure ?_))))
  refine wpAny_bind (wpAny_mono h (fun it s₂ ⟨I, fp, wr, n, P, S0, bt, Kp, e, W, hst, hfp, hn, kp, hK, hcmp, hQ⟩ => ?_) fun _ _ e => e)
  subst e
  refine wpAny_bind (wpAny_newObj_type ?_); rw [nm]
  have sf : s₂.heap.objs.size ∉ fp := fun z => Nat.lt_irrefl _ (hfp _ z)
  have sw : s₂.heap.objs.size ∉ wr := fun z => sf (W.sub _ z)
  have hK2 := hK s₂.heap.objs.size
  refine wpAny_pure ⟨plainId_quiet F.plain_min_loop _, ?_⟩
  refine codeAny_builtin F.entry_min_loop ?_; rw [Around.under_plainId F.plain_min_loop _]
  have hS0 : (s₂.heap.push { cls := .type "list", dict := none, data := .seq #[] 0, slots := #[] }).get? s₂.heap.objs.size = some { cls := .type "list", dict := none, data := .seq #[] 0, slots := #[] } := Heap.get?_push_size _ rfl
  refine wpAny_bind (m := seqItems? (.ref s₂.heap.objs.size)) (wpAny_seqItems hS0 rfl (wpAny_bind (m := tryCatch (pyNext (.ref I)) _) (wpAny_tryCatch (W.item 0 _ _ _ hn (W.frame _ _ _ hst fun b _ o e => Heap.get?_push_of_some _ e) fun v h' tk hv hst2 keep => ?_))))
  have hS2 := keep _ _ sw hS0
  have old : ∀ b o, b ∉ wr → s₂.heap.get? b = some o → h'.get? b = some o := fun b o q e => keep b o q (Heap.get?_push_of_some _ e)
  refine wpAny_bind (m := updateSeq (s₂.heap.objs.size) (fun _ => #[v, v])) (wpAny_updateSeq hS2 rfl ?_); rw [nm]
  refine wpAny_pure ⟨plainId_quiet F.plain_min_loop _, min_turns W bt Kp (fun h h' => hK2 h h' (Nat.le_refl _)) hcmp sf _ 0 _ v _ rfl hn (W.frame _ _ _ hst2 fun b q o e => ?_) (hK2 _ _ (Nat.le_refl _) (hK2 _ _ (Nat.le_refl _) kp fun b o q _ e => old b o q e) fun b o _ q e => ?_) hv (Heap.get?_update_self _ hS2 rfl) fun v' h2 tk2 hv2 keep2 => ?_⟩
  · exact (Heap.get?_update_other _ _ (fun z : _ = b => sf (by rw [z]; exact q))).trans e
  · exact (Heap.get?_update_other _ _ (Ne.symm q)).trans e
  · refine hQ v' h2 tk2 hv2 fun b o q e => ?_
    have ne : b ≠ s₂.heap.objs.size := Nat.ne_of_lt (Heap.lt_size e)
    exact keep2 b o q ne ((Heap.get?_update_other _ _ (Ne.symm ne)).trans (old b o q e))
/-- min(xs), xs a list of tuples of ints -/
theorem min_tups {l : Addr} {vs : List Value} {nss : List (List Int)} {Q : Value → Shared → Prop} (hh : A.handled = none) (hu : A.units + 1 < cLine) (hl : s.heap.IsList l vs.toArray) (hne : 0 < vs.length) (hlen : vs.length = nss.length) (hp : ∀ i v, vs[i]? = some v → TS.TupInts s.heap v (nss.getD i []))
    (h : ∀ v h' tk, vs[argBest (fun i j => HT.lexLt (nss.getD i []) (nss.getD j [])) (vs.length - 1)]? = some v → (∀ b o, s.heap.get? b = some o → h'.get? b = some o) → Q v { s with heap := h', toks := tk }) :
    wpAny (model prog w) A (call (.builtin "min") [.ref l]) Q E s := by
  refine min_start (wpAny_pyIter_list hl ?_)
  have hlt : l < s.heap.objs.size := by obtain ⟨_, e, _⟩ := hl; exact Heap.lt_size e
  have old : ∀ i v, vs[i]? = some v → ∃ a us, v = .ref a ∧ a < s.heap.objs.size ∧ IsTup s.heap a us ∧ IntsAre us.toList (nss.getD i []) := fun i v hv => by
    obtain ⟨a, us, e, ⟨o, ho, r⟩, it⟩ := hp i v hv
    exact ⟨a, us, e, Heap.lt_size ho, ⟨o, ho, r⟩, it⟩
  refine ⟨_, _, _, _, _, _, fun i j => HT.lexLt (nss.getD i []) (nss.getD j []), fun h => ∀ i v, vs[i]? = some v → ∃ a us, v = .ref a ∧ a < s.heap.objs.size ∧ IsTup h a us ∧ IntsAre us.toList (nss.getD i []), rfl, Walks.list (A := A.in1) hh _ l (Nat.ne_of_lt hlt) vs.toArray, ⟨⟨_, Heap.get?_push_size _ rfl, rfl, rfl⟩, hl.push _⟩, fun b hb => ?_, by simpa using hne, fun i v hv => ?_, fun S h1 h2 hS kp keep i v hv => ?_, fun i j vi vj s Q E kp hi hj q => ?_, fun v h' tk hv keep => ?_⟩
  · show b < (s.heap.push _).objs.size
    rw [Heap.size_push]
    rcases List.mem_cons.mp hb with rfl | hb
    · exact Nat.lt_succ_self _
    · rcases List.mem_cons.mp hb with rfl | hb
      · exact Nat.lt_succ_of_lt hlt
      · cases hb
  · obtain ⟨a, us, e, lt, ⟨o, ho, r⟩, it⟩ := old i v hv
    exact ⟨a, us, e, lt, ⟨o, Heap.get?_push_of_some _ ho, r⟩, it⟩
  · obtain ⟨a, us, e, lt, ⟨o, ho, r⟩, it⟩ := kp i v hv
    have hS2 : s.heap.objs.size + 1 ≤ S := by
      have z : (s.heap.push _).objs.size ≤ S := hS
      rw [Heap.size_push] at z
      exact z
    refine ⟨a, us, e, lt, ⟨o, keep a o (fun z => ?_) (fun z => ?_) ho, r⟩, it⟩
    · exact Nat.ne_of_lt lt (List.mem_singleton.mp z)
    · exact Nat.ne_of_lt (Nat.lt_of_lt_of_le lt (Nat.le_of_succ_le hS2)) z
  · obtain ⟨a, us, e, lt, t1, i1⟩ := kp i vi (by simpa using hi)
    obtain ⟨b, ws, e2, lt2, t2, i2⟩ := kp j vj (by simpa using hj)
    subst e
    subst e2
    exact HT.lt_tupInts t1 t2 i1 i2 (show A.in1.units < cLine by exact hu) q
  · refine h v h' tk (by simpa using hv) fun b o e => keep b o (fun z => ?_) (Heap.get?_push_of_some _ e)
    exact Nat.ne_of_lt (Heap.lt_size e) (List.mem_singleton.mp z)
end
section
variable {X : Cx} {pins : List (Addr × Obj)} {s : Shared} {σ : L2.St} {G H : Hp}
theorem ts_val (I : Inv X pins σ H s) (g : Same G H) {x : V} {ns : List Int} {u : Value} (h : IsTs X.K G x ns) (r : RelV x u) : TS.TupInts s.heap u ns ∧ ∃ t, u = Value.ref t ∧ x = V.ref t := by
  obtain ⟨t, rfl, q⟩ := h
  obtain rfl : u = Value.ref t := r
  obtain ⟨its, rv, hT, _⟩ := I.tuple (sqtUp g q)
  exact ⟨⟨t, its.toArray, rfl, hT, by simpa using rv.ints⟩, t, rfl, rfl⟩
theorem tss_val (I : Inv X pins σ H s) (g : Same G H) : ∀ {xs : List V} {nss : List (List Int)} {us : List Value}, Paired (IsTs X.K G) xs nss → Vals xs us →
    us.map (TS.intsOf s.heap) = nss ∧ ∀ u ∈ us, TS.TupInts s.heap u (TS.intsOf s.heap u) ∧ ∃ t, u = Value.ref t ∧ IsTs X.K G (.ref t) (TS.intsOf s.heap u)
  | _, _, _, .nil, .nil => ⟨rfl, fun u hu => absurd hu (by simp)⟩
  | _, _, _, .cons h t, .cons r rr => by
    obtain ⟨e1, e2⟩ := tss_val I g t rr
    obtain ⟨k1, t', k3, k4⟩ := ts_val I g h r
    refine ⟨by rw [List.map_cons, k1.ints, e1], fun u hu => ?_⟩
    rcases List.mem_cons.mp hu with e | hu
    · subst e
      rw [k1.ints]
      refine ⟨k1, t', k3, ?_⟩
      rw [← k4]
      exact h
    · exact e2 u hu
/-- sorted(xs) -/
def rSortN (K : PySem.W.Frag) : List V → Hp → VK → Prop := fun vs H Q => ∃ (a : Addr) (xs : List V) (nss : List (List Int)) (d : Nat) (G : Hp), vs = [V.ref a] ∧ SqL K H a xs ∧ Same G H ∧ Paired (IsTs K G) xs nss ∧ 0 < d ∧ (∀ ns ∈ nss, ns.length = d) ∧
  ∀ ys qss p, Paired (IsTs K G) ys qss → qss.Perm nss → qss.Pairwise (fun a b => HT.lexLt b a = false) → H p = none → Q (.ref p) (upd H p (.lst ys))
theorem cr_sortN : CallR X (.builtin "sorted") (rSortN X.K) := by
  intro pins s σ H vs us Q I r h
  obtain ⟨a, xs, nss, d, G, rfl, hs, g, hp, hd, hn, q⟩ := h
  obtain ⟨its, rv, hl, hz⟩ := I.list hs
  obtain ⟨u, rfl, ru⟩ := vals1 r
  obtain rfl : u = Value.ref a := ru
  obtain ⟨e1, e2⟩ := tss_val I g hp rv
  have hzz : its.length ≤ sizeLine := by
    have := rv.length
    omega
  have lens : ∀ v ∈ its, (TS.intsOf s.heap v).length = d := fun v hv => hn _ (by rw [← e1]; exact List.mem_map.mpr ⟨v, hv, rfl⟩)
  refine SrtO.sorted_ord (lexLt_swo (TS.intsOf s.heap)) hl.isList hzz (fun h2 h₁ c hc kk => ?_) fun out h1 h2 => ?_
  · refine tups_sortable (s := { s with heap := h₁ }) (by omega) hd (fun v hv => ⟨(e2 v hv).1.keeps fun b o e _ => (kk b o e).2, lens v hv⟩) fun o e => ?_
    have e' : some o = some (seqObj "list" its.toArray 0) := e.symm.trans hc
    cases e'
    intro c
    exact absurd (Value.type.inj c) (by decide)
  · have hmem : ∀ u ∈ out, u ∈ its := fun u hu => h2.perm.mem_iff.mp hu
    have hv : Vals (out.map backV) out := vals_back fun u hu => by
      obtain ⟨t, e, _⟩ := (e2 u (hmem u hu)).2
      exact ⟨t, e⟩
    obtain ⟨n, hat⟩ := sortedAll_at s.heap its out.toArray
    refine ⟨.ref _, upd H (s.heap.objs.size + 1) (.lst (out.map backV)), I.laid (t' := s.toks) (fun _ _ => sortedAll_old) (Nat.le_succ _) (show ObjOk X.prog X.w _ _ _ (.lst (out.map backV)) from ⟨?_, out, n, hv, by simpa using hat⟩), rfl, q _ (out.map (TS.intsOf s.heap)) _ (paired_map out fun u hu => ?_) ?_ ?_ (I.hok.fresh (Nat.le_succ _))⟩
    · rw [List.length_map, h2.perm.length_eq]
      exact hzz
    · obtain ⟨t, e, h3⟩ := (e2 u (hmem u hu)).2
      subst e
      exact h3
    · rw [← e1]
      exact h2.perm.map _
    · exact List.pairwise_map.mpr h1
/-- min(xs) -/
def rMinN (K : PySem.W.Frag) : List V → Hp → VK → Prop := fun vs H Q => ∃ (a : Addr) (xs : List V) (nss : List (List Int)) (G : Hp), vs = [V.ref a] ∧ SqL K H a xs ∧ Same G H ∧ Paired (IsTs K G) xs nss ∧ 0 < nss.length ∧
  ∀ x, xs[argBest (fun i j => HT.lexLt (nss.getD i []) (nss.getD j [])) (nss.length - 1)]? = some x → Q x H
theorem cr_minN (hc : X.calm = true) (hu : X.A.units + 1 < cLine) : CallR X (.builtin "min") (rMinN X.K) := by
  intro pins s σ H vs us Q I r h
  obtain ⟨a, xs, nss, G, rfl, hs, g, hp, hne, q⟩ := h
  obtain ⟨its, rv, hl, hz⟩ := I.list hs
  rw [Vals.ref1 r]
  obtain ⟨e1, e2⟩ := tss_val I g hp rv
  have ln : its.length = nss.length := by rw [← e1, List.length_map]
  refine min_tups (nss := nss) (I.ok.hd hc) hu hl.isList (by omega) ln (fun i v hv => ?_) fun v h' tk hv keep => ?_
  · have e : nss.getD i [] = TS.intsOf s.heap v := by
      rw [List.getD_eq_getElem?_getD, ← e1, List.getElem?_map, hv]
      rfl
    rw [e]
    exact (e2 v (List.mem_of_getElem? hv)).1
  · rw [ln] at hv
    have lx := rv.length
    have hlt := (List.getElem?_eq_some_iff.mp hv).1
    have hx := List.getElem?_eq_getElem (l := xs) (i := argBest (fun i j => HT.lexLt (nss.getD i []) (nss.getD j [])) (nss.length - 1)) (by omega)
    obtain ⟨u, hu2, ru⟩ := rv.get hx
    rw [hv] at hu2
    cases hu2
    exact ⟨_, H, I.kept keep, ru, q _ hx⟩
end
abbrev tZ (ns : List Int) : D := .tup (ns.map dI)
theorem ts_rep {K : PySem.W.Frag} {G : Hp} : ∀ {vs : List V} {nss : List (List Int)}, RepL K G vs (nss.map tZ) → Paired (IsTs K G) vs nss
  | [], [], .nil => .nil
  | _ :: _, ns :: nss, .cons h t => by
    refine .cons ?_ (ts_rep t)
    cases h with
    | tup q r =>
      refine ⟨_, rfl, ?_⟩
      rw [show ns.map dI = (ns.map V.int).map D.val by rw [List.map_map]; rfl] at r
      rw [RepL.of_vals r] at q
      exact q
theorem ts_rep1 {K : PySem.W.Frag} {G : Hp} {v : V} {ns : List Int} (h : IsTs K G v ns) : Rep K G v (tZ ns) := by
  obtain ⟨t, rfl, q⟩ := h
  refine .tup q ?_
  have := RepL.vals (K := K) (G := G) (ns.map V.int)
  rw [List.map_map] at this
  exact this
theorem rep_ts {K : PySem.W.Frag} {G : Hp} : ∀ {vs : List V} {nss : List (List Int)}, Paired (IsTs K G) vs nss → RepL K G vs (nss.map tZ)
  | _, _, .nil => .nil
  | _, _, .cons h t => .cons (ts_rep1 h) (rep_ts t)
theorem lexN_uniq {d : Nat} : ∀ {l m : List (List Int)}, (∀ x ∈ l, x.length = d) → l.Pairwise (fun a b => HT.lexLt b a = false) → m.Pairwise (fun a b => HT.lexLt b a = false) → l.Perm m → l = m
  | [], m, _, _, _, h => (List.Perm.eq_nil h.symm).symm
  | x :: l, [], _, _, _, h => absurd h.length_eq (by simp)
  | x :: l, y :: m, hd, hl, hm, h => by
    have hx : x ∈ y :: m := h.mem_iff.mp List.mem_cons_self
    have hy : y ∈ x :: l := h.mem_iff.mpr List.mem_cons_self
    have e : x = y := by
      rcases List.mem_cons.mp hx with e | hx
      · exact e
      · rcases List.mem_cons.mp hy with e | hy
        · exact e.symm
        · exact lexLt_eq ((hd x List.mem_cons_self).trans (hd y (List.mem_cons_of_mem _ hy)).symm) ((List.pairwise_cons.mp hm).1 x hx) ((List.pairwise_cons.mp hl).1 y hy)
    subst e
    rw [lexN_uniq (fun z hz => hd z (List.mem_cons_of_mem _ hz)) (List.pairwise_cons.mp hl).2 (List.pairwise_cons.mp hm).2 h.cons_inv]
section
variable {X : Cx} {ρ : Sl} {M M1 : Mem} {e : Expr} {pos : Pos}
/-- sorted(xs), xs in the memory: rows of d ints -/
theorem ev_sortedN {q : Addr} {d : Nat} {nss qss : List (List Int)} {p : Pos} (hm : X.mg "sorted" = none) (ha : EV X e ρ M (dP q) M1) (h : M1 q = some (.lst (nss.map tZ))) (hd : 0 < d) (hn : ∀ ns ∈ nss, ns.length = d) (hq : qss.Pairwise (fun a b => HT.lexLt b a = false)) (hp : qss.Perm nss) (hg : Gl X "sorted" := by rfl)
    (hst : starEach [e] X.env = [(false, eval e X.env)] := by rfl) : EV X (.Call (.Name "sorted" p) [e] [] pos) ρ M (.lst (qss.map tZ)) M1 :=
  (pe_callB cr_sortN hg hm boot_sorted (av_cons ha av_nil hst) (he := hst)).mono fun σ H Q ⟨G, sa, k⟩ => ⟨G, sa, fun vs' G1 H1 g1 sh1 r1 => by
    obtain ⟨gq, vs, hv, r⟩ := sh1.mem q _ h
    rw [RepL.of_vals (xs := [.ref q]) r1]
    refine ⟨q, vs, nss, d, G1, rfl, .inl (.inl hv), sh1.le, ts_rep r, hd, hn, fun ys qs' l hys hperm hsort hl => ?_⟩
    have e : qs' = qss := lexN_uniq (d := d) (fun x hx => hn x (hperm.mem_iff.mp hx)) hsort hq (hperm.trans hp.symm)
    subst e
    obtain ⟨sh2, g2⟩ := sh1.new (o := .lst ys) hl
    exact k _ _ _ (g1.trans g2) sh2 (.lst (.inl (.inl upd_same)) ((rep_ts hys).up g2))⟩
/-- min(xs), xs in the memory: rows of ints -/
theorem ev_minN {q : Addr} {nss : List (List Int)} {p : Pos} (hc : X.calm = true) (hu : X.A.units + 64 < cLine) (hm : X.mg "min" = none) (ha : EV X e ρ M (dP q) M1) (h : M1 q = some (.lst (nss.map tZ))) (h0 : 0 < nss.length) (hg : Gl X "min" := by rfl)
    (hst : starEach [e] X.env = [(false, eval e X.env)] := by rfl) : EV X (.Call (.Name "min" p) [e] [] pos) ρ M (tZ (nss.getD (argBest (fun i j => HT.lexLt (nss.getD i []) (nss.getD j [])) (nss.length - 1)) [])) M1 :=
  (pe_callB (cr_minN hc (by omega)) hg hm boot_min (av_cons ha av_nil hst) (he := hst)).mono fun σ H Q ⟨G, sa, k⟩ => ⟨G, sa, fun vs' G1 H1 g1 sh1 r1 => by
    obtain ⟨gq, vs, hv, r⟩ := sh1.mem q _ h
    rw [RepL.of_vals (xs := [.ref q]) r1]
    refine ⟨q, vs, nss, G1, rfl, .inl (.inl hv), sh1.le, ts_rep r, h0, fun x hx => k _ G1 H1 g1 sh1 ?_⟩
    have hl := r.len
    rw [List.length_map] at hl
    have lt := (List.getElem?_eq_some_iff.mp hx).1
    obtain ⟨v, hv2, rv⟩ := RepL.get r (i := argBest (fun i j => HT.lexLt (nss.getD i []) (nss.getD j [])) (nss.length - 1)) (d := tZ (nss.getD (argBest (fun i j => HT.lexLt (nss.getD i []) (nss.getD j [])) (nss.length - 1)) [])) (by
      rw [List.getElem?_map, List.getElem?_eq_getElem (by omega), List.getD_eq_getElem?_getD, List.getElem?_eq_getElem (by omega)]
      rfl)
    rw [hx] at hv2
    cases hv2
    exact rv⟩
end
end Vt
namespace Vt
open PySem PySem.Spec PyProof.Rows L2
/-! ### making an instance whose __init__ raises nothing -/
structure MkD (P : Program) (w : World) (K : PySem.W.Frag) (mg : Str → Option Value) (base : Heap) (k : Nat) (x : Str) (C : Addr) (sp : Sp) : Prop where
  ex : ∃ f fd ps, mg x = some (.ref C) ∧ Mk K C f ∧ Binds K fd ps [] ∧ FnOk P w K mg base CX0 k f fd ps sp
section
variable {X : Cx} {ρ : Sl} {M : Mem} {e : Expr} {es : List Expr} {pos p1 : Pos} {Φ : D → Mem → Prop} {x : Str} {C : Addr} {k : Nat}
theorem ew_make {R : List D → Mem → (D → Mem → Prop) → Prop} (B : MkD X.prog X.w X.K X.mg X.base k x C (spW X.K R)) (hr : Room (k + 1) X.A)
    (h : AW X (e :: es) ρ M (fun ds M1 => ∀ y, M1 y = none → R (dP y :: ds) (M1.set y (.ins C [])) (fun d M2 => d = dN ∧ Φ (dP y) M2)))
    (hg : Gl X x := by rfl) (hdb : (x == ("__debug__" : Str)) = false := by decide) (he : starEach (e :: es) X.env = (false, eval e X.env) :: starEach es X.env := by rfl) (hpl : (backTo pos (starEach es X.env)).any (·.1) = false := by rfl) : EW X (.Call (.Name x p1) (e :: es) [] pos) ρ M Φ := by
  obtain ⟨f, fd, ps, hm, mk, bi, Fi⟩ := B.ex
  refine ⟨fun pins s σ H Q I ⟨G, sa, k1⟩ => ?_⟩
  refine wpAny_Call_Name_kw (ld_glob I hg hm ?_ hdb)
  refine PySem.W.callWith_K (h₀ := X.base) I.ok.mod.kin mk.kp (thn (h.run pos pins s σ H (fun vs H1 => ∀ y dy, H1 y = none → H1 dy = none → dy ≠ y → spW X.K R (.ref y :: vs) (upd (upd H1 dy (.own y)) y (.ins C dy [])) (fun v H2 => v = .non ∧ Q (.ref y) H2) E0) I ⟨G, sa, fun vs G1 H1 ds M1 hR g1 sh1 r1 y dy hy hdy ne => ?_⟩) fun us s1 ⟨vs, H1, I1, r, q⟩ => ⟨I1.kIn, run_makeW mk Fi hr bi (fun pins H s e s' I c => pass0 pins σ H s e s' I c) I1 r q⟩) he hpl
  obtain ⟨shn, my⟩ := sh1.newI (C := C) hy hdy ne
  exact ⟨G1, dP y :: ds, _, _, shn, .cons (.val _) r1, hR y my, fun v G' H' d M' hq g sh rr => by
      obtain ⟨rfl, hq⟩ := hq
      exact ⟨rr.of_val, k1 _ G' H' _ M' hq (g1.trans g) sh (.val _)⟩⟩
end
/-! ### lcm of four ints -/
def rLcm4 : List V → Hp → VK → Prop := fun vs H Q => ∃ a b c d : Int, vs = [.int a, .int b, .int c, .int d] ∧ (a.natAbs < 2 ^ 2000 ∧ b.natAbs < 2 ^ 2000 ∧ c.natAbs < 2 ^ 2000 ∧ d.natAbs < 2 ^ 2000) ∧ Q (.int ((Nat.lcm (Nat.lcm (Nat.lcm a.natAbs b.natAbs) c.natAbs) d.natAbs : Nat) : Int)) H
section
variable {X : Cx}
theorem lcm4_run (a : Int) (t : Tok) (b : Int) (u : Tok) (c : Int) (v : Tok) (d : Int) (w : Tok) (q1 : ¬(max 1 a.natAbs).log2 / 30 + 1 > 450) (q2 : ¬(max ((Nat.lcm 1 a.natAbs)) b.natAbs).log2 / 30 + 1 > 450) (q3 : ¬(max (((Nat.lcm 1 a.natAbs)).lcm b.natAbs) c.natAbs).log2 / 30 + 1 > 450)
    (q4 : ¬(max ((((Nat.lcm 1 a.natAbs)).lcm b.natAbs).lcm c.natAbs) d.natAbs).log2 / 30 + 1 > 450) (hsz : (((((((Nat.lcm 1 a.natAbs).lcm b.natAbs).lcm c.natAbs)).lcm d.natAbs : Nat) : Int)).natAbs.log2 < bitsLine) :
    Gives (Builtin.«math.lcm» ⟨[.int a t, .int b u, .int c v, .int d w], []⟩) (.int (((((((Nat.lcm 1 a.natAbs).lcm b.natAbs).lcm c.natAbs)).lcm d.natAbs : Nat) : Int))) :=
  .of_wp fun M A E s Q h => by
    obtain ⟨hp, g, dr, tk, os⟩ := s
    wp_walk
    rw [if_neg q2]
    wp_walk
    rw [if_neg q3]
    wp_walk
    rw [if_neg q4]
    wp_walk
    refine wpAny_ite_false (decide_eq_false (Nat.not_le.mpr hsz)) ?_
    wp_walk
    exact ⟨_, rfl, h⟩
theorem lcm4_args (a b c d : Value) : argsOk "math.lcm" ⟨[a, b, c, d], []⟩ := by unfold argsOk; kernel_rfl
theorem lcm_lt {a b k l : Nat} (ha : a < 2 ^ k) (hb : b < 2 ^ l) : Nat.lcm a b < 2 ^ (k + l) := Nat.lt_of_le_of_lt (show a * b / _ ≤ _ from Nat.div_le_self _ _) (by rw [Nat.pow_add]; exact Nat.mul_lt_mul'' ha hb)
theorem cr_lcm4 : CallR X (.builtin "math.lcm") rLcm4 := by
  intro pins s σ H vs us Q I r h
  obtain ⟨a, b, c, d, rfl, ⟨ha, hb, hc, hd⟩, q⟩ := h
  obtain ⟨t, u, v, w, rfl⟩ : ∃ t u v w, us = [Value.int a t, Value.int b u, Value.int c v, Value.int d w] := by
    cases r with
    | cons r0 t0 =>
      cases t0 with
      | cons r1 t1 =>
        obtain ⟨t, u, rfl⟩ := Vals.int2 t1
        obtain ⟨w, rfl⟩ := r1
        obtain ⟨z, rfl⟩ := r0
        exact ⟨z, w, t, u, rfl⟩
  have e : (Nat.lcm 1 a.natAbs) = a.natAbs := Nat.lcm_one_left _
  have lt : ∀ {n k : Nat}, n < 2 ^ k → n.log2 ≤ k := fun {n k} h => by
    by_cases z : n = 0
    · subst z
      rw [Nat.log2_zero]
      exact Nat.zero_le _
    · exact Nat.le_of_lt ((Nat.log2_lt z).mpr h)
  have h1 := lcm_lt ha hb
  have h2 := lcm_lt h1 hc
  have h3 := lcm_lt h2 hd
  have big : ∀ {n k : Nat}, k ≤ 9000 → n < 2 ^ k → ¬(n.log2 / 30 + 1 > 450) := fun {n k} hk h => by
    have := lt h
    omega
  have up : ∀ {n k l : Nat}, k ≤ l → n < 2 ^ k → n < 2 ^ l := fun hk h => Nat.lt_of_lt_of_le h (Nat.pow_le_pow_right (by decide) hk)
  have one : (1 : Nat) < 2 ^ 2000 := Nat.one_lt_two_pow (by decide)
  have g := lcm4_run a t b u c v d w (big (k := 2000) (by decide) (Nat.max_lt.mpr ⟨one, ha⟩)) (by rw [e]; exact big (k := 2000) (by decide) (Nat.max_lt.mpr ⟨ha, hb⟩)) (by rw [e]; exact big (k := 2000 + 2000) (by decide) (Nat.max_lt.mpr ⟨h1, up (by decide) hc⟩)) (by rw [e]; exact big (k := 2000 + 2000 + 2000) (by decide) (Nat.max_lt.mpr ⟨h2, up (by decide) hd⟩)) (by
    rw [e, Int.natAbs_natCast]
    have := lt h3
    exact Nat.lt_of_le_of_lt this (by decide))
  rw [e] at g
  exact call_function_meets PySem.W.MGF.kind_lcm PySem.W.MGF.plain_lcm PySem.W.MGF.entry_lcm (lcm4_args _ _ _ _) g.meets ⟨.int _, H, I.tok _, ⟨_, rfl⟩, q⟩
end
section
variable {X : Cx} {ρ : Sl} {M M1 M2 M3 M4 : Mem} {a b c d e : Expr} {pos : Pos}
theorem ev_bf4 {x : Str} {id : String} {p : Pos} {i j k l : Int} {z : V} {r : List V → Hp → VK → Prop} (hc : CallR X (.builtin id) r) (hm : X.mg x = some (.builtin id)) (ha : EV X a ρ M (dI i) M1) (hb : EV X b ρ M1 (dI j) M2) (hc3 : EV X c ρ M2 (dI k) M3) (hd4 : EV X d ρ M3 (dI l) M4) (hr : ∀ H Q, Q z H → r [.int i, .int j, .int k, .int l] H Q) (hg : Gl X x := by rfl)
    (hd : (x == ("__debug__" : Str)) = false := by decide) (hst : starEach [a, b, c, d] X.env = (false, eval a X.env) :: starEach [b, c, d] X.env := by rfl) (hst2 : starEach [b, c, d] X.env = (false, eval b X.env) :: starEach [c, d] X.env := by rfl) (hst3 : starEach [c, d] X.env = (false, eval c X.env) :: starEach [d] X.env := by rfl) (hst4 : starEach [d] X.env = [(false, eval d X.env)] := by rfl) (hpl : (backTo pos (starEach [b, c, d] X.env)).any (·.1) = false := by rfl) : EV X (.Call (.Name x p) [a, b, c, d] [] pos) ρ M (.val z) M4 :=
  (pe_callBfun hc hg hm (av_cons ha (av_cons hb (av_cons hc3 (av_cons hd4 av_nil hst4) hst3) hst2) hst) (hdb := hd) (he := hst) (hpl := hpl)).mono fun σ H Q ⟨G, sa, k'⟩ => ⟨G, sa, fun vs G1 H1 g1 sh1 r1 => by
    rw [RepL.of_vals (xs := [.int i, .int j, .int k, .int l]) r1]
    exact hr _ _ (k' _ G1 H1 g1 sh1 (.val _))⟩
end
end Vt
namespace Vt
open PySem PySem.Spec PyProof.Rows L2
/-! ### comprehensions assigned: lists that are going to be changed, with a test -/
section
variable {X : Cx} {ρ : Sl} {M M1 : Mem} {d : D} {ds : List D} {pos : Pos} {Ψ : Out → Prop} {Φ : D → Mem → Prop} {tg iter : Expr} {g : TG}
theorem sw_setLcN (i : Nat) {y : Str} {py : Pos} {elt : Expr} {scope : Scope} {own : List (Str × Nat)} {spos : Pos} (hc : X.calm = true) (hN : X.N.Nodup) (ok : BlkOk X.N X.env.scope scope own)
    (hg : ∀ (s : Shared) (H : Hp) (C : Addr) (cl : List (Str × Addr)) (fp : List Addr), PG (X.blk s H scope (compEnvC scope cl C X.env) fp) tg g) (hi : IW X tg iter ρ M (LcN X g own scope elt ρ (fun d M1 => Ψ (.nx (ρ.set i (some d)) M1))))
    (hw : swapsWith (.ListComp elt [⟨tg, iter, [], 0⟩] scope pos) (some (.Name y py)) spos.line X.env = pure true := by rfl) (hy : X.N[i]? = some y := by rfl) (hl : X.env.scope.names.lookup y = some .local := by rfl)
    (hs : ∀ x, foldedSetIterable iter X.env x = pure x := by intro _; rfl) : SV X (.Assign [.Name y py] (.ListComp elt [⟨tg, iter, [], 0⟩] scope pos) spos) ρ M Ψ :=
  (ps_setLc hc hN hy hl hw hi ok hg (fun _ _ _ _ _ => pts_nil) (fun s H C cl fp => ⟨fun pins s' σ H' Q I ⟨ρ', M', Φ', hb, q⟩ => (hb s H C cl fp).run pins s' σ H' Q I q⟩) hs).mono fun E σ H ⟨G, sa, k⟩ =>
    lcw_readN (Φ := fun d M1 => Ψ (.nx (ρ.set i (some d)) M1)) σ H _ ⟨G, sa, fun v G1 H1 d M1 q g1 sh1 r1 => k _ q _ G1 H1 g1 ⟨sh1, (sa.sl.up g1).set i r1⟩⟩
theorem sw_setLcF (i : Nat) {y : Str} {py : Pos} {elt cnd : Expr} {scope : Scope} {own : List (Str × Nat)} {spos : Pos} (hc : X.calm = true) (hN : X.N.Nodup) (ok : BlkOk X.N X.env.scope scope own)
    (hg : ∀ (s : Shared) (H : Hp) (C : Addr) (cl : List (Str × Addr)) (fp : List Addr), PG (X.blk s H scope (compEnvC scope cl C X.env) fp) tg g) (hi : IW X tg iter ρ M (LcF X g own scope elt cnd ρ (fun d M1 => Ψ (.nx (ρ.set i (some d)) M1))))
    (hw : swapsWith (.ListComp elt [⟨tg, iter, [cnd], 0⟩] scope pos) (some (.Name y py)) spos.line X.env = pure true := by rfl) (hy : X.N[i]? = some y := by rfl) (hl : X.env.scope.names.lookup y = some .local := by rfl)
    (hs : ∀ x, foldedSetIterable iter X.env x = pure x := by intro _; rfl) : SV X (.Assign [.Name y py] (.ListComp elt [⟨tg, iter, [cnd], 0⟩] scope pos) spos) ρ M Ψ :=
  (ps_setLc hc hN hy hl hw hi ok hg (fun s H C cl fp => pts_one ⟨fun pins s' σ H' Q I ⟨ρ', M', Φ', hb, q⟩ => (hb s H C cl fp).run pins s' σ H' Q I q⟩) (fun s H C cl fp => ⟨fun pins s' σ H' Q I ⟨ρ', M', Φ', hb, q⟩ => (hb s H C cl fp).run pins s' σ H' Q I q⟩) hs).mono fun E σ H ⟨G, sa, k⟩ =>
    lcf_read (Φ := fun d M1 => Ψ (.nx (ρ.set i (some d)) M1)) σ H _ ⟨G, sa, fun v G1 H1 d M1 q g1 sh1 r1 => k _ q _ G1 H1 g1 ⟨sh1, (sa.sl.up g1).set i r1⟩⟩
end
/-! ### min(xs, default=None) of rows of ints -/
theorem args_minD (a : Value) : argsOk "min" ⟨[a], [(Str.ofString "default", .none)]⟩ := by unfold argsOk; kernel_rfl
section
variable {prog : Program} {w : World} {A : Around} {E : Value → Shared → Prop} {s : Shared}
theorem min_turnsD {R : Result → Shared → Prop} {I S : Addr} {fp wr : List Addr} {n : Nat} {P : Nat → Value → Prop} {St : Nat → Heap → Prop} (W : Walks prog w A.in1 I fp wr n P St) (bt : Nat → Nat → Bool) (Kp : Heap → Prop)
    (hK : ∀ h h' : Heap, Kp h → (∀ b o, b ∉ wr → b ≠ S → h.get? b = some o → h'.get? b = some o) → Kp h')
    (hcmp : ∀ i j vi vj (s : Shared) (Q : Value → Shared → Prop) (E : Value → Shared → Prop), Kp s.heap → P i vi → P j vj → Q (.bool (bt i j)) s → wpAny (model prog w) A.in1 (richCompare .Lt vi vj) Q E s) (hSf : S ∉ fp) :
    ∀ (left at_ : Nat) (s : Shared) (best : Value) (c : Nat), n - (at_ + 1) = left → at_ + 1 ≤ n → St (at_ + 1) s.heap → Kp s.heap → P (argBest bt at_) best →
    s.heap.get? S = some { cls := .type "list", dict := none, data := .seq #[best, best] c, slots := #[] } →
    (∀ v h' tk, P (argBest bt (n - 1)) v → (∀ b o, b ∉ wr → b ≠ S → s.heap.get? b = some o → h'.get? b = some o) → R (.ok (.ret v)) { s with heap := h', toks := tk }) →
    codeAny (model prog w) A (.builtin "min.loop" ⟨[.ref I, .none, .ref S], [(Str.ofString "default", .none)]⟩) R s
  | 0, at_, s, best, c, hleft, hin, hst, kp, hP, hS, hR => by
    have last : at_ + 1 = n := by omega
    have sw : S ∉ wr := fun z => hSf (W.sub _ z)
    refine codeAny_builtin F.entry_min_loop ?_; rw [Around.under_plainId F.plain_min_loop _]
    refine wpAny_bind (m := seqItems? (.ref S)) (wpAny_seqItems hS rfl (wpAny_bind (m := tryCatch (pyNext (.ref I)) _) (wpAny_tryCatch (W.done s _ _ (last ▸ hst) fun h' tk keep => ?_))))
    have hS2 := keep S _ sw hS
    refine wpAny_bind (m := updateSeq S (fun _ => #[])) (wpAny_updateSeq hS2 rfl (wpAny_bind (wpAny_letGo (wpAny_pure (hR best _ tk (by rw [← last]; exact hP) fun b o q1 q2 e => ?_)))))
    exact (Heap.get?_update_other _ _ (Ne.symm q2)).trans (keep b o q1 e)
  | left + 1, at_, s, best, c, hleft, hin, hst, kp, hP, hS, hR => by
    have more : at_ + 1 < n := by omega
    have sw : S ∉ wr := fun z => hSf (W.sub _ z)
    have nm : (toString "min" ++ toString ".loop" : String) = "min.loop" := by decide
    refine codeAny_builtin F.entry_min_loop ?_; rw [Around.under_plainId F.plain_min_loop _]
    refine wpAny_bind (m := seqItems? (.ref S)) (wpAny_seqItems hS rfl (wpAny_bind (m := tryCatch (pyNext (.ref I)) _) (wpAny_tryCatch (W.item (at_ + 1) s _ _ more hst fun v h' tk hv hst2 keep => ?_))))
    have hS2 := keep S _ sw hS
    have kp2 : Kp h' := hK _ _ kp fun b o q1 _ e => keep b o q1 e
    refine wpAny_bind (m := tryCatch (holding [v, v] (richCompare .Lt v best >>= _)) _) (wpAny_tryCatch (wpAny_holding (wpAny_bind (hcmp (at_ + 1) (argBest bt at_) v best _ _ _ kp2 hv hP ?_))))
    refine wpAny_bind (wpAny_holding (wpAny_truthy_bool ?_)); refine wpAny_bind (wpAny_letGo (wpAny_pure ?_))
    cases hb : bt (at_ + 1) (argBest bt at_) with
    | true =>
      simp only [if_true]
      refine wpAny_bind (wpAny_updateSeq hS2 rfl (wpAny_bind (wpAny_letGo ?_)))
      rw [nm]
      refine wpAny_pure ⟨plainId_quiet F.plain_min_loop _, min_turnsD W bt Kp hK hcmp hSf left (at_ + 1) _ v _ (by omega) more (W.frame _ _ _ hst2 fun b q o e => ?_) (hK _ _ kp2 fun b o _ q e => ?_) (by simp only [argBest, hb, if_true]; exact hv) (Heap.get?_update_self _ hS2 rfl) fun v' h2 tk2 hv2 keep2 => ?_⟩
      · exact (Heap.get?_update_other _ _ (fun z : S = b => hSf (by rw [z]; exact q))).trans e
      · exact (Heap.get?_update_other _ _ (Ne.symm q)).trans e
      · exact hR v' h2 tk2 hv2 fun b o q1 q2 e => keep2 b o q1 q2 ((Heap.get?_update_other _ _ (Ne.symm q2)).trans (keep b o q1 e))
    | false =>
      simp only [Bool.false_eq_true, if_false]; refine wpAny_bind (wpAny_letGo ?_); rw [nm]
      exact wpAny_pure ⟨plainId_quiet F.plain_min_loop _, min_turnsD W bt Kp hK hcmp hSf left (at_ + 1) _ best c (by omega) more hst2 kp2 (by simp only [argBest, hb, Bool.false_eq_true, if_false]; exact hP) hS2 fun v' h2 tk2 hv2 keep2 => hR v' h2 tk2 hv2 fun b o q1 q2 e => keep2 b o q1 q2 (keep b o q1 e)⟩
theorem min_startD {x : Value} {Q : Value → Shared → Prop}
    (h : wpAny (model prog w) A.in1 (pyIter x) (fun it s₂ => ∃ (I : Addr) (fp wr : List Addr) (n : Nat) (P : Nat → Value → Prop) (S0 : Nat → Heap → Prop) (bt : Nat → Nat → Bool) (Kp : Heap → Prop), it = .ref I ∧ Walks prog w A.in1 I fp wr n P S0 ∧ S0 0 s₂.heap ∧ (∀ b ∈ fp, b < s₂.heap.objs.size) ∧ Kp s₂.heap ∧
      (∀ (S : Addr) (h h' : Heap), s₂.heap.objs.size ≤ S → Kp h → (∀ b o, b ∉ wr → b ≠ S → h.get? b = some o → h'.get? b = some o) → Kp h') ∧
      (∀ i j vi vj (s : Shared) (Q : Value → Shared → Prop) (E : Value → Shared → Prop), Kp s.heap → P i vi → P j vj → Q (.bool (bt i j)) s → wpAny (model prog w) A.in1 (richCompare .Lt vi vj) Q E s) ∧
      (n = 0 → ∀ h' tk, (∀ b o, b ∉ wr → s₂.heap.get? b = some o → h'.get? b = some o) → Q .none { s₂ with heap := h', toks := tk }) ∧
      (0 < n → ∀ v h' tk, P (argBest bt (n - 1)) v → (∀ b o, b ∉ wr → s₂.heap.get? b = some o → h'.get? b = some o) → Q v { s₂ with heap := h', toks := tk })) E s) :
    wpAny (model prog w) A (call (.builtin "min") [x] [(Str.ofString "default", .none)]) Q E s := by
  have nm : (toString "min" ++ toString ".loop" : String) = "min.loop" := by decide
  refine PyProof.Rows.kmk_tree F.kind_min F.plain_min F.entry_min (args_minD _) (wpAny_bind (m := Builtin.Builtins.bindParams "min" ["key", "default"] 0 ⟨[], [(Str.ofString "default", .none)]⟩) (wpAny_of_eq (show Builtin.Builtins.bindParams "min" ["key", "default"] 0 ⟨[], [(Str.ofString "default", .none)]⟩ = pure [none, some .none] from rfl) (wpAny_bind (wpAny_pure ?_))))
  refine wpAny_bind (wpAny_mono h (fun it s₂ ⟨I, fp, wr, n, P, S0, bt, Kp, e, W, hst, hfp, kp, hK, hcmp, hQ0, hQ⟩ => ?_) fun _ _ e => e)
  subst e
  refine wpAny_bind (wpAny_newObj_type ?_); rw [nm]
  have sf : s₂.heap.objs.size ∉ fp := fun z => Nat.lt_irrefl _ (hfp _ z)
  have sw : s₂.heap.objs.size ∉ wr := fun z => sf (W.sub _ z)
  have hK2 := hK s₂.heap.objs.size
  refine wpAny_pure ⟨plainId_quiet F.plain_min_loop _, ?_⟩
  show codeAny (model prog w) A (.builtin "min.loop" ⟨[.ref I, .none, .ref s₂.heap.objs.size], [(Str.ofString "default", .none)]⟩) _ _
  refine codeAny_builtin F.entry_min_loop ?_; rw [Around.under_plainId F.plain_min_loop _]
  have hS0 : (s₂.heap.push { cls := .type "list", dict := none, data := .seq #[] 0, slots := #[] }).get? s₂.heap.objs.size = some { cls := .type "list", dict := none, data := .seq #[] 0, slots := #[] } := Heap.get?_push_size _ rfl
  by_cases hn : 0 < n
  · refine wpAny_bind (m := seqItems? (.ref s₂.heap.objs.size)) (wpAny_seqItems hS0 rfl (wpAny_bind (m := tryCatch (pyNext (.ref I)) _) (wpAny_tryCatch (W.item 0 _ _ _ hn (W.frame _ _ _ hst fun b _ o e => Heap.get?_push_of_some _ e) fun v h' tk hv hst2 keep => ?_))))
    have hS2 := keep _ _ sw hS0
    have old : ∀ b o, b ∉ wr → s₂.heap.get? b = some o → h'.get? b = some o := fun b o q e => keep b o q (Heap.get?_push_of_some _ e)
    refine wpAny_bind (m := updateSeq (s₂.heap.objs.size) (fun _ => #[v, v])) (wpAny_updateSeq hS2 rfl ?_); rw [nm]
    refine wpAny_pure ⟨plainId_quiet F.plain_min_loop _, min_turnsD W bt Kp (fun h h' => hK2 h h' (Nat.le_refl _)) hcmp sf _ 0 _ v _ rfl hn (W.frame _ _ _ hst2 fun b q o e => ?_) (hK2 _ _ (Nat.le_refl _) (hK2 _ _ (Nat.le_refl _) kp fun b o q _ e => old b o q e) fun b o _ q e => ?_) hv (Heap.get?_update_self _ hS2 rfl) fun v' h2 tk2 hv2 keep2 => ?_⟩
    · exact (Heap.get?_update_other _ _ (fun z : _ = b => sf (by rw [z]; exact q))).trans e
    · exact (Heap.get?_update_other _ _ (Ne.symm q)).trans e
    · refine hQ hn v' h2 tk2 hv2 fun b o q e => ?_
      have ne : b ≠ s₂.heap.objs.size := Nat.ne_of_lt (Heap.lt_size e)
      exact keep2 b o q ne ((Heap.get?_update_other _ _ (Ne.symm ne)).trans (old b o q e))
  · have n0 : n = 0 := by omega
    subst n0
    refine wpAny_bind (m := seqItems? (.ref s₂.heap.objs.size)) (wpAny_seqItems hS0 rfl (wpAny_bind (m := tryCatch (pyNext (.ref I)) _) (wpAny_tryCatch (W.done _ _ _ (W.frame _ _ _ hst fun b _ o e => Heap.get?_push_of_some _ e) fun h' tk keep => ?_))))
    exact wpAny_bind (wpAny_rule (wpAny_pure (hQ0 rfl h' tk fun b o q e => keep b o q (Heap.get?_push_of_some _ e))))
/-- min(xs, default=None), xs a list of tuples of ints -/
theorem min_tupsD {l : Addr} {vs : List Value} {nss : List (List Int)} {Q : Value → Shared → Prop} (hh : A.handled = none) (hu : A.units + 1 < cLine) (hl : s.heap.IsList l vs.toArray) (hlen : vs.length = nss.length) (hp : ∀ i v, vs[i]? = some v → TS.TupInts s.heap v (nss.getD i []))
    (h0 : vs.length = 0 → ∀ h' tk, (∀ b o, s.heap.get? b = some o → h'.get? b = some o) → Q .none { s with heap := h', toks := tk })
    (h : ∀ v h' tk, vs[argBest (fun i j => HT.lexLt (nss.getD i []) (nss.getD j [])) (vs.length - 1)]? = some v → (∀ b o, s.heap.get? b = some o → h'.get? b = some o) → Q v { s with heap := h', toks := tk }) :
    wpAny (model prog w) A (call (.builtin "min") [.ref l] [(Str.ofString "default", .none)]) Q E s := by
  refine min_startD (wpAny_pyIter_list hl ?_)
  have hlt : l < s.heap.objs.size := by obtain ⟨_, e, _⟩ := hl; exact Heap.lt_size e
  have old : ∀ i v, vs[i]? = some v → ∃ a us, v = .ref a ∧ a < s.heap.objs.size ∧ IsTup s.heap a us ∧ IntsAre us.toList (nss.getD i []) := fun i v hv => by
    obtain ⟨a, us, e, ⟨o, ho, r⟩, it⟩ := hp i v hv
    exact ⟨a, us, e, Heap.lt_size ho, ⟨o, ho, r⟩, it⟩
  refine ⟨_, _, _, _, _, _, fun i j => HT.lexLt (nss.getD i []) (nss.getD j []), fun h => ∀ i v, vs[i]? = some v → ∃ a us, v = .ref a ∧ a < s.heap.objs.size ∧ IsTup h a us ∧ IntsAre us.toList (nss.getD i []), rfl, Walks.list (A := A.in1) hh _ l (Nat.ne_of_lt hlt) vs.toArray, ⟨⟨_, Heap.get?_push_size _ rfl, rfl, rfl⟩, hl.push _⟩, fun b hb => ?_, fun i v hv => ?_, fun S h1 h2 hS kp keep i v hv => ?_, fun i j vi vj s Q E kp hi hj q => ?_, fun hn h' tk keep => ?_, fun hn v h' tk hv keep => ?_⟩
  · show b < (s.heap.push _).objs.size
    rw [Heap.size_push]
    rcases List.mem_cons.mp hb with rfl | hb
    · exact Nat.lt_succ_self _
    · rcases List.mem_cons.mp hb with rfl | hb
      · exact Nat.lt_succ_of_lt hlt
      · cases hb
  · obtain ⟨a, us, e, lt, ⟨o, ho, r⟩, it⟩ := old i v hv
    exact ⟨a, us, e, lt, ⟨o, Heap.get?_push_of_some _ ho, r⟩, it⟩
  · obtain ⟨a, us, e, lt, ⟨o, ho, r⟩, it⟩ := kp i v hv
    have hS2 : s.heap.objs.size + 1 ≤ S := by
      have z : (s.heap.push _).objs.size ≤ S := hS
      rw [Heap.size_push] at z
      exact z
    refine ⟨a, us, e, lt, ⟨o, keep a o (fun z => ?_) (fun z => ?_) ho, r⟩, it⟩
    · exact Nat.ne_of_lt lt (List.mem_singleton.mp z)
    · exact Nat.ne_of_lt (Nat.lt_of_lt_of_le lt (Nat.le_of_succ_le hS2)) z
  · obtain ⟨a, us, e, lt, t1, i1⟩ := kp i vi (by simpa using hi)
    obtain ⟨b, ws, e2, lt2, t2, i2⟩ := kp j vj (by simpa using hj)
    subst e
    subst e2
    exact HT.lt_tupInts t1 t2 i1 i2 (show A.in1.units < cLine by exact hu) q
  · refine h0 (by simpa using hn) h' tk fun b o e => keep b o (fun z => ?_) (Heap.get?_push_of_some _ e)
    exact Nat.ne_of_lt (Heap.lt_size e) (List.mem_singleton.mp z)
  · refine h v h' tk (by simpa using hv) fun b o e => keep b o (fun z => ?_) (Heap.get?_push_of_some _ e)
    exact Nat.ne_of_lt (Heap.lt_size e) (List.mem_singleton.mp z)
end
def rMinND (K : PySem.W.Frag) : List V → List V → Hp → VK → Prop := fun vs zs H Q => ∃ (a : Addr) (xs : List V) (nss : List (List Int)) (G : Hp), vs = [V.ref a] ∧ zs = [.non] ∧ SqL K H a xs ∧ Same G H ∧ Paired (IsTs K G) xs nss ∧ (nss.length = 0 → Q .non H) ∧
  (0 < nss.length → ∀ x, xs[argBest (fun i j => HT.lexLt (nss.getD i []) (nss.getD j [])) (nss.length - 1)]? = some x → Q x H)
section
variable {X : Cx}
theorem cr_minND (hc : X.calm = true) (hu : X.A.units + 1 < cLine) : CallRK X (.builtin "min") [Str.ofString "default"] (rMinND X.K) := by
  intro pins s σ H vs zs us ws Q I r rz h
  obtain ⟨a, xs, nss, G, rfl, rfl, hs, g, hp, q0, q⟩ := h
  obtain ⟨w1, rfl, ew⟩ := vals1 rz
  obtain rfl : w1 = Value.none := ew
  obtain ⟨its, rv, hl, hz⟩ := I.list hs
  rw [Vals.ref1 r]
  obtain ⟨e1, e2⟩ := tss_val I g hp rv
  have ln : its.length = nss.length := by rw [← e1, List.length_map]
  show wpAny _ _ (call (.builtin "min") [.ref a] [(Str.ofString "default", .none)]) _ _ _
  refine min_tupsD (nss := nss) (I.ok.hd hc) hu hl.isList ln (fun i v hv => ?_) (fun hn h' tk keep => ?_) fun v h' tk hv keep => ?_
  · have e : nss.getD i [] = TS.intsOf s.heap v := by
      rw [List.getD_eq_getElem?_getD, ← e1, List.getElem?_map, hv]
      rfl
    rw [e]
    exact (e2 v (List.mem_of_getElem? hv)).1
  · exact ⟨.non, H, I.kept keep, rfl, q0 (by omega)⟩
  · rw [ln] at hv
    have lx := rv.length
    have hlt := (List.getElem?_eq_some_iff.mp hv).1
    have hx := List.getElem?_eq_getElem (l := xs) (i := argBest (fun i j => HT.lexLt (nss.getD i []) (nss.getD j [])) (nss.length - 1)) (by omega)
    obtain ⟨u, hu2, ru⟩ := rv.get hx
    rw [hv] at hu2
    cases hu2
    exact ⟨_, H, I.kept keep, ru, q (by omega) _ hx⟩
end
/-- the least of rows of ints -/
def mnL (nss : List (List Int)) : List Int := nss.getD (argBest (fun i j => HT.lexLt (nss.getD i []) (nss.getD j [])) (nss.length - 1)) []
section
variable {X : Cx} {ρ : Sl} {M M1 : Mem} {e : Expr} {pos : Pos} {Φ : D → Mem → Prop}
theorem ew_minND {j : Nat} {p p2 p3 : Pos} (hc : X.calm = true) (hu : X.A.units + 64 < cLine) (hm : X.mg "min" = none) (h : EW X e ρ M (fun d M1 => ∃ q nss, d = dP q ∧ M1 q = some (.lst (nss.map tZ)) ∧ (nss.length = 0 → Φ dN M1) ∧ (0 < nss.length → Φ (tZ (mnL nss)) M1))) (hg : Gl X "min" := by rfl)
    (hst : starEach [e] X.env = (false, eval e X.env) :: starEach [] X.env := by rfl) (he : backTo pos (starEach [e] X.env) = (false, eval e X.env) :: backTo pos (starEach [] X.env) := by rfl) (hpl : (backTo pos (starEach [e] X.env)).any (·.1) = false := by rfl) : EW X (.Call (.Name "min" p) [e] [⟨some "default", .Constant .none j p2, p3⟩] pos) ρ M Φ :=
  (pe_callBK (cr_minND hc (by omega)) hg hm boot_min (aw_one (ΦA := fun ds M1 => ∃ q nss, ds = [dP q] ∧ M1 q = some (.lst (nss.map tZ)) ∧ (nss.length = 0 → Φ dN M1) ∧ (0 < nss.length → Φ (tZ (mnL nss)) M1)) (ew_to h fun d M1 ⟨q, nss, e, r⟩ => ⟨q, nss, by rw [e], r⟩) hst) (pk_cons pe_non pk_nil) (he := he) (hpl := hpl)).mono fun σ H Q ⟨G, sa, k⟩ => ⟨G, sa, fun vs' G1 H1 ds M1 ⟨q, nss, e, hq, z0, z1⟩ g1 sh1 r1 => by
    subst e
    obtain ⟨gq, vs, hv, r⟩ := sh1.mem q _ hq
    rw [RepL.of_vals (xs := [.ref q]) r1]
    refine ⟨q, vs, nss, G1, rfl, rfl, .inl (.inl hv), sh1.le, ts_rep r, fun h0 => k _ G1 H1 _ _ (z0 h0) g1 sh1 (.val _), fun h0 x hx => k _ G1 H1 _ _ (z1 h0) g1 sh1 ?_⟩
    have hl := r.len
    rw [List.length_map] at hl
    have lt := (List.getElem?_eq_some_iff.mp hx).1
    obtain ⟨v, hv2, rv⟩ := RepL.get r (i := argBest (fun i j => HT.lexLt (nss.getD i []) (nss.getD j [])) (nss.length - 1)) (d := tZ (mnL nss)) (by
      rw [List.getElem?_map, List.getElem?_eq_getElem (by omega), mnL, List.getD_eq_getElem?_getD, List.getElem?_eq_getElem (by omega)]
      rfl)
    rw [hx] at hv2
    cases hv2
    exact rv⟩
end
end Vt
set_option Elab.async false
set_option linter.all false
set_option maxRecDepth 100000
set_option maxHeartbeats 2000000
namespace Vt
open PySem PySem.Spec PyProof.Rows L2
def top (i : Nat) : Stmt := PySem.Challenge.pw_counterheld_k11_whole_texts_of_bars.main.body.getD i (.Pass ⟨0, 0, 0, 0⟩)
abbrev s_p_is_row : Stmt := top 6
theorem sc_p_is_row : FnScope ["thing"] ["thing"] (defScope s_p_is_row) := ⟨rfl, rfl, rfl, by decide +kernel, rfl, by decide +kernel, by decide +kernel⟩
abbrev s_p_is_pair : Stmt := top 7
theorem sc_p_is_pair : FnScope ["thing"] ["thing"] (defScope s_p_is_pair) := ⟨rfl, rfl, rfl, by decide +kernel, rfl, by decide +kernel, by decide +kernel⟩
abbrev s_p_is_number : Stmt := top 8
theorem sc_p_is_number : FnScope ["thing"] ["thing"] (defScope s_p_is_number) := ⟨rfl, rfl, rfl, by decide +kernel, rfl, by decide +kernel, by decide +kernel⟩
abbrev s_p_is_whole : Stmt := top 9
theorem sc_p_is_whole : FnScope ["thing", "low", "high"] ["thing", "low", "high"] (defScope s_p_is_whole) := ⟨rfl, rfl, rfl, by decide +kernel, rfl, by decide +kernel, by decide +kernel⟩
abbrev s_p_is_tone : Stmt := top 10
theorem sc_p_is_tone : FnScope ["thing", "number"] ["thing"] (defScope s_p_is_tone) := ⟨rfl, rfl, rfl, by decide +kernel, rfl, by decide +kernel, by decide +kernel⟩
abbrev s_p_is_short_fraction : Stmt := top 11
theorem sc_p_is_short_fraction : FnScope ["thing", "number"] ["thing"] (defScope s_p_is_short_fraction) := ⟨rfl, rfl, rfl, by decide +kernel, rfl, by decide +kernel, by decide +kernel⟩
abbrev s_p_steps : Stmt := top 13
theorem sc_p_steps : FnScope ["interval", "f", "o"] ["interval"] (defScope s_p_steps) := ⟨rfl, rfl, rfl, by decide +kernel, rfl, by decide +kernel, by decide +kernel⟩
abbrev s_p_with_steps : Stmt := top 14
theorem sc_p_with_steps : FnScope ["f", "many"] ["f", "many"] (defScope s_p_with_steps) := ⟨rfl, rfl, rfl, by decide +kernel, rfl, by decide +kernel, by decide +kernel⟩
abbrev s_p_check_bar : Stmt := top 20
theorem sc_p_check_bar : FnScope ["columns", "voices", "number", "column", "reason"] ["columns"] (defScope s_p_check_bar) := ⟨rfl, rfl, rfl, by decide +kernel, rfl, by decide +kernel, by decide +kernel⟩
abbrev s_p_reason : Stmt := top 21
theorem sc_p_reason : FnScope ["column", "voices", "duration", "accent", "entries", "entry"] ["column", "voices"] (defScope s_p_reason) := ⟨rfl, rfl, rfl, by decide +kernel, rfl, by decide +kernel, by decide +kernel⟩
abbrev s_p_is_entry : Stmt := top 22
theorem sc_p_is_entry : FnScope ["thing"] ["thing"] (defScope s_p_is_entry) := ⟨rfl, rfl, rfl, by decide +kernel, rfl, by decide +kernel, by decide +kernel⟩
abbrev s_p_tuple_of : Stmt := top 23
theorem sc_p_tuple_of : FnScope ["tone", "f", "o"] ["tone"] (defScope s_p_tuple_of) := ⟨rfl, rfl, rfl, by decide +kernel, rfl, by decide +kernel, by decide +kernel⟩
abbrev s_p_as_tuples : Stmt := top 24
theorem sc_p_as_tuples : FnScope ["bar"] ["bar"] (defScope s_p_as_tuples) := ⟨rfl, rfl, rfl, by decide +kernel, rfl, by decide +kernel, by decide +kernel⟩
abbrev s_p_with_tones : Stmt := top 25
theorem sc_p_with_tones : FnScope ["bar", "change", "duration", "accent", "entries"] ["bar", "change"] (defScope s_p_with_tones) := ⟨rfl, rfl, rfl, by decide +kernel, rfl, by decide +kernel, by decide +kernel⟩
abbrev s_p_entries : Stmt := top 26
theorem sc_p_entries : FnScope ["entries", "change", "entry"] ["entries", "change"] (defScope s_p_entries) := ⟨rfl, rfl, rfl, by decide +kernel, rfl, by decide +kernel, by decide +kernel⟩
abbrev s_p_number_in : Stmt := top 29
theorem sc_p_number_in : FnScope ["text", "figures", "digits", "sign"] ["text", "figures"] (defScope s_p_number_in) := ⟨rfl, rfl, rfl, by decide +kernel, rfl, by decide +kernel, by decide +kernel⟩
abbrev s_p_fraction_text : Stmt := top 30
theorem sc_p_fraction_text : FnScope ["fraction", "n", "d"] ["fraction"] (defScope s_p_fraction_text) := ⟨rfl, rfl, rfl, by decide +kernel, rfl, by decide +kernel, by decide +kernel⟩
abbrev s_p_fraction_in : Stmt := top 31
theorem sc_p_fraction_in : FnScope ["text", "figures", "above", "_", "below", "n", "d"] ["text", "figures"] (defScope s_p_fraction_in) := ⟨rfl, rfl, rfl, by decide +kernel, rfl, by decide +kernel, by decide +kernel⟩
abbrev s_p_letter_name : Stmt := top 37
theorem sc_p_letter_name : FnScope ["f", "a"] ["f"] (defScope s_p_letter_name) := ⟨rfl, rfl, rfl, by decide +kernel, rfl, by decide +kernel, by decide +kernel⟩
abbrev s_p_tone_name : Stmt := top 38
theorem sc_p_tone_name : FnScope ["tone"] ["tone"] (defScope s_p_tone_name) := ⟨rfl, rfl, rfl, by decide +kernel, rfl, by decide +kernel, by decide +kernel⟩
abbrev s_p_read_tone : Stmt := top 39
theorem sc_p_read_tone : FnScope ["text", "tone"] ["text"] (defScope s_p_read_tone) := ⟨rfl, rfl, rfl, by decide +kernel, rfl, by decide +kernel, by decide +kernel⟩
abbrev s_p_tone_meant : Stmt := top 40
theorem sc_p_tone_meant : FnScope ["text", "figures", "octave", "letter", "signs", "f"] ["text"] (defScope s_p_tone_meant) := ⟨rfl, rfl, rfl, by decide +kernel, rfl, by decide +kernel, by decide +kernel⟩
abbrev s_p_bar_text : Stmt := top 44
theorem sc_p_bar_text : FnScope ["bar", "column"] ["bar"] (defScope s_p_bar_text) := ⟨rfl, rfl, rfl, by decide +kernel, rfl, by decide +kernel, by decide +kernel⟩
abbrev s_p_column_text : Stmt := top 45
theorem sc_p_column_text : FnScope ["column", "duration", "accent", "entries", "mark", "words", "entry"] ["column"] (defScope s_p_column_text) := ⟨rfl, rfl, rfl, by decide +kernel, rfl, by decide +kernel, by decide +kernel⟩
abbrev s_p_entry_text : Stmt := top 46
theorem sc_p_entry_text : FnScope ["entry", "tone", "begins"] ["entry"] (defScope s_p_entry_text) := ⟨rfl, rfl, rfl, by decide +kernel, rfl, by decide +kernel, by decide +kernel⟩
abbrev s_p_read_bar : Stmt := top 47
theorem sc_p_read_bar : FnScope ["text", "bar", "start", "piece", "column"] ["text"] (defScope s_p_read_bar) := ⟨rfl, rfl, rfl, by decide +kernel, rfl, by decide +kernel, by decide +kernel⟩
abbrev s_p_column_in : Stmt := top 48
theorem sc_p_column_in : FnScope ["text", "words", "word", "duration", "mark", "accent", "length", "weight", "entries"] ["text"] (defScope s_p_column_in) := ⟨rfl, rfl, rfl, by decide +kernel, rfl, by decide +kernel, by decide +kernel⟩
abbrev s_p_entry_in : Stmt := top 49
theorem sc_p_entry_in : FnScope ["word"] ["word"] (defScope s_p_entry_in) := ⟨rfl, rfl, rfl, by decide +kernel, rfl, by decide +kernel, by decide +kernel⟩
abbrev s_pool : Stmt := top 51
theorem sc_pool : FnScope ["script", "cell"] ["script"] (defScope s_pool) := ⟨rfl, rfl, rfl, by decide +kernel, rfl, by decide +kernel, by decide +kernel⟩
abbrev s_take : Stmt := top 52
theorem sc_take : FnScope ["pool", "many", "digit", "cell", "mixed"] ["pool", "many"] (defScope s_take) := ⟨rfl, rfl, rfl, by decide +kernel, rfl, by decide +kernel, by decide +kernel⟩
abbrev s_pick : Stmt := top 53
theorem sc_pick : FnScope ["pool", "rows"] ["pool", "rows"] (defScope s_pick) := ⟨rfl, rfl, rfl, by decide +kernel, rfl, by decide +kernel, by decide +kernel⟩
abbrev s_below : Stmt := top 54
theorem sc_below : FnScope ["pool", "many", "found", "turn"] ["pool", "many"] (defScope s_below) := ⟨rfl, rfl, rfl, by decide +kernel, rfl, by decide +kernel, by decide +kernel⟩
abbrev s_is_integer : Stmt := top 55
theorem sc_is_integer : FnScope ["actual"] ["actual"] (defScope s_is_integer) := ⟨rfl, rfl, rfl, by decide +kernel, rfl, by decide +kernel, by decide +kernel⟩
abbrev s_same : Stmt := top 56
theorem sc_same : FnScope ["actual", "due", "k"] ["actual", "due"] (defScope s_same) := ⟨rfl, rfl, rfl, by decide +kernel, rfl, by decide +kernel, by decide +kernel⟩
abbrev s_lowest : Stmt := top 57
theorem sc_lowest : FnScope ["n", "d", "one", "other", "turn"] ["n", "d"] (defScope s_lowest) := ⟨rfl, rfl, rfl, by decide +kernel, rfl, by decide +kernel, by decide +kernel⟩
abbrev s_duration : Stmt := top 58
theorem sc_duration : FnScope ["pool"] ["pool"] (defScope s_duration) := ⟨rfl, rfl, rfl, by decide +kernel, rfl, by decide +kernel, by decide +kernel⟩
abbrev s_tone : Stmt := top 59
theorem sc_tone : FnScope ["pool", "fifths"] ["pool"] (defScope s_tone) := ⟨rfl, rfl, rfl, by decide +kernel, rfl, by decide +kernel, by decide +kernel⟩
abbrev s_column : Stmt := top 60
theorem sc_column : FnScope ["pool", "voices", "before", "some", "entries", "voice", "kind", "entry", "held", "tone"] ["pool", "voices", "before", "some"] (defScope s_column) := ⟨rfl, rfl, rfl, by decide +kernel, rfl, by decide +kernel, by decide +kernel⟩
abbrev s_bar : Stmt := top 61
theorem sc_bar : FnScope ["pool", "voices", "most", "some", "k", "found"] ["pool", "voices", "most"] (defScope s_bar) := ⟨rfl, rfl, rfl, by decide +kernel, rfl, by decide +kernel, by decide +kernel⟩
abbrev s_order : Stmt := top 62
theorem sc_order : FnScope ["pool", "many", "left", "found", "k"] ["pool", "many"] (defScope s_order) := ⟨rfl, rfl, rfl, by decide +kernel, rfl, by decide +kernel, by decide +kernel⟩
abbrev s_listed : Stmt := top 63
theorem sc_listed : FnScope ["thing", "part"] ["thing"] (defScope s_listed) := ⟨rfl, rfl, rfl, by decide +kernel, rfl, by decide +kernel, by decide +kernel⟩
abbrev s_letter : Stmt := top 64
theorem sc_letter : FnScope ["fifths", "place", "rest"] ["fifths"] (defScope s_letter) := ⟨rfl, rfl, rfl, by decide +kernel, rfl, by decide +kernel, by decide +kernel⟩
abbrev s_far_pair : Stmt := top 65
theorem sc_far_pair : FnScope ["pool", "kind", "edges"] ["pool"] (defScope s_far_pair) := ⟨rfl, rfl, rfl, by decide +kernel, rfl, by decide +kernel, by decide +kernel⟩
abbrev s_tone_text : Stmt := top 66
theorem sc_tone_text : FnScope ["tone", "place", "many", "marks"] ["tone"] (defScope s_tone_text) := ⟨rfl, rfl, rfl, by decide +kernel, rfl, by decide +kernel, by decide +kernel⟩
abbrev s_cell_words : Stmt := top 67
theorem sc_cell_words : FnScope ["cell", "first", "rows", "entry"] ["cell"] (defScope s_cell_words) := ⟨rfl, rfl, rfl, by decide +kernel, rfl, by decide +kernel, by decide +kernel⟩
abbrev s_text : Stmt := top 68
theorem sc_text : FnScope ["bar", "cell"] ["bar"] (defScope s_text) := ⟨rfl, rfl, rfl, by decide +kernel, rfl, by decide +kernel, by decide +kernel⟩
abbrev s_pad : Stmt := top 69
theorem sc_pad : FnScope ["pool"] ["pool"] (defScope s_pad) := ⟨rfl, rfl, rfl, by decide +kernel, rfl, by decide +kernel, by decide +kernel⟩
abbrev s_spaced : Stmt := top 70
theorem sc_spaced : FnScope ["pool", "bar", "found", "k", "words", "at"] ["pool", "bar"] (defScope s_spaced) := ⟨rfl, rfl, rfl, by decide +kernel, rfl, by decide +kernel, by decide +kernel⟩
abbrev s_far_bar : Stmt := top 71
theorem sc_far_bar : FnScope ["pool", "voices", "some", "k", "found"] ["pool", "voices"] (defScope s_far_bar) := ⟨rfl, rfl, rfl, by decide +kernel, rfl, by decide +kernel, by decide +kernel⟩
abbrev s_long_row : Stmt := top 72
theorem sc_long_row : FnScope ["pool", "voices", "some", "k", "long", "found", "cell"] ["pool", "voices"] (defScope s_long_row) := ⟨rfl, rfl, rfl, by decide +kernel, rfl, by decide +kernel, by decide +kernel⟩
abbrev s_law : Stmt := top 73
theorem sc_law : FnScope ["script", "pool", "rows", "turn", "bar", "k", "wide", "row", "handed", "kept"] ["script"] (defScope s_law) := ⟨rfl, rfl, rfl, by decide +kernel, rfl, by decide +kernel, by decide +kernel⟩
abbrev s_BadColumn_init : Stmt := L2.inClass (top 19) 0
theorem sc_BadColumn_init : FnScope ["self", "number", "reason"] ["self", "number", "reason"] (defScope s_BadColumn_init) := ⟨rfl, rfl, rfl, by decide +kernel, rfl, by decide +kernel, by decide +kernel⟩
abbrev s_BadName_init : Stmt := L2.inClass (top 36) 0
theorem sc_BadName_init : FnScope ["self", "text"] ["self", "text"] (defScope s_BadName_init) := ⟨rfl, rfl, rfl, by decide +kernel, rfl, by decide +kernel, by decide +kernel⟩
abbrev s_BadText_init : Stmt := L2.inClass (top 43) 0
theorem sc_BadText_init : FnScope ["self", "position"] ["self", "position"] (defScope s_BadText_init) := ⟨rfl, rfl, rfl, by decide +kernel, rfl, by decide +kernel, by decide +kernel⟩
/-! ### the draws -/
structure Pool where
  cells : List Int
  at_ : Int
  rest : Int
  seed : Int
def Pool.mo (p : Pool) : MO := .lst [.lst (p.cells.map dI), dI p.at_, dI p.rest, dI p.seed]
structure Pool.Ok (p : Pool) : Prop where
  a0 : 0 ≤ p.at_
  s0 : 0 ≤ p.seed
  s1 : p.seed < 2147483648
def Pool.cell (p : Pool) : Int := if p.at_ < p.cells.length then p.cells.getD p.at_.toNat 0 else 0
def Pool.seed2 (p : Pool) : Int := (p.seed * 48271 + p.cell * 69621 + (p.at_ + 1) * 613) % 2147483647
def Pool.take (p : Pool) (many : Int) : Int × Pool :=
  if 0 < p.rest then (p.rest % many, { p with rest := p.rest / many })
  else if 1000000000000000000 ≤ p.cell then (p.cell / 2 % many, { p with at_ := p.at_ + 1, rest := p.cell / 2 / many })
  else ((p.seed2 * p.seed2 + p.seed2 * 7919 + 104729) % 1000000007 / 3 % many, { p with at_ := p.at_ + 1, seed := p.seed2 })
theorem Pool.take_lo (p : Pool) {many : Int} (h : 0 < many) : 0 ≤ (p.take many).1 := by
  unfold Pool.take
  split
  · exact Int.emod_nonneg _ (by omega)
  · split <;> exact Int.emod_nonneg _ (by omega)
theorem Pool.take_hi (p : Pool) {many : Int} (h : 0 < many) : (p.take many).1 < many := by
  unfold Pool.take
  split
  · exact Int.emod_lt_of_pos _ h
  · split <;> exact Int.emod_lt_of_pos _ h
theorem Pool.Ok.take {p : Pool} (ok : p.Ok) (many : Int) : (p.take many).2.Ok := by
  obtain ⟨a0, s0, s1⟩ := ok
  unfold Pool.take
  split
  · exact ⟨a0, s0, s1⟩
  · split
    · exact ⟨by show 0 ≤ p.at_ + 1; omega, s0, s1⟩
    · refine ⟨by show 0 ≤ p.at_ + 1; omega, ?_, ?_⟩
      · exact Int.emod_nonneg _ (by decide)
      · have := Int.emod_lt_of_pos (p.seed * 48271 + p.cell * 69621 + (p.at_ + 1) * 613) (show (0 : Int) < 2147483647 by decide)
        show p.seed2 < 2147483648
        unfold Pool.seed2
        omega
/-- what stands behind the top of built-ins -/
structure Bt (mg : Str → Option Value) : Prop where
  len : mg "len" = none
  int : mg "int" = none
  isinstance : mg "isinstance" = none
  range : mg "range" = none
  list : mg "list" = none
  tuple : mg "tuple" = none
  all : mg "all" = none
  bool : mg "bool" = none
  str : mg "str" = none
def PrTake (ds : List D) (M : Mem) (d : D) (M' : Mem) : Prop := ∃ a M0 p many, ds = [dP a, dI many] ∧ M = Mem.set M0 a (Pool.mo p) ∧ p.Ok ∧ 0 < many ∧ many < 1073741824 ∧ d = dI (p.take many).1 ∧ M' = M0.set a (p.take many).2.mo
/-- where digits are left -/
def PrTake0 (ds : List D) (M : Mem) (d : D) (M' : Mem) : Prop := ∃ a M0 p many, ds = [dP a, dI many] ∧ M = Mem.set M0 a (Pool.mo p) ∧ 0 < p.rest ∧ 0 < many ∧ many < 1073741824 ∧ d = dI (p.rest % many) ∧ M' = M0.set a ({ p with rest := p.rest / many } : Pool).mo
section
variable {X : Cx} {ρ : Sl} {M M0 M1 M2 M3 : Mem} {a b c e : Expr} {es : List Expr} {d d1 d2 : D} {ds : List D} {pos : Pos} {Ψ : Out → Prop}
/-- xs[i] = e, the list on top of the memory -/
theorem sv_setTop {p : Addr} {i : Nat} {tp : Pos} (he : EV X e ρ M d M1) (ho : EV X a ρ M1 (dP p) M2) (hi : EV X b ρ M2 (dI i) (M0.set p (.lst ds))) (hlt : i < ds.length) (hΨ : Ψ (.nx ρ (M0.set p (.lst (ds.set i d)))))
    (ha : ∀ v, assign (.Subscript a b tp) X.env v = (do
      let ov ← holding [v] (eval a X.env)
      let iv ← holding [v, ov] (eval b X.env)
      standAt tp
      holding [v, ov, iv] (setItem ov iv v)
      release [v, ov, iv] []) := by intro _; rfl)
    (hs : swapsWithSole [.Subscript a b tp] e pos.line X.env = pure false := by rfl) (hw : swappedStores [.Subscript a b tp] e X.env = pure none := by rfl)
    (h1 : (assignEach [.Subscript a b tp] X.env).map (·.2) = [assign (.Subscript a b tp) X.env] := by rfl) : SV X (.Assign [.Subscript a b tp] e pos) ρ M Ψ :=
  sv_setItem he ho hi Mem.set_same hlt (by rw [Mem.set_set]; exact hΨ) ha hs hw h1
end
section
variable {P : Program} {w : World} {K : PySem.W.Frag} {mg : Str → Option Value} {base : Heap} {f : Addr} {fd : FuncData}
theorem c_take0 (F : Fun K "_law_take" "_law_take" s_take f fd) (hm : mg "_law_take" = some (.ref f)) (T : Bt mg) : Cal P w K mg base 1 "_law_take" (spD K PrTake0) := by
  refine cal_of F sc_take hm (fun _ _ _ _ _ _ us hl => match us, hl with | [_, _], _ => rfl) (fun ds M d M' h => ?_) fun cdv A outer s H E ds M d M' hr h => ?_
  · obtain ⟨a, M0, p, many, rfl, _⟩ := h
    rfl
  · obtain ⟨a, M0, p, many, rfl, rfl, h0, h1, h2, rfl, rfl⟩ := h
    show BV _ _ [some (dP a), some (dI many), none, none, none] _ _
    refine bv_cons (sv_if (tv_cmpR op_gt (ev_ixM (ev_var 0 rfl) ev_int Mem.set_same rfl) ev_int rs_I0 (nomark _)) (fun h => ?_) (fun h => ?_))
    · refine bv_cons (sv_set 2 sc_take.nd (ev_op op_mod (ev_intI T.int (ev_ixM (ev_var 0 rfl) ev_int Mem.set_same rfl)) (ev_var 1 rfl) (rs_I h1)) ?_)
      refine bv_cons (sv_setTop (i := 2) (ev_op op_fdiv (ev_ixM (ev_var 0 rfl) ev_int Mem.set_same rfl) (ev_var 1 rfl) (rs_I ⟨h1, h2⟩)) (ev_var 0 rfl) ev_int (by simp) ?_)
      exact bv_one (sv_ret (ev_var 2 rfl) ⟨rfl, Mle.refl _⟩)
    · exact absurd h0 (of_decide_eq_false h)
theorem c_take (F : Fun K "_law_take" "_law_take" s_take f fd) (hm : mg "_law_take" = some (.ref f)) (T : Bt mg) : Cal P w K mg base 2 "_law_take" (spD K PrTake) := by
  have c_take := c_take0 (P := P) (w := w) (base := base) F hm T
  refine cal_of F sc_take hm (fun _ _ _ _ _ _ us hl => match us, hl with | [_, _], _ => rfl) (fun ds M d M' h => ?_) fun cdv A outer s H E ds M d M' hr h => ?_
  · obtain ⟨a, M0, p, many, rfl, _⟩ := h
    rfl
  · obtain ⟨a, M0, p, many, rfl, rfl, ok, h1, h2, rfl, rfl⟩ := h
    show BV _ _ [some (dP a), some (dI many), none, none, none] _ _
    refine bv_cons (sv_if (tv_cmpR op_gt (ev_ixM (ev_var 0 rfl) ev_int Mem.set_same rfl) ev_int rs_I0 (nomark _)) (fun h => ?_) (fun h => ?_))
    · refine bv_cons (sv_set 2 sc_take.nd (ev_op op_mod (ev_intI T.int (ev_ixM (ev_var 0 rfl) ev_int Mem.set_same rfl)) (ev_var 1 rfl) (rs_I h1)) ?_)
      refine bv_cons (sv_setTop (i := 2) (ev_op op_fdiv (ev_ixM (ev_var 0 rfl) ev_int Mem.set_same rfl) (ev_var 1 rfl) (rs_I ⟨h1, h2⟩)) (ev_var 0 rfl) ev_int (by simp) ?_)
      have e : p.take many = (p.rest % many, { p with rest := p.rest / many }) := if_pos (of_decide_eq_true h)
      rw [e]
      exact bv_one (sv_ret (ev_var 2 rfl) ⟨rfl, Mle.refl _⟩)
    · have hr0 : ¬ 0 < p.rest := of_decide_eq_false h
      refine bv_nil ?_
      refine bv_cons (sv_set 3 sc_take.nd ev_int ?_)
      have rest : BV (cxOf CX0 P w K mg base ["pool", "many", "digit", "cell", "mixed"] "_law_take" (defScope s_take) f cdv A outer s H E).nox ((defBody s_take).drop 3) [some (dP a), some (dI many), none, some (dI p.cell), none] (M0.set a p.mo) (Fin (dI (p.take many).1) (M0.set a (p.take many).2.mo)) := by
        refine bv_cons (sv_setTop (i := 1) (ev_op op_add (ev_ixM (ev_var 0 rfl) ev_int Mem.set_same rfl) ev_int rs_I0) (ev_var 0 rfl) ev_int (by simp) ?_)
        refine bv_cons (sv_if (tv_cmpR op_ge (ev_var 3 rfl) (ev_op op_pow ev_int ev_int (rs_I ⟨by decide, by decide, by decide⟩)) rs_I0 (nomark _)) (fun h => ?_) (fun h => ?_))
        · have hc : 1000000000000000000 ≤ p.cell := of_decide_eq_true h
          refine bv_cons (sv_setTop (i := 2) (ev_op op_fdiv (ev_var 3 rfl) ev_int (rs_I ⟨by decide, by decide⟩)) (ev_var 0 rfl) ev_int (by simp) ?_)
          have e : p.take many = (p.cell / 2 % many, { p with at_ := p.at_ + 1, rest := p.cell / 2 / many }) := (if_neg hr0).trans (if_pos hc)
          rw [e]
          refine bv_one (sv_ret (ev_call c_take (hr.mono (by decide)) (av_cons (ev_var 0 rfl) (av_cons (ev_var 1 rfl) av_nil)) ⟨a, M0, { p with at_ := p.at_ + 1, rest := p.cell / 2 }, many, rfl, rfl, ?_, h1, h2, rfl, rfl⟩) ⟨rfl, Mle.refl _⟩)
          show 0 < p.cell / 2
          omega
        · have hc : ¬ 1000000000000000000 ≤ p.cell := of_decide_eq_false h
          refine bv_nil ?_
          refine bv_cons (sv_setTop (i := 3) (ev_op op_mod (ev_intI T.int (ev_op op_add (ev_op op_add (ev_op op_mul (ev_ixM (ev_var 0 rfl) ev_int Mem.set_same rfl) ev_int (rs_I (cm_r (by decide) (by decide)))) (ev_op op_mul (ev_var 3 rfl) ev_int (rs_I (cm_r (by decide) (by decide)))) rs_I0) (ev_op op_mul (ev_ixM (ev_var 0 rfl) ev_int Mem.set_same rfl) ev_int (rs_I (cm_r (by decide) (by decide)))) rs_I0)) ev_int (rs_I (by decide))) (ev_var 0 rfl) ev_int (by simp) ?_)
          have ok2 : 0 ≤ p.seed2 ∧ p.seed2 < 2147483647 := ⟨Int.emod_nonneg _ (by decide), Int.emod_lt_of_pos _ (by decide)⟩
          have e : p.take many = ((p.seed2 * p.seed2 + p.seed2 * 7919 + 104729) % 1000000007 / 3 % many, { p with at_ := p.at_ + 1, seed := p.seed2 }) := (if_neg hr0).trans (if_neg hc)
          rw [e]
          refine bv_cons (sv_set 4 sc_take.nd (ev_op op_mod (ev_intI T.int (ev_op op_add (ev_op op_add (ev_op op_mul (ev_ixM (ev_var 0 rfl) ev_int Mem.set_same rfl) (ev_ixM (ev_var 0 rfl) ev_int Mem.set_same rfl) (rs_I ?_)) (ev_op op_mul (ev_ixM (ev_var 0 rfl) ev_int Mem.set_same rfl) ev_int (rs_I (cm_r (by decide) (by decide)))) rs_I0) ev_int rs_I0)) ev_int (rs_I (by decide))) ?_)
          · refine cm_l (i := p.seed2) ?_ ?_ <;> omega
          exact bv_one (sv_ret (ev_op op_mod (ev_intI T.int (ev_op op_fdiv (ev_var 4 rfl) ev_int (rs_I ⟨by decide, by decide⟩))) (ev_var 1 rfl) (rs_I h1)) ⟨rfl, Mle.refl _⟩)
      refine bv_cons (sv_if (tv_cmpR op_lt (ev_ixM (ev_var 0 rfl) ev_int Mem.set_same rfl) (ev_lenL T.len (ev_ixM (ev_var 0 rfl) ev_int Mem.set_same rfl)) rs_I0 (nomark _)) (fun h => ?_) (fun h => ?_))
      · have hlt : p.at_ < p.cells.length := by
          have q := of_decide_eq_true h
          rw [List.length_map] at q
          exact q
        have hc : atI (p.cells.map dI) p.at_ = some (dI p.cell) := by
          have a0 := ok.a0
          unfold atI ixN Pool.cell
          rw [if_pos a0, List.length_map, if_pos hlt, if_pos hlt]
          show (p.cells.map dI)[p.at_.toNat]? = _
          rw [List.getElem?_map, List.getD_eq_getElem?_getD]
          have hn : p.at_.toNat < p.cells.length := by omega
          rw [List.getElem?_eq_getElem hn]
          rfl
        exact bv_one (sv_set 3 sc_take.nd (ev_ixL (ev_ixM (ev_var 0 rfl) ev_int Mem.set_same rfl) (ev_ixM (ev_var 0 rfl) ev_int Mem.set_same rfl) hc) rest)
      · have hlt : ¬ p.at_ < p.cells.length := by
          have q := of_decide_eq_false h
          rw [List.length_map] at q
          exact q
        have e : p.cell = 0 := if_neg hlt
        rw [e] at rest
        exact bv_nil rest
end
def conv (n : Int) : Int := if 0 ≤ n then 2 * n else -2 * n - 1
def convD : D → D
  | .val (.int n) => dI (conv n)
  | d => d
def Pool.new (ns : List Int) : Pool := ⟨ns.map conv, 0, 0, 17⟩
theorem Pool.new_ok (ns : List Int) : (Pool.new ns).Ok := ⟨by show (0 : Int) ≤ 0; decide, by show (0 : Int) ≤ 17; decide, by show (17 : Int) < 2147483648; decide⟩
def PrPool (ds : List D) (M : Mem) (es : List D) (M' : Mem) : Prop := ∃ ns : List Int, ds = [.lst (ns.map dI)] ∧ ns.length ≤ 1000 ∧ M' = M ∧ Pool.mo (Pool.new ns) = .lst es
section
variable {P : Program} {w : World} {K : PySem.W.Frag} {mg : Str → Option Value} {base : Heap} {f : Addr} {fd : FuncData}
theorem c_pool (F : Fun K "_law_pool" "_law_pool" s_pool f fd) (hm : mg "_law_pool" = some (.ref f)) : Cal P w K mg base 1 "_law_pool" (spN K PrPool) := by
  refine calN_of F sc_pool hm (fun _ _ _ _ _ _ us hl => match us, hl with | [_], _ => rfl) (fun ds M d M' h => ?_) fun cdv A outer s H E ds M es M' hr h => ?_
  · obtain ⟨ns, rfl, _⟩ := h
    rfl
  · obtain ⟨ns, rfl, hl, rfl, he⟩ := h
    show BV _ _ [some (.lst (ns.map dI)), none] _ _
    have e2 : (ns.map dI).map convD = (ns.map conv).map dI := by
      rw [List.map_map, List.map_map]
      rfl
    have e : es = [.lst ((ns.map dI).map convD), dI 0, dI 0, dI 17] := by
      rw [e2]
      injection he with he
      rw [← he]
      rfl
    subst e
    refine bv_one (sv_retNew (en_lst (av_cons (ev_lcM (own := [("cell", 1)]) (g := gName 1) rfl sc_pool.nd (iv_list (ev_var 0 rfl)) (blkOk_by (N := ["script", "cell"]) (sc := defScope s_pool) (by decide +kernel)) (fun _ _ _ _ _ => pg_name (i := 1) sc_pool.nd rfl (Or.inl rfl)) convD ?_ (fun i d h => ?_)) (av_cons ev_int (av_cons ev_int (av_cons ev_int av_nil))))) (fun p hp => ⟨p, rfl, hp, Mle.refl _⟩))
    · rw [List.length_map]
      exact Nat.le_trans hl (by decide)
    · refine ⟨_, tgb_name, fun M2 s H C cl fp => ?_⟩
      rw [List.getElem?_map] at h
      cases q : ns[i]? with
      | none => rw [q] at h; cases h
      | some n =>
        rw [q] at h
        cases h
        refine ev_to (ev_ifB (tv_cmpR op_ge (ev_var 1 rfl) ev_int rs_I0 (nomark _)) (ev_op op_mul ev_int (ev_var 1 rfl) (rs_I (cm_l (by decide) (by decide)))) (ev_op op_sub (ev_op op_mul (ev_un un_neg ev_int ru_neg) (ev_var 1 rfl) (rs_I (cm_l (by decide) (by decide)))) ev_int rs_I0)) ?_
        show (if decide (0 ≤ n) = true then dI (2 * n) else dI (-2 * n - 1)) = dI (if 0 ≤ n then 2 * n else -2 * n - 1)
        by_cases c : 0 ≤ n
        · rw [if_pos (decide_eq_true c), if_pos c]
        · rw [if_neg (by rw [decide_eq_false c]; decide), if_neg c]
end
def PrPick (ds : List D) (M : Mem) (d : D) (M' : Mem) : Prop := ∃ a M0 p b es, ds = [dP a, sq b es] ∧ M = Mem.set M0 a (Pool.mo p) ∧ p.Ok ∧ 0 < es.length ∧ es.length < 1073741824 ∧ es[(p.take es.length).1.toNat]? = some d ∧ M' = M0.set a (p.take es.length).2.mo
def PrIsInt (ds : List D) (M : Mem) (d : D) (M' : Mem) : Prop := ∃ i : Int, ds = [dI i] ∧ d = dB true ∧ M' = M
/-- trees that _law_same goes through -/
def okD : Nat → D → Prop
  | _, .val v => v = .non ∨ (∃ b, v = .bl b) ∨ (∃ i, v = .int i) ∨ ∃ z, v = .str z
  | n + 1, .tup ds => ds.length ≤ 1000000 ∧ ∀ d ∈ ds, okD n d
  | n + 1, .lst ds => ds.length ≤ 1000000 ∧ ∀ d ∈ ds, okD n d
  | 0, _ => False
  | _ + 1, .dic => False
def PrSame (n : Nat) (ds : List D) (M : Mem) (d : D) (M' : Mem) : Prop := ∃ t, ds = [t, t] ∧ okD n t ∧ d = dB true ∧ M' = M
theorem atI_nat {ds : List D} {i : Int} {d : D} {k : Nat} (h : ds[k]? = some d) (e : i = (k : Int)) : atI ds i = some d := by
  subst e
  have hk : k < ds.length := (List.getElem?_eq_some_iff.mp h).1
  unfold atI ixN
  rw [if_pos (by omega), if_pos (by omega)]
  exact h
section
variable {P : Program} {w : World} {K : PySem.W.Frag} {mg : Str → Option Value} {base : Heap} {f : Addr} {fd : FuncData}
theorem c_pick (F : Fun K "_law_pick" "_law_pick" s_pick f fd) (hm : mg "_law_pick" = some (.ref f)) (T : Bt mg) (c_take : Cal P w K mg base 2 "_law_take" (spD K PrTake)) : Cal P w K mg base 3 "_law_pick" (spD K PrPick) := by
  refine cal_of F sc_pick hm (fun _ _ _ _ _ _ us hl => match us, hl with | [_, _], _ => rfl) (fun ds M d M' h => ?_) fun cdv A outer s H E ds M d M' hr h => ?_
  · obtain ⟨a, M0, p, b, es, rfl, _⟩ := h
    rfl
  · obtain ⟨a, M0, p, b, es, rfl, rfl, ok, h1, h2, h3, rfl⟩ := h
    show BV _ _ [some (dP a), some (sq b es)] _ _
    have h1' : (0 : Int) < es.length := by omega
    refine bv_one (sv_ret (ev_ixQ (ev_var 1 rfl) (ev_call c_take (hr.mono (by decide)) (av_cons (ev_var 0 rfl) (av_cons (ev_lenQ T.len (ev_var 1 rfl)) av_nil)) ⟨a, M0, p, es.length, rfl, rfl, ok, h1', by omega, rfl, rfl⟩) (atI_nat h3 ?_)) ⟨rfl, Mle.refl _⟩)
    have := p.take_lo h1'
    omega
theorem c_is_integer (F : Fun K "_law_is_integer" "_law_is_integer" s_is_integer f fd) (hm : mg "_law_is_integer" = some (.ref f)) (T : Bt mg) : Cal P w K mg base 1 "_law_is_integer" (spD K PrIsInt) := by
  refine cal_of F sc_is_integer hm (fun _ _ _ _ _ _ us hl => match us, hl with | [_], _ => rfl) (fun ds M d M' h => ?_) fun cdv A outer s H E ds M d M' hr h => ?_
  · obtain ⟨i, rfl, _⟩ := h
    rfl
  · obtain ⟨i, rfl, rfl, rfl⟩ := h
    show BV _ _ [some (dI i)] _ _
    exact bv_one (sv_ret (ev_andB (ev_isi (r := true) T.isinstance T.int boot_int (ev_var 0 rfl) rfl (by decide +kernel)) (fun h => (ev_one (b := true) (ev_notB (ev_isi (r := false) T.isinstance T.bool boot_bool (ev_var 0 rfl) rfl (by decide +kernel)))))) ⟨rfl, Mle.refl _⟩)
theorem all_true (n : Nat) : ((List.range n).map fun _ => true).all id = true := by
  rw [List.all_map]
  exact List.all_eq_true.mpr fun _ _ => rfl
theorem same_val (T : Bt mg) (c_is_integer : Cal P w K mg base 1 "_law_is_integer" (spD K PrIsInt)) {cdv : Value} {A : Around} {outer : List Env} {s : Shared} {H : Hp} {E : XK} {M' : Mem} {v : V} {n : Nat}
    (hr : Room 1 (A.deeper (envOfC "_law_same" (defScope s_same) s.heap.objs.size f cdv))) (ok : okD n (.val v)) :
    BV (cxOf CX0 P w K mg base ["actual", "due", "k"] "_law_same" (defScope s_same) f cdv A outer s H E).nox (defBody s_same) [some (.val v), some (.val v), none] M' (Fin (dB true) M') := by
  have ok : v = .non ∨ (∃ b, v = .bl b) ∨ (∃ i, v = .int i) ∨ ∃ z, v = .str z := by
    cases n <;> exact ok
  rcases ok with rfl | ⟨b, rfl⟩ | ⟨i, rfl⟩ | ⟨z, rfl⟩
  · refine bv_cons (sv_if (tv_val (ev_isi (r := false) T.isinstance T.tuple boot_tuple (ev_var 1 rfl) rfl (by decide +kernel))) (fun h => nomatch h) (fun _ => bv_nil ?_))
    refine bv_cons (sv_if (tv_val (ev_isi (r := false) T.isinstance T.list boot_list (ev_var 1 rfl) rfl (by decide +kernel))) (fun h => nomatch h) (fun _ => bv_nil ?_))
    refine bv_cons (sv_if (tv_isN (ev_var 1 rfl)) (fun h => ?_) (fun h => nomatch h))
    exact bv_one (sv_ret (ev_isN (ev_var 0 rfl)) ⟨rfl, Mle.refl _⟩)
  · refine bv_cons (sv_if (tv_val (ev_isi (r := false) T.isinstance T.tuple boot_tuple (ev_var 1 rfl) rfl (by decide +kernel))) (fun h => nomatch h) (fun _ => bv_nil ?_))
    refine bv_cons (sv_if (tv_val (ev_isi (r := false) T.isinstance T.list boot_list (ev_var 1 rfl) rfl (by decide +kernel))) (fun h => nomatch h) (fun _ => bv_nil ?_))
    refine bv_cons (sv_if (tv_isN (ev_var 1 rfl)) (fun h => nomatch h) (fun _ => bv_nil ?_))
    refine bv_cons (sv_if (tv_val (ev_isi (r := true) T.isinstance T.bool boot_bool (ev_var 1 rfl) rfl (by decide +kernel))) (fun h => ?_) (fun h => nomatch h))
    refine bv_one (sv_ret (ev_andB (ev_isi (r := true) T.isinstance T.bool boot_bool (ev_var 0 rfl) rfl (by decide +kernel)) (fun h => (ev_one (b := true) (ev_cmpR op_eq (ev_var 0 rfl) (ev_var 1 rfl) rs_eqB (nomark _))))) ⟨?_, Mle.refl _⟩)
    rw [decide_eq_true rfl]
    rfl
  · refine bv_cons (sv_if (tv_val (ev_isi (r := false) T.isinstance T.tuple boot_tuple (ev_var 1 rfl) rfl (by decide +kernel))) (fun h => nomatch h) (fun _ => bv_nil ?_))
    refine bv_cons (sv_if (tv_val (ev_isi (r := false) T.isinstance T.list boot_list (ev_var 1 rfl) rfl (by decide +kernel))) (fun h => nomatch h) (fun _ => bv_nil ?_))
    refine bv_cons (sv_if (tv_isN (ev_var 1 rfl)) (fun h => nomatch h) (fun _ => bv_nil ?_))
    refine bv_cons (sv_if (tv_val (ev_isi (r := false) T.isinstance T.bool boot_bool (ev_var 1 rfl) rfl (by decide +kernel))) (fun h => nomatch h) (fun _ => bv_nil ?_))
    refine bv_cons (sv_if (tv_val (ev_isi (r := false) T.isinstance T.str boot_str (ev_var 1 rfl) rfl (by decide +kernel))) (fun h => nomatch h) (fun _ => bv_nil ?_))
    refine bv_one (sv_ret (ev_andB (p := true) (ev_call c_is_integer (hr.mono (by decide)) (av_cons (ev_var 0 rfl) av_nil) ⟨i, rfl, rfl, rfl⟩) (fun h => (ev_one (b := true) (ev_cmpR op_eq (ev_var 0 rfl) (ev_var 1 rfl) rs_eqI (nomark _))))) ⟨?_, Mle.refl _⟩)
    rw [decide_eq_true rfl]
    rfl
  · refine bv_cons (sv_if (tv_val (ev_isi (r := false) T.isinstance T.tuple boot_tuple (ev_var 1 rfl) rfl (by decide +kernel))) (fun h => nomatch h) (fun _ => bv_nil ?_))
    refine bv_cons (sv_if (tv_val (ev_isi (r := false) T.isinstance T.list boot_list (ev_var 1 rfl) rfl (by decide +kernel))) (fun h => nomatch h) (fun _ => bv_nil ?_))
    refine bv_cons (sv_if (tv_isN (ev_var 1 rfl)) (fun h => nomatch h) (fun _ => bv_nil ?_))
    refine bv_cons (sv_if (tv_val (ev_isi (r := false) T.isinstance T.bool boot_bool (ev_var 1 rfl) rfl (by decide +kernel))) (fun h => nomatch h) (fun _ => bv_nil ?_))
    refine bv_cons (sv_if (tv_val (ev_isi (r := true) T.isinstance T.str boot_str (ev_var 1 rfl) rfl (by decide +kernel))) (fun h => ?_) (fun h => nomatch h))
    refine bv_one (sv_ret (ev_andB (ev_isi (r := true) T.isinstance T.str boot_str (ev_var 0 rfl) rfl (by decide +kernel)) (fun h => (ev_one (b := true) (ev_cmpR op_eq (ev_var 0 rfl) (ev_var 1 rfl) rs_eqS (nomark _))))) ⟨?_, Mle.refl _⟩)
    rw [decide_eq_true rfl]
    rfl
theorem c_same (F : Fun K "_law_same" "_law_same" s_same f fd) (hm : mg "_law_same" = some (.ref f)) (T : Bt mg) (c_is_integer : Cal P w K mg base 1 "_law_is_integer" (spD K PrIsInt)) : ∀ n, Cal P w K mg base (n + 2) "_law_same" (spD K (PrSame n)) := by
  intro n
  induction n with
  | zero =>
    refine cal_of F sc_same hm (fun _ _ _ _ _ _ us hl => match us, hl with | [_, _], _ => rfl) (fun ds M d M' h => ?_) fun cdv A outer s H E ds M d M' hr h => ?_
    · obtain ⟨t, rfl, _⟩ := h
      rfl
    · obtain ⟨t, rfl, ok, rfl, rfl⟩ := h
      show BV _ _ [some t, some t, none] _ _
      cases t with
      | tup ds => exact ok.elim
      | lst ds => exact ok.elim
      | dic => exact ok.elim
      | val v => exact same_val T c_is_integer (hr.mono (by decide)) ok
  | succ n ih =>
    refine cal_of F sc_same hm (fun _ _ _ _ _ _ us hl => match us, hl with | [_, _], _ => rfl) (fun ds M d M' h => ?_) fun cdv A outer s H E ds M d M' hr h => ?_
    · obtain ⟨t, rfl, _⟩ := h
      rfl
    · obtain ⟨t, rfl, ok, rfl, rfl⟩ := h
      show BV _ _ [some t, some t, none] _ _
      have hr0 : Room (n + 2) (A.deeper (envOfC "_law_same" (defScope s_same) s.heap.objs.size f cdv)) := hr
      cases t with
      | tup ds =>
        obtain ⟨hl, hd⟩ := ok
        refine bv_cons (sv_if (tv_val (ev_isi (r := true) T.isinstance T.tuple boot_tuple (ev_var 1 rfl) rfl (by decide +kernel))) (fun _ => ?_) (fun h => nomatch h))
        refine bv_cons (sv_if (PW.pt (wv_or (tv_not (tv_val (ev_isi (r := true) T.isinstance T.tuple boot_tuple (ev_var 0 rfl) rfl (by decide +kernel)))) (fun h => (wv_one_or (tv_cmpR op_ne (ev_lenT T.len (ev_var 0 rfl)) (ev_lenT T.len (ev_var 1 rfl)) rs_neI (nomark _)))))) (fun h => ?_) (fun h => bv_nil ?_))
        · rw [decide_eq_true rfl] at h
          cases h
        · refine bv_one (sv_ret (ev_all (bs := (List.range (rgD 0 ((ds.length : Int)).toNat).length).map fun _ => true) rfl T.all (ev_to (ev_lc (own := [("k", 2)]) (g := gName 2) rfl sc_same.nd (iv_range1 T.range (ev_lenT T.len (ev_var 1 rfl)) (by omega)) (blkOk_by (N := ["actual", "due", "k"]) (sc := defScope s_same) (by decide +kernel)) (fun _ _ _ _ _ => pg_name (i := 2) sc_same.nd rfl (Or.inl rfl)) (fun _ => dB true) (fun _ => M') rfl (fun _ _ h => h) (by rw [rgD_len]; exact Nat.le_trans (by omega : _ ≤ 1000000) (by decide)) (fun i d h => ?_)) (by rw [List.map_map] <;> rfl))) ⟨by rw [all_true], Mle.refl _⟩)
          obtain ⟨hi, rfl⟩ := rgD_get h
          refine ⟨_, tgb_name, fun p acc hp s H C cl fp => ?_⟩
          have hi2 : i < ds.length := by omega
          have hg : ds[i]? = some ds[i] := List.getElem?_eq_getElem hi2
          exact ev_call ih hr0 (av_cons (ev_ixT (ev_var 0 rfl) (ev_var 2 rfl) (atI_nat hg (by omega))) (av_cons (ev_ixT (ev_var 1 rfl) (ev_var 2 rfl) (atI_nat hg (by omega))) av_nil)) ⟨ds[i], rfl, hd _ (List.getElem_mem hi2), rfl, rfl⟩
      | lst ds =>
        obtain ⟨hl, hd⟩ := ok
        refine bv_cons (sv_if (tv_val (ev_isi (r := false) T.isinstance T.tuple boot_tuple (ev_var 1 rfl) rfl (by decide +kernel))) (fun h => nomatch h) (fun _ => bv_nil ?_))
        refine bv_cons (sv_if (tv_val (ev_isi (r := true) T.isinstance T.list boot_list (ev_var 1 rfl) rfl (by decide +kernel))) (fun _ => ?_) (fun h => nomatch h))
        refine bv_cons (sv_if (PW.pt (wv_or (tv_not (tv_val (ev_isi (r := true) T.isinstance T.list boot_list (ev_var 0 rfl) rfl (by decide +kernel)))) (fun h => (wv_one_or (tv_cmpR op_ne (ev_lenL T.len (ev_var 0 rfl)) (ev_lenL T.len (ev_var 1 rfl)) rs_neI (nomark _)))))) (fun h => ?_) (fun h => bv_nil ?_))
        · rw [decide_eq_true rfl] at h
          cases h
        · refine bv_one (sv_ret (ev_all (bs := (List.range (rgD 0 ((ds.length : Int)).toNat).length).map fun _ => true) rfl T.all (ev_to (ev_lc (own := [("k", 2)]) (g := gName 2) rfl sc_same.nd (iv_range1 T.range (ev_lenL T.len (ev_var 1 rfl)) (by omega)) (blkOk_by (N := ["actual", "due", "k"]) (sc := defScope s_same) (by decide +kernel)) (fun _ _ _ _ _ => pg_name (i := 2) sc_same.nd rfl (Or.inl rfl)) (fun _ => dB true) (fun _ => M') rfl (fun _ _ h => h) (by rw [rgD_len]; exact Nat.le_trans (by omega : _ ≤ 1000000) (by decide)) (fun i d h => ?_)) (by rw [List.map_map] <;> rfl))) ⟨by rw [all_true], Mle.refl _⟩)
          obtain ⟨hi, rfl⟩ := rgD_get h
          refine ⟨_, tgb_name, fun p acc hp s H C cl fp => ?_⟩
          have hi2 : i < ds.length := by omega
          have hg : ds[i]? = some ds[i] := List.getElem?_eq_getElem hi2
          exact ev_call ih hr0 (av_cons (ev_ixL (ev_var 0 rfl) (ev_var 2 rfl) (atI_nat hg (by omega))) (av_cons (ev_ixL (ev_var 1 rfl) (ev_var 2 rfl) (atI_nat hg (by omega))) av_nil)) ⟨ds[i], rfl, hd _ (List.getElem_mem hi2), rfl, rfl⟩
      | val v => exact same_val T c_is_integer (hr.mono (by omega)) ok
      | dic => exact ok.elim
end
def Pool.tone1 (p : Pool) : Int × Pool := if ((p.take 15).2.take 12).1 = 0 then ((((p.take 15).2.take 12).2.take 101).1 - 50, (((p.take 15).2.take 12).2.take 101).2) else ((p.take 15).1 - 7, ((p.take 15).2.take 12).2)
def Pool.tone (p : Pool) : Int × Int × Pool := (p.tone1.1, (p.tone1.2.take 7).1 - 4 * p.tone1.1 / 7, (p.tone1.2.take 7).2)
theorem Pool.Ok.tone1 {p : Pool} (ok : p.Ok) : p.tone1.2.Ok := by
  unfold Pool.tone1
  split
  · exact ((ok.take _).take _).take _
  · exact (ok.take _).take _
theorem Pool.Ok.tone {p : Pool} (ok : p.Ok) : p.tone.2.2.Ok := ok.tone1.take _
theorem Pool.tone_bd (p : Pool) : (-50 ≤ p.tone.1 ∧ p.tone.1 ≤ 50) ∧ -100 ≤ p.tone.2.1 ∧ p.tone.2.1 ≤ 100 := by
  have h1 : -50 ≤ p.tone1.1 ∧ p.tone1.1 ≤ 50 := by
    unfold Pool.tone1
    have a1 := p.take_lo (many := 15) (by decide)
    have a2 := p.take_hi (many := 15) (by decide)
    have b1 := ((p.take 15).2.take 12).2.take_lo (many := 101) (by decide)
    have b2 := ((p.take 15).2.take 12).2.take_hi (many := 101) (by decide)
    split
    · exact ⟨by show -50 ≤ _ - 50; omega, by show _ - 50 ≤ (50 : Int); omega⟩
    · exact ⟨by show -50 ≤ _ - 7; omega, by show _ - 7 ≤ (50 : Int); omega⟩
  have c1 := p.tone1.2.take_lo (many := 7) (by decide)
  have c2 := p.tone1.2.take_hi (many := 7) (by decide)
  refine ⟨h1, ?_, ?_⟩
  · show -100 ≤ (p.tone1.2.take 7).1 - 4 * p.tone1.1 / 7
    omega
  · show (p.tone1.2.take 7).1 - 4 * p.tone1.1 / 7 ≤ 100
    omega
def PrTone (ds : List D) (M : Mem) (d : D) (M' : Mem) : Prop := ∃ a M0 p, ds = [dP a] ∧ M = Mem.set M0 a (Pool.mo p) ∧ p.Ok ∧ d = .tup [dI p.tone.1, dI p.tone.2.1] ∧ M' = M0.set a p.tone.2.2.mo
section
variable {P : Program} {w : World} {K : PySem.W.Frag} {mg : Str → Option Value} {base : Heap} {f : Addr} {fd : FuncData}
theorem c_tone (F : Fun K "_law_tone" "_law_tone" s_tone f fd) (hm : mg "_law_tone" = some (.ref f)) (T : Bt mg) (c_take : Cal P w K mg base 2 "_law_take" (spD K PrTake)) : Cal P w K mg base 3 "_law_tone" (spD K PrTone) := by
  refine cal_of F sc_tone hm (fun _ _ _ _ _ _ us hl => match us, hl with | [_], _ => rfl) (fun ds M d M' h => ?_) fun cdv A outer s H E ds M d M' hr h => ?_
  · obtain ⟨a, M0, p, rfl, _⟩ := h
    rfl
  · obtain ⟨a, M0, p, rfl, rfl, ok, rfl, rfl⟩ := h
    show BV _ _ [some (dP a), none] _ _
    have rest : ∀ g q, p.tone1 = (g, q) → q.Ok → BV (cxOf CX0 P w K mg base ["pool", "fifths"] "_law_tone" (defScope s_tone) f cdv A outer s H E).nox ((defBody s_tone).drop 2) [some (dP a), some (dI g)] (M0.set a q.mo) (Fin (.tup [dI p.tone.1, dI p.tone.2.1]) (M0.set a p.tone.2.2.mo)) := fun g q e okq => by
      have e1 : p.tone = (g, (q.take 7).1 - 4 * g / 7, (q.take 7).2) := by unfold Pool.tone; rw [e]
      rw [e1]
      exact bv_one (sv_ret (ev_tup (av_cons (ev_var 1 rfl) (av_cons (ev_op op_sub (ev_call c_take (hr.mono (by decide)) (av_cons (ev_var 0 rfl) (av_cons ev_int av_nil)) ⟨a, M0, q, 7, rfl, rfl, okq, by decide, by decide, rfl, rfl⟩) (ev_intI T.int (ev_op op_fdiv (ev_op op_mul ev_int (ev_var 1 rfl) (rs_I (cm_l (by decide) (by decide)))) ev_int (rs_I ⟨by decide, by decide⟩))) rs_I0) av_nil))) ⟨rfl, Mle.refl _⟩)
    refine bv_cons (sv_set 1 sc_tone.nd (ev_op op_sub (ev_call c_take (hr.mono (by decide)) (av_cons (ev_var 0 rfl) (av_cons ev_int av_nil)) ⟨a, M0, p, 15, rfl, rfl, ok, by decide, by decide, rfl, rfl⟩) ev_int rs_I0) ?_)
    refine bv_cons (sv_if (tv_cmpR op_eq (ev_call c_take (hr.mono (by decide)) (av_cons (ev_var 0 rfl) (av_cons ev_int av_nil)) ⟨a, M0, (p.take 15).2, 12, rfl, rfl, ok.take _, by decide, by decide, rfl, rfl⟩) ev_int rs_eqI (nomark _)) (fun h => ?_) (fun h => ?_))
    · exact bv_one (sv_set 1 sc_tone.nd (ev_op op_sub (ev_call c_take (hr.mono (by decide)) (av_cons (ev_var 0 rfl) (av_cons ev_int av_nil)) ⟨a, M0, ((p.take 15).2.take 12).2, 101, rfl, rfl, (ok.take _).take _, by decide, by decide, rfl, rfl⟩) ev_int rs_I0) (rest _ _ (if_pos (of_decide_eq_true h)) (((ok.take _).take _).take _)))
    · exact bv_nil (rest _ _ (if_neg (of_decide_eq_false h)) ((ok.take _).take _))
end
/-- left, found: after i turns -/
def Pool.ordSt (p : Pool) (many : Nat) : Nat → List Int × List Int × Pool
  | 0 => ([], (List.range many).map fun i => ((i : Nat) : Int), p)
  | i + 1 => ((p.ordSt many i).1 ++ [(p.ordSt many i).2.1.getD ((p.ordSt many i).2.2.take (p.ordSt many i).2.1.length).1.toNat 0], (p.ordSt many i).2.1.eraseIdx ((p.ordSt many i).2.2.take (p.ordSt many i).2.1.length).1.toNat, ((p.ordSt many i).2.2.take (p.ordSt many i).2.1.length).2)
theorem Pool.ordSt_ok {p : Pool} (ok : p.Ok) (many : Nat) : ∀ i, i ≤ many → (p.ordSt many i).2.2.Ok ∧ (p.ordSt many i).2.1.length = many - i ∧ (p.ordSt many i).1.length = i ∧ (∀ k ∈ (p.ordSt many i).2.1, 0 ≤ k ∧ k < many) ∧ ∀ k ∈ (p.ordSt many i).1, 0 ≤ k ∧ k < many
  | 0, _ => ⟨ok, by unfold Pool.ordSt; simp, rfl, fun k hk => by
      unfold Pool.ordSt at hk
      obtain ⟨j, hj, rfl⟩ := List.mem_map.mp hk
      have := List.mem_range.mp hj
      omega, fun k hk => by cases hk⟩
  | i + 1, hi => by
    obtain ⟨h1, h2, h3, h4, h5⟩ := Pool.ordSt_ok ok many i (by omega)
    have hpos : (0 : Int) < (p.ordSt many i).2.1.length := by omega
    have t1 := (p.ordSt many i).2.2.take_lo hpos
    have t2 := (p.ordSt many i).2.2.take_hi hpos
    have hlt : ((p.ordSt many i).2.2.take (p.ordSt many i).2.1.length).1.toNat < (p.ordSt many i).2.1.length := by omega
    refine ⟨h1.take _, ?_, ?_, fun k hk => ?_, fun k hk => ?_⟩
    · show ((p.ordSt many i).2.1.eraseIdx _).length = _
      rw [List.length_eraseIdx_of_lt hlt, h2]
      omega
    · show ((p.ordSt many i).1 ++ [_]).length = _
      rw [List.length_append, h3]
      rfl
    · exact h4 k (List.mem_of_mem_eraseIdx hk)
    · rcases List.mem_append.mp hk with hk | hk
      · exact h5 k hk
      · rw [List.mem_singleton.mp hk, List.getD_eq_getElem?_getD, List.getElem?_eq_getElem hlt]
        exact h4 _ (List.getElem_mem hlt)
def Pool.order (p : Pool) (many : Int) : List Int × Pool := ((p.ordSt many.toNat many.toNat).1, (p.ordSt many.toNat many.toNat).2.2)
theorem Pool.Ok.order {p : Pool} (ok : p.Ok) (many : Int) : (p.order many).2.Ok := (Pool.ordSt_ok ok _ _ (Nat.le_refl _)).1
theorem Pool.order_mem {p : Pool} (ok : p.Ok) {many k : Int} (h : k ∈ (p.order many).1) : 0 ≤ k ∧ k < many := by
  have := (Pool.ordSt_ok ok _ _ (Nat.le_refl _)).2.2.2.2 k h
  omega
theorem Pool.order_len {p : Pool} (ok : p.Ok) (many : Int) : (p.order many).1.length = many.toNat := (Pool.ordSt_ok ok _ _ (Nat.le_refl _)).2.2.1
def PrOrder (ds : List D) (M : Mem) (d : D) (M' : Mem) : Prop := ∃ a M0 p many, ds = [dP a, dI many] ∧ M = Mem.set M0 a (Pool.mo p) ∧ p.Ok ∧ 0 ≤ many ∧ many ≤ 100000 ∧ d = .tup ((p.order many).1.map dI) ∧ M' = M0.set a (p.order many).2.mo
theorem map_erase {α β : Type} (g : α → β) : ∀ (xs : List α) (i : Nat), (xs.map g).eraseIdx i = (xs.eraseIdx i).map g
  | [], _ => rfl
  | _ :: _, 0 => rfl
  | x :: xs, i + 1 => congrArg (g x :: ·) (map_erase g xs i)
section
variable {P : Program} {w : World} {K : PySem.W.Frag} {mg : Str → Option Value} {base : Heap} {f : Addr} {fd : FuncData}
theorem c_order (F : Fun K "_law_order" "_law_order" s_order f fd) (hm : mg "_law_order" = some (.ref f)) (T : Bt mg) (c_take : Cal P w K mg base 2 "_law_take" (spD K PrTake)) : Cal P w K mg base 3 "_law_order" (spD K PrOrder) := by
  refine cal_of F sc_order hm (fun _ _ _ _ _ _ us hl => match us, hl with | [_, _], _ => rfl) (fun ds M d M' h => ?_) fun cdv A outer s H E ds M d M' hr h => ?_
  · obtain ⟨a, M0, p, many, rfl, _⟩ := h
    rfl
  · obtain ⟨a, M0, p, many, rfl, rfl, ok, h0, h1, rfl, rfl⟩ := h
    show BV _ _ [some (dP a), some (dI many), none, none, none] _ _
    refine bv_cons (sv_setN 2 sc_order.nd (en_listRg rfl T.list T.range (ev_var 1 rfl) ⟨h0, by omega⟩) (fun l hl => ?_))
    have hla : l ≠ a := fun q => by
      rw [q, Mem.set_same] at hl
      cases hl
    have hml : ∀ o, (M0.set a o) l = none := fun o => by
      rw [Mem.set_ne hla] at hl ⊢
      exact hl
    refine bv_cons (sv_set 3 sc_order.nd (ev_tup av_nil) ?_)
    refine bv_cons (sv_for rfl (iv_range1 T.range (ev_var 1 rfl) (by omega)) (pg_name (i := 4) sc_order.nd rfl (.inl rfl)) (fun i ρ M => ∃ x, ρ = [some (dP a), some (dI many), some (dP l), some (.tup ((p.ordSt many.toNat i).1.map dI)), x] ∧ M = (M0.set a (p.ordSt many.toNat i).2.2.mo).set l (.lst ((p.ordSt many.toNat i).2.1.map dI)))
      ⟨none, rfl, ?_⟩ (fun i d ρ' M' hd hi => ?_) (fun ρ' M' hi => ?_))
    · show _ = (M0.set a p.mo).set l (.lst (((List.range many.toNat).map fun i => ((i : Nat) : Int)).map dI))
      rw [List.map_map]
      unfold rgD
      refine congrArg _ (congrArg MO.lst (List.map_congr_left fun i _ => ?_))
      show dI (0 + (i : Int)) = dI (i : Int)
      rw [Int.zero_add]
    · obtain ⟨hi2, rfl⟩ := rgD_get hd
      obtain ⟨x, rfl, rfl⟩ := hi
      obtain ⟨k1, k2, k3, k4, k5⟩ := Pool.ordSt_ok ok many.toNat i (by omega)
      have hpos : (0 : Int) < (p.ordSt many.toNat i).2.1.length := by omega
      have t1 := (p.ordSt many.toNat i).2.2.take_lo hpos
      have t2 := (p.ordSt many.toNat i).2.2.take_hi hpos
      have hlt : ((p.ordSt many.toNat i).2.2.take (p.ordSt many.toNat i).2.1.length).1.toNat < (p.ordSt many.toNat i).2.1.length := by omega
      refine ⟨_, tg_name, ?_⟩
      refine bv_one (sv_set 3 sc_order.nd (ev_catT (ev_var 3 rfl) (ev_tup (av_cons (ev_pop (i := ((p.ordSt many.toNat i).2.2.take (p.ordSt many.toNat i).2.1.length).1.toNat) (d := dI ((p.ordSt many.toNat i).2.1.getD ((p.ordSt many.toNat i).2.2.take (p.ordSt many.toNat i).2.1.length).1.toNat 0)) (ds := (p.ordSt many.toNat i).2.1.map dI) (ev_var 2 rfl)
        (ev_to (ev_call c_take (hr.mono (by decide)) (av_cons (ev_var 0 rfl) (av_cons (ev_lenM T.len (ev_var 2 rfl) Mem.set_same) av_nil)) ⟨a, M0.set l (.lst ((p.ordSt many.toNat i).2.1.map dI)), (p.ordSt many.toNat i).2.2, (p.ordSt many.toNat i).2.1.length, by rw [List.length_map], Mem.set_comm hla.symm, k1, hpos, by omega, rfl, rfl⟩) ?_)
        ⟨_, Mem.set_same⟩ (by rw [Mem.set_ne hla, Mem.set_same]) ?_ (hz := ?_)) av_nil)) ?_) ?_)
      · rw [Int.toNat_of_nonneg t1]
      · rw [List.getElem?_map, List.getElem?_eq_getElem hlt, List.getD_eq_getElem?_getD, List.getElem?_eq_getElem hlt]
        rfl
      · rw [List.length_map]
        omega
      · rw [List.length_map, k3]
        exact Nat.le_trans (show i + 1 ≤ 1000000 by omega) (by decide)
      · refine ⟨some (dI (0 + (i : Int))), ?_, ?_⟩
        · have e : (p.ordSt many.toNat (i + 1)).1.map dI = (p.ordSt many.toNat i).1.map dI ++ [dI ((p.ordSt many.toNat i).2.1.getD ((p.ordSt many.toNat i).2.2.take (p.ordSt many.toNat i).2.1.length).1.toNat 0)] := List.map_append
          rw [e]
          rfl
        · rw [Mem.set_comm hla, Mem.set_set, map_erase]
          rfl
    · obtain ⟨x, rfl, rfl⟩ := hi
      rw [rgD_len]
      exact bv_one (sv_ret (ev_var 3 rfl) ⟨rfl, mle_new (Mle.refl _) (hml _)⟩)
end
def edges : List Int := [1000, -1000, 999, -999, 0, 5, 6, -1, -2, 12, -7]
def Pool.far (p : Pool) : Int × Int × Pool :=
  if (p.take 4).1 = 0 then (((p.take 4).2.take 2001).1 - 1000, (((p.take 4).2.take 2001).2.take 2001).1 - 1000, (((p.take 4).2.take 2001).2.take 2001).2)
  else if (p.take 4).1 = 1 then (edges.getD ((p.take 4).2.take 11).1.toNat 0, edges.getD (((p.take 4).2.take 11).2.take 11).1.toNat 0, (((p.take 4).2.take 11).2.take 11).2)
  else (p.take 4).2.tone
theorem Pool.Ok.far {p : Pool} (ok : p.Ok) : p.far.2.2.Ok := by
  unfold Pool.far
  split
  · exact ((ok.take _).take _).take _
  · split
    · exact ((ok.take _).take _).take _
    · exact (ok.take _).tone
theorem edges_bd : ∀ n, n < 11 → -1000 ≤ edges.getD n 0 ∧ edges.getD n 0 ≤ 1000 := by decide
theorem Pool.far_bd (p : Pool) : (-1000 ≤ p.far.1 ∧ p.far.1 ≤ 1000) ∧ -1000 ≤ p.far.2.1 ∧ p.far.2.1 ≤ 1000 := by
  unfold Pool.far
  split
  · have a1 := (p.take 4).2.take_lo (many := 2001) (by decide)
    have a2 := (p.take 4).2.take_hi (many := 2001) (by decide)
    have b1 := ((p.take 4).2.take 2001).2.take_lo (many := 2001) (by decide)
    have b2 := ((p.take 4).2.take 2001).2.take_hi (many := 2001) (by decide)
    refine ⟨⟨?_, ?_⟩, ?_, ?_⟩ <;> simp only <;> omega
  · split
    · have a1 := (p.take 4).2.take_lo (many := 11) (by decide)
      have a2 := (p.take 4).2.take_hi (many := 11) (by decide)
      have b1 := ((p.take 4).2.take 11).2.take_lo (many := 11) (by decide)
      have b2 := ((p.take 4).2.take 11).2.take_hi (many := 11) (by decide)
      exact ⟨edges_bd _ (by omega), edges_bd _ (by omega)⟩
    · have := (p.take 4).2.tone_bd
      omega
def PrFar (ds : List D) (M : Mem) (d : D) (M' : Mem) : Prop := ∃ a M0 p, ds = [dP a] ∧ M = Mem.set M0 a (Pool.mo p) ∧ p.Ok ∧ d = .tup [dI p.far.1, dI p.far.2.1] ∧ M' = M0.set a p.far.2.2.mo
section
variable {P : Program} {w : World} {K : PySem.W.Frag} {mg : Str → Option Value} {base : Heap} {f : Addr} {fd : FuncData}
theorem edges_get (p : Pool) : (edges.map dI)[(p.take ((edges.map dI).length : Nat)).1.toNat]? = some (dI (edges.getD (p.take 11).1.toNat 0)) := by
  have a1 := p.take_lo (many := 11) (by decide)
  have a2 := p.take_hi (many := 11) (by decide)
  show (edges.map dI)[(p.take 11).1.toNat]? = _
  have h : (p.take 11).1.toNat < edges.length := by show _ < 11; omega
  rw [List.getElem?_map, List.getElem?_eq_getElem h, List.getD_eq_getElem?_getD, List.getElem?_eq_getElem h]
  rfl
theorem c_far_pair (F : Fun K "_law_far_pair" "_law_far_pair" s_far_pair f fd) (hm : mg "_law_far_pair" = some (.ref f)) (c_take : Cal P w K mg base 2 "_law_take" (spD K PrTake)) (c_pick : Cal P w K mg base 3 "_law_pick" (spD K PrPick)) (c_tone : Cal P w K mg base 3 "_law_tone" (spD K PrTone)) : Cal P w K mg base 4 "_law_far_pair" (spD K PrFar) := by
  refine cal_of F sc_far_pair hm (fun _ _ _ _ _ _ us hl => match us, hl with | [_], _ => rfl) (fun ds M d M' h => ?_) fun cdv A outer s H E ds M d M' hr h => ?_
  · obtain ⟨a, M0, p, rfl, _⟩ := h
    rfl
  · obtain ⟨a, M0, p, rfl, rfl, ok, rfl, rfl⟩ := h
    show BV _ _ [some (dP a), none, none] _ _
    refine bv_cons (sv_set 1 sc_far_pair.nd (ev_call c_take (hr.mono (by decide)) (av_cons (ev_var 0 rfl) (av_cons ev_int av_nil)) ⟨a, M0, p, 4, rfl, rfl, ok, by decide, by decide, rfl, rfl⟩) ?_)
    refine bv_cons (sv_if (tv_cmpR op_eq (ev_var 1 rfl) ev_int rs_eqI (nomark _)) (fun h => ?_) (fun h => ?_))
    · have e : p.far = _ := if_pos (of_decide_eq_true h)
      rw [e]
      exact bv_one (sv_ret (ev_tup (av_cons (ev_op op_sub (ev_call c_take (hr.mono (by decide)) (av_cons (ev_var 0 rfl) (av_cons ev_int av_nil)) ⟨a, M0, _, 2001, rfl, rfl, ok.take _, by decide, by decide, rfl, rfl⟩) ev_int rs_I0) (av_cons (ev_op op_sub (ev_call c_take (hr.mono (by decide)) (av_cons (ev_var 0 rfl) (av_cons ev_int av_nil)) ⟨a, M0, _, 2001, rfl, rfl, (ok.take _).take _, by decide, by decide, rfl, rfl⟩) ev_int rs_I0) av_nil))) ⟨rfl, Mle.refl _⟩)
    · refine bv_nil ?_
      refine bv_cons (sv_if (tv_cmpR op_eq (ev_var 1 rfl) ev_int rs_eqI (nomark _)) (fun h2 => ?_) (fun h2 => ?_))
      · have e : p.far = _ := (if_neg (of_decide_eq_false h)).trans (if_pos (of_decide_eq_true h2))
        rw [e]
        refine bv_cons (sv_set 2 sc_far_pair.nd (d := .lst (edges.map dI)) (ev_lst (av_cons ev_int (av_cons (ev_un un_neg ev_int ru_neg) (av_cons ev_int (av_cons (ev_un un_neg ev_int ru_neg) (av_cons ev_int (av_cons ev_int (av_cons ev_int (av_cons (ev_un un_neg ev_int ru_neg) (av_cons (ev_un un_neg ev_int ru_neg) (av_cons ev_int (av_cons (ev_un un_neg ev_int ru_neg) av_nil)))))))))))) ?_)
        exact bv_one (sv_ret (ev_tup (av_cons (ev_call c_pick (hr.mono (by decide)) (av_cons (ev_var 0 rfl) (av_cons (ev_var 2 rfl) av_nil)) ⟨a, M0, _, true, edges.map dI, rfl, rfl, ok.take _, by decide, by decide, edges_get _, rfl⟩) (av_cons (ev_call c_pick (hr.mono (by decide)) (av_cons (ev_var 0 rfl) (av_cons (ev_var 2 rfl) av_nil)) ⟨a, M0, _, true, edges.map dI, rfl, rfl, (ok.take _).take _, by decide, by decide, edges_get _, rfl⟩) av_nil))) ⟨rfl, Mle.refl _⟩)
      · have e : p.far = _ := (if_neg (of_decide_eq_false h)).trans (if_neg (of_decide_eq_false h2))
        rw [e]
        exact bv_nil (bv_one (sv_ret (ev_call c_tone (hr.mono (by decide)) (av_cons (ev_var 0 rfl) av_nil) ⟨a, M0, _, rfl, rfl, ok.take _, rfl, rfl⟩) ⟨rfl, Mle.refl _⟩))
end
/-! frames of the memory: but for what stands at a, what stood stands -/
def Fr1 (a : Addr) (M M' : Mem) : Prop := ∀ b, b ≠ a → ∀ o, M b = some o → M' b = some o
theorem Fr1.refl (a : Addr) (M : Mem) : Fr1 a M M := fun _ _ _ h => h
theorem Fr1.trans {a : Addr} {M M1 M2 : Mem} (h : Fr1 a M M1) (k : Fr1 a M1 M2) : Fr1 a M M2 := fun b n o e => k b n o (h b n o e)
theorem Fr1.set {a : Addr} {M M1 : Mem} {o : MO} (h : Fr1 a M M1) : Fr1 a M (M1.set a o) := fun b n u e => by rw [Mem.set_ne n]; exact h b n u e
/-- what is new may change -/
theorem Fr1.new {a l : Addr} {M M1 : Mem} {o : MO} (h : Fr1 a M M1) (hl : M l = none) : Fr1 a M (M1.set l o) := fun b n u e => by
  rw [Mem.set_ne (fun q => by rw [q, hl] at e; cases e)]
  exact h b n u e
theorem Fr1.up {a : Addr} {M M1 M2 : Mem} (h : Fr1 a M M1) (k : Mle M1 M2) : Fr1 a M M2 := fun b n u e => k b u (h b n u e)
theorem mem_eta {M : Mem} {a : Addr} {o : MO} (h : M a = some o) : M.set a o = M := by
  funext b
  unfold Mem.set
  split
  · rename_i e
    rw [e, h]
  · rfl
theorem Fr1.fin {a : Addr} {M M1 : Mem} {o : MO} (h : Fr1 a M M1) (e : M1 a = some o) : Mle (M.set a o) M1 := fun b u q => by
  by_cases n : b = a
  · subst n
    rw [Mem.set_same] at q
    cases q
    exact e
  · rw [Mem.set_ne n] at q
    exact h b n u q
section
variable {X : Cx} {ρ : Sl} {M : Mem} {st : Stmt} {Ψ : Out → Prop}
/-- behind a statement with several ways: J holds on each -/
def joinR (J : Sl → Mem → Prop) (Ψ : Out → Prop) : Out → Prop
  | .nx ρ M => J ρ M
  | .ct ρ M => Ψ (.ct ρ M)
  | .bk ρ M => Ψ (.bk ρ M)
  | .ret d M => Ψ (.ret d M)
theorem sv_join (J : Sl → Mem → Prop) (h : SV X st ρ M (joinR J Ψ)) (k : ∀ ρ M, J ρ M → Ψ (.nx ρ M)) : SV X st ρ M Ψ := sv_to h fun o ho => by
  cases o with
  | nx ρ M => exact k ρ M ho
  | ct ρ M => exact ho
  | bk ρ M => exact ho
  | ret d M => exact ho
end
theorem hu64 {k : Nat} {A : Around} (h : Room k A) : A.units + 64 < cLine := by have := h.un; omega
/-! draws -/
/-- a def that draws from the pool at a: good answers g with their trees -/
def Draw (M : Mem) (a : Addr) (Φ : D → Mem → Prop) (d : D) : Prop := ∀ p' : Pool, p'.Ok → ∀ M', Fr1 a M M' → M' a = some p'.mo → Φ d M'
def R_take (ds : List D) (M : Mem) (Φ : D → Mem → Prop) : Prop := ∃ a p many, ds = [dP a, dI many] ∧ M a = some (Pool.mo p) ∧ p.Ok ∧ 0 < many ∧ many < 1073741824 ∧ ∀ n : Int, 0 ≤ n → n < many → Draw M a Φ (dI n)
def R_pick (ds : List D) (M : Mem) (Φ : D → Mem → Prop) : Prop := ∃ a p b es, ds = [dP a, sq b es] ∧ M a = some (Pool.mo p) ∧ p.Ok ∧ 0 < es.length ∧ es.length < 1073741824 ∧ ∀ d ∈ es, Draw M a Φ d
theorem Cal.spW_of {P : Program} {w : World} {K : PySem.W.Frag} {mg : Str → Option Value} {base : Heap} {k : Nat} {x : Str} {Pr : List D → Mem → D → Mem → Prop} {R : List D → Mem → (D → Mem → Prop) → Prop} (C : Cal P w K mg base k x (spD K Pr)) (h : ∀ ds M Φ, R ds M Φ → ∃ d M', Pr ds M d M' ∧ Φ d M') : Cal P w K mg base k x (spW K R) :=
  C.imp fun vs H Q E ⟨G, ds, M, Φ, sh, r, q, k⟩ =>
    let ⟨d, M', p, f⟩ := h ds M Φ q
    ⟨G, ds, M, d, M', sh, r, p, fun v G' H' g sh' r' => k v G' H' d M' f g sh' r'⟩
section
variable {P : Program} {w : World} {K : PySem.W.Frag} {mg : Str → Option Value} {base : Heap} {f : Addr} {fd : FuncData}
theorem w_take (C : Cal P w K mg base 2 "_law_take" (spD K PrTake)) : Cal P w K mg base 2 "_law_take" (spW K R_take) := C.spW_of fun ds M Φ ⟨a, p, many, e, hA, ok, h0, h1, hΦ⟩ =>
  ⟨_, _, ⟨a, M, p, many, e, (mem_eta hA).symm, ok, h0, h1, rfl, rfl⟩, hΦ _ (p.take_lo h0) (p.take_hi h0) _ (ok.take many) _ (Fr1.refl _ _).set Mem.set_same⟩
theorem w_pick (C : Cal P w K mg base 3 "_law_pick" (spD K PrPick)) : Cal P w K mg base 3 "_law_pick" (spW K R_pick) := C.spW_of fun ds M Φ ⟨a, p, b, es, e, hA, ok, h0, h1, hΦ⟩ => by
  have h0' : (0 : Int) < es.length := by omega
  have t1 := p.take_lo h0'
  have t2 := p.take_hi h0'
  have hlt : (p.take es.length).1.toNat < es.length := by omega
  exact ⟨_, _, ⟨a, M, p, b, es, e, (mem_eta hA).symm, ok, h0, h1, List.getElem?_eq_getElem hlt, rfl⟩, hΦ _ (List.getElem_mem hlt) _ (ok.take _) _ (Fr1.refl _ _).set Mem.set_same⟩
end
/-! the list that a comprehension makes, out of the memory -/
def Mem.del (M : Mem) (p : Addr) : Mem := fun b => if b = p then none else M b
theorem Mem.del_same {M : Mem} {p : Addr} : M.del p p = none := if_pos rfl
theorem Mem.del_ne {M : Mem} {p b : Addr} (h : b ≠ p) : M.del p b = M b := if_neg h
theorem mem_ne {M : Mem} {a p : Addr} {o : MO} (h : M a = some o) (hp : M p = none) : a ≠ p := fun q => by rw [q, hp] at h; cases h
theorem Mem.set_at {M : Mem} {a p : Addr} {o u : MO} (h : M a = some o) (hp : M p = none) : M.set p u a = some o := by rw [Mem.set_ne (mem_ne h hp)]; exact h
/-- behind an element: the list is as it was -/
theorem lc_back {a p : Addr} {M M' : Mem} {o u : MO} (h : M a = some o) (hp : M p = none) (fr : Fr1 a (M.set p u) M') : M' = (M'.del p).set p u ∧ M'.del p p = none ∧ Fr1 a M (M'.del p) ∧ ∀ q, M' a = some q → M'.del p a = some q := by
  have np : p ≠ a := (mem_ne h hp).symm
  have e : M' p = some u := fr p np u Mem.set_same
  refine ⟨?_, Mem.del_same, fun b n v q => ?_, fun q e => ?_⟩
  · funext b
    unfold Mem.set Mem.del
    by_cases hb : b = p
    · rw [if_pos hb, hb]
      exact e
    · rw [if_neg hb, if_neg hb]
  · have nb : b ≠ p := mem_ne q hp
    rw [Mem.del_ne nb]
    exact fr b n v (by rw [Mem.set_ne nb]; exact q)
  · rw [Mem.del_ne (mem_ne h hp)]
    exact e
def R_tone (ds : List D) (M : Mem) (Φ : D → Mem → Prop) : Prop := ∃ a p, ds = [dP a] ∧ M a = some (Pool.mo p) ∧ p.Ok ∧ ∀ f o : Int, (-50 ≤ f ∧ f ≤ 50) → (-100 ≤ o ∧ o ≤ 100) → Draw M a Φ (.tup [dI f, dI o])
theorem w_tone {P : Program} {w : World} {K : PySem.W.Frag} {mg : Str → Option Value} {base : Heap} (C : Cal P w K mg base 3 "_law_tone" (spD K PrTone)) : Cal P w K mg base 3 "_law_tone" (spW K R_tone) := C.spW_of fun ds M Φ ⟨a, p, e, hA, ok, hΦ⟩ =>
  ⟨_, _, ⟨a, M, p, e, (mem_eta hA).symm, ok, rfl, rfl⟩, hΦ _ _ p.tone_bd.1 p.tone_bd.2 _ ok.tone _ (Fr1.refl _ _).set Mem.set_same⟩
def R_order (ds : List D) (M : Mem) (Φ : D → Mem → Prop) : Prop := ∃ a p many, ds = [dP a, dI many] ∧ M a = some (Pool.mo p) ∧ p.Ok ∧ 0 ≤ many ∧ many ≤ 100000 ∧ ∀ l : List Int, l.length = many.toNat → (∀ k ∈ l, 0 ≤ k ∧ k < many) → Draw M a Φ (.tup (l.map dI))
theorem w_order {P : Program} {w : World} {K : PySem.W.Frag} {mg : Str → Option Value} {base : Heap} (C : Cal P w K mg base 3 "_law_order" (spD K PrOrder)) : Cal P w K mg base 3 "_law_order" (spW K R_order) := C.spW_of fun ds M Φ ⟨a, p, many, e, hA, ok, h0, h1, hΦ⟩ =>
  ⟨_, _, ⟨a, M, p, many, e, (mem_eta hA).symm, ok, h0, h1, rfl, rfl⟩, hΦ _ (Pool.order_len ok many) (fun k hk => Pool.order_mem ok hk) _ (ok.order many) _ (Fr1.refl _ _).set Mem.set_same⟩
/-! great ints -/
def CDivS (_ j : Int) : Prop := j ≠ 0 ∧ j.natAbs.log2 < 9000
def Bd (k : Nat) (i : Int) : Prop := i.natAbs < 2 ^ k
theorem Bd.mono {k l : Nat} {i : Int} (h : Bd k i) (e : k ≤ l) : Bd l i := Nat.lt_of_lt_of_le h (Nat.pow_le_pow_right (by decide) e)
theorem Bd.mul {k l : Nat} {i j : Int} (h : Bd k i) (e : Bd l j) : Bd (k + l) (i * j) := wide_lt h e
theorem Bd.add {k : Nat} {i j : Int} (h : Bd k i) (e : Bd k j) : Bd (k + 1) (i + j) := by
  unfold Bd at *
  rw [Nat.pow_succ]
  omega
theorem Bd.sub {k : Nat} {i j : Int} (h : Bd k i) (e : Bd k j) : Bd (k + 1) (i - j) := by
  unfold Bd at *
  rw [Nat.pow_succ]
  omega
theorem Bd.neg {k : Nat} {i : Int} (h : Bd k i) : Bd k (-i) := by
  unfold Bd at *
  omega
theorem Bd.le {k : Nat} {i j : Int} (h : Bd k i) (e : j.natAbs ≤ i.natAbs) : Bd k j := Nat.lt_of_le_of_lt e h
theorem Bd.of {k : Nat} {i m : Int} (h : -m ≤ i ∧ i ≤ m) (e : m.natAbs < 2 ^ k) : Bd k i := by
  unfold Bd
  omega
theorem Bd.cm {k l : Nat} {i j : Int} (h : Bd k i) (e : Bd l j) (hk : 0 < k := by decide) (hl : 0 < l := by decide) (hs : k + l ≤ 1000000 := by decide) : CMulW i j := wide_mul h e hk hl hs
theorem Bd.cd {l : Nat} {i j : Int} (e : Bd l j) (h : 0 < j) (hl : 0 < l := by decide) (hs : l ≤ 9000 := by decide) : CDivW i j := wide_div h e hl hs
section
variable {X : Cx} {ρ : Sl} {M M1 M2 : Mem} {a b e : Expr} {es : List Expr} {pos : Pos}
theorem op_fdivS : OpR X (binaryOp .FloorDiv) (rI CDivS fun i j => .int (i.fdiv j)) := opI fun _ _ _ _ _ _ _ hc q => floordiv_int hc.1 q (.inl (PyProof.noPylong_of_log2 hc.2))
/-- f(x, y), f a module's name of a built-in function of two ints -/
theorem ev_bf2 {x : Str} {id : String} {p : Pos} {i j : Int} {z : V} {r : List V → Hp → VK → Prop} (hc : CallR X (.builtin id) r) (hm : X.mg x = some (.builtin id)) (ha : EV X a ρ M (dI i) M1) (hb : EV X b ρ M1 (dI j) M2) (hr : ∀ H Q, Q z H → r [.int i, .int j] H Q) (hg : Gl X x := by rfl)
    (hd : (x == ("__debug__" : Str)) = false := by decide) (hst : starEach [a, b] X.env = (false, eval a X.env) :: starEach [b] X.env := by rfl) (hst2 : starEach [b] X.env = [(false, eval b X.env)] := by rfl) (hpl : (backTo pos (starEach [b] X.env)).any (·.1) = false := by rfl) : EV X (.Call (.Name x p) [a, b] [] pos) ρ M (.val z) M2 :=
  (pe_callBfun hc hg hm (av_cons ha (av_cons hb av_nil hst2) hst) (hdb := hd) (he := hst) (hpl := hpl)).mono fun σ H Q ⟨G, sa, k⟩ => ⟨G, sa, fun vs G1 H1 g1 sh1 r1 => by
    rw [RepL.of_vals (xs := [.int i, .int j]) r1]
    exact hr _ _ (k _ G1 H1 g1 sh1 (.val _))⟩
def rLcm : List V → Hp → VK → Prop := fun vs H Q => ∃ a b : Int, vs = [.int a, .int b] ∧ (a.natAbs < 2 ^ 64 ∧ b.natAbs < 2 ^ 64) ∧ Q (.int ((Nat.lcm a.natAbs b.natAbs : Nat) : Int)) H
theorem cr_lcm : CallR X (.builtin "math.lcm") rLcm := by
  intro pins s σ H vs us Q I r h
  obtain ⟨a, b, rfl, ⟨ha, hb⟩, q⟩ := h
  obtain ⟨t, u, rfl⟩ := Vals.int2 r
  have e : (Nat.lcm 1 a.natAbs).lcm b.natAbs = Nat.lcm a.natAbs b.natAbs := by rw [Nat.lcm_one_left]
  have hz : Nat.lcm a.natAbs b.natAbs < 2 ^ 128 := Nat.lt_of_le_of_lt (show a.natAbs * b.natAbs / _ ≤ _ from Nat.div_le_self _ _) (Nat.lt_of_lt_of_eq (Nat.mul_lt_mul'' ha hb) (by decide))
  refine PySem.W.mg_lcm ha hb ?_ ⟨.int _, H, I.tok _, ⟨_, rfl⟩, ?_⟩
  · rw [e, Int.natAbs_natCast]
    exact Nat.lt_trans (PySem.Flt.log2_lt_of (by decide) hz) (by decide)
  · rw [e]
    exact q
end
/-! ### fractions in lowest terms -/
def gz (n d : Int) : Int := ((Nat.gcd n.natAbs d.natAbs : Nat) : Int)
def low (n d : Int) : Int × Int := (n / gz n d, d / gz n d)
def frD (p : Int × Int) : D := .tup [dI p.1, dI p.2]
def frac (n d : Int) : Int × Int := (n.fdiv (if d < 0 then -gz n d else gz n d), d.fdiv (if d < 0 then -gz n d else gz n d))
theorem gz_pos {n d : Int} (h : d ≠ 0) : 0 < gz n d := by
  have := Nat.gcd_pos_of_pos_right n.natAbs (Int.natAbs_pos.mpr h)
  unfold gz
  omega
theorem gz_dl (n d : Int) : gz n d ∣ n := by
  unfold gz
  exact Int.ofNat_dvd_left.mpr (Nat.gcd_dvd_left _ _)
theorem gz_dr (n d : Int) : gz n d ∣ d := by
  unfold gz
  exact Int.ofNat_dvd_left.mpr (Nat.gcd_dvd_right _ _)
theorem gz_neg (n d : Int) : gz (-n) (-d) = gz n d := by
  unfold gz
  rw [Int.natAbs_neg, Int.natAbs_neg]
theorem fdiv_neg_ex {n g : Int} (hg : 0 < g) (h : g ∣ n) : n.fdiv (-g) = -n / g := by
  obtain ⟨q, rfl⟩ := h
  have e1 : g * q = -g * -q := by rw [Int.neg_mul_neg]
  have e2 : -(g * q) = g * -q := by rw [Int.mul_neg]
  rw [e2, Int.mul_ediv_cancel_left _ (by omega), e1, Int.mul_fdiv_cancel_left _ (by omega)]
theorem frac_pos {n d : Int} (h : 0 < d) : frac n d = low n d := by
  have g := gz_pos (n := n) (show d ≠ 0 by omega)
  unfold frac low
  rw [if_neg (by omega), Int.fdiv_eq_ediv_of_nonneg _ (by omega), Int.fdiv_eq_ediv_of_nonneg _ (by omega)]
theorem frac_neg {n d : Int} (h : d < 0) : frac n d = low (-n) (-d) := by
  have g := gz_pos (n := n) (show d ≠ 0 by omega)
  unfold frac low
  rw [if_pos h, gz_neg, fdiv_neg_ex g (gz_dl n d), fdiv_neg_ex g (gz_dr n d)]
theorem gz_mul {n d c : Int} (hc : 0 < c) : gz (n * c) (d * c) = gz n d * c := by
  unfold gz
  rw [Int.natAbs_mul, Int.natAbs_mul, Nat.gcd_mul_right, Int.natCast_mul]
  congr 1
  omega
theorem low_mul {n d c : Int} (hd : d ≠ 0) (hc : 0 < c) : low (n * c) (d * c) = low n d := by
  have g := gz_pos (n := n) hd
  unfold low
  rw [gz_mul hc, Int.mul_ediv_mul_of_pos_left _ _ hc, Int.mul_ediv_mul_of_pos_left _ _ hc]
theorem low_cross {n d n' d' : Int} (hd : 0 < d) (hd' : 0 < d') (h : n * d' = n' * d) : low n d = low n' d' := by
  rw [← low_mul (show d ≠ 0 by omega) hd', ← low_mul (n := n') (show d' ≠ 0 by omega) hd, h, Int.mul_comm d d']
theorem low_den {n d : Int} (hd : 0 < d) : 0 < (low n d).2 := by
  have g := gz_pos (n := n) (show d ≠ 0 by omega)
  exact Int.ediv_pos_of_pos_of_dvd hd (by omega) (gz_dr n d)
theorem low_eq {n d : Int} (hd : 0 < d) : (low n d).1 * d = n * (low n d).2 := by
  have g := gz_pos (n := n) (show d ≠ 0 by omega)
  obtain ⟨a, ha⟩ := gz_dl n d
  obtain ⟨b, hb⟩ := gz_dr n d
  show n / gz n d * d = n * (d / gz n d)
  have e1 : n / gz n d = a := by
    rw [Int.ediv_eq_iff_eq_mul_right (by omega) (gz_dl n d)]
    exact ha
  have e2 : d / gz n d = b := by
    rw [Int.ediv_eq_iff_eq_mul_right (by omega) (gz_dr n d)]
    exact hb
  rw [e1, e2]
  calc a * d = a * (gz n d * b) := by rw [← hb]
    _ = gz n d * a * b := by rw [← Int.mul_assoc, Int.mul_comm a]
    _ = n * b := by rw [← ha]
theorem low_bd1 {n d : Int} {k : Nat} (h : Bd k n) : Bd k (low n d).1 := h.le (by
  show (n / gz n d).natAbs ≤ n.natAbs
  exact Int.natAbs_ediv_le_natAbs _ _)
theorem low_bd2 {n d : Int} {k : Nat} (h : Bd k d) : Bd k (low n d).2 := h.le (by
  show (d / gz n d).natAbs ≤ d.natAbs
  exact Int.natAbs_ediv_le_natAbs _ _)
theorem low_num {n d : Int} (hn : 0 < n) (hd : 0 < d) : 0 < (low n d).1 := by
  have g := gz_pos (n := n) (show d ≠ 0 by omega)
  exact Int.ediv_pos_of_pos_of_dvd hn (by omega) (gz_dl n d)
theorem low_dvd (n d : Int) : (low n d).2 ∣ d := by
  obtain ⟨b, hb⟩ := gz_dr n d
  by_cases h : gz n d = 0
  · rw [hb, h, Int.zero_mul]
    exact ⟨0, by rw [Int.mul_zero]⟩
  · refine ⟨gz n d, ?_⟩
    show d = d / gz n d * gz n d
    rw [Int.ediv_mul_cancel (gz_dr n d)]
/-! Euclid's steps -/
structure Euc (P g i x y : Nat) : Prop where
  gc : Nat.gcd x y = g
  pr : x * y * 2 ^ (i - 1) ≤ P
  le : 1 ≤ i → y ≤ x
theorem Euc.step {P g i x y : Nat} (h : Euc P g i x y) (hy : 0 < y) : Euc P g (i + 1) y (x % y) := by
  refine ⟨?_, ?_, fun _ => Nat.le_of_lt (Nat.mod_lt _ hy)⟩
  · rw [← h.gc, Nat.gcd_comm x y, Nat.gcd_rec y x, Nat.gcd_comm]
  · rw [Nat.add_sub_cancel]
    cases i with
    | zero =>
      refine Nat.le_trans ?_ h.pr
      rw [Nat.mul_comm x y]
      exact Nat.mul_le_mul_right _ (Nat.mul_le_mul_left _ (Nat.mod_le _ _))
    | succ i =>
      have hle := h.le (by omega)
      have key : y * (x % y) * 2 ≤ x * y := by
        have r1 := Nat.mod_lt x hy
        have r2 := Nat.div_add_mod x y
        have q1 : 1 ≤ x / y := (Nat.le_div_iff_mul_le hy).mpr (by omega)
        have q2 : y * 1 ≤ y * (x / y) := Nat.mul_le_mul_left _ q1
        have : x % y * 2 ≤ x := by omega
        rw [Nat.mul_assoc, Nat.mul_comm x y]
        exact Nat.mul_le_mul_left _ this
      have p := h.pr
      rw [Nat.add_sub_cancel] at p
      calc y * (x % y) * 2 ^ (i + 1) = y * (x % y) * 2 * 2 ^ i := by rw [Nat.pow_succ, Nat.mul_comm (2 ^ i) 2, Nat.mul_assoc (y * (x % y)) 2]
        _ ≤ x * y * 2 ^ i := Nat.mul_le_mul_right _ key
        _ ≤ P := p
theorem Euc.end_ {P g k x y : Nat} (h : Euc P g (k + 1) x y) (hP : P < 2 ^ k) : y = 0 := by
  have p := h.pr
  rw [Nat.add_sub_cancel] at p
  have l := h.le (by omega)
  rcases Nat.eq_zero_or_pos y with e | e
  · exact e
  · exfalso
    have : 1 ≤ x * y := Nat.mul_pos (by omega) e
    have := Nat.mul_le_mul_right (2 ^ k) this
    omega
theorem mod_int {x y : Nat} : (x : Int) - (y : Int) * ((x : Int) / (y : Int)) = ((x % y : Nat) : Int) := by
  rw [Int.natCast_emod, Int.emod_def]
def PrLow (ds : List D) (M : Mem) (d : D) (M' : Mem) : Prop := ∃ n k : Int, ds = [dI n, dI k] ∧ 0 < k ∧ Bd 900 n ∧ Bd 900 k ∧ d = frD (low n k) ∧ M' = M
section
variable {P : Program} {w : World} {K : PySem.W.Frag} {mg : Str → Option Value} {base : Heap} {f : Addr} {fd : FuncData}
theorem c_lowest (F : Fun K "_law_lowest" "_law_lowest" s_lowest f fd) (hm : mg "_law_lowest" = some (.ref f)) (T : Bt mg) (ha : mg "abs" = none) : Cal P w K mg base 1 "_law_lowest" (spD K PrLow) := by
  refine cal_of F sc_lowest hm (fun _ _ _ _ _ _ us hl => match us, hl with | [_, _], _ => rfl) (fun ds M d M' h => ?_) fun cdv A outer s H E ds M d M' hr h => ?_
  · obtain ⟨n, k, rfl, _⟩ := h
    rfl
  · obtain ⟨n, k, rfl, h0, hn, hk, rfl, rfl⟩ := h
    show BV _ _ [some (dI n), some (dI k), none, none, none] _ _
    refine bv_cons (sw_par 2 3 rfl sc_lowest.nd (aw_av (av_cons (ev_abs ha (ev_var 0 rfl)) (av_cons (ev_var 1 rfl) av_nil)) ⟨_, _, rfl, ?_⟩))
    have eabs : (if n < 0 then -n else n) = ((n.natAbs : Nat) : Int) := by split <;> omega
    have ek : k = ((k.natAbs : Nat) : Int) := by omega
    rw [eabs]
    refine bv_cons (sv_join (fun ρ M => ∃ x y t, ρ = [some (dI n), some (dI k), some (dI x), some y, t] ∧ M = M' ∧ x = gz n k) ?_ ?_)
    · refine sw_for rfl (pg_name (i := 4) sc_lowest.nd rfl (.inl rfl)) (iw_iv (iv_range1 T.range ev_int (by decide)) ⟨fun i ρ M => ∃ (x y : Nat) (t : Option D), ρ = [some (dI n), some (dI k), some (dI x), some (dI y), t] ∧ M = M' ∧ Bd 900 x ∧ Bd 900 y ∧ Euc (n.natAbs * k.natAbs) (Nat.gcd n.natAbs k.natAbs) i x y, ?_, fun i d ρ' M1 hd iv => ?_, fun ρ' M1 iv => ?_⟩)
      · refine ⟨n.natAbs, k.natAbs, none, by rw [← ek]; rfl, rfl, ?_, ?_, rfl, ?_, fun h => by omega⟩
        · exact hn.le (by omega)
        · exact hk.le (by omega)
        · show n.natAbs * k.natAbs * 2 ^ 0 ≤ _
          omega
      · obtain ⟨x, y, t, rfl, rfl, bx, hy, eu⟩ := iv
        refine ⟨_, tg_name, ?_⟩
        refine bv_cons (sv_if (tv_cmpR op_eq (ev_var 3 rfl) ev_int rs_eqI (nomark _)) (fun h => ?_) (fun h => bv_nil ?_))
        · have y0 : y = 0 := by have := of_decide_eq_true h; omega
          subst y0
          refine bv_one (sv_break ⟨_, _, _, rfl, rfl, ?_⟩)
          have := eu.gc
          rw [Nat.gcd_zero_right] at this
          rw [this]
          rfl
        · have y0 : 0 < y := by have := of_decide_eq_false h; omega
          have q0 : Bd 900 ((x : Int) / (y : Int)) := bx.le (Int.natAbs_ediv_le_natAbs _ _)
          refine bv_one (sw_par 2 3 rfl sc_lowest.nd (aw_av (av_cons (ev_var 3 rfl) (av_cons (ev_op op_sub (ev_var 2 rfl) (ev_op op_mulW (ev_var 3 rfl) (ev_intI T.int (ev_op op_fdivW (ev_var 2 rfl) (ev_var 3 rfl) (rs_I (hy.cd (by omega))))) (rs_I (hy.cm q0))) rs_I0) av_nil)) ⟨_, _, rfl, ?_⟩))
          rw [mod_int]
          refine ⟨y, x % y, _, rfl, rfl, hy, ?_, eu.step y0⟩
          refine hy.le ?_
          have := Nat.mod_lt x y0
          omega
      · obtain ⟨x, y, t, rfl, rfl, bx, hy, eu⟩ := iv
        rw [rgD_len] at eu
        have y0 := Euc.end_ (k := 1999) eu (by
          refine Nat.lt_of_lt_of_le (Nat.mul_lt_mul'' hn hk) ?_
          rw [← Nat.pow_add]
          exact Nat.pow_le_pow_right (by decide) (by decide))
        subst y0
        refine ⟨_, _, _, rfl, rfl, ?_⟩
        have := eu.gc
        rw [Nat.gcd_zero_right] at this
        rw [this]
        rfl
    · rintro ρ M ⟨x, y, t, rfl, rfl, rfl⟩
      have g0 := gz_pos (n := n) (show k ≠ 0 by omega)
      have gb : Bd 900 (gz n k) := by
        refine hk.le ?_
        have := Nat.gcd_le_right n.natAbs (show 0 < k.natAbs by omega)
        unfold gz
        omega
      exact bv_one (sv_ret (ev_tup (av_cons (ev_op op_fdivW (ev_var 0 rfl) (ev_var 2 rfl) (rs_I (gb.cd g0))) (av_cons (ev_op op_fdivW (ev_var 1 rfl) (ev_var 2 rfl) (rs_I (gb.cd g0))) av_nil))) ⟨rfl, Mle.refl _⟩)
theorem low_at {n k : Int} (h : 0 < k) (hn : Bd 900 n) (hk : Bd 900 k) {M : Mem} : PrLow [dI n, dI k] M (frD (low n k)) M := ⟨n, k, rfl, h, hn, hk, rfl, rfl⟩
end
/-! ### bars -/
abbrev Tn := Int × Int
structure Col where
  dur : Tn
  acc : Int
  ents : List (Option (Tn × Bool))
def entQ (b : Bool) : Option (Tn × Bool) → D
  | none => dN
  | some (t, g) => sq b [sq b [dI t.1, dI t.2], dB g]
def colQ (b : Bool) (c : Col) : D := sq b [sq b [dI c.dur.1, dI c.dur.2], dI c.acc, sq b (c.ents.map (entQ b))]
def barQ (b1 b2 : Bool) (bar : List Col) : D := sq b1 (bar.map (colQ b2))
abbrev colD : Col → D := colQ false
abbrev barD : List Col → D := barQ false false
structure Red (p : Tn) : Prop where
  d0 : 0 < p.2
  one : gz p.1 p.2 = 1
theorem Red.low {p : Tn} (h : Red p) : Vt.low p.1 p.2 = p := by
  unfold Vt.low
  rw [h.one, Int.ediv_one, Int.ediv_one]
theorem low_red {n d : Int} (h : 0 < d) : Red (low n d) := by
  refine ⟨low_den h, ?_⟩
  have g := gz_pos (n := n) (show d ≠ 0 by omega)
  obtain ⟨a, ha⟩ := gz_dl n d
  obtain ⟨b, hb⟩ := gz_dr n d
  have e1 : n / gz n d = a := by
    rw [Int.ediv_eq_iff_eq_mul_right (by omega) (gz_dl n d)]
    exact ha
  have e2 : d / gz n d = b := by
    rw [Int.ediv_eq_iff_eq_mul_right (by omega) (gz_dr n d)]
    exact hb
  show gz (n / gz n d) (d / gz n d) = 1
  rw [e1, e2]
  have k : gz (a * gz n d) (b * gz n d) = gz a b * gz n d := gz_mul g
  rw [Int.mul_comm a, Int.mul_comm b, ← ha, ← hb] at k
  have k2 : (gz a b - 1) * gz n d = 0 := by rw [Int.sub_mul, ← k, Int.one_mul, Int.sub_self]
  rcases Int.mul_eq_zero.mp k2 with z | z
  · omega
  · omega
structure DurOk (p : Tn) : Prop where
  red : Red p
  n0 : 0 < p.1
  nb : p.1 ≤ 1000
  db : p.2 ≤ 1000
theorem low_le {n d : Int} (hd : 0 < d) (hn : 0 < n) : (low n d).1 ≤ n ∧ (low n d).2 ≤ d := by
  have g := gz_pos (n := n) (show d ≠ 0 by omega)
  exact ⟨Int.ediv_le_self _ (by omega), Int.ediv_le_self _ (by omega)⟩
theorem low_durOk {n d : Int} (hn : 0 < n) (hd : 0 < d) (hn2 : n ≤ 1000) (hd2 : d ≤ 1000) : DurOk (low n d) := by
  have l := low_le hd hn
  exact ⟨low_red hd, low_num hn hd, by omega, by omega⟩
structure ColOk (TP : Tn → Prop) (v : Nat) (c : Col) : Prop where
  dur : DurOk c.dur
  acc : 0 ≤ c.acc ∧ c.acc ≤ 9
  len : c.ents.length = v
  ton : ∀ t g, some (t, g) ∈ c.ents → TP t
theorem ents_at {c : Col} {b : Bool} {i : Nat} (h : i < c.ents.length) : (c.ents.map (entQ b))[i]? = some (entQ b c.ents[i]) := by
  rw [List.getElem?_map, List.getElem?_eq_getElem h]
  rfl
theorem bd_small {i : Int} {k : Nat} (h : 0 ≤ i ∧ i ≤ 100000) (hk : 20 ≤ k) : Bd k i := (Bd.of (m := 100000) (k := 20) (by omega) (by decide)).mono hk
def R_duration (ds : List D) (M : Mem) (Φ : D → Mem → Prop) : Prop := ∃ a p, ds = [dP a] ∧ M a = some (Pool.mo p) ∧ p.Ok ∧ ∀ t, DurOk t → Draw M a Φ (frD t)
def optC : Option Col → D
  | none => dN
  | some c => colD c
def R_column (ds : List D) (M : Mem) (Φ : D → Mem → Prop) : Prop := ∃ (a : Addr) (p : Pool) (v : Nat) (before : Option Col) (ts : List Tn) (TP : Tn → Prop), ds = [dP a, dI ((v : Nat) : Int), optC before, .lst (ts.map frD)] ∧ M a = some (Pool.mo p) ∧ p.Ok ∧ v ≤ 1000 ∧ (0 < ts.length ∧ ts.length ≤ 1000) ∧ (∀ t ∈ ts, TP t) ∧ (∀ c, before = some c → ColOk TP v c) ∧ ∀ c, ColOk TP v c → Draw M a Φ (colD c)
def TnS (t : Tn) : Prop := (-50 ≤ t.1 ∧ t.1 ≤ 50) ∧ -100 ≤ t.2 ∧ t.2 ≤ 100
def R_bar (ds : List D) (M : Mem) (Φ : D → Mem → Prop) : Prop := ∃ (a : Addr) (p : Pool) (v : Nat) (most : Int), ds = [dP a, dI ((v : Nat) : Int), dI most] ∧ M a = some (Pool.mo p) ∧ p.Ok ∧ v ≤ 1000 ∧ (0 < most ∧ most ≤ 1000) ∧ ∀ bar : List Col, 0 < bar.length → (bar.length : Int) ≤ most → (∀ c ∈ bar, ColOk TnS v c) → Draw M a Φ (barD bar)
mutual
def lstD : D → D
  | .val v => .val v
  | .lst ds => .lst ds
  | .dic => .dic
  | .tup ds => .lst (lstDL ds)
def lstDL : List D → List D
  | [] => []
  | d :: ds => lstD d :: lstDL ds
end
theorem lstDL_eq : ∀ ds : List D, lstDL ds = ds.map lstD
  | [] => by simp only [lstDL, List.map_nil]
  | d :: ds => by simp only [lstDL, List.map_cons, lstDL_eq ds]
theorem lst_ent (e : Option (Tn × Bool)) : lstD (entQ false e) = entQ true e := by
  cases e with
  | none => simp only [entQ, lstD]
  | some e =>
    obtain ⟨t, g⟩ := e
    simp only [entQ, sq, lstD, lstDL, Bool.false_eq_true, if_false, if_true]
theorem lst_col (c : Col) : lstD (colQ false c) = colQ true c := by
  have e : (c.ents.map (entQ false)).map lstD = c.ents.map (entQ true) := by
    rw [List.map_map]
    exact List.map_congr_left fun x _ => lst_ent x
  simp only [colQ, sq, lstD, lstDL, Bool.false_eq_true, if_false, if_true, lstDL_eq, e]
theorem lst_bar (bar : List Col) : lstD (barD bar) = barQ true true bar := by
  have e : (bar.map (colQ false)).map lstD = bar.map (colQ true) := by
    rw [List.map_map]
    exact List.map_congr_left fun x _ => lst_col x
  simp only [barQ, sq, lstD, Bool.false_eq_true, if_false, if_true, lstDL_eq, e]
/-- trees of tuples that end in plain values -/
def tupD : Nat → D → Prop
  | _, .val v => v = .non ∨ (∃ b, v = .bl b) ∨ (∃ i, v = .int i) ∨ ∃ z, v = .str z
  | n + 1, .tup ds => ds.length ≤ 1000000 ∧ ∀ d ∈ ds, tupD n d
  | _, _ => False
def PrListed (n : Nat) (ds : List D) (M : Mem) (d : D) (M' : Mem) : Prop := ∃ t, ds = [t] ∧ tupD n t ∧ d = lstD t ∧ M' = M
theorem tup_int {n : Nat} (i : Int) : tupD n (dI i) := by cases n <;> exact .inr (.inr (.inl ⟨i, rfl⟩))
theorem tup_bool {n : Nat} (b : Bool) : tupD n (dB b) := by cases n <;> exact .inr (.inl ⟨b, rfl⟩)
theorem tup_none {n : Nat} : tupD n dN := by cases n <;> exact .inl rfl
theorem tup_two {n : Nat} {a b : D} (ha : tupD n a) (hb : tupD n b) : tupD (n + 1) (.tup [a, b]) := ⟨by show 2 ≤ 1000000; decide, fun d hd => by
  rcases List.mem_cons.mp hd with rfl | hd
  · exact ha
  · rcases List.mem_cons.mp hd with rfl | hd
    · exact hb
    · cases hd⟩
theorem tup_three {n : Nat} {a b c : D} (ha : tupD n a) (hb : tupD n b) (hc : tupD n c) : tupD (n + 1) (.tup [a, b, c]) := ⟨by show 3 ≤ 1000000; decide, fun d hd => by
  rcases List.mem_cons.mp hd with rfl | hd
  · exact ha
  · rcases List.mem_cons.mp hd with rfl | hd
    · exact hb
    · rcases List.mem_cons.mp hd with rfl | hd
      · exact hc
      · cases hd⟩
theorem tup_ent (e : Option (Tn × Bool)) : tupD 2 (entQ false e) := by
  cases e with
  | none => exact tup_none
  | some e => exact tup_two (tup_two (tup_int _) (tup_int _)) (tup_bool _)
theorem tup_col {c : Col} (h : c.ents.length ≤ 1000) : tupD 4 (colD c) := by
  refine tup_three (tup_two (tup_int _) (tup_int _)) (tup_int _) ⟨by rw [List.length_map]; omega, fun d hd => ?_⟩
  obtain ⟨e, _, rfl⟩ := List.mem_map.mp hd
  exact tup_ent e
theorem tup_bar {bar : List Col} (hb : bar.length ≤ 10000) (h : ∀ c ∈ bar, c.ents.length ≤ 1000) : tupD 5 (barD bar) := by
  refine ⟨by rw [List.length_map]; omega, fun d hd => ?_⟩
  obtain ⟨c, hc, rfl⟩ := List.mem_map.mp hd
  exact tup_col (h c hc)
theorem okD_of_tup : ∀ {n : Nat} {d : D}, tupD n d → okD n d
  | 0, .val _, h => h
  | _ + 1, .val _, h => h
  | n + 1, .tup _, h => ⟨h.1, fun d hd => okD_of_tup (h.2 d hd)⟩
  | 0, .tup _, h => h.elim
  | 0, .lst _, h => h.elim
  | _ + 1, .lst _, h => h.elim
theorem bar_snoc (bar : List Col) (c : Col) : barD (bar ++ [c]) = .tup (bar.map colD ++ [colD c]) := by
  show D.tup ((bar ++ [c]).map colD) = _
  rw [List.map_append]
  rfl
section
variable {P : Program} {w : World} {K : PySem.W.Frag} {mg : Str → Option Value} {base : Heap} {f : Addr} {fd : FuncData}
theorem c_duration (F : Fun K "_law_duration" "_law_duration" s_duration f fd) (hm : mg "_law_duration" = some (.ref f)) (T : Bt mg) (c_take : Cal P w K mg base 2 "_law_take" (spW K R_take)) (c_pick : Cal P w K mg base 3 "_law_pick" (spW K R_pick)) (c_lowest : Cal P w K mg base 1 "_law_lowest" (spD K PrLow)) : Cal P w K mg base 4 "_law_duration" (spW K R_duration) := by
  refine calW_of F sc_duration hm (fun _ _ _ _ _ _ us hl => match us, hl with | [_], _ => rfl) (fun ds M Φ h => ?_) fun cdv A outer s H E ds M Φ hr h => ?_
  · obtain ⟨a, p, rfl, _⟩ := h
    rfl
  · obtain ⟨a, p, rfl, hA, ok, hΦ⟩ := h
    show BV _ _ [some (dP a)] _ _
    refine bv_cons (sw_if ?_)
    refine tw_cmp op_eq ?_ (nomark _)
    refine ew_callW c_take (hr.mono (by decide)) (aw_av (av_cons (ev_var 0 rfl) (av_cons ev_int av_nil)) ⟨a, p, _, rfl, hA, ok, by decide, by decide, fun n1 lo1 hi1 p1 ok1 M1 fr1 hA1 => ⟨_, rfl, ?_⟩⟩)
    refine ew_ev ev_int ⟨_, _, rfl, rs_eqI, ⟨fun h => ?_, fun h => bv_nil ?_⟩⟩
    · refine bv_one (sw_ret ?_)
      refine ew_callD c_lowest (hr.mono (by decide)) ?_
      refine aw_cons ?_
      refine ew_op op_add ?_
      refine ew_ev ev_int ⟨_, rfl, ?_⟩
      refine ew_callW c_take (hr.mono (by decide)) (aw_av (av_cons (ev_var 0 rfl) (av_cons ev_int av_nil)) ⟨a, p1, _, rfl, hA1, ok1, by decide, by decide, fun n2 lo2 hi2 p2 ok2 M2 fr2 hA2 => ⟨_, _, rfl, rs_I0, ?_⟩⟩)
      refine aw_cons ?_
      refine ew_op op_add ?_
      refine ew_ev ev_int ⟨_, rfl, ?_⟩
      refine ew_callW c_take (hr.mono (by decide)) (aw_av (av_cons (ev_var 0 rfl) (av_cons ev_int av_nil)) ⟨a, p2, _, rfl, hA2, ok2, by decide, by decide, fun n3 lo3 hi3 p3 ok3 M3 fr3 hA3 => ⟨_, _, rfl, rs_I0, ?_⟩⟩)
      exact aw_nil ⟨_, _, low_at (by omega) (bd_small (by omega) (by decide)) (bd_small (by omega) (by decide)), _, hΦ _ (low_durOk (by omega) (by omega) (by omega) (by omega)) p3 ok3 _ ((fr1.trans fr2).trans fr3) hA3, Mle.refl _⟩
    · refine bv_one (sw_ret ?_)
      refine ew_callD c_lowest (hr.mono (by decide)) ?_
      refine aw_cons ?_
      refine ew_op op_add ?_
      refine ew_ev ev_int ⟨_, rfl, ?_⟩
      refine ew_callW c_take (hr.mono (by decide)) (aw_av (av_cons (ev_var 0 rfl) (av_cons ev_int av_nil)) ⟨a, p1, _, rfl, hA1, ok1, by decide, by decide, fun n2 lo2 hi2 p2 ok2 M2 fr2 hA2 => ⟨_, _, rfl, rs_I0, ?_⟩⟩)
      refine aw_cons ?_
      refine ew_callW c_pick (hr.mono (by decide)) (aw_av (av_cons (ev_var 0 rfl) (av_cons (ev_lst (av_cons ev_int (av_cons ev_int (av_cons ev_int (av_cons ev_int (av_cons ev_int (av_cons ev_int (av_cons ev_int (av_cons ev_int av_nil))))))))) av_nil)) ⟨a, p2, true, _, rfl, hA2, ok2, by simp, by simp, fun d3 g3 p3 ok3 M3 fr3 hA3 => ?_⟩)
      have h3 : ∃ k : Int, d3 = dI k ∧ 0 < k ∧ k ≤ 16 := by
        simp only [List.mem_cons, List.not_mem_nil, or_false] at g3
        rcases g3 with rfl | rfl | rfl | rfl | rfl | rfl | rfl | rfl <;> exact ⟨_, rfl, by decide, by decide⟩
      obtain ⟨k, rfl, k0, k1⟩ := h3
      exact aw_nil ⟨_, _, low_at (by omega) (bd_small (by omega) (by decide)) (bd_small (by omega) (by decide)), _, hΦ _ (low_durOk (by omega) (by omega) (by omega) (by omega)) p3 ok3 _ ((fr1.trans fr2).trans fr3) hA3, Mle.refl _⟩
theorem c_column (F : Fun K "_law_column" "_law_column" s_column f fd) (hm : mg "_law_column" = some (.ref f)) (T : Bt mg) (c_take : Cal P w K mg base 2 "_law_take" (spW K R_take)) (c_pick : Cal P w K mg base 3 "_law_pick" (spW K R_pick)) (c_duration : Cal P w K mg base 4 "_law_duration" (spW K R_duration)) : Cal P w K mg base 5 "_law_column" (spW K R_column) := by
  refine calW_of F sc_column hm (fun _ _ _ _ _ _ us hl => match us, hl with | [_, _, _, _], _ => rfl) (fun ds M Φ h => ?_) fun cdv A outer s H E ds M Φ hr h => ?_
  · obtain ⟨a, p, v, before, ts, TP, rfl, _⟩ := h
    rfl
  · obtain ⟨a, p, v, before, ts, TP, rfl, hA, ok, hv, hts, tp, bok, hΦ⟩ := h
    show BV _ _ [some (dP a), some (dI ((v : Nat) : Int)), some (optC before), some (.lst (ts.map frD)), none, none, none, none, none, none] _ _
    refine bv_cons (sv_set 4 sc_column.nd (ev_tup av_nil) ?_)
    refine bv_cons (sw_for rfl (pg_name (i := 5) sc_column.nd rfl (.inl rfl)) ?_)
    refine iw_iv (iv_range1 T.range (ev_var 1 rfl) (by omega)) ⟨fun i ρ M1 => ∃ (x5 x6 x7 x8 x9 : Option D) (q : Pool) (es : List (Option (Tn × Bool))), ρ = [some (dP a), some (dI ((v : Nat) : Int)), some (optC before), some (.lst (ts.map frD)), some (.tup (es.map (entQ false))), x5, x6, x7, x8, x9] ∧ Fr1 a M M1 ∧ M1 a = some q.mo ∧ q.Ok ∧ es.length = i ∧ ∀ t g, some (t, g) ∈ es → TP t, ⟨none, none, none, none, none, p, [], rfl, Fr1.refl _ _, hA, ok, rfl, fun t g h => absurd h List.not_mem_nil⟩, fun i d ρ' M' hd iv => ?_, fun ρ' M' iv => ?_⟩
    · obtain ⟨x5, x6, x7, x8, x9, q, es, rfl, fr, hA, ok, len, hes⟩ := iv
      obtain ⟨hi, rfl⟩ := rgD_get hd
      have hi : i < v := by omega
      refine ⟨_, tg_name, ?_⟩
      refine bv_cons (sw_set 6 sc_column.nd ?_)
      refine ew_callW c_take (hr.mono (by decide)) (aw_av (av_cons (ev_var 0 rfl) (av_cons ev_int av_nil)) ⟨a, q, _, rfl, hA, ok, by decide, by decide, fun n1 lo1 hi1 p1 ok1 M1 fr1 hA1 => ?_⟩)
      refine bv_cons (sw_set 7 sc_column.nd ?_)
      refine ew_tup ?_
      refine aw_cons ?_
      refine ew_callW c_pick (hr.mono (by decide)) (aw_av (av_cons (ev_var 0 rfl) (av_cons (ev_var 3 rfl) av_nil)) ⟨a, p1, true, _, rfl, hA1, ok1, by rw [List.length_map]; exact hts.1, by rw [List.length_map]; omega, fun d2 g2 p2 ok2 M2 fr2 hA2 => ?_⟩)
      obtain ⟨t, ht, rfl⟩ := List.mem_map.mp g2
      have tpt := tp t ht
      refine aw_cons (ew_ev ev_bl ?_)
      refine aw_nil ⟨by (simp only [List.length_cons, List.length_nil]; decide), ?_⟩
      refine bv_cons (sv_join (fun ρ M => ∃ (x8 x9 : Option D) (q : Pool) (e : Option (Tn × Bool)), ρ = [some (dP a), some (dI ((v : Nat) : Int)), some (optC before), some (.lst (ts.map frD)), some (.tup (es.map (entQ false))), some (dI (0 + (i : Int))), some (dI n1), some (entQ false e), x8, x9] ∧ Fr1 a M2 M ∧ M a = some q.mo ∧ q.Ok ∧ ∀ t g, e = some (t, g) → TP t) ?_ ?_)
      · refine sv_if (tv_cmpR op_eq (ev_var 6 rfl) ev_int rs_eqI (nomark _)) (fun h => ?_) (fun h => ?_)
        · exact bv_one (sv_set 7 sc_column.nd ev_non ⟨_, _, p2, none, rfl, Fr1.refl _ _, hA2, ok2, fun _ _ h => nomatch h⟩)
        · refine bv_one (sv_if (tv_cmpR op_lt (ev_var 6 rfl) ev_int rs_I0 (nomark _)) (fun h => ?_) (fun h => bv_nil ⟨_, _, p2, some (t, true), rfl, Fr1.refl _ _, hA2, ok2, fun t' g' h => by cases h; exact tpt⟩))
          cases before with
          | none =>
            refine bv_cons (sw_set 8 sc_column.nd (ew_if (tw_tv (tv_isNn (ev_var 2 rfl)) ⟨fun _ => ew_ev ev_non ?_, fun h => nomatch h⟩)))
            refine bv_cons (sw_set 9 sc_column.nd (ew_if (PW.pt (ww_and (tw_tv (tv_notNn (ev_var 8 rfl)) ⟨fun h => (nomatch h), fun _ => ⟨fun h => (nomatch h), fun _ => ew_ev (ev_ixT (ev_var 7 rfl) ev_int rfl) ?_⟩⟩)))))
            exact bv_one (sv_set 7 sc_column.nd (ev_tup (av_cons (ev_var 9 rfl) (av_cons ev_bl av_nil))) ⟨_, _, p2, some (t, false), rfl, Fr1.refl _ _, hA2, ok2, fun t' g' h => by cases h; exact tpt⟩)
          | some c =>
            have cok := bok c rfl
            have hic : i < c.ents.length := by rw [cok.len]; exact hi
            refine bv_cons (sw_set 8 sc_column.nd (ew_if (tw_tv (tv_isNn (ev_var 2 rfl)) ⟨fun h => (nomatch h), fun _ => ew_ev (ev_ixT (ds := c.ents.map (entQ false)) (ev_ixT (ev_var 2 rfl) ev_int rfl) (ev_var 5 rfl) (atI_nat (ents_at hic) (by omega))) ?_⟩)))
            have htc : ∀ t g, c.ents[i] = some (t, g) → TP t := fun t g h => cok.ton t g (by rw [← h]; exact List.getElem_mem hic)
            generalize c.ents[i] = e0 at htc ⊢
            cases e0 with
            | none =>
              refine bv_cons (sw_set 9 sc_column.nd (ew_if (PW.pt (ww_and (tw_tv (tv_notNn (ev_var 8 rfl)) ⟨fun h => (nomatch h), fun _ => ⟨fun h => (nomatch h), fun _ => ew_ev (ev_ixT (ev_var 7 rfl) ev_int rfl) ?_⟩⟩)))))
              exact bv_one (sv_set 7 sc_column.nd (ev_tup (av_cons (ev_var 9 rfl) (av_cons ev_bl av_nil))) ⟨_, _, p2, some (t, false), rfl, Fr1.refl _ _, hA2, ok2, fun t' g' h => by cases h; exact tpt⟩)
            | some e0 =>
              obtain ⟨t0, g0⟩ := e0
              refine bv_cons (sw_set 9 sc_column.nd ?_)
              refine ew_if ?_
              refine PW.pt ?_
              refine ww_and (tw_tv (tv_notNn (ev_var 8 rfl)) ⟨fun _ => ?_, fun h => nomatch h⟩)
              refine ww_one_and ?_
              refine tw_cmp op_gt ?_ (nomark _)
              refine ew_callW c_take (hr.mono (by decide)) (aw_av (av_cons (ev_var 0 rfl) (av_cons ev_int av_nil)) ⟨a, p2, _, rfl, hA2, ok2, by decide, by decide, fun n3 lo3 hi3 p3 ok3 M3 fr3 hA3 => ⟨_, rfl, ?_⟩⟩)
              refine ew_ev ev_int ⟨_, _, rfl, rs_I0, ⟨fun h => ?_, fun h => ?_⟩⟩
              · refine ew_ev (ev_ixT (ev_var 8 rfl) ev_int rfl) ?_
                exact bv_one (sv_set 7 sc_column.nd (ev_tup (av_cons (ev_var 9 rfl) (av_cons ev_bl av_nil))) ⟨_, _, p3, some (t0, false), rfl, fr3, hA3, ok3, fun t' g' h => by cases h; exact htc _ _ rfl⟩)
              · refine ew_ev (ev_ixT (ev_var 7 rfl) ev_int rfl) ?_
                exact bv_one (sv_set 7 sc_column.nd (ev_tup (av_cons (ev_var 9 rfl) (av_cons ev_bl av_nil))) ⟨_, _, p3, some (t, false), rfl, fr3, hA3, ok3, fun t' g' h => by cases h; exact tpt⟩)
      · rintro ρ M' ⟨x8, x9, q, e, rfl, fr3, hA3, ok3, he⟩
        refine bv_one (sv_set 4 sc_column.nd (ev_catT (ev_var 4 rfl) (ev_tup (av_cons (ev_var 7 rfl) av_nil)) ?_) ?_)
        · rw [List.length_map, len]
          exact Nat.le_trans (show i + 1 ≤ 1000 by omega) (by decide)
        · refine ⟨_, _, _, _, _, q, es ++ [e], by rw [List.map_append]; rfl, ((fr.trans fr1).trans fr2).trans fr3, hA3, ok3, by rw [List.length_append, len]; rfl, fun t g h => ?_⟩
          rcases List.mem_append.mp h with h | h
          · exact hes t g h
          · exact he t g (List.mem_singleton.mp h).symm
    · obtain ⟨x5, x6, x7, x8, x9, q, es, rfl, fr, hA, ok, len, hes⟩ := iv
      rw [rgD_len] at len
      refine bv_one (sw_ret ?_)
      refine ew_tup ?_
      refine aw_cons ?_
      refine ew_callW c_duration (hr.mono (by decide)) (aw_av (av_cons (ev_var 0 rfl) av_nil) ⟨a, q, rfl, hA, ok, fun t ht p1 ok1 M1 fr1 hA1 => ?_⟩)
      refine aw_cons ?_
      refine ew_if ?_
      refine tw_cmp op_eq ?_ (nomark _)
      refine ew_callW c_take (hr.mono (by decide)) (aw_av (av_cons (ev_var 0 rfl) (av_cons ev_int av_nil)) ⟨a, p1, _, rfl, hA1, ok1, by decide, by decide, fun n2 lo2 hi2 p2 ok2 M2 fr2 hA2 => ⟨_, rfl, ?_⟩⟩)
      refine ew_ev ev_int ⟨_, _, rfl, rs_eqI, ⟨fun h => ?_, fun h => ?_⟩⟩
      · refine ew_callW c_take (hr.mono (by decide)) (aw_av (av_cons (ev_var 0 rfl) (av_cons ev_int av_nil)) ⟨a, p2, _, rfl, hA2, ok2, by decide, by decide, fun n3 lo3 hi3 p3 ok3 M3 fr3 hA3 => ?_⟩)
        refine aw_cons (ew_ev (ev_var 4 rfl) ?_)
        exact aw_nil ⟨by (simp only [List.length_cons, List.length_nil]; decide), _, hΦ ⟨t, n3, es⟩ ⟨ht, by show 0 ≤ n3 ∧ n3 ≤ 9; omega, by show es.length = v; omega, hes⟩ p3 ok3 _ (((fr.trans fr1).trans fr2).trans fr3) hA3, Mle.refl _⟩
      · refine ew_ev ev_int ?_
        refine aw_cons (ew_ev (ev_var 4 rfl) ?_)
        exact aw_nil ⟨by (simp only [List.length_cons, List.length_nil]; decide), _, hΦ ⟨t, 0, es⟩ ⟨ht, by show (0 : Int) ≤ 0 ∧ (0 : Int) ≤ 9; decide, by show es.length = v; omega, hes⟩ p2 ok2 _ ((fr.trans fr1).trans fr2) hA2, Mle.refl _⟩
end
section
variable {P : Program} {w : World} {K : PySem.W.Frag} {mg : Str → Option Value} {base : Heap} {f : Addr} {fd : FuncData}
theorem c_bar (F : Fun K "_law_bar" "_law_bar" s_bar f fd) (hm : mg "_law_bar" = some (.ref f)) (T : Bt mg) (c_take : Cal P w K mg base 2 "_law_take" (spW K R_take)) (c_tone : Cal P w K mg base 3 "_law_tone" (spW K R_tone)) (c_column : Cal P w K mg base 5 "_law_column" (spW K R_column)) : Cal P w K mg base 6 "_law_bar" (spW K R_bar) := by
  refine calW_of F sc_bar hm (fun _ _ _ _ _ _ us hl => match us, hl with | [_, _, _], _ => rfl) (fun ds M Φ h => ?_) fun cdv A outer s H E ds M Φ hr h => ?_
  · obtain ⟨a, p, v, most, rfl, _⟩ := h
    rfl
  · obtain ⟨a, p, v, most, rfl, hA, ok, hv, hmost, hΦ⟩ := h
    show BV _ _ [some (dP a), some (dI ((v : Nat) : Int)), some (dI most), none, none, none] _ _
    refine bv_cons (sw_setLc 3 (own := [("k", 4)]) (g := gName 4) rfl sc_bar.nd (blkOk_by (N := ["pool", "voices", "most", "some", "k", "found"]) (sc := defScope s_bar) (by decide +kernel)) (fun _ _ _ _ _ => (pg_name (i := 4) sc_bar.nd rfl (.inl rfl))) ?_)
    refine iw_range1 T.range ?_
    refine ew_op op_add ?_
    refine ew_ev ev_int ⟨_, rfl, ?_⟩
    refine ew_callW c_take (hr.mono (by decide)) (aw_av (av_cons (ev_var 0 rfl) (av_cons ev_int av_nil)) ⟨a, p, _, rfl, hA, ok, by decide, by decide, fun n1 lo1 hi1 p1 ok1 M1 fr1 hA1 => ⟨_, _, rfl, rs_I0, ⟨_, rfl, by omega, ⟨?_, fun i acc M2 => ∃ (ts : List Tn) (q : Pool), acc = ts.map frD ∧ ts.length = i ∧ (∀ t ∈ ts, TnS t) ∧ Fr1 a M M2 ∧ M2 a = some q.mo ∧ q.Ok, ⟨[], p1, rfl, rfl, fun t h => absurd h List.not_mem_nil, fr1, hA1, ok1⟩, fun i d acc M2 hd hacc iv => ?_, fun acc M2 hacc iv => ?_⟩⟩⟩⟩)
    · rw [rgD_len]
      exact Nat.le_trans (show _ ≤ 12 by omega) (by decide)
    · obtain ⟨ts, q, rfl, len, hts, fr, hA, ok⟩ := iv
      refine ⟨_, tgb_name, fun l hl s H C cl fp => ?_⟩
      refine ew_callW c_tone (hr.mono (by decide)) (aw_av (av_cons (ev_var 0 rfl) av_nil) ⟨a, q, rfl, Mem.set_at hA hl, ok, fun tf to_ hf ho p2 ok2 M3 fr2 hA2 => ?_⟩)
      obtain ⟨e1, e2, e3, e4⟩ := lc_back hA hl fr2
      refine ⟨_, e1, e2, ts ++ [(tf, to_)], p2, by rw [List.map_append]; rfl, by rw [List.length_append, len]; rfl, fun t h => ?_, fr.trans e3, e4 _ hA2, ok2⟩
      rcases List.mem_append.mp h with h | h
      · exact hts t h
      · rw [List.mem_singleton.mp h]
        exact ⟨hf, ho⟩
    · obtain ⟨ts, q, rfl, len, hts, fr, hA, ok⟩ := iv
      rw [rgD_len] at len
      refine bv_cons (sv_set 5 sc_bar.nd (ev_tup av_nil) ?_)
      refine bv_cons (sw_for rfl (pg_name (i := 4) sc_bar.nd rfl (.inl rfl)) ?_)
      refine iw_range1 T.range ?_
      refine ew_op op_add ?_
      refine ew_ev ev_int ⟨_, rfl, ?_⟩
      refine ew_callW c_take (hr.mono (by decide)) (aw_av (av_cons (ev_var 0 rfl) (av_cons (ev_var 2 rfl) av_nil)) ⟨a, q, _, rfl, hA, ok, hmost.1, by omega, fun n2 lo2 hi2 p2 ok2 M3 fr2 hA2 => ⟨_, _, rfl, rs_I0, ⟨_, rfl, by omega, fun i ρ M4 => ∃ (x4 : Option D) (q : Pool) (bar : List Col), ρ = [some (dP a), some (dI ((v : Nat) : Int)), some (dI most), some (.lst (ts.map frD)), x4, some (barD bar)] ∧ Fr1 a M M4 ∧ M4 a = some q.mo ∧ q.Ok ∧ bar.length = i ∧ ∀ c ∈ bar, ColOk TnS v c, ?_, fun i d ρ' M' hd iv => ?_, fun ρ' M' iv => ?_⟩⟩⟩)
      · exact ⟨_, p2, [], rfl, fr.trans fr2, hA2, ok2, rfl, fun c h => absurd h List.not_mem_nil⟩
      · obtain ⟨x4, q, bar, rfl, fr, hA, ok, len2, hbar⟩ := iv
        obtain ⟨hi, rfl⟩ := rgD_get hd
        refine ⟨_, tg_name, ?_⟩
        refine bv_one (sw_set 5 sc_bar.nd ?_)
        have last : ∃ before : Option Col, (∀ c, before = some c → ColOk TnS v c) ∧ ((bar = [] ∧ before = none) ∨ ∃ c, bar.getLast? = some c ∧ before = some c) := by
          cases hb : bar.getLast? with
          | none => exact ⟨none, fun _ h => (nomatch h), .inl ⟨List.getLast?_eq_none_iff.mp hb, rfl⟩⟩
          | some c => exact ⟨some c, fun c' h => by cases h; exact hbar c (List.mem_of_getLast? hb), .inr ⟨c, rfl, rfl⟩⟩
        obtain ⟨before, bok, hb⟩ := last
        refine ew_catT ?_
        refine ew_ev (ev_var 5 rfl) ⟨_, rfl, ?_⟩
        refine ew_tup ?_
        refine aw_cons ?_
        refine ew_callW c_column (hr.mono (by decide)) ?_
        refine aw_cons (ew_ev (ev_var 0 rfl) ?_)
        refine aw_cons (ew_ev (ev_var 1 rfl) ?_)
        refine aw_cons (ew_ev (d := optC before) (M1 := M') ?_ ?_)
        · rcases hb with ⟨rfl, rfl⟩ | ⟨c, hc, rfl⟩
          · exact ev_if (tv_sqT (b := false) (ev_var 5 rfl)) (fun h => nomatch h) (fun _ => ev_non)
          · have ne : (bar.map colD).isEmpty = false := by
              cases bar with
              | nil => cases hc
              | cons c bar => rfl
            exact ev_if (tv_sqT (b := false) (ds := bar.map colD) (ev_var 5 rfl)) (fun _ => ev_ixT (ds := bar.map colD) (ev_var 5 rfl) (ev_un un_neg ev_int ru_neg) (atI_last (by rw [List.getLast?_map, hc]; rfl))) (fun h => by rw [ne] at h; cases h)
        refine aw_cons (ew_ev (ev_var 3 rfl) ?_)
        refine aw_nil ⟨a, q, v, before, ts, TnS, rfl, hA, ok, hv, by omega, hts, bok, fun c cok p3 ok3 M5 fr3 hA3 => ?_⟩
        refine aw_nil ⟨by (simp only [List.length_cons, List.length_nil]; decide), ⟨_, rfl, ?_, ?_⟩⟩
        · rw [List.length_map, len2]
          exact Nat.le_trans (show i + 1 ≤ 2000 by omega) (by decide)
        · refine ⟨some (dI (0 + (i : Int))), p3, bar ++ [c], ?_, fr.trans fr3, hA3, ok3, by rw [List.length_append, len2]; rfl, fun c' h => ?_⟩
          · rw [bar_snoc]
            rfl
          · rcases List.mem_append.mp h with h | h
            · exact hbar c' h
            · rw [List.mem_singleton.mp h]
              exact cok
      · obtain ⟨x4, q, bar, rfl, fr, hA, ok, len2, hbar⟩ := iv
        rw [rgD_len] at len2
        exact bv_one (sv_ret (ev_var 5 rfl) ⟨_, hΦ bar (by omega) (by omega) hbar q ok _ fr hA, Mle.refl _⟩)
end
section
variable {P : Program} {w : World} {K : PySem.W.Frag} {mg : Str → Option Value} {base : Heap} {f : Addr} {fd : FuncData}
theorem c_listed (F : Fun K "_law_listed" "_law_listed" s_listed f fd) (hm : mg "_law_listed" = some (.ref f)) (T : Bt mg) : ∀ n, Cal P w K mg base (n + 1) "_law_listed" (spD K (PrListed n)) := by
  intro n
  induction n with
  | zero =>
    refine cal_of F sc_listed hm (fun _ _ _ _ _ _ us hl => match us, hl with | [_], _ => rfl) (fun ds M d M' h => ?_) fun cdv A outer s H E ds M d M' hr h => ?_
    · obtain ⟨t, rfl, _⟩ := h
      rfl
    · obtain ⟨t, rfl, ok, rfl, rfl⟩ := h
      show BV _ _ [some t, none] _ _
      cases t with
      | tup ds => exact ok.elim
      | lst ds => exact ok.elim
      | dic => exact ok.elim
      | val v =>
        have e : lstD (.val v) = .val v := by simp only [lstD]
        rw [e]
        rcases ok with rfl | ⟨b, rfl⟩ | ⟨i, rfl⟩ | ⟨z, rfl⟩
        all_goals
          refine bv_cons (sv_if (tv_val (ev_isi (r := false) T.isinstance T.tuple boot_tuple (ev_var 0 rfl) rfl (by decide +kernel))) (fun h => nomatch h) (fun _ => bv_nil ?_))
          exact bv_one (sv_ret (ev_var 0 rfl) ⟨rfl, Mle.refl _⟩)
  | succ n ih =>
    refine cal_of F sc_listed hm (fun _ _ _ _ _ _ us hl => match us, hl with | [_], _ => rfl) (fun ds M d M' h => ?_) fun cdv A outer s H E ds M d M' hr h => ?_
    · obtain ⟨t, rfl, _⟩ := h
      rfl
    · obtain ⟨t, rfl, ok, rfl, rfl⟩ := h
      show BV _ _ [some t, none] _ _
      have hr0 : Room (n + 1) (A.deeper (envOfC "_law_listed" (defScope s_listed) s.heap.objs.size f cdv)) := hr
      cases t with
      | lst ds => exact ok.elim
      | dic => exact ok.elim
      | tup ds =>
        obtain ⟨hl, hd⟩ := ok
        refine bv_cons (sv_if (tv_val (ev_isi (r := true) T.isinstance T.tuple boot_tuple (ev_var 0 rfl) rfl (by decide +kernel))) (fun _ => ?_) (fun h => nomatch h))
        have e : lstD (.tup ds) = .lst (ds.map lstD) := by simp only [lstD, lstDL_eq]
        rw [e]
        refine bv_one (sv_ret (ev_lcM (own := [("part", 1)]) (g := gName 1) rfl sc_listed.nd (iv_tup (ev_var 0 rfl)) (blkOk_by (N := ["thing", "part"]) (sc := defScope s_listed) (by decide +kernel)) (fun _ _ _ _ _ => (pg_name (i := 1) sc_listed.nd rfl (.inl rfl))) lstD (Nat.le_trans hl (by decide)) (fun i d h => ?_)) ⟨rfl, Mle.refl _⟩)
        refine ⟨_, tgb_name, fun M2 s H C cl fp => ?_⟩
        exact ev_call ih hr0 (av_cons (ev_var 1 rfl) av_nil) ⟨_, rfl, hd _ (List.mem_of_getElem? h), rfl, rfl⟩
      | val v =>
        have e : lstD (.val v) = .val v := by simp only [lstD]
        rw [e]
        rcases ok with rfl | ⟨b, rfl⟩ | ⟨i, rfl⟩ | ⟨z, rfl⟩
        all_goals
          refine bv_cons (sv_if (tv_val (ev_isi (r := false) T.isinstance T.tuple boot_tuple (ev_var 0 rfl) rfl (by decide +kernel))) (fun h => nomatch h) (fun _ => bv_nil ?_))
          exact bv_one (sv_ret (ev_var 0 rfl) ⟨rfl, Mle.refl _⟩)
end
def R_below (ds : List D) (M : Mem) (Φ : D → Mem → Prop) : Prop := ∃ a p many, ds = [dP a, dI many] ∧ M a = some (Pool.mo p) ∧ p.Ok ∧ 0 < many ∧ ∀ n : Int, 0 ≤ n → n < many → Draw M a Φ (dI n)
section
variable {P : Program} {w : World} {K : PySem.W.Frag} {mg : Str → Option Value} {base : Heap} {f : Addr} {fd : FuncData}
theorem c_below (F : Fun K "_law_below" "_law_below" s_below f fd) (hm : mg "_law_below" = some (.ref f)) (T : Bt mg) (c_take : Cal P w K mg base 2 "_law_take" (spW K R_take)) : Cal P w K mg base 3 "_law_below" (spW K R_below) := by
  refine calW_of F sc_below hm (fun _ _ _ _ _ _ us hl => match us, hl with | [_, _], _ => rfl) (fun ds M Φ h => ?_) fun cdv A outer s H E ds M Φ hr h => ?_
  · obtain ⟨a, p, many, rfl, _⟩ := h
    rfl
  · obtain ⟨a, p, many, rfl, hA, ok, h0, hΦ⟩ := h
    show BV _ _ [some (dP a), some (dI many), none, none] _ _
    refine bv_cons (sv_set 2 sc_below.nd ev_int ?_)
    refine bv_cons (sw_for rfl (pg_name (i := 3) sc_below.nd rfl (.inl rfl)) ?_)
    refine iw_iv (iv_range1 T.range ev_int (by decide)) ⟨fun i ρ M1 => ∃ x t q, ρ = [some (dP a), some (dI many), some (dI x), t] ∧ Fr1 a M M1 ∧ M1 a = some (Pool.mo q) ∧ q.Ok, ⟨_, none, p, rfl, Fr1.refl _ _, hA, ok⟩, fun i d ρ' M' hd iv => ?_, fun ρ' M' iv => ?_⟩
    · obtain ⟨x, t, q, rfl, fr, hA, ok⟩ := iv
      refine ⟨_, tg_name, ?_⟩
      refine bv_one (sw_set 2 sc_below.nd ?_)
      refine ew_op op_add ?_
      refine ew_ev (ev_op op_mul (ev_var 2 rfl) (ev_op op_pow ev_int ev_int (rs_I ⟨by decide, by decide, by decide⟩)) (rs_I (cm_r (by decide) (by decide)))) ⟨_, rfl, ?_⟩
      exact ew_callW c_take (hr.mono (by decide)) (aw_av (av_cons (ev_var 0 rfl) (av_cons (ev_op op_pow ev_int ev_int (rs_I ⟨by decide, by decide, by decide⟩)) av_nil)) ⟨a, q, _, rfl, hA, ok, by decide, by decide, fun n1 lo1 hi1 p1 ok1 M1 fr1 hA1 => ⟨_, _, rfl, rs_I0, _, _, p1, rfl, fr.trans fr1, hA1, ok1⟩⟩)
    · obtain ⟨x, t, q, rfl, fr, hA, ok⟩ := iv
      refine bv_one (sv_ret (ev_op op_mod (ev_intI T.int (ev_var 2 rfl)) (ev_var 1 rfl) (rs_I h0)) ⟨_, hΦ _ (Int.emod_nonneg _ (by omega)) (Int.emod_lt_of_pos _ h0) q ok _ fr hA, Mle.refl _⟩)
end
section
variable {X : Cx} {ρ : Sl} {M M1 M2 M3 : Mem} {pos : Pos} {x : Str}
theorem ev_gI {i : Int} (h : ∃ t, X.mg x = some (.int i t)) (hg : Gl X x := by rfl) (hd : (x == ("__debug__" : Str)) = false := by decide) : EV X (.Name x pos) ρ M (dI i) M := by
  obtain ⟨t, h⟩ := h
  exact ev_glob hg h ⟨t, rfl⟩ hd
theorem ev_gS {z : Str} (h : ∃ t, X.mg x = some (.str z t)) (hg : Gl X x := by rfl) (hd : (x == ("__debug__" : Str)) = false := by decide) : EV X (.Name x pos) ρ M (dS z) M := by
  obtain ⟨t, h⟩ := h
  exact ev_glob hg h ⟨t, rfl⟩ hd
end
theorem dropAt {α : Type} {cs : List α} {k : Nat} {c : α} (h : cs[k]? = some c) : cs.drop k = c :: cs.drop (k + 1) := by
  obtain ⟨hk, e⟩ := List.getElem?_eq_some_iff.mp h
  rw [← e]
  exact List.drop_eq_getElem_cons hk
theorem ev_bty {X : Cx} {ρ : Sl} {M : Mem} {x : Str} {T : String} {p : Pos} (hm : X.mg x = none) (hv : bootBuiltins x = some (.type T)) (hg : Gl X x := by rfl) (hn : x ≠ "__name__" := by decide) (hd : (x == ("__debug__" : Str)) = false := by decide) : EV X (.Name x p) ρ M (.val (.ty T)) M :=
  ⟨fun pins s σ H Q I ⟨G, sa, k⟩ => ld_blt I hg hm hv ⟨.ty T, H, I, rfl, k _ G H (Same.refl G) sa.sh (.val _)⟩ hn hd⟩
/-! ### kinds of things -/
def kD : Nat → D → Prop
  | _, .val v => v = .non ∨ (∃ b, v = .bl b) ∨ (∃ i, v = .int i) ∨ ∃ z, v = .str z
  | _, .dic => True
  | n + 1, .tup ds => ds.length ≤ 1000000 ∧ ∀ d ∈ ds, kD n d
  | n + 1, .lst ds => ds.length ≤ 1000000 ∧ ∀ d ∈ ds, kD n d
  | 0, .tup _ => False
  | 0, .lst _ => False
def rowD : D → Bool
  | .tup _ => true
  | .lst _ => true
  | _ => false
def partsD : D → List D
  | .tup ds => ds
  | .lst ds => ds
  | _ => []
def partD (d : D) (i : Nat) : D := (partsD d).getD i dN
def numD : D → Bool
  | .val (.int _) => true
  | _ => false
def boolD : D → Bool
  | .val (.bl _) => true
  | _ => false
def wholeD (lo hi : Int) : D → Bool
  | .val (.int i) => decide (lo ≤ i) && decide (i ≤ hi)
  | _ => false
def intD : D → Int
  | .val (.int i) => i
  | _ => 0
def pairD (d : D) : Bool := rowD d && decide ((partsD d).length = 2)
def toneD (d : D) : Bool := pairD d && (partsD d).all (wholeD (-1000) 1000)
def shortD (d : D) : Bool := (pairD d && (partsD d).all (wholeD 1 1000)) && decide (((Nat.gcd (intD (partD d 0)).natAbs (intD (partD d 1)).natAbs : Nat) : Int) = 1)
theorem rowD_sq {d : D} (h : rowD d = true) : ∃ b ds, d = sq b ds ∧ partsD d = ds := by
  cases d with
  | tup ds => exact ⟨false, ds, rfl, rfl⟩
  | lst ds => exact ⟨true, ds, rfl, rfl⟩
  | val v => cases h
  | dic => cases h
theorem rowD_of {b : Bool} {ds : List D} : rowD (sq b ds) = true := by cases b <;> rfl
theorem partsD_of {b : Bool} {ds : List D} : partsD (sq b ds) = ds := by cases b <;> rfl
theorem kD_sq {n : Nat} {b : Bool} {ds : List D} (h : kD (n + 1) (sq b ds)) : ds.length ≤ 1000000 ∧ ∀ d ∈ ds, kD n d := by cases b <;> exact h
theorem kD_sq0 {n : Nat} {b : Bool} {ds : List D} (h : kD n (sq b ds)) : ∃ m, n = m + 1 ∧ ds.length ≤ 1000000 ∧ ∀ d ∈ ds, kD m d := by
  cases n with
  | zero => cases b <;> exact h.elim
  | succ m => exact ⟨m, rfl, kD_sq h⟩
theorem kD_mk {n : Nat} {b : Bool} {ds : List D} (hl : ds.length ≤ 1000000) (h : ∀ d ∈ ds, kD n d) : kD (n + 1) (sq b ds) := by cases b <;> exact ⟨hl, h⟩
theorem kD_int {n : Nat} (i : Int) : kD n (dI i) := by cases n <;> exact .inr (.inr (.inl ⟨i, rfl⟩))
theorem kD_bool {n : Nat} (b : Bool) : kD n (dB b) := by cases n <;> exact .inr (.inl ⟨b, rfl⟩)
theorem kD_str {n : Nat} (z : Str) : kD n (dS z) := by cases n <;> exact .inr (.inr (.inr ⟨z, rfl⟩))
theorem kD_none {n : Nat} : kD n dN := by cases n <;> exact .inl rfl
theorem kD_dic {n : Nat} : kD n .dic := by cases n <;> trivial
theorem kD_val {n : Nat} {v : V} (h : kD n (.val v)) : v = .non ∨ (∃ b, v = .bl b) ∨ (∃ i, v = .int i) ∨ ∃ z, v = .str z := by cases n <;> exact h
theorem kD_up : ∀ {n : Nat} {d : D}, kD n d → kD (n + 1) d
  | n, .val v, h => by cases n <;> exact h
  | n, .dic, _ => kD_dic
  | 0, .tup _, h => h.elim
  | 0, .lst _, h => h.elim
  | n + 1, .tup _, h => ⟨h.1, fun d hd => kD_up (h.2 d hd)⟩
  | n + 1, .lst _, h => ⟨h.1, fun d hd => kD_up (h.2 d hd)⟩
theorem kD_le {n m : Nat} {d : D} (h : kD n d) (hm : n ≤ m) : kD m d := by
  induction hm with
  | refl => exact h
  | step _ ih => exact kD_up ih
theorem kD_ty {n : Nat} {d : D} (h : kD n d) : ∃ t, tyD d = some t ∧ (t = "NoneType" ∨ t = "bool" ∨ t = "int" ∨ t = "str" ∨ t = "tuple" ∨ t = "list" ∨ t = "dict") := by
  cases d with
  | val v =>
    rcases kD_val h with rfl | ⟨b, rfl⟩ | ⟨i, rfl⟩ | ⟨z, rfl⟩
    · exact ⟨_, rfl, .inl rfl⟩
    · exact ⟨_, rfl, .inr (.inl rfl)⟩
    · exact ⟨_, rfl, .inr (.inr (.inl rfl))⟩
    · exact ⟨_, rfl, .inr (.inr (.inr (.inl rfl)))⟩
  | tup ds => exact ⟨_, rfl, .inr (.inr (.inr (.inr (.inl rfl))))⟩
  | lst ds => exact ⟨_, rfl, .inr (.inr (.inr (.inr (.inr (.inl rfl)))))⟩
  | dic => exact ⟨_, rfl, .inr (.inr (.inr (.inr (.inr (.inr rfl)))))⟩
theorem getD_at {ds : List D} {i : Nat} (h : i < ds.length) : ds[i]? = some (ds.getD i dN) := by
  rw [List.getD_eq_getElem?_getD, List.getElem?_eq_getElem h]
  rfl
theorem two_of {ds : List D} (h : ds.length = 2) : ds = [ds.getD 0 dN, ds.getD 1 dN] := by
  match ds, h with
  | [_, _], _ => rfl
theorem three_of {ds : List D} (h : ds.length = 3) : ds = [ds.getD 0 dN, ds.getD 1 dN, ds.getD 2 dN] := by
  match ds, h with
  | [_, _, _], _ => rfl
theorem whole_int {lo hi : Int} {d : D} (h : wholeD lo hi d = true) : ∃ i, d = dI i ∧ lo ≤ i ∧ i ≤ hi := by
  cases d with
  | val v =>
    cases v with
    | int i =>
      have := (Bool.and_eq_true_iff.mp h)
      exact ⟨i, rfl, of_decide_eq_true this.1, of_decide_eq_true this.2⟩
    | _ => cases h
  | _ => cases h
section
variable {P : Program} {w : World} {K : PySem.W.Frag} {mg : Str → Option Value} {base : Heap} {f : Addr} {fd : FuncData}
def PrRow (ds : List D) (M : Mem) (d : D) (M' : Mem) : Prop := ∃ t n, ds = [t] ∧ kD n t ∧ d = dB (rowD t) ∧ M' = M
theorem c_p_is_row (F : Fun K "is_row" "is_row" s_p_is_row f fd) (hm : mg "is_row" = some (.ref f)) (T : Bt mg) : Cal P w K mg base 1 "is_row" (spD K PrRow) := by
  refine cal_of F sc_p_is_row hm (fun _ _ _ _ _ _ us hl => match us, hl with | [_], _ => rfl) (fun ds M d M' h => ?_) fun cdv A outer s H E ds M d M' hr h => ?_
  · obtain ⟨t, n, rfl, _⟩ := h
    rfl
  · obtain ⟨t, n, rfl, hk, rfl, rfl⟩ := h
    show BV _ _ [some t] _ _
    cases t with
    | val v =>
      rcases kD_val hk with rfl | ⟨b, rfl⟩ | ⟨i, rfl⟩ | ⟨z, rfl⟩
      all_goals exact bv_one (sv_ret (ev_isi2 (r1 := false) (r2 := false) T.isinstance T.list boot_list T.tuple boot_tuple (ev_var 0 rfl) rfl (by decide +kernel) (by decide +kernel)) ⟨rfl, Mle.refl _⟩)
    | tup ds => exact bv_one (sv_ret (ev_isi2 (r1 := false) (r2 := true) T.isinstance T.list boot_list T.tuple boot_tuple (ev_var 0 rfl) rfl (by decide +kernel) (by decide +kernel)) ⟨rfl, Mle.refl _⟩)
    | lst ds => exact bv_one (sv_ret (ev_isi2 (r1 := true) (r2 := false) T.isinstance T.list boot_list T.tuple boot_tuple (ev_var 0 rfl) rfl (by decide +kernel) (by decide +kernel)) ⟨rfl, Mle.refl _⟩)
    | dic => exact bv_one (sv_ret (ev_isi2 (r1 := false) (r2 := false) T.isinstance T.list boot_list T.tuple boot_tuple (ev_var 0 rfl) rfl (by decide +kernel) (by decide +kernel)) ⟨rfl, Mle.refl _⟩)
theorem ev_lenS2 {X : Cx} {ρ : Sl} {M M1 : Mem} {e : Expr} {b : Bool} {ds : List D} {p pos : Pos} (hm : X.mg "len" = none) (ha : EV X e ρ M (sq b ds) M1) (hg : Gl X "len" := by rfl) (hst : starEach [e] X.env = [(false, eval e X.env)] := by rfl) : EV X (.Call (.Name "len" p) [e] [] pos) ρ M (dI ds.length) M1 := by
  cases b with
  | true => exact ev_lenL hm ha hg hst
  | false => exact ev_lenT hm ha hg hst
def PrPair (ds : List D) (M : Mem) (d : D) (M' : Mem) : Prop := ∃ t n, ds = [t] ∧ kD n t ∧ d = dB (pairD t) ∧ M' = M
theorem c_p_is_pair (F : Fun K "is_pair" "is_pair" s_p_is_pair f fd) (hm : mg "is_pair" = some (.ref f)) (T : Bt mg) (c_p_is_row : Cal P w K mg base 1 "is_row" (spD K PrRow)) : Cal P w K mg base 2 "is_pair" (spD K PrPair) := by
  refine cal_of F sc_p_is_pair hm (fun _ _ _ _ _ _ us hl => match us, hl with | [_], _ => rfl) (fun ds M d M' h => ?_) fun cdv A outer s H E ds M d M' hr h => ?_
  · obtain ⟨t, n, rfl, _⟩ := h
    rfl
  · obtain ⟨t, n, rfl, hk, rfl, rfl⟩ := h
    show BV _ _ [some t] _ _
    refine bv_one (sv_ret (ev_andB (p := rowD t) (q := decide (((partsD t).length : Int) = 2)) (ev_call c_p_is_row (hr.mono (by decide)) (av_cons (ev_var 0 rfl) av_nil) ⟨t, n, rfl, hk, rfl, rfl⟩) (fun h => ?_)) ⟨?_, Mle.refl _⟩)
    · obtain ⟨b, ds, rfl, e⟩ := rowD_sq h
      rw [e]
      exact ev_one (b := true) (ev_cmpR op_eq (ev_lenS2 T.len (ev_var 0 rfl)) ev_int rs_eqI (nomark _))
    · unfold pairD
      rw [show decide (((partsD t).length : Int) = 2) = decide ((partsD t).length = 2) from decide_eq_decide.mpr ⟨fun h => by omega, fun h => by omega⟩]
def PrNum (ds : List D) (M : Mem) (d : D) (M' : Mem) : Prop := ∃ t n, ds = [t] ∧ kD n t ∧ d = dB (numD t) ∧ M' = M
theorem c_p_is_number (F : Fun K "is_number" "is_number" s_p_is_number f fd) (hm : mg "is_number" = some (.ref f)) (T : Bt mg) : Cal P w K mg base 1 "is_number" (spD K PrNum) := by
  refine cal_of F sc_p_is_number hm (fun _ _ _ _ _ _ us hl => match us, hl with | [_], _ => rfl) (fun ds M d M' h => ?_) fun cdv A outer s H E ds M d M' hr h => ?_
  · obtain ⟨t, n, rfl, _⟩ := h
    rfl
  · obtain ⟨t, n, rfl, hk, rfl, rfl⟩ := h
    show BV _ _ [some t] _ _
    cases t with
    | val v =>
      rcases kD_val hk with rfl | ⟨b, rfl⟩ | ⟨i, rfl⟩ | ⟨z, rfl⟩
      · exact bv_one (sv_ret (ev_andB (p := false) (q := false) (ev_isi T.isinstance T.int boot_int (ev_var 0 rfl) rfl (by decide +kernel)) (fun h => nomatch h)) ⟨rfl, Mle.refl _⟩)
      · exact bv_one (sv_ret (ev_andB (p := true) (q := false) (ev_isi T.isinstance T.int boot_int (ev_var 0 rfl) rfl (by decide +kernel)) (fun h => ev_one (b := true) (ev_notB (p := true) (ev_isi T.isinstance T.bool boot_bool (ev_var 0 rfl) rfl (by decide +kernel))))) ⟨rfl, Mle.refl _⟩)
      · exact bv_one (sv_ret (ev_andB (p := true) (q := true) (ev_isi T.isinstance T.int boot_int (ev_var 0 rfl) rfl (by decide +kernel)) (fun h => ev_one (b := true) (ev_notB (p := false) (ev_isi T.isinstance T.bool boot_bool (ev_var 0 rfl) rfl (by decide +kernel))))) ⟨rfl, Mle.refl _⟩)
      · exact bv_one (sv_ret (ev_andB (p := false) (q := false) (ev_isi T.isinstance T.int boot_int (ev_var 0 rfl) rfl (by decide +kernel)) (fun h => nomatch h)) ⟨rfl, Mle.refl _⟩)
    | tup ds => exact bv_one (sv_ret (ev_andB (p := false) (q := false) (ev_isi T.isinstance T.int boot_int (ev_var 0 rfl) rfl (by decide +kernel)) (fun h => nomatch h)) ⟨rfl, Mle.refl _⟩)
    | lst ds => exact bv_one (sv_ret (ev_andB (p := false) (q := false) (ev_isi T.isinstance T.int boot_int (ev_var 0 rfl) rfl (by decide +kernel)) (fun h => nomatch h)) ⟨rfl, Mle.refl _⟩)
    | dic => exact bv_one (sv_ret (ev_andB (p := false) (q := false) (ev_isi T.isinstance T.int boot_int (ev_var 0 rfl) rfl (by decide +kernel)) (fun h => nomatch h)) ⟨rfl, Mle.refl _⟩)
def PrWhole (ds : List D) (M : Mem) (d : D) (M' : Mem) : Prop := ∃ t n lo hi, ds = [t, dI lo, dI hi] ∧ kD n t ∧ d = dB (wholeD lo hi t) ∧ M' = M
theorem c_p_is_whole (F : Fun K "is_whole" "is_whole" s_p_is_whole f fd) (hm : mg "is_whole" = some (.ref f)) (c_p_is_number : Cal P w K mg base 1 "is_number" (spD K PrNum)) : Cal P w K mg base 2 "is_whole" (spD K PrWhole) := by
  refine cal_of F sc_p_is_whole hm (fun _ _ _ _ _ _ us hl => match us, hl with | [_, _, _], _ => rfl) (fun ds M d M' h => ?_) fun cdv A outer s H E ds M d M' hr h => ?_
  · obtain ⟨t, n, lo, hi, rfl, _⟩ := h
    rfl
  · obtain ⟨t, n, lo, hi, rfl, hk, rfl, rfl⟩ := h
    show BV _ _ [some t, some (dI lo), some (dI hi)] _ _
    refine bv_one (sv_ret (ev_andB (p := numD t) (q := wholeD lo hi t) (ev_call c_p_is_number (hr.mono (by decide)) (av_cons (ev_var 0 rfl) av_nil) ⟨t, n, rfl, hk, rfl, rfl⟩) (fun h => ?_)) ⟨?_, Mle.refl _⟩)
    · cases t with
      | val v =>
        cases v with
        | int i => exact ev_one (b := true) (ev_chain op_le op_le (ev_var 1 rfl) (ev_var 0 rfl) (ev_var 2 rfl))
        | _ => cases h
      | _ => cases h
    · cases t with
      | val v =>
        cases v with
        | int i => rfl
        | _ => rfl
      | _ => rfl
theorem all_of {ds : List D} {g : D → Bool} : (ds.map g).all id = ds.all g := by
  induction ds with
  | nil => rfl
  | cons d ds ih =>
    rw [List.map_cons, List.all_cons, List.all_cons, ih]
    rfl
def PrToneK (ds : List D) (M : Mem) (d : D) (M' : Mem) : Prop := ∃ t n, ds = [t] ∧ kD n t ∧ d = dB (toneD t) ∧ M' = M
theorem c_p_is_tone (F : Fun K "is_tone" "is_tone" s_p_is_tone f fd) (hm : mg "is_tone" = some (.ref f)) (T : Bt mg) (hF : ∃ t, mg "FAR" = some (.int 1000 t)) (c_p_is_pair : Cal P w K mg base 2 "is_pair" (spD K PrPair)) (c_p_is_whole : Cal P w K mg base 2 "is_whole" (spD K PrWhole)) : Cal P w K mg base 3 "is_tone" (spD K PrToneK) := by
  refine cal_of F sc_p_is_tone hm (fun _ _ _ _ _ _ us hl => match us, hl with | [_], _ => rfl) (fun ds M d M' h => ?_) fun cdv A outer s H E ds M d M' hr h => ?_
  · obtain ⟨t, n, rfl, _⟩ := h
    rfl
  · obtain ⟨t, n, rfl, hk, rfl, rfl⟩ := h
    show BV _ _ [some t, none] _ _
    refine bv_one (sv_ret (ev_andB (p := pairD t) (q := (partsD t).all (wholeD (-1000) 1000)) (ev_call c_p_is_pair (hr.mono (by decide)) (av_cons (ev_var 0 rfl) av_nil) ⟨t, n, rfl, hk, rfl, rfl⟩) (fun h => ?_)) ⟨rfl, Mle.refl _⟩)
    obtain ⟨h1, h2⟩ := Bool.and_eq_true_iff.mp h
    obtain ⟨b, ds, rfl, e⟩ := rowD_sq h1
    obtain ⟨m, _, hl, hd⟩ := kD_sq0 hk
    rw [e, ← all_of]
    refine ev_one (b := true) (ev_all rfl T.all (ev_to (ev_lcM (own := [("number", 1)]) (g := gName 1) rfl sc_p_is_tone.nd (iv_sq (ev_var 0 rfl)) (blkOk_by (N := ["thing", "number"]) (sc := defScope s_p_is_tone) (by decide +kernel)) (fun _ _ _ _ _ => (pg_name (i := 1) sc_p_is_tone.nd rfl (.inl rfl))) (fun d => dB (wholeD (-1000) 1000 d)) (Nat.le_trans hl (by decide)) (fun i d h => ?_)) (by rw [List.map_map] <;> rfl)))
    exact ⟨_, tgb_name, fun M2 s H C cl fp => ev_call c_p_is_whole (hr.mono (by decide)) (av_cons (ev_var 1 rfl) (av_cons (ev_un un_neg (ev_gI hF) ru_neg) (av_cons (ev_gI hF) av_nil))) ⟨d, m, _, _, rfl, hd d (List.mem_of_getElem? h), rfl, rfl⟩⟩
def PrShort (ds : List D) (M : Mem) (d : D) (M' : Mem) : Prop := ∃ t n, ds = [t] ∧ kD n t ∧ d = dB (shortD t) ∧ M' = M
theorem c_p_is_short_fraction (F : Fun K "is_short_fraction" "is_short_fraction" s_p_is_short_fraction f fd) (hm : mg "is_short_fraction" = some (.ref f)) (T : Bt mg) (hP : ∃ t, mg "MOST_PARTS" = some (.int 1000 t)) (hg : mg "gcd" = some (.builtin "math.gcd")) (c_p_is_pair : Cal P w K mg base 2 "is_pair" (spD K PrPair)) (c_p_is_whole : Cal P w K mg base 2 "is_whole" (spD K PrWhole)) : Cal P w K mg base 3 "is_short_fraction" (spD K PrShort) := by
  refine cal_of F sc_p_is_short_fraction hm (fun _ _ _ _ _ _ us hl => match us, hl with | [_], _ => rfl) (fun ds M d M' h => ?_) fun cdv A outer s H E ds M d M' hr h => ?_
  · obtain ⟨t, n, rfl, _⟩ := h
    rfl
  · obtain ⟨t, n, rfl, hk, rfl, rfl⟩ := h
    show BV _ _ [some t, none] _ _
    refine bv_cons (sv_if (p := !pairD t || !(partsD t).all (wholeD 1 1000)) (M1 := M') (PW.pt (wv_or (tv_not (tv_val (ev_call c_p_is_pair (hr.mono (by decide)) (av_cons (ev_var 0 rfl) av_nil) ⟨t, n, rfl, hk, rfl, rfl⟩))) (fun h => wv_one_or (tv_not (tv_val ?_))))) (fun h => ?_) (fun h => bv_nil ?_))
    · have hp : pairD t = true := by
        cases e : pairD t with
        | true => rfl
        | false => rw [e] at h; cases h
      obtain ⟨h1, h2⟩ := Bool.and_eq_true_iff.mp hp
      obtain ⟨b, ds, rfl, e⟩ := rowD_sq h1
      obtain ⟨m, _, hl, hd⟩ := kD_sq0 hk
      rw [e, ← all_of]
      refine ev_all rfl T.all (ev_to (ev_lcM (own := [("number", 1)]) (g := gName 1) rfl sc_p_is_short_fraction.nd (iv_sq (ev_var 0 rfl)) (blkOk_by (N := ["thing", "number"]) (sc := defScope s_p_is_short_fraction) (by decide +kernel)) (fun _ _ _ _ _ => (pg_name (i := 1) sc_p_is_short_fraction.nd rfl (.inl rfl))) (fun d => dB (wholeD 1 1000 d)) (Nat.le_trans hl (by decide)) (fun i d h => ?_)) (by rw [List.map_map] <;> rfl))
      exact ⟨_, tgb_name, fun M2 s H C cl fp => ev_call c_p_is_whole (hr.mono (by decide)) (av_cons (ev_var 1 rfl) (av_cons ev_int (av_cons (ev_gI hP) av_nil))) ⟨d, m, _, _, rfl, hd d (List.mem_of_getElem? h), rfl, rfl⟩⟩
    · refine bv_one (sv_ret ev_bl ⟨?_, Mle.refl _⟩)
      have e : (pairD t && (partsD t).all (wholeD 1 1000)) = false := by
        cases h1 : pairD t with
        | false => rfl
        | true =>
          rw [h1] at h
          cases h2 : (partsD t).all (wholeD 1 1000) with
          | false => rfl
          | true => rw [h2] at h; cases h
      unfold shortD
      rw [e]
      rfl
    · have e : (pairD t && (partsD t).all (wholeD 1 1000)) = true := by
        cases h1 : pairD t with
        | false => rw [h1] at h; cases h
        | true =>
          cases h2 : (partsD t).all (wholeD 1 1000) with
          | true => rfl
          | false => rw [h1, h2] at h; cases h
      obtain ⟨e1, e2⟩ := Bool.and_eq_true_iff.mp e
      obtain ⟨h1, h2⟩ := Bool.and_eq_true_iff.mp e1
      obtain ⟨b, ds, rfl, e3⟩ := rowD_sq h1
      rw [e3] at e2 h2
      have l2 := of_decide_eq_true h2
      have ee := two_of l2
      rw [List.all_eq_true] at e2
      obtain ⟨x, ex, _⟩ := whole_int (e2 (ds.getD 0 dN) (by rw [ee]; exact List.mem_cons_self))
      obtain ⟨y, ey, _⟩ := whole_int (e2 (ds.getD 1 dN) (by rw [ee]; exact List.mem_cons_of_mem _ List.mem_cons_self))
      have sh : shortD (sq b ds) = decide (((Nat.gcd x.natAbs y.natAbs : Nat) : Int) = 1) := by
        unfold shortD partD
        rw [e, e3, ex, ey]
        rfl
      rw [sh]
      rw [ex, ey] at ee
      rw [ee]
      exact bv_one (sv_ret (ev_cmpR op_eq (ev_bf2 cr_gcd hg (ev_ixQ (b' := b) (ds := [dI x, dI y]) (ev_var 0 rfl) ev_int rfl) (ev_ixQ (b' := b) (ds := [dI x, dI y]) (ev_var 0 rfl) ev_int rfl) (z := .int ((Nat.gcd x.natAbs y.natAbs : Nat) : Int)) (fun H Q q => ⟨x, y, rfl, q⟩)) ev_int rs_eqI (nomark _)) ⟨rfl, Mle.refl _⟩)
end
theorem okD_int {n : Nat} (i : Int) : okD n (dI i) := by cases n <;> exact .inr (.inr (.inl ⟨i, rfl⟩))
theorem okD_bool {n : Nat} (b : Bool) : okD n (dB b) := by cases n <;> exact .inr (.inl ⟨b, rfl⟩)
theorem okD_fr (p : Int × Int) : okD 1 (frD p) := ⟨by show 2 ≤ 1000000; decide, fun d hd => by
  rcases List.mem_cons.mp hd with rfl | hd
  · exact okD_int _
  · rcases List.mem_cons.mp hd with rfl | hd
    · exact okD_int _
    · cases hd⟩
section
variable {X : Cx} {ρ : Sl} {M : Mem} {rest : List Stmt} {Ψ : Out → Prop} {ds : List D}
theorem mem_del_set {M : Mem} {l : Addr} {o : MO} (h : M l = some o) : (M.del l).set l o = M := by
  funext b
  unfold Mem.set Mem.del
  by_cases hb : b = l
  · rw [if_pos hb, hb, h]
  · rw [if_neg hb, if_neg hb]
/-- the list at p is changed no more -/
theorem bv_still (i : Nat) {p : Addr} (hρ : ρ[i]? = some (some (dP p))) (hm : M p = some (.lst ds)) (h : BV X rest (ρ.set i (some (.lst ds))) (M.del p) Ψ) : BV X rest ρ M Ψ := by
  have q := bv_freeze (M := M.del p) i hρ Mem.del_same h
  rwa [mem_del_set hm] at q
end
section
variable {P : Program} {w : World} {K : PySem.W.Frag} {mg : Str → Option Value} {base : Heap} {f : Addr} {fd : FuncData}
theorem nf_ {b : Bool} (h : (!b) = false) : b = true := by cases b <;> first | rfl | cases h
theorem nt_ {b : Bool} (h : (!b) = true) : b = false := by cases b <;> first | rfl | cases h
def entryD (d : D) : Bool := d.isN || (pairD d && (toneD (partD d 0) && boolD (partD d 1)))
theorem isN_val {d : D} (h : d.isN = true) : d = dN := by
  cases d with
  | val v => rw [show v = .non from of_decide_eq_true h]
  | tup ds => cases h
  | lst ds => cases h
  | dic => cases h
theorem pair_sq {t : D} (h : pairD t = true) : ∃ b x y, t = sq b [x, y] ∧ partD t 0 = x ∧ partD t 1 = y := by
  obtain ⟨h1, h2⟩ := Bool.and_eq_true_iff.mp h
  obtain ⟨b, ds, rfl, e⟩ := rowD_sq h1
  rw [e] at h2
  have l := two_of (of_decide_eq_true h2)
  refine ⟨b, ds.getD 0 dN, ds.getD 1 dN, by rw [← l], ?_, ?_⟩
  · unfold partD
    rw [e]
  · unfold partD
    rw [e]
def PrEntryK (ds : List D) (M : Mem) (d : D) (M' : Mem) : Prop := ∃ t n, ds = [t] ∧ kD n t ∧ d = dB (entryD t) ∧ M' = M
theorem c_p_is_entry (F : Fun K "_is_entry" "_is_entry" s_p_is_entry f fd) (hm : mg "_is_entry" = some (.ref f)) (T : Bt mg) (c_p_is_pair : Cal P w K mg base 2 "is_pair" (spD K PrPair)) (c_p_is_tone : Cal P w K mg base 3 "is_tone" (spD K PrToneK)) : Cal P w K mg base 4 "_is_entry" (spD K PrEntryK) := by
  refine cal_of F sc_p_is_entry hm (fun _ _ _ _ _ _ us hl => match us, hl with | [_], _ => rfl) (fun ds M d M' h => ?_) fun cdv A outer s H E ds M d M' hr h => ?_
  · obtain ⟨t, n, rfl, _⟩ := h
    rfl
  · obtain ⟨t, n, rfl, hk, rfl, rfl⟩ := h
    show BV _ _ [some t] _ _
    refine bv_cons (sv_if (tv_isNn (ev_var 0 rfl)) (fun h => ?_) (fun h => bv_nil ?_))
    · exact bv_one (sv_ret ev_bl ⟨by unfold entryD; rw [h]; rfl, Mle.refl _⟩)
    · have e : entryD t = (pairD t && (toneD (partD t 0) && boolD (partD t 1))) := by unfold entryD; rw [h]; rfl
      rw [e]
      refine bv_one (sv_ret (ev_andB (p := pairD t) (q := toneD (partD t 0) && boolD (partD t 1)) (ev_call c_p_is_pair (hr.mono (by decide)) (av_cons (ev_var 0 rfl) av_nil) ⟨t, n, rfl, hk, rfl, rfl⟩) (fun h => ?_)) ⟨rfl, Mle.refl _⟩)
      obtain ⟨b, x, y, rfl, e0, e1⟩ := pair_sq h
      obtain ⟨m, _, hl, hd⟩ := kD_sq0 hk
      rw [e0, e1]
      have hx : kD m x := hd x List.mem_cons_self
      have hy : kD m y := hd y (List.mem_cons_of_mem _ List.mem_cons_self)
      refine ev_andB (p := toneD x) (q := boolD y) (ev_call c_p_is_tone (hr.mono (by decide)) (av_cons (ev_ixQ (b' := b) (ds := [x, y]) (ev_var 0 rfl) ev_int rfl) av_nil) ⟨x, m, rfl, hx, rfl, rfl⟩) (fun h => ev_one (b := true) ?_)
      cases y with
      | val v =>
        rcases kD_val hy with rfl | ⟨b, rfl⟩ | ⟨i, rfl⟩ | ⟨z, rfl⟩
        · exact ev_isi (r := false) T.isinstance T.bool boot_bool (ev_ixQ (b' := b) (ds := [x, _]) (ev_var 0 rfl) ev_int rfl) rfl (by decide +kernel)
        · exact ev_isi (r := true) T.isinstance T.bool boot_bool (ev_ixQ (ds := [x, _]) (ev_var 0 rfl) ev_int rfl) rfl (by decide +kernel)
        · exact ev_isi (r := false) T.isinstance T.bool boot_bool (ev_ixQ (b' := b) (ds := [x, _]) (ev_var 0 rfl) ev_int rfl) rfl (by decide +kernel)
        · exact ev_isi (r := false) T.isinstance T.bool boot_bool (ev_ixQ (b' := b) (ds := [x, _]) (ev_var 0 rfl) ev_int rfl) rfl (by decide +kernel)
      | tup ds => exact ev_isi (r := false) T.isinstance T.bool boot_bool (ev_ixQ (b' := b) (ds := [x, _]) (ev_var 0 rfl) ev_int rfl) rfl (by decide +kernel)
      | lst ds => exact ev_isi (r := false) T.isinstance T.bool boot_bool (ev_ixQ (b' := b) (ds := [x, _]) (ev_var 0 rfl) ev_int rfl) rfl (by decide +kernel)
      | dic => exact ev_isi (r := false) T.isinstance T.bool boot_bool (ev_ixQ (b' := b) (ds := [x, _]) (ev_var 0 rfl) ev_int rfl) rfl (by decide +kernel)
def optI : Option Nat → D
  | none => dN
  | some k => dI ((k : Nat) : Int)
def optS : Option Str → D
  | none => dN
  | some z => dS z
def lenD (d : D) : Nat := (partsD d).length
def reasonD (t : D) (v : Option Nat) : Option Str :=
  if rowD t = true ∧ lenD t = 3 then
    if shortD (partD t 0) = true then
      if wholeD 0 9 (partD t 1) = true then
        if rowD (partD t 2) = true ∧ (1 ≤ lenD (partD t 2) ∧ lenD (partD t 2) ≤ 4) ∧ ∀ k, v = some k → lenD (partD t 2) = k then
          if (partsD (partD t 2)).all entryD = true then none else some "entry"
        else some "voices"
      else some "accent"
    else some "duration"
  else some "column"
theorem row3_sq {t : D} (h : rowD t = true ∧ lenD t = 3) : ∃ b x y z, t = sq b [x, y, z] ∧ partD t 0 = x ∧ partD t 1 = y ∧ partD t 2 = z := by
  obtain ⟨b, ds, rfl, e⟩ := rowD_sq h.1
  have h2 := h.2
  unfold lenD at h2
  rw [e] at h2
  have l := three_of h2
  refine ⟨b, ds.getD 0 dN, ds.getD 1 dN, ds.getD 2 dN, by rw [← l], ?_, ?_, ?_⟩ <;>
  · unfold partD
    rw [e]
def PrReason (ds : List D) (M : Mem) (d : D) (M' : Mem) : Prop := ∃ t n v, ds = [t, optI v] ∧ kD n t ∧ d = optS (reasonD t v) ∧ M' = M
theorem c_p_reason (F : Fun K "_reason" "_reason" s_p_reason f fd) (hm : mg "_reason" = some (.ref f)) (T : Bt mg) (hA : ∃ t, mg "MOST_ACCENT" = some (.int 9 t)) (hV : ∃ t, mg "MOST_VOICES" = some (.int 4 t)) (c_p_is_row : Cal P w K mg base 1 "is_row" (spD K PrRow)) (c_p_is_whole : Cal P w K mg base 2 "is_whole" (spD K PrWhole)) (c_p_is_short_fraction : Cal P w K mg base 3 "is_short_fraction" (spD K PrShort)) (c_p_is_entry : Cal P w K mg base 4 "_is_entry" (spD K PrEntryK)) : Cal P w K mg base 5 "_reason" (spD K PrReason) := by
  refine cal_of F sc_p_reason hm (fun _ _ _ _ _ _ us hl => match us, hl with | [_, _], _ => rfl) (fun ds M d M' h => ?_) fun cdv A outer s H E ds M d M' hr h => ?_
  · obtain ⟨t, n, v, rfl, _⟩ := h
    rfl
  · obtain ⟨t, n, v, rfl, hk, rfl, rfl⟩ := h
    show BV _ _ [some t, some (optI v), none, none, none, none] _ _
    refine bv_cons (sv_if (p := !rowD t || !decide ((lenD t : Int) = 3)) (M1 := M') (PW.pt (wv_or (tv_not (tv_val (ev_call c_p_is_row (hr.mono (by decide)) (av_cons (ev_var 0 rfl) av_nil) ⟨t, n, rfl, hk, rfl, rfl⟩))) (fun h => wv_one_or ?_))) (fun h => ?_) (fun h => bv_nil ?_))
    · have hp : rowD t = true := by
        cases e : rowD t with
        | true => rfl
        | false => rw [e] at h; cases h
      obtain ⟨b, ds, rfl, e⟩ := rowD_sq hp
      unfold lenD
      rw [e]
      exact tv_cmpR op_ne (ev_lenS2 T.len (ev_var 0 rfl)) ev_int rs_neI (nomark _)
    · have e : ¬ (rowD t = true ∧ lenD t = 3) := fun q => by
        rw [q.1, q.2] at h
        cases h
      unfold reasonD
      rw [if_neg e]
      exact bv_one (sv_ret ev_str ⟨rfl, Mle.refl _⟩)
    · have e : rowD t = true ∧ lenD t = 3 := by
        rw [Bool.or_eq_false_iff, Bool.not_eq_false', Bool.not_eq_false'] at h
        have := of_decide_eq_true h.2
        exact ⟨h.1, by omega⟩
      obtain ⟨b, x, y, z, rfl, e0, e1, e2⟩ := row3_sq e
      unfold reasonD
      rw [if_pos e, e0, e1, e2]
      clear e0 e1 e2 e h
      obtain ⟨m, _, _, hd⟩ := kD_sq0 hk
      have hx : kD m x := hd x List.mem_cons_self
      have hy : kD m y := hd y (List.mem_cons_of_mem _ List.mem_cons_self)
      have hz : kD m z := hd z (List.mem_cons_of_mem _ (List.mem_cons_of_mem _ List.mem_cons_self))
      refine bv_cons (sw_asg (pg_sq b rfl (pgs_cons (pg_name (i := 2) sc_p_reason.nd rfl (.inl rfl)) (pgs_cons (pg_name (i := 3) sc_p_reason.nd rfl (.inl rfl)) (pgs_cons (pg_name (i := 4) sc_p_reason.nd rfl (.inl rfl)) pgs_nil)))) ?_)
      refine ew_ev (ev_var 0 rfl) ⟨_, tg_sq (tg_cons tg_name (tg_cons tg_name (tg_cons tg_name (tg_nil)))), ?_⟩
      refine bv_cons (sv_if (tv_not (tv_val (ev_call c_p_is_short_fraction (hr.mono (by decide)) (av_cons (ev_var 2 rfl) av_nil) ⟨x, m, rfl, hx, rfl, rfl⟩))) (fun h => ?_) (fun h => bv_nil ?_))
      · rw [if_neg (by rw [nt_ h]; decide)]
        exact bv_one (sv_ret ev_str ⟨rfl, Mle.refl _⟩)
      rw [if_pos (nf_ h)]
      clear h
      refine bv_cons (sv_if (tv_not (tv_val (ev_call c_p_is_whole (hr.mono (by decide)) (av_cons (ev_var 3 rfl) (av_cons ev_int (av_cons (ev_gI hA) av_nil))) ⟨y, m, _, _, rfl, hy, rfl, rfl⟩))) (fun h => ?_) (fun h => bv_nil ?_))
      · rw [if_neg (by rw [nt_ h]; decide)]
        exact bv_one (sv_ret ev_str ⟨rfl, Mle.refl _⟩)
      rw [if_pos (nf_ h)]
      clear h
      refine bv_cons (sv_if (p := !rowD z || !(decide (1 ≤ (lenD z : Int)) && decide ((lenD z : Int) ≤ 4))) (M1 := M') (PW.pt (wv_or (tv_not (tv_val (ev_call c_p_is_row (hr.mono (by decide)) (av_cons (ev_var 4 rfl) av_nil) ⟨z, m, rfl, hz, rfl, rfl⟩))) (fun h => wv_one_or (tv_not ?_)))) (fun h => ?_) (fun h => bv_nil ?_))
      · have hp : rowD z = true := by
          cases e : rowD z with
          | true => rfl
          | false => rw [e] at h; cases h
        obtain ⟨b2, ds, rfl, e⟩ := rowD_sq hp
        unfold lenD
        rw [e]
        exact tv_chain op_le op_le ev_int (ev_lenS2 T.len (ev_var 4 rfl)) (ev_gI hV)
      · have e : ¬ (rowD z = true ∧ (1 ≤ lenD z ∧ lenD z ≤ 4) ∧ ∀ k, v = some k → lenD z = k) := fun q => by
          rw [q.1, decide_eq_true (by omega), decide_eq_true (by omega)] at h
          cases h
        rw [if_neg e]
        exact bv_one (sv_ret ev_str ⟨rfl, Mle.refl _⟩)
      rw [Bool.or_eq_false_iff, Bool.not_eq_false', Bool.not_eq_false', Bool.and_eq_true, decide_eq_true_eq, decide_eq_true_eq] at h
      obtain ⟨hp, l1, l2⟩ := h
      obtain ⟨b2, ds, rfl, e⟩ := rowD_sq hp
      have le : lenD (sq b2 ds) = ds.length := by unfold lenD; rw [e]
      rw [le] at l1 l2
      rw [le, e]
      obtain ⟨m2, _, hl, hd⟩ := kD_sq0 hz
      refine bv_cons (sv_if (p := !(optI v).isN && !decide (∀ k, v = some k → ds.length = k)) (M1 := M') (PW.pt (wv_and (tv_notNn (ev_var 1 rfl)) (fun h => wv_one_and ?_))) (fun h => ?_) (fun h => bv_nil ?_))
      · cases v with
        | none => cases h
        | some k =>
          have e : decide (∀ k', some k = some k' → ds.length = k') = decide ((ds.length : Int) = (k : Int)) := decide_eq_decide.mpr ⟨fun q => by rw [q k rfl], fun q k' e => by cases e; omega⟩
          rw [e]
          exact tv_cmpR op_ne (ev_lenS2 T.len (ev_var 4 rfl)) (ev_var 1 rfl) rs_neI (nomark _)
      · have e : ¬ (rowD (sq b2 ds) = true ∧ (1 ≤ ds.length ∧ ds.length ≤ 4) ∧ ∀ k, v = some k → ds.length = k) := fun q => by
          rw [decide_eq_true q.2.2, Bool.and_comm] at h
          cases h
        rw [if_neg e]
        exact bv_one (sv_ret ev_str ⟨rfl, Mle.refl _⟩)
      have q : ∀ k, v = some k → ds.length = k := fun k hk => by
        rw [hk] at h
        have h : (true && !decide (∀ k', some k = some k' → ds.length = k')) = false := h
        rw [Bool.true_and, Bool.not_eq_false', decide_eq_true_eq] at h
        exact h k rfl
      rw [if_pos ⟨hp, ⟨by omega, by omega⟩, q⟩]
      clear h q
      refine bv_cons (sv_if (p := !ds.all entryD) (M1 := M') (tv_not (tv_val ?_)) (fun h => ?_) (fun h => bv_nil ?_))
      · rw [← all_of]
        refine ev_all rfl T.all (ev_to (ev_lcM (own := [("entry", 5)]) (g := gName 5) rfl sc_p_reason.nd (iv_sq (ev_var 4 rfl)) (blkOk_by (N := ["column", "voices", "duration", "accent", "entries", "entry"]) (sc := defScope s_p_reason) (by decide +kernel)) (fun _ _ _ _ _ => (pg_name (i := 5) sc_p_reason.nd rfl (.inl rfl))) (fun d => dB (entryD d)) (Nat.le_trans hl (by decide)) (fun i d h => ?_)) (by rw [List.map_map] <;> rfl))
        exact ⟨_, tgb_name, fun M2 s H C cl fp => ev_call c_p_is_entry (hr.mono (by decide)) (av_cons (ev_var 5 rfl) av_nil) ⟨d, m2, rfl, hd d (List.mem_of_getElem? h), rfl, rfl⟩⟩
      · rw [if_neg (by rw [nt_ h]; decide)]
        exact bv_one (sv_ret ev_str ⟨rfl, Mle.refl _⟩)
      · rw [if_pos (nf_ h)]
        exact bv_one (sv_ret ev_non ⟨rfl, Mle.refl _⟩)
end
/-! ### rows as tuples -/
def entT (e : D) : D := if e.isN = true then dN else .tup [.tup (partsD (partD e 0)), partD e 1]
def colT (c : D) : D := .tup [.tup (partsD (partD c 0)), partD c 1, .tup ((partsD (partD c 2)).map entT)]
def barT (t : D) : D := .tup ((partsD t).map colT)
def GoodE (e : D) : Prop := e.isN = true ∨ ∃ b b2 x y g, e = sq b [sq b2 [x, y], g]
structure GoodC (c : D) : Prop where
  ex : ∃ b b1 xs y b2 zs, c = sq b [sq b1 xs, y, sq b2 zs] ∧ zs.length ≤ 1000000 ∧ ∀ e ∈ zs, GoodE e
structure GoodB (t : D) : Prop where
  ex : ∃ b cs, t = sq b cs ∧ cs.length ≤ 1000000 ∧ ∀ c ∈ cs, GoodC c
section
variable {P : Program} {w : World} {K : PySem.W.Frag} {mg : Str → Option Value} {base : Heap} {f : Addr} {fd : FuncData}
def PrTupOf (ds : List D) (M : Mem) (d : D) (M' : Mem) : Prop := ∃ b x y, ds = [sq b [x, y]] ∧ d = .tup [x, y] ∧ M' = M
theorem c_p_tuple_of (F : Fun K "tuple_of" "tuple_of" s_p_tuple_of f fd) (hm : mg "tuple_of" = some (.ref f)) : Cal P w K mg base 1 "tuple_of" (spD K PrTupOf) := by
  refine cal_of F sc_p_tuple_of hm (fun _ _ _ _ _ _ us hl => match us, hl with | [_], _ => rfl) (fun ds M d M' h => ?_) fun cdv A outer s H E ds M d M' hr h => ?_
  · obtain ⟨b, x, y, rfl, _⟩ := h
    rfl
  · obtain ⟨b, x, y, rfl, rfl, rfl⟩ := h
    show BV _ _ [some (sq b [x, y]), none, none] _ _
    refine bv_cons (sw_asg (pg_sq b rfl (pgs_cons (pg_name (i := 1) sc_p_tuple_of.nd rfl (.inl rfl)) (pgs_cons (pg_name (i := 2) sc_p_tuple_of.nd rfl (.inl rfl)) pgs_nil))) ?_)
    refine ew_ev (ev_var 0 rfl) ⟨_, tg_sq (tg_cons tg_name (tg_cons tg_name (tg_nil))), ?_⟩
    exact bv_one (sv_ret (ev_tup (av_cons (ev_var 1 rfl) (av_cons (ev_var 2 rfl) av_nil))) ⟨rfl, Mle.refl _⟩)
def PrEntries (P : Program) (w : World) (K : PySem.W.Frag) (mg : Str → Option Value) (base : Heap) (ds : List D) (M : Mem) (d : D) (M' : Mem) : Prop := ∃ b es fa, ds = [sq b es, dP fa] ∧ CalF P w K mg base 1 fa (spD K PrTupOf) ∧ es.length ≤ 1000000 ∧ (∀ e ∈ es, GoodE e) ∧ d = .tup (es.map entT) ∧ M' = M
theorem c_p_entries (F : Fun K "_entries" "_entries" s_p_entries f fd) (hm : mg "_entries" = some (.ref f)) (T : Bt mg) : Cal P w K mg base 2 "_entries" (spD K (PrEntries P w K mg base)) := by
  refine cal_of F sc_p_entries hm (fun _ _ _ _ _ _ us hl => match us, hl with | [_, _], _ => rfl) (fun ds M d M' h => ?_) fun cdv A outer s H E ds M d M' hr h => ?_
  · obtain ⟨b, es, fa, rfl, _⟩ := h
    rfl
  · obtain ⟨b, es, fa, rfl, cf, hl, he, rfl, rfl⟩ := h
    show BV _ _ [some (sq b es), some (dP fa), none] _ _
    refine bv_one (sv_ret (ev_tupOf (b := true) T.tuple (ev_lcM (own := [("entry", 2)]) (g := gName 2) rfl sc_p_entries.nd (iv_sq (ev_var 0 rfl)) (blkOk_by (N := ["entries", "change", "entry"]) (sc := defScope s_p_entries) (by decide +kernel)) (fun _ _ _ _ _ => (pg_name (i := 2) sc_p_entries.nd rfl (.inl rfl))) entT (Nat.le_trans hl (by decide)) (fun i d h => ?_))) ⟨rfl, Mle.refl _⟩)
    refine ⟨_, tgb_name, fun M2 s H C cl fp => ?_⟩
    rcases he d (List.mem_of_getElem? h) with h0 | ⟨b1, b2, x, y, g, rfl⟩
    · rw [isN_val h0]
      exact ev_if (tv_isNn (ev_var 2 rfl)) (fun _ => ev_non) (fun h => nomatch h)
    · have e : entT (sq b1 [sq b2 [x, y], g]) = .tup [.tup [x, y], g] := by
        unfold entT partD
        rw [partsD_of]
        have e2 : (sq b1 [sq b2 [x, y], g]).isN = false := by cases b1 <;> rfl
        rw [e2]
        show D.tup [.tup (partsD (sq b2 [x, y])), g] = _
        rw [partsD_of]
      rw [e]
      have e2 : (sq b1 [sq b2 [x, y], g]).isN = false := by cases b1 <;> rfl
      exact ev_if (tv_isNn (ev_var 2 rfl)) (fun h => by rw [show (sq b1 [sq b2 [x, y], g]).isN = true from h] at e2; cases e2) (fun _ => ev_tup (av_cons (ev_callL 1 cf (hr.mono (by decide)) rfl (av_cons (ev_ixQ (b' := b1) (ds := [sq b2 [x, y], g]) (ev_var 2 rfl) ev_int rfl) av_nil) ⟨b2, x, y, rfl, rfl, rfl⟩) (av_cons (ev_ixQ (b' := b1) (ds := [sq b2 [x, y], g]) (ev_var 2 rfl) ev_int rfl) av_nil)))
def PrWith (P : Program) (w : World) (K : PySem.W.Frag) (mg : Str → Option Value) (base : Heap) (ds : List D) (M : Mem) (d : D) (M' : Mem) : Prop := ∃ t fa, ds = [t, dP fa] ∧ CalF P w K mg base 1 fa (spD K PrTupOf) ∧ GoodB t ∧ d = barT t ∧ M' = M
theorem c_p_with_tones (F : Fun K "_with_tones" "_with_tones" s_p_with_tones f fd) (hm : mg "_with_tones" = some (.ref f)) (T : Bt mg) (c_p_entries : Cal P w K mg base 2 "_entries" (spD K (PrEntries P w K mg base))) : Cal P w K mg base 3 "_with_tones" (spD K (PrWith P w K mg base)) := by
  refine cal_of F sc_p_with_tones hm (fun _ _ _ _ _ _ us hl => match us, hl with | [_, _], _ => rfl) (fun ds M d M' h => ?_) fun cdv A outer s H E ds M d M' hr h => ?_
  · obtain ⟨t, fa, rfl, _⟩ := h
    rfl
  · obtain ⟨t, fa, rfl, cf, ⟨b, cs, rfl, hl, hc⟩, rfl, rfl⟩ := h
    show BV _ _ [some (sq b cs), some (dP fa), none, none, none] _ _
    refine bv_one (sw_ret ?_)
    refine ew_tupOf T.tuple ?_
    refine ew_lc (own := [("duration", 2), ("accent", 3), ("entries", 4)]) (g := gAny _ 3 (gCons (gName 2) (gCons (gName 3) (gCons (gName 4) gNil)))) rfl sc_p_with_tones.nd (blkOk_by (N := ["bar", "change", "duration", "accent", "entries"]) (sc := defScope s_p_with_tones) (by decide +kernel)) (fun _ _ _ _ _ => (pg_any rfl (pgs_cons (pg_name (i := 2) sc_p_with_tones.nd rfl (.inl rfl)) (pgs_cons (pg_name (i := 3) sc_p_with_tones.nd rfl (.inl rfl)) (pgs_cons (pg_name (i := 4) sc_p_with_tones.nd rfl (.inl rfl)) pgs_nil))))) ?_
    refine iw_iv (iv_sq (ev_var 0 rfl)) ⟨Nat.le_trans hl (by decide), fun i acc M => M = M' ∧ acc = (cs.take i).map colT, ⟨rfl, rfl⟩, fun i d acc M hd hacc iv => ?_, fun acc M hacc iv => ?_⟩
    · obtain ⟨rfl, rfl⟩ := iv
      obtain ⟨⟨b0, b1, xs, y, b2, zs, rfl, hz, he⟩⟩ := hc d (List.mem_of_getElem? hd)
      refine ⟨_, tgb_of (tb_any (tbs_cons tb_name (tbs_cons tb_name (tbs_cons tb_name tbs_nil)))), fun q hq s H C cl fp => ?_⟩
      refine ew_ev (ev_tup (av_cons (ev_tupOf (b := b1) T.tuple (ev_var 2 rfl)) (av_cons (ev_var 3 rfl) (av_cons (ev_call c_p_entries (hr.mono (by decide)) (av_cons (ev_var 4 rfl) (av_cons (ev_var 1 rfl) av_nil)) ⟨b2, zs, fa, rfl, cf, hz, he, rfl, rfl⟩) av_nil)))) ⟨_, rfl, hq, rfl, ?_⟩
      have e : colT (sq b0 [sq b1 xs, y, sq b2 zs]) = .tup [.tup xs, y, .tup (zs.map entT)] := by
        unfold colT partD
        rw [partsD_of]
        show D.tup [.tup (partsD (sq b1 xs)), y, .tup ((partsD (sq b2 zs)).map entT)] = _
        rw [partsD_of, partsD_of]
      rw [List.take_succ, hd, Option.toList_some, List.map_append, List.map_cons, List.map_nil, e]
    · obtain ⟨rfl, rfl⟩ := iv
      rw [List.take_length]
      refine ⟨true, _, rfl, ?_, Mle.refl _⟩
      unfold barT
      rw [partsD_of]
def PrAsT (ds : List D) (M : Mem) (d : D) (M' : Mem) : Prop := ∃ t, ds = [t] ∧ GoodB t ∧ d = barT t ∧ M' = M
theorem c_p_as_tuples (F : Fun K "as_tuples" "as_tuples" s_p_as_tuples f fd) (hm : mg "as_tuples" = some (.ref f)) (c_p_tuple_of : Cal P w K mg base 1 "tuple_of" (spD K PrTupOf)) (c_p_with_tones : Cal P w K mg base 3 "_with_tones" (spD K (PrWith P w K mg base))) : Cal P w K mg base 4 "as_tuples" (spD K PrAsT) := by
  refine cal_of F sc_p_as_tuples hm (fun _ _ _ _ _ _ us hl => match us, hl with | [_], _ => rfl) (fun ds M d M' h => ?_) fun cdv A outer s H E ds M d M' hr h => ?_
  · obtain ⟨t, rfl, _⟩ := h
    rfl
  · obtain ⟨t, rfl, hb, rfl, rfl⟩ := h
    obtain ⟨fa, hfa, cf⟩ := c_p_tuple_of.val
    exact bv_one (sv_ret (ev_call c_p_with_tones (hr.mono (by decide)) (av_cons (ev_var 0 rfl) (av_cons (ev_def hfa) av_nil)) ⟨t, fa, rfl, cf, hb, rfl, rfl⟩) ⟨rfl, Mle.refl _⟩)
end
/-! ### texts taken apart and put together -/
theorem repl_strs {K : PySem.W.Frag} {G : Hp} : ∀ ws : List (List Nat), RepL K G ((ws.map S).map V.str) (ws.map fun w => dS (S w))
  | [] => .nil
  | _ :: ws => .cons (.val _) (repl_strs ws)
section
variable {X : Cx} {ρ : Sl} {M M1 M2 M3 : Mem} {a b e : Expr} {es : List Expr} {d : D} {ds : List D} {pos : Pos}
theorem ev_split {l m : List Nat} {ap : Pos} (hm0 : m ≠ []) (hk : m.all (· < 256) = true) (ho : EV X a ρ M (dS (S l)) M1) (ha : EV X e ρ M1 (dS (S m)) M2) (hl : l.length ≤ 10000000) (h1 : attributeBase a "split" X.env (eval a X.env) = eval a X.env := by rfl) (h3 : (ap.endLine == pos.line) = true := by decide) (h4 : starEach [e] X.env = (false, eval e X.env) :: starEach [] X.env := by rfl)
    (h2 : (((((backTo pos (starEach [e] X.env)).all fun x => !x.fst) && (backToKw pos (keywordEach [] X.env)).all fun x => x.fst.isSome) && decide (([e].length + ([] : List Keyword).length + if ([] : List Keyword).isEmpty = true then 0 else 1) < 30)) = true) := by rfl)
    (h5 : (((backTo pos (starEach [] X.env)).any fun x => x.fst) = false) := by rfl) : EV X (.Call (.Attribute a "split" ap) [e] [] pos) ρ M (.lst ((TL.spl m 0 [] l).map fun w => dS (S w))) M2 :=
  (pe_bm PySem.F.plainAttrs_str PySem.F.slot_str_split PySem.F.type_str_split mt_split ho (av_cons ha av_nil h4) h1 h2 h3 h4 h5).mono fun σ H Q ⟨G, sa, k⟩ => ⟨G, sa, fun v1 G1 H1 g1 sh1 r1 => by
    rw [r1.of_val]
    refine ⟨(show tyV X.K "str" (.str (S l)) H1 from rfl), G1, ⟨sh1, sa.sl.up g1⟩, fun vs' G2 H2 g2 sh2 r2 => ?_⟩
    rw [RepL.of_vals (xs := [.str (S m)]) r2]
    refine ⟨S l, S m, rfl, rfl, ?_, ?_, ?_⟩
    · rw [S_len]
      cases m with
      | nil => exact absurd rfl hm0
      | cons _ _ => rfl
    · rw [S_len]
      exact Nat.le_trans (Nat.add_le_add_right hl 2) (by decide)
    · rw [show Txt.split (S l) (S m) = (TL.spl m 0 [] l).map S from SX.split_S hm0 hk]
      intro p hp
      obtain ⟨sh3, g3⟩ := sh2.new (o := .lst (((TL.spl m 0 [] l).map S).map V.str)) hp
      exact k _ _ _ ((g1.trans g2).trans g3) sh3 (.lst (.inl (.inl upd_same)) (repl_strs _))⟩
theorem ev_partition {l m p q r : List Nat} {ap : Pos} (hm0 : m ≠ []) (hp : Txt.partition (S l) (S m) = (S p, S q, S r)) (ho : EV X a ρ M (dS (S l)) M1) (ha : EV X e ρ M1 (dS (S m)) M2) (hl : l.length ≤ 10000000) (h1 : attributeBase a "partition" X.env (eval a X.env) = eval a X.env := by rfl) (h3 : (ap.endLine == pos.line) = true := by decide) (h4 : starEach [e] X.env = (false, eval e X.env) :: starEach [] X.env := by rfl)
    (h2 : (((((backTo pos (starEach [e] X.env)).all fun x => !x.fst) && (backToKw pos (keywordEach [] X.env)).all fun x => x.fst.isSome) && decide (([e].length + ([] : List Keyword).length + if ([] : List Keyword).isEmpty = true then 0 else 1) < 30)) = true) := by rfl)
    (h5 : (((backTo pos (starEach [] X.env)).any fun x => x.fst) = false) := by rfl) : EV X (.Call (.Attribute a "partition" ap) [e] [] pos) ρ M (.tup [dS (S p), dS (S q), dS (S r)]) M2 :=
  (pe_bm PySem.F.plainAttrs_str PySem.F.slot_str_partition PySem.F.type_str_partition mt_partition ho (av_cons ha av_nil h4) h1 h2 h3 h4 h5).mono fun σ H Q ⟨G, sa, k⟩ => ⟨G, sa, fun v1 G1 H1 g1 sh1 r1 => by
    rw [r1.of_val]
    refine ⟨(show tyV X.K "str" (.str (S l)) H1 from rfl), G1, ⟨sh1, sa.sl.up g1⟩, fun vs' G2 H2 g2 sh2 r2 => ?_⟩
    rw [RepL.of_vals (xs := [.str (S m)]) r2]
    refine ⟨S l, S m, rfl, rfl, ?_, ?_, ?_⟩
    · rw [S_len]
      cases m with
      | nil => exact absurd rfl hm0
      | cons _ _ => rfl
    · rw [S_len]
      exact Nat.le_trans hl (by decide)
    · rw [hp]
      intro p' hp'
      obtain ⟨sh3, g3⟩ := sh2.new (o := .tup [.str (S p), .str (S q), .str (S r)]) hp'
      exact k _ _ _ ((g1.trans g2).trans g3) sh3 (.tup (.inl (.inl upd_same)) (.cons (.val _) (.cons (.val _) (.cons (.val _) .nil))))⟩
def sumL (ws : List (List Nat)) : Nat := (ws.map (·.length)).sum
theorem vals_strs {K : PySem.W.Frag} {G : Hp} {vs : List V} {ws : List (List Nat)} (r : RepL K G vs (ws.map fun w => dS (S w))) : vs = (ws.map S).map V.str := by
  have e : (ws.map fun w => dS (S w)) = ((ws.map S).map V.str).map D.val := by
    rw [List.map_map, List.map_map]
    rfl
  rw [e] at r
  exact RepL.of_vals r
theorem ev_join {q : Bool} {m : List Nat} {ws : List (List Nat)} {ap : Pos} (ho : EV X a ρ M (dS (S m)) M1) (ha : EV X e ρ M1 (sq q (ws.map fun w => dS (S w))) M2) (hl : sumL ws + ws.length * m.length ≤ 16777216) (h1 : attributeBase a "join" X.env (eval a X.env) = eval a X.env := by rfl) (h3 : (ap.endLine == pos.line) = true := by decide) (h4 : starEach [e] X.env = (false, eval e X.env) :: starEach [] X.env := by rfl)
    (h2 : (((((backTo pos (starEach [e] X.env)).all fun x => !x.fst) && (backToKw pos (keywordEach [] X.env)).all fun x => x.fst.isSome) && decide (([e].length + ([] : List Keyword).length + if ([] : List Keyword).isEmpty = true then 0 else 1) < 30)) = true) := by rfl)
    (h5 : (((backTo pos (starEach [] X.env)).any fun x => x.fst) = false) := by rfl) : EV X (.Call (.Attribute a "join" ap) [e] [] pos) ρ M (dS (S (TL.joinL m ws))) M2 :=
  (pe_bm PySem.F.plainAttrs_str PySem.F.slot_str_join PySem.F.type_str_join mt_join ho (av_cons ha av_nil h4) h1 h2 h3 h4 h5).mono fun σ H Q ⟨G, sa, k⟩ => ⟨G, sa, fun v1 G1 H1 g1 sh1 r1 => by
    rw [r1.of_val]
    refine ⟨(show tyV X.K "str" (.str (S m)) H1 from rfl), G1, ⟨sh1, sa.sl.up g1⟩, fun vs' G2 H2 g2 sh2 r2 => ?_⟩
    have hs : ((ws.map S).map (·.length)).sum + (ws.map S).length * (S m).length ≤ 16777216 := by
      rw [show ((ws.map S).map (·.length)) = ws.map (·.length) from SX.lens ws, List.length_map, S_len]
      exact hl
    cases r2 with
    | cons h t =>
      cases t
      cases q with
      | true =>
        cases (show Rep X.K G2 _ (.lst (ws.map fun w => dS (S w))) from h) with
        | lst z r =>
          rw [vals_strs r] at z
          refine ⟨S m, _, ws.map S, rfl, rfl, .inl (sqlUp sh2.le z), hs, ?_⟩
          rw [show Txt.join (S m) (ws.map S) = S (TL.joinL m ws) from SX.join_S m ws]
          exact k _ G2 H2 (g1.trans g2) sh2 (.val _)
      | false =>
        cases (show Rep X.K G2 _ (.tup (ws.map fun w => dS (S w))) from h) with
        | tup z r =>
          rw [vals_strs r] at z
          refine ⟨S m, _, ws.map S, rfl, rfl, .inr (sqtUp sh2.le z), hs, ?_⟩
          rw [show Txt.join (S m) (ws.map S) = S (TL.joinL m ws) from SX.join_S m ws]
          exact k _ G2 H2 (g1.trans g2) sh2 (.val _)⟩
/-- f'..', its parts one behind the other -/
inductive FP (X : Cx) (ρ : Sl) (M : Mem) : List Expr → List Nat → Prop where
  | nil : FP X ρ M [] []
  | lit {e : Expr} {es : List Expr} {l r : List Nat} (h : EV X e ρ M (dS (S l)) M) (t : FP X ρ M es r) : FP X ρ M (e :: es) (l ++ r)
  | int {e : Expr} {es : List Expr} {i : Int} {r : List Nat} {p : Pos} (h : EV X e ρ M (dI i) M) (hb : i.natAbs.log2 < 1920) (t : FP X ρ M es r) : FP X ρ M (.FormattedValue e (-1) none p :: es) ((Str.ofString (toString i)).cps.toList ++ r)
end
/-! ### tones -/
def pr (b : Bool) (f o : Int) : D := sq b [dI f, dI o]
def PrSteps (ds : List D) (M : Mem) (d : D) (M' : Mem) : Prop := ∃ b f o, ds = [pr b f o] ∧ d = dI (4 * f + 7 * o) ∧ M' = M
def PrWithS (ds : List D) (M : Mem) (d : D) (M' : Mem) : Prop := ∃ f n : Int, ds = [dI f, dI n] ∧ d = .tup [dI f, dI ((n - 4 * f) / 7)] ∧ M' = M
section
variable {P : Program} {w : World} {K : PySem.W.Frag} {mg : Str → Option Value} {base : Heap} {f : Addr} {fd : FuncData}
theorem c_p_steps (F : Fun K "steps" "steps" s_p_steps f fd) (hm : mg "steps" = some (.ref f)) : Cal P w K mg base 1 "steps" (spD K PrSteps) := by
  refine cal_of F sc_p_steps hm (fun _ _ _ _ _ _ us hl => match us, hl with | [_], _ => rfl) (fun ds M d M' h => ?_) fun cdv A outer s H E ds M d M' hr h => ?_
  · obtain ⟨b, x, o, rfl, _⟩ := h
    rfl
  · obtain ⟨b, x, o, rfl, rfl, rfl⟩ := h
    cases b with
    | true =>
      show BV _ _ [some (.lst [dI x, dI o]), none, none] _ _
      refine bv_cons (sv_asg (ev_var 0 rfl) (pg_unl rfl (pgs_cons (pg_name (i := 1) sc_p_steps.nd rfl (.inl rfl)) (pgs_cons (pg_name (i := 2) sc_p_steps.nd rfl (.inl rfl)) pgs_nil))) (tg_lst (tg_cons tg_name (tg_cons tg_name tg_nil))) ?_)
      exact bv_one (sv_ret (ev_op op_add (ev_op op_mul ev_int (ev_var 1 rfl) (rs_I (cm_l (by decide) (by decide)))) (ev_op op_mul ev_int (ev_var 2 rfl) (rs_I (cm_l (by decide) (by decide)))) rs_I0) ⟨rfl, Mle.refl _⟩)
    | false =>
      show BV _ _ [some (.tup [dI x, dI o]), none, none] _ _
      refine bv_cons (sv_asg (ev_var 0 rfl) (pg_tup rfl (pgs_cons (pg_name (i := 1) sc_p_steps.nd rfl (.inl rfl)) (pgs_cons (pg_name (i := 2) sc_p_steps.nd rfl (.inl rfl)) pgs_nil))) (tg_tup (tg_cons tg_name (tg_cons tg_name tg_nil))) ?_)
      exact bv_one (sv_ret (ev_op op_add (ev_op op_mul ev_int (ev_var 1 rfl) (rs_I (cm_l (by decide) (by decide)))) (ev_op op_mul ev_int (ev_var 2 rfl) (rs_I (cm_l (by decide) (by decide)))) rs_I0) ⟨rfl, Mle.refl _⟩)
theorem c_p_with_steps (F : Fun K "with_steps" "with_steps" s_p_with_steps f fd) (hm : mg "with_steps" = some (.ref f)) : Cal P w K mg base 1 "with_steps" (spD K PrWithS) := by
  refine cal_of F sc_p_with_steps hm (fun _ _ _ _ _ _ us hl => match us, hl with | [_, _], _ => rfl) (fun ds M d M' h => ?_) fun cdv A outer s H E ds M d M' hr h => ?_
  · obtain ⟨x, n, rfl, _⟩ := h
    rfl
  · obtain ⟨x, n, rfl, rfl, rfl⟩ := h
    show BV _ _ [some (dI x), some (dI n)] _ _
    exact bv_one (sv_ret (ev_tup (av_cons (ev_var 0 rfl) (av_cons (ev_op op_fdiv (ev_op op_sub (ev_var 1 rfl) (ev_op op_mul ev_int (ev_var 0 rfl) (rs_I (cm_l (by decide) (by decide)))) rs_I0) ev_int (rs_I ⟨by decide, by decide⟩)) av_nil))) ⟨rfl, Mle.refl _⟩)
end
/-! ### names of tones, sign by sign -/
def num (i : Int) : List Nat := (Str.ofString (toString i)).cps.toList
def letters : List Nat := [67, 68, 69, 70, 71, 65, 66]
def marks (m : Int) : List Nat := List.replicate m.toNat 35 ++ List.replicate (-m).toNat 98
def nm (f o : Int) : List Nat := letters.getD (4 * f % 7).toNat 0 :: (marks ((f + 1) / 7) ++ num ((4 * f + 7 * o) / 7))
def figs : List Nat := [48, 49, 50, 51, 52, 53, 54, 55, 56, 57]
def dgs (s : List Nat) : List Nat := if s.take 1 = [45] then s.drop 1 else s
structure NumOk (i : Int) : Prop where
  d1 : 1 ≤ (dgs (num i)).length
  d6 : (dgs (num i)).length ≤ 6
  all : ∀ c ∈ dgs (num i), c ∈ figs
  lead : (dgs (num i)).headD 0 = 48 → num i = [48]
  val : PySem.intText? (S (num i)) = some i
  sharp : (num i).headD 0 ≠ 35
  flat : (num i).headD 0 ≠ 98
  len : (num i).length ≤ 100
  ne : 1 ≤ (num i).length
theorem num_nat (n : Nat) : num ((n : Nat) : Int) = TL.numL n := TL.tl_num n
theorem numL_head : ∀ n : Nat, 1 ≤ n → 49 ≤ (TL.numL n).headD 0 := by
  intro n
  induction n using Nat.strongRecOn with
  | _ n ih =>
    intro h
    by_cases h10 : n < 10
    · rw [TL.numL_lt h10]
      show 49 ≤ 48 + n
      omega
    · rw [TL.numL_step (by omega)]
      have q := ih (n / 10) (by omega) (by omega)
      cases e : TL.numL (n / 10) with
      | nil => exact absurd e (TL.numL_ne _)
      | cons c r =>
        rw [e] at q
        exact q
theorem num_okN {i : Int} (h : 1 ≤ i ∧ i < 1000000) : NumOk i := by
  have e : i = ((i.toNat : Nat) : Int) := by omega
  generalize i.toNat = n at e
  subst e
  have hd := TL.numL_digits n
  have hh := numL_head n (by omega)
  have hne := TL.numL_ne n
  have h6 := TL.numL_len (n := n) (k := 6) (by decide) (by omega)
  have hc : ∀ c ∈ TL.numL n, 48 ≤ c ∧ c ≤ 57 := fun c hc => hd c hc
  have ed : dgs (num ((n : Nat) : Int)) = TL.numL n := by
    rw [num_nat]
    unfold dgs
    rw [if_neg]
    intro q
    cases e : TL.numL n with
    | nil => exact hne e
    | cons c r =>
      rw [e] at q hc
      injection q with q1
      have := (hc c List.mem_cons_self).1
      omega
  have l1 : 1 ≤ (TL.numL n).length := by
    cases e : TL.numL n with
    | nil => exact absurd e hne
    | cons c r => rw [List.length_cons]; omega
  refine ⟨by rw [ed]; exact l1, by rw [ed]; exact h6, fun c h => ?_, fun q => ?_, ?_, ?_, ?_, ?_, ?_⟩
  · rw [ed] at h
    have := hc c h
    have q : c = 48 ∨ c = 49 ∨ c = 50 ∨ c = 51 ∨ c = 52 ∨ c = 53 ∨ c = 54 ∨ c = 55 ∨ c = 56 ∨ c = 57 := by omega
    rcases q with rfl | rfl | rfl | rfl | rfl | rfl | rfl | rfl | rfl | rfl <;> decide
  · rw [ed] at q
    omega
  · show PySem.intText? (S (Str.ofString (toString ((n : Nat) : Int))).cps.toList) = _
    rw [S_of]
    exact TL.int_num (by omega)
  · rw [num_nat]; omega
  · rw [num_nat]
    cases e : TL.numL n with
    | nil => exact absurd e hne
    | cons c r =>
      have := (hc c (by rw [e]; exact List.mem_cons_self)).2
      show c ≠ 98
      omega
  · rw [num_nat]; omega
  · rw [num_nat]; exact l1
theorem cnt_rep (c k : Nat) : ∀ n : Nat, cnt c (List.replicate n k) = if k = c then (n : Int) else 0
  | 0 => by rw [List.replicate_zero, cnt_nil]; split <;> rfl
  | n + 1 => by
    rw [List.replicate_succ, cnt_cons, cnt_rep c k n]
    by_cases h : k = c
    · rw [if_pos h, if_pos h, if_pos h]; omega
    · rw [if_neg h, if_neg h, if_neg h]; rfl
theorem cnt_S (l : List Nat) (c : Nat) : Txt.count (S l) (S [c]) = cnt c l := by
  have h := PyProof.Rows.count_cnt (S l) c
  rw [S_list] at h
  exact h
theorem cnt_of (m : Int) : Txt.count (S (marks m)) (S [35]) = (m.toNat : Int) ∧ Txt.count (S (marks m)) (S [98]) = ((-m).toNat : Int) := by
  constructor
  · rw [cnt_S]; unfold marks; rw [cnt_append, cnt_rep, cnt_rep, if_pos rfl, if_neg (by decide)]; omega
  · rw [cnt_S]; unfold marks; rw [cnt_append, cnt_rep, cnt_rep, if_neg (by decide), if_pos rfl]; omega
theorem find_run : ((List.range 7).all fun n => decide (Txt.find (S letters) (S [letters.getD n 0]) = (n : Int))) = true := by decide +kernel
theorem find_of {n : Int} (h : 0 ≤ n ∧ n < 7) : Txt.find (S letters) (S [letters.getD n.toNat 0]) = n := by
  have q := List.all_eq_true.mp find_run n.toNat (List.mem_range.mpr (by omega))
  rw [decide_eq_true_eq] at q
  rw [q]
  omega
theorem marks_mem {m : Int} {c : Nat} (h : c ∈ marks m) : c = 35 ∨ c = 98 := by
  rcases List.mem_append.mp h with h | h
  · exact .inl (List.eq_of_mem_replicate h)
  · exact .inr (List.eq_of_mem_replicate h)
theorem marks_len (m : Int) : (marks m).length = m.natAbs := by
  unfold marks
  rw [List.length_append, List.length_replicate, List.length_replicate]
  omega
theorem strip_marks (m : Int) {i : Int} (h : NumOk i) : (marks m ++ num i).dropWhile (fun c => [35, 98].contains c) = num i := by
  have e : ∀ (l : List Nat), (∀ c ∈ l, c = 35 ∨ c = 98) → (l ++ num i).dropWhile (fun c => [35, 98].contains c) = num i := fun l => by
    induction l with
    | nil =>
      intro _
      have h1 := h.sharp
      have h2 := h.flat
      show (num i).dropWhile _ = _
      cases q : num i with
      | nil => rfl
      | cons x r =>
        rw [q] at h1 h2
        rw [List.dropWhile_cons_of_neg]
        have h1 : x ≠ 35 := h1
        have h2 : x ≠ 98 := h2
        simp [h1, h2]
    | cons x l ih =>
      intro hl
      rw [List.cons_append, List.dropWhile_cons_of_pos]
      · exact ih fun c hc => hl c (List.mem_cons_of_mem _ hc)
      · rcases hl x List.mem_cons_self with e | e <;> rw [e] <;> rfl
  exact e _ fun c hc => marks_mem hc
theorem sl_from (l : List Nat) : (l.drop (HT.sIx l.length 0 (some 1))).take (HT.sIx l.length l.length none - HT.sIx l.length 0 (some 1)) = l.drop 1 := by
  have e : HT.sIx l.length 0 (some 1) = min 1 l.length := HT.sIx_nat l.length 0 1
  rw [e, HT.sIx_none]
  cases l with
  | nil => rfl
  | cons x l =>
    have e1 : min 1 (x :: l).length = 1 := by simp
    rw [e1]
    exact List.take_of_length_le (by simp)
theorem sl_to1 (l : List Nat) : (l.drop (HT.sIx l.length 0 none)).take (HT.sIx l.length l.length (some 1) - HT.sIx l.length 0 none) = l.take 1 := by
  have e : HT.sIx l.length l.length (some 1) = min 1 l.length := HT.sIx_nat l.length l.length 1
  rw [e, HT.sIx_none]
  cases l with
  | nil => rfl
  | cons x l =>
    have e1 : min 1 (x :: l).length = 1 := by simp
    rw [e1]
    rfl
theorem sl_mid (l : List Nat) {k : Nat} (h0 : 1 ≤ k) (h1 : k ≤ l.length) : (l.drop (HT.sIx l.length 0 (some 1))).take (HT.sIx l.length l.length (some (k : Int)) - HT.sIx l.length 0 (some 1)) = (l.drop 1).take (k - 1) := by
  have e : HT.sIx l.length 0 (some 1) = min 1 l.length := HT.sIx_nat l.length 0 1
  rw [e, HT.sIx_nat]
  have e1 : min 1 l.length = 1 := by omega
  have e2 : min k l.length = k := by omega
  rw [e1, e2]
section
variable {X : Cx} {ρ : Sl} {M M1 M2 M3 : Mem} {pos : Pos} {x : Str}
theorem ev_gT {d : D} (h : ∃ a, X.mg x = some (.ref a) ∧ ∀ G, Rep X.K G (.ref a) d) (hg : Gl X x := by rfl) (hd : (x == ("__debug__" : Str)) = false := by decide) : EV X (.Name x pos) ρ M d M := by
  obtain ⟨a, h, r⟩ := h
  exact ev_globD hg h r hd
theorem ev_strL {z : Str} {l : List Nat} {j} (h : z = S l) : EV X (.Constant (.str z) j pos) ρ M (dS (S l)) M := by
  rw [← h]
  exact ev_str
end
def BT (f o : Int) : Prop := (-1000 ≤ f ∧ f ≤ 1000) ∧ -1000 ≤ o ∧ o ≤ 1000
structure Gk (K : PySem.W.Frag) (mg : Str → Option Value) : Prop where
  far : ∃ t, mg "FAR" = some (.int 1000 t)
  digits : ∃ t, mg "DIGITS" = some (.str (S figs) t)
  letters : ∃ t, mg "LETTERS" = some (.str (S Vt.letters) t)
  most : ∃ t, mg "MOST_FIGURES_names" = some (.int 6 t)
  mostb : ∃ t, mg "MOST_FIGURES_bartexts" = some (.int 4 t)
  plain : ∃ a, mg "PLAIN" = some (.ref a) ∧ ∀ G, Rep K G (.ref a) (.tup (([0, 2, 4, -1, 1, 3, 5] : List Int).map dI))
def plains : List D := [dI 0, dI 2, dI 4, dI (-1), dI 1, dI 3, dI 5]
def plainI (n : Nat) : Int := ([0, 2, 4, -1, 1, 3, 5] : List Int).getD n 0
theorem plain_at {i : Int} (h : 0 ≤ i ∧ i < 7) : atI (([0, 2, 4, -1, 1, 3, 5] : List Int).map dI) i = some (dI (plainI i.toNat)) := by
  have e : i = 0 ∨ i = 1 ∨ i = 2 ∨ i = 3 ∨ i = 4 ∨ i = 5 ∨ i = 6 := by omega
  rcases e with rfl | rfl | rfl | rfl | rfl | rfl | rfl <;> rfl
theorem sl_to (l : List Nat) {k : Nat} (h1 : k ≤ l.length) : (l.drop (HT.sIx l.length 0 none)).take (HT.sIx l.length l.length (some (k : Int)) - HT.sIx l.length 0 none) = l.take k := by
  have e : HT.sIx l.length l.length (some (k : Int)) = min k l.length := HT.sIx_nat l.length l.length k
  rw [e, HT.sIx_none]
  have e2 : min k l.length = k := by omega
  rw [e2]
  rfl
theorem plainI_bd (n : Nat) : -1 ≤ plainI n ∧ plainI n ≤ 5 := by
  match n with
  | 0 | 1 | 2 | 3 | 4 | 5 | 6 => decide
  | n + 7 => exact ⟨by show (-1 : Int) ≤ 0; decide, by show (0 : Int) ≤ 5; decide⟩
/-! numbers in texts -/
def isDg (c : Nat) : Bool := decide (48 ≤ c) && decide (c ≤ 57)
def good (t : List Nat) : Bool := decide (dgs t ≠ []) && ((dgs t).all isDg && (decide ((dgs t).headD 0 ≠ 48) || decide (t = [48])))
def valN (t : List Nat) : Int := if t.take 1 = [45] then -((NumText.digitsVal (t.drop 1) : Nat) : Int) else ((NumText.digitsVal t : Nat) : Int)
def lawNum (t : List Nat) : Option Int := if good t = true then some (valN t) else none
def numIn (t : List Nat) : Option Int := if good t = true ∧ (dgs t).length ≤ 6 then some (valN t) else none
theorem isDg_iff {c : Nat} : isDg c = true ↔ 48 ≤ c ∧ c ≤ 57 := by
  unfold isDg
  rw [Bool.and_eq_true, decide_eq_true_iff, decide_eq_true_iff]
theorem dv_snoc (l : List Nat) (c : Nat) : NumText.digitsVal (l ++ [c]) = NumText.digitsVal l * 10 + (c - 48) := by
  unfold NumText.digitsVal
  rw [List.foldl_append]
  rfl
theorem dv_ge : ∀ (l : List Nat) (a : Nat), a ≤ l.foldl (fun acc c => acc * 10 + (c - 48)) a
  | [], a => Nat.le_refl _
  | c :: l, a => by
    rw [List.foldl_cons]
    exact Nat.le_trans (by omega) (dv_ge l _)
theorem dv_pos {c : Nat} {l : List Nat} (h : 49 ≤ c) : 1 ≤ NumText.digitsVal (c :: l) := by
  unfold NumText.digitsVal
  rw [List.foldl_cons]
  exact Nat.le_trans (by omega) (dv_ge l _)
/-- digits without a nought ahead are the digits of their number -/
theorem dv_num : ∀ (n : Nat) (l : List Nat), l.length = n → l ≠ [] → (∀ c ∈ l, isDg c = true) → (l.headD 0 ≠ 48 ∨ l = [48]) → TL.numL (NumText.digitsVal l) = l
  | 0, l, hn, h, _, _ => absurd (List.length_eq_zero_iff.mp hn) h
  | n + 1, l, hn, h, hd, h0 => by
    rcases List.eq_nil_or_concat l with e | ⟨i, c, e⟩
    · exact absurd e h
    · rw [List.concat_eq_append] at e
      subst e
      have hc := isDg_iff.mp (hd c (List.mem_append_right _ (List.mem_singleton.mpr rfl)))
      rw [dv_snoc]
      cases i with
      | nil =>
        have e0 : NumText.digitsVal [] = 0 := rfl
        rw [e0, TL.numL_lt (by omega)]
        show [48 + (0 * 10 + (c - 48))] = [c]
        rw [show 48 + (0 * 10 + (c - 48)) = c by omega]
      | cons x i =>
        have hx := isDg_iff.mp (hd x (List.mem_append_left _ List.mem_cons_self))
        have hx0 : x ≠ 48 := by
          rcases h0 with h0 | h0
          · exact h0
          · have := congrArg List.length h0
            rw [List.length_append, List.length_cons] at this
            have : i.length + 1 + 1 = 1 := this
            omega
        have ih := dv_num n (x :: i) (by rw [List.length_append] at hn; have : (x :: i).length + 1 = n + 1 := hn; omega) (by simp) (fun y hy => hd y (List.mem_append_left _ hy)) (.inl hx0)
        have p := dv_pos (c := x) (l := i) (by omega)
        rw [TL.numL_step (by omega), show (NumText.digitsVal (x :: i) * 10 + (c - 48)) / 10 = NumText.digitsVal (x :: i) by omega, ih, show 48 + (NumText.digitsVal (x :: i) * 10 + (c - 48)) % 10 = c by omega]
theorem num_negS (m : Nat) : num (Int.negSucc m) = 45 :: TL.numL (m + 1) := by
  show (Str.ofString ("-" ++ Nat.repr (m + 1))).cps.toList = _
  rw [PyProof.Rows.signs_ofString, String.toList_append, List.map_append, Nat.toList_repr]
  rfl
theorem dgs_cons45 (l : List Nat) : dgs (45 :: l) = l := rfl
theorem dgs_of {l : List Nat} (h : l.take 1 ≠ [45]) : dgs l = l := if_neg h
theorem head_dg {l : List Nat} (h : ∀ c ∈ l, isDg c = true) : l.take 1 ≠ [45] := by
  cases l with
  | nil => simp
  | cons c l =>
    intro e
    injection e with e1
    have := isDg_iff.mp (h c List.mem_cons_self)
    omega
theorem numL_dg (n : Nat) : ∀ c ∈ TL.numL n, isDg c = true := fun c h => isDg_iff.mpr (TL.numL_digits n c h)
theorem num_good (i : Int) : good (num i) = true ∧ valN (num i) = i := by
  cases i with
  | ofNat n =>
    have e : num (Int.ofNat n) = TL.numL n := num_nat n
    rw [e]
    have hd := numL_dg n
    have h45 := head_dg hd
    refine ⟨?_, ?_⟩
    · unfold good
      rw [dgs_of h45, Bool.and_eq_true, Bool.and_eq_true, Bool.or_eq_true, decide_eq_true_iff, decide_eq_true_iff, decide_eq_true_iff]
      refine ⟨TL.numL_ne n, List.all_eq_true.mpr hd, ?_⟩
      by_cases h0 : n = 0
      · subst h0
        exact .inr (TL.numL_lt (by decide))
      · refine .inl ?_
        have := numL_head n (by omega)
        omega
    · unfold valN
      rw [if_neg h45, TL.numL_val]
      rfl
  | negSucc m =>
    rw [num_negS]
    have hd := numL_dg (m + 1)
    refine ⟨?_, ?_⟩
    · unfold good
      rw [dgs_cons45, Bool.and_eq_true, Bool.and_eq_true, Bool.or_eq_true, decide_eq_true_iff, decide_eq_true_iff, decide_eq_true_iff]
      refine ⟨TL.numL_ne _, List.all_eq_true.mpr hd, .inl ?_⟩
      have := numL_head (m + 1) (by omega)
      omega
    · unfold valN
      rw [if_pos (show List.take 1 (45 :: TL.numL (m + 1)) = [45] from rfl)]
      show -((NumText.digitsVal (TL.numL (m + 1)) : Nat) : Int) = _
      rw [TL.numL_val]
      omega
theorem good_parts {t : List Nat} (h : good t = true) : dgs t ≠ [] ∧ (∀ c ∈ dgs t, isDg c = true) ∧ ((dgs t).headD 0 ≠ 48 ∨ t = [48]) := by
  unfold good at h
  rw [Bool.and_eq_true, Bool.and_eq_true, Bool.or_eq_true, decide_eq_true_iff, decide_eq_true_iff, decide_eq_true_iff] at h
  exact ⟨h.1, List.all_eq_true.mp h.2.1, h.2.2⟩
theorem good_num {t : List Nat} (h : good t = true) : num (valN t) = t := by
  obtain ⟨h1, h2, h3⟩ := good_parts h
  by_cases h45 : t.take 1 = [45]
  · cases t with
    | nil => cases h45
    | cons c l =>
      obtain rfl : c = 45 := by injection h45
      rw [dgs_cons45] at h1 h2 h3
      have h3 : l.headD 0 ≠ 48 := by
        rcases h3 with h3 | h3
        · exact h3
        · injection h3 with e
          cases e
      have dn := dv_num l.length l rfl h1 h2 (.inl h3)
      cases l with
      | nil => exact absurd rfl h1
      | cons x l =>
        have hx := isDg_iff.mp (h2 x List.mem_cons_self)
        have p := dv_pos (c := x) (l := l) (by have : x ≠ 48 := h3; omega)
        unfold valN
        rw [if_pos (show List.take 1 (45 :: x :: l) = [45] from rfl)]
        show num (-((NumText.digitsVal (x :: l) : Nat) : Int)) = _
        generalize NumText.digitsVal (x :: l) = v at dn p
        rw [show -((v : Nat) : Int) = Int.negSucc (v - 1) by omega, num_negS, show v - 1 + 1 = v by omega, dn]
  · rw [dgs_of h45] at h1 h2 h3
    have dn := dv_num t.length t rfl h1 h2 h3
    unfold valN
    rw [if_neg h45, num_nat, dn]
theorem good_val {t : List Nat} (h : good t = true) (hl : t.length ≤ 4000) : PySem.intText? (S t) = some (valN t) := by
  obtain ⟨h1, h2, _⟩ := good_parts h
  by_cases h45 : t.take 1 = [45]
  · cases t with
    | nil => cases h45
    | cons c l =>
      obtain rfl : c = 45 := by injection h45
      rw [dgs_cons45] at h1 h2
      unfold valN
      rw [if_pos (show List.take 1 (45 :: l) = [45] from rfl)]
      exact PySem.intText_neg (cs := l) (S_list _) (fun c hc => isDg_iff.mp (h2 c hc)) h1 (by rw [S_len]; omega)
  · rw [dgs_of h45] at h1 h2
    unfold valN
    rw [if_neg h45]
    have := PySem.intText_digits (x := S t) (by rw [S_list]; exact fun c hc => isDg_iff.mp (h2 c hc)) (by rw [S_list]; exact h1) (by rw [S_len]; omega)
    rw [S_list] at this
    exact this
theorem lawNum_iff {t : List Nat} {i : Int} : lawNum t = some i ↔ num i = t := by
  unfold lawNum
  constructor
  · intro h
    split at h
    · rename_i g
      cases h
      exact good_num g
    · cases h
  · rintro rfl
    obtain ⟨g, v⟩ := num_good i
    rw [if_pos g, v]
theorem numIn_some {t : List Nat} {i : Int} (h : numIn t = some i) : num i = t := by
  unfold numIn at h
  split at h
  · rename_i g
    cases h
    exact good_num g.1
  · cases h
theorem numIn_num {i : Int} (h : -1000000 < i ∧ i < 1000000) : numIn (num i) = some i := by
  obtain ⟨g, v⟩ := num_good i
  have hl : (dgs (num i)).length ≤ 6 := by
    cases i with
    | ofNat n =>
      have e : num (Int.ofNat n) = TL.numL n := num_nat n
      rw [e, dgs_of (head_dg (numL_dg n))]
      exact TL.numL_len (by decide) (by have h2 : ((n : Nat) : Int) < 1000000 := h.2; show n < 1000000; omega)
    | negSucc m =>
      rw [num_negS, dgs_cons45]
      exact TL.numL_len (by decide) (by have h1 := h.1; show m + 1 < 1000000; omega)
  unfold numIn
  rw [if_pos ⟨g, hl⟩, v]
/-- the first sign of a number -/
theorem num_head (i : Int) : ∃ c l, num i = c :: l ∧ (c = 45 ∨ (48 ≤ c ∧ c ≤ 57)) := by
  cases i with
  | ofNat n =>
    have e : num (Int.ofNat n) = TL.numL n := num_nat n
    rw [e]
    have hd := numL_dg n
    have hne := TL.numL_ne n
    generalize TL.numL n = l at hd hne
    cases l with
    | nil => exact absurd rfl hne
    | cons c l => exact ⟨c, l, rfl, .inr (isDg_iff.mp (hd c List.mem_cons_self))⟩
  | negSucc m => exact ⟨45, _, num_negS m, .inl rfl⟩
theorem plain_hit (f : Int) : ∀ n : Nat, n < 7 → ((f - plainI n) % 7 = 0 ↔ 4 * f % 7 = (n : Int)) ∧ (4 * f % 7 = (n : Int) → (f - plainI n) / 7 = (f + 1) / 7)
  | 0, _ => by show ((f - 0) % 7 = 0 ↔ 4 * f % 7 = 0) ∧ (4 * f % 7 = 0 → (f - 0) / 7 = (f + 1) / 7); omega
  | 1, _ => by show ((f - 2) % 7 = 0 ↔ 4 * f % 7 = 1) ∧ (4 * f % 7 = 1 → (f - 2) / 7 = (f + 1) / 7); omega
  | 2, _ => by show ((f - 4) % 7 = 0 ↔ 4 * f % 7 = 2) ∧ (4 * f % 7 = 2 → (f - 4) / 7 = (f + 1) / 7); omega
  | 3, _ => by show ((f - -1) % 7 = 0 ↔ 4 * f % 7 = 3) ∧ (4 * f % 7 = 3 → (f - -1) / 7 = (f + 1) / 7); omega
  | 4, _ => by show ((f - 1) % 7 = 0 ↔ 4 * f % 7 = 4) ∧ (4 * f % 7 = 4 → (f - 1) / 7 = (f + 1) / 7); omega
  | 5, _ => by show ((f - 3) % 7 = 0 ↔ 4 * f % 7 = 5) ∧ (4 * f % 7 = 5 → (f - 3) / 7 = (f + 1) / 7); omega
  | 6, _ => by show ((f - 5) % 7 = 0 ↔ 4 * f % 7 = 6) ∧ (4 * f % 7 = 6 → (f - 5) / 7 = (f + 1) / 7); omega
  | n + 7, h => absurd h (by omega)
instance decBd (f o : Int) : Decidable (BT f o) := by unfold BT; exact inferInstance
def isMk (c : Nat) : Bool := [35, 98].contains c
theorem isMk_iff {c : Nat} : isMk c = true ↔ c = 35 ∨ c = 98 := by
  unfold isMk
  rw [List.contains_iff_mem]
  simp
def runL (s : List Nat) : Nat := (s.takeWhile fun x => isMk x && decide (x = s.headD 0)).length
def sgnL (s : List Nat) : Int := if s.headD 0 = 98 then -((runL s : Nat) : Int) else ((runL s : Nat) : Int)
def pairI (f up : Int) : Option (Int × Int) := if BT f ((up - 4 * f) / 7) then some (f, (up - 4 * f) / 7) else none
def lawTone : List Nat → Option (Int × Int)
  | [] => none
  | c :: s => if c ∈ letters then (match lawNum (s.drop (runL s)) with
    | none => none
    | some q => pairI (plainI (letters.idxOf c) + 7 * sgnL s) (7 * q + ((letters.idxOf c : Nat) : Int))) else none
theorem let_idx : ∀ c ∈ letters, letters.idxOf c < 7 ∧ letters.getD (letters.idxOf c) 0 = c := by decide
theorem let_at : ∀ n, n < 7 → letters.getD n 0 ∈ letters ∧ letters.idxOf (letters.getD n 0) = n := by decide
theorem tw_rep {P : Nat → Bool} {c : Nat} {r : List Nat} (hc : P c = true) (hr : ∀ x l, r = x :: l → P x = false) : ∀ k, (List.replicate k c ++ r).takeWhile P = List.replicate k c
  | 0 => by
    rw [List.replicate_zero, List.nil_append]
    cases r with
    | nil => rfl
    | cons x l => rw [List.takeWhile_cons_of_neg (by rw [hr x l rfl]; exact Bool.false_ne_true)]
  | k + 1 => by
    rw [List.replicate_succ, List.cons_append, List.takeWhile_cons_of_pos hc, tw_rep hc hr k]
theorem num_nomk {i : Int} {x : Nat} {l : List Nat} (h : num i = x :: l) : isMk x = false := by
  obtain ⟨c, l', e, hc⟩ := num_head i
  rw [e] at h
  injection h with h1
  cases q : isMk x with
  | false => rfl
  | true =>
    have := isMk_iff.mp q
    omega
theorem marks_cases (m : Int) : (m = 0 ∧ marks m = []) ∨ (0 < m ∧ marks m = List.replicate m.natAbs 35) ∨ (m < 0 ∧ marks m = List.replicate m.natAbs 98) := by
  unfold marks
  rcases Int.lt_trichotomy m 0 with h | h | h
  · refine .inr (.inr ⟨h, ?_⟩)
    rw [show m.toNat = 0 by omega, show (-m).toNat = m.natAbs by omega]
    rfl
  · subst h
    exact .inl ⟨rfl, rfl⟩
  · refine .inr (.inl ⟨h, ?_⟩)
    rw [show (-m).toNat = 0 by omega, show m.toNat = m.natAbs by omega, List.replicate_zero, List.append_nil]
theorem run_marks (m q : Int) : runL (marks m ++ num q) = m.natAbs ∧ (marks m ++ num q).drop m.natAbs = num q ∧ sgnL (marks m ++ num q) = m := by
  have nm : ∀ x l, num q = x :: l → isMk x = false := fun x l => num_nomk
  have dr : (marks m ++ num q).drop m.natAbs = num q := by
    rw [← marks_len m, List.drop_left]
  have key : runL (marks m ++ num q) = m.natAbs := by
    unfold runL
    rcases marks_cases m with ⟨h, e⟩ | ⟨h, e⟩ | ⟨h, e⟩
    · rw [e, h, List.nil_append]
      obtain ⟨c, l, en, _⟩ := num_head q
      rw [en, List.takeWhile_cons_of_neg (by rw [nm c l en]; exact Bool.false_ne_true)]
      rfl
    · obtain ⟨k, ek⟩ : ∃ k, m.natAbs = k + 1 := ⟨m.natAbs - 1, by omega⟩
      rw [e, ek]
      have hd : (List.replicate (k + 1) 35 ++ num q).headD 0 = 35 := rfl
      rw [hd, tw_rep (c := 35) rfl (fun x l h => by rw [nm x l h]; rfl), List.length_replicate]
    · obtain ⟨k, ek⟩ : ∃ k, m.natAbs = k + 1 := ⟨m.natAbs - 1, by omega⟩
      rw [e, ek]
      have hd : (List.replicate (k + 1) 98 ++ num q).headD 0 = 98 := rfl
      rw [hd, tw_rep (c := 98) rfl (fun x l h => by rw [nm x l h]; rfl), List.length_replicate]
  refine ⟨key, dr, ?_⟩
  unfold sgnL
  rw [key]
  rcases marks_cases m with ⟨h, e⟩ | ⟨h, e⟩ | ⟨h, e⟩
  · rw [e, h, List.nil_append]
    obtain ⟨c, l, en, hc⟩ := num_head q
    rw [en, if_neg (by show ¬ c = 98; omega)]
    rfl
  · obtain ⟨k, ek⟩ : ∃ k, m.natAbs = k + 1 := ⟨m.natAbs - 1, by omega⟩
    rw [e, ek, if_neg (by show ¬ 35 = 98; decide)]
    omega
  · obtain ⟨k, ek⟩ : ∃ k, m.natAbs = k + 1 := ⟨m.natAbs - 1, by omega⟩
    rw [e, ek, if_pos (by rfl)]
    omega
theorem tw_take {P : Nat → Bool} : ∀ s : List Nat, s.take (s.takeWhile P).length = s.takeWhile P ∧ ∀ x ∈ s.takeWhile P, P x = true
  | [] => ⟨rfl, fun x h => absurd h (by simp)⟩
  | c :: s => by
    obtain ⟨h1, h2⟩ := tw_take (P := P) s
    cases q : P c with
    | false =>
      rw [List.takeWhile_cons_of_neg (by rw [q]; exact Bool.false_ne_true)]
      exact ⟨rfl, fun x h => absurd h (by simp)⟩
    | true =>
      rw [List.takeWhile_cons_of_pos q]
      refine ⟨by rw [List.length_cons, List.take_succ_cons, h1], fun x h => ?_⟩
      rcases List.mem_cons.mp h with rfl | h
      · exact q
      · exact h2 x h
/-- what the run is -/
theorem run_eq (s : List Nat) : marks (sgnL s) ++ s.drop (runL s) = s := by
  obtain ⟨h1, h2⟩ := tw_take (P := fun x => isMk x && decide (x = s.headD 0)) s
  have hk : s.take (runL s) = List.replicate (runL s) (s.headD 0) := by
    rw [List.eq_replicate_iff]
    refine ⟨?_, fun x hx => ?_⟩
    · have := congrArg List.length h1
      exact this
    · rw [show s.take (runL s) = _ from h1] at hx
      have := h2 x hx
      rw [Bool.and_eq_true, decide_eq_true_iff] at this
      exact this.2
  have hm : marks (sgnL s) = s.take (runL s) := by
    rw [hk]
    by_cases h0 : runL s = 0
    · unfold sgnL
      rw [h0]
      split <;> rfl
    · have hx : s.headD 0 ∈ s.take (runL s) := by
        rw [hk]
        exact List.mem_replicate.mpr ⟨h0, rfl⟩
      rw [show s.take (runL s) = _ from h1] at hx
      have := h2 _ hx
      rw [Bool.and_eq_true] at this
      have := isMk_iff.mp this.1
      unfold sgnL marks
      split
      · rename_i e
        rw [e, show (-((runL s : Nat) : Int)).toNat = 0 by omega, show (- -((runL s : Nat) : Int)).toNat = runL s by omega]
        rfl
      · rename_i e
        rw [show s.headD 0 = 35 by omega, show (((runL s : Nat) : Int)).toNat = runL s by omega, show (-((runL s : Nat) : Int)).toNat = 0 by omega, List.replicate_zero, List.append_nil]
  rw [hm, List.take_append_drop]
theorem lawTone_iff {t : List Nat} {f o : Int} : lawTone t = some (f, o) ↔ BT f o ∧ nm f o = t := by
  constructor
  · intro h
    cases t with
    | nil => cases h
    | cons c s =>
      have h : (if c ∈ letters then (match lawNum (s.drop (runL s)) with
        | none => none
        | some q => pairI (plainI (letters.idxOf c) + 7 * sgnL s) (7 * q + ((letters.idxOf c : Nat) : Int))) else none) = some (f, o) := h
      split at h
      · rename_i hc
        obtain ⟨hn, hg⟩ := let_idx c hc
        generalize letters.idxOf c = n at h hn hg
        cases q : lawNum (s.drop (runL s)) with
        | none =>
          rw [q] at h
          cases h
        | some v =>
          rw [q] at h
          have h : pairI (plainI n + 7 * sgnL s) (7 * v + ((n : Nat) : Int)) = some (f, o) := h
          unfold pairI at h
          split at h
          · rename_i b
            have h := Option.some.inj h
            have e1 : plainI n + 7 * sgnL s = f := congrArg Prod.fst h
            have e2 : (7 * v + (n : Int) - 4 * (plainI n + 7 * sgnL s)) / 7 = o := congrArg Prod.snd h
            rw [e1] at b e2
            rw [e2] at b
            obtain ⟨p1, p2⟩ := plain_hit f n hn
            have m4 := p1.mp (by omega)
            have d4 := p2 m4
            refine ⟨b, ?_⟩
            unfold nm
            rw [show (4 * f % 7).toNat = n by omega, hg, ← d4, show (f - plainI n) / 7 = sgnL s by omega, show (4 * f + 7 * o) / 7 = v by omega, lawNum_iff.mp q, run_eq]
          · cases h
      · cases h
  · rintro ⟨b, rfl⟩
    unfold nm
    have hn : (4 * f % 7).toNat < 7 := by omega
    obtain ⟨l1, l2⟩ := let_at _ hn
    obtain ⟨p1, p2⟩ := plain_hit f (4 * f % 7).toNat hn
    have m4 : 4 * f % 7 = (((4 * f % 7).toNat : Nat) : Int) := by omega
    have d4 := p2 m4
    have z4 := p1.mpr m4
    obtain ⟨r1, r2, r3⟩ := run_marks ((f + 1) / 7) ((4 * f + 7 * o) / 7)
    show (if _ ∈ letters then _ else none) = _
    rw [if_pos l1, l2, r1, r2, r3, lawNum_iff.mpr rfl]
    show pairI _ _ = _
    generalize (4 * f % 7).toNat = n at *
    have e1 : plainI n + 7 * ((f + 1) / 7) = f := by omega
    have e2 : (7 * ((4 * f + 7 * o) / 7) + (n : Int) - 4 * f) / 7 = o := by omega
    unfold pairI
    rw [e1, e2, if_pos b]
/-! what the program means -/
def progTone (t : List Nat) : Option (Int × Int) := match numIn ((t.drop 1).dropWhile isMk) with
  | none => none
  | some q => match t with
    | [] => none
    | c :: s => if c ∈ letters then some (plainI (letters.idxOf c) + 7 * (cnt 35 (s.takeWhile isMk) - cnt 98 (s.takeWhile isMk)), (7 * q + ((letters.idxOf c : Nat) : Int) - 4 * (plainI (letters.idxOf c) + 7 * (cnt 35 (s.takeWhile isMk) - cnt 98 (s.takeWhile isMk)))) / 7) else none
theorem tw_app {P : Nat → Bool} {r : List Nat} (hr : ∀ x l, r = x :: l → P x = false) : ∀ l : List Nat, (∀ x ∈ l, P x = true) → (l ++ r).takeWhile P = l ∧ (l ++ r).dropWhile P = r
  | [], _ => by
    rw [List.nil_append]
    cases r with
    | nil => exact ⟨rfl, rfl⟩
    | cons x l => exact ⟨List.takeWhile_cons_of_neg (by rw [hr x l rfl]; exact Bool.false_ne_true), List.dropWhile_cons_of_neg (by rw [hr x l rfl]; exact Bool.false_ne_true)⟩
  | c :: l, h => by
    obtain ⟨h1, h2⟩ := tw_app hr l fun x hx => h x (List.mem_cons_of_mem _ hx)
    have hc := h c List.mem_cons_self
    rw [List.cons_append, List.takeWhile_cons_of_pos hc, List.dropWhile_cons_of_pos hc, h1, h2]
    exact ⟨rfl, rfl⟩
theorem cnt_marks (m : Int) : cnt 35 (marks m) - cnt 98 (marks m) = m := by
  obtain ⟨h1, h2⟩ := cnt_of m
  rw [cnt_S] at h1 h2
  rw [h1, h2]
  omega
theorem progTone_nm {f o : Int} (b : BT f o) : progTone (nm f o) = some (f, o) := by
  have hn : (4 * f % 7).toNat < 7 := by omega
  obtain ⟨l1, l2⟩ := let_at _ hn
  obtain ⟨p1, p2⟩ := plain_hit f (4 * f % 7).toNat hn
  have m4 : 4 * f % 7 = (((4 * f % 7).toNat : Nat) : Int) := by omega
  have d4 := p2 m4
  have z4 := p1.mpr m4
  obtain ⟨t1, t2⟩ := tw_app (P := isMk) (r := num ((4 * f + 7 * o) / 7)) (fun x l => num_nomk) (marks ((f + 1) / 7)) (fun x hx => isMk_iff.mpr (marks_mem hx))
  obtain ⟨b1, b2⟩ := b
  unfold progTone nm
  rw [List.drop_one, List.tail_cons, t2, numIn_num (by omega)]
  show (if _ ∈ letters then _ else none) = _
  rw [if_pos l1, l2, t1, cnt_marks]
  generalize (4 * f % 7).toNat = n at *
  have e1 : plainI n + 7 * ((f + 1) / 7) = f := by omega
  rw [e1]
  exact congrArg some (Prod.ext rfl (show (7 * ((4 * f + 7 * o) / 7) + (n : Int) - 4 * f) / 7 = o by omega))
def readT (t : List Nat) : Option (Int × Int) := match progTone t with
  | none => none
  | some p => if BT p.1 p.2 ∧ nm p.1 p.2 = t then some p else none
theorem readT_iff {t : List Nat} {f o : Int} : readT t = some (f, o) ↔ BT f o ∧ nm f o = t := by
  unfold readT
  constructor
  · intro h
    cases q : progTone t with
    | none =>
      rw [q] at h
      cases h
    | some p =>
      rw [q] at h
      have h : (if BT p.1 p.2 ∧ nm p.1 p.2 = t then some p else none) = some (f, o) := h
      split at h
      · rename_i g
        have h := Option.some.inj h
        rw [h] at g
        exact g
      · cases h
  · rintro ⟨b, rfl⟩
    rw [progTone_nm b]
    exact if_pos ⟨b, rfl⟩
theorem readT_law (t : List Nat) : readT t = lawTone t := by
  cases h : lawTone t with
  | some p =>
    obtain ⟨f, o⟩ := p
    exact readT_iff.mpr (lawTone_iff.mp h)
  | none =>
    cases k : readT t with
    | none => rfl
    | some p =>
      obtain ⟨f, o⟩ := p
      rw [lawTone_iff.mpr (readT_iff.mp k)] at h
      cases h
theorem num_len {i : Int} (h : -1000000 < i ∧ i < 1000000) : (num i).length ≤ 7 := by
  cases i with
  | ofNat n =>
    have e : num (Int.ofNat n) = TL.numL n := num_nat n
    rw [e]
    exact Nat.le_trans (TL.numL_len (k := 6) (by decide) (by have h2 : ((n : Nat) : Int) < 1000000 := h.2; show n < 1000000; omega)) (by decide)
  | negSucc m =>
    rw [num_negS, List.length_cons]
    exact Nat.succ_le_succ (TL.numL_len (k := 6) (by decide) (by have h1 := h.1; show m + 1 < 1000000; omega))
def oD : Option Int → D
  | none => dN
  | some i => dI i
def prO : Option (Int × Int) → D
  | none => dN
  | some p => .tup [dI p.1, dI p.2]
def PrTM (ds : List D) (M : Mem) (d : D) (M' : Mem) : Prop := ∃ t : List Nat, ds = [dS (S t)] ∧ t.length ≤ 5000 ∧ d = prO (progTone t) ∧ M' = M
theorem find_letter (c : Nat) : Txt.find (S letters) (S [c]) = if c ∈ letters then ((letters.idxOf c : Nat) : Int) else -1 := by
  by_cases h : c ∈ letters
  · rw [if_pos h]
    obtain ⟨h1, h2⟩ := let_idx c h
    have := find_of (n := ((letters.idxOf c : Nat) : Int)) (by omega)
    rw [Int.toNat_natCast, h2] at this
    exact this
  · rw [if_neg h]
    rcases PyProof.Rows.find_spec (S letters) (S [c]) with e | ⟨i, e, hi, hs⟩
    · exact e
    · have hi : i + 1 ≤ 7 := hi
      have key : ∀ i, i < 7 → PySem.Builtin.Str.strSub (S letters) i (i + 1) = S [letters.getD i 0] := by decide +kernel
      have hs : PySem.Builtin.Str.strSub (S letters) i (i + 1) = S [c] := hs
      rw [key i (by omega)] at hs
      have := S_inj hs
      injection this with e2
      rw [← e2] at h
      exact absurd (let_at i (by omega)).1 h
theorem e45 (l : List Nat) : (decide (S l = (Str.ofString "-")) = decide (l = [45])) := decide_eq_decide.mpr ⟨fun h => S_inj (m := [45]) (h.trans (by decide +kernel)), fun h => by rw [h]; decide +kernel⟩
theorem fig_iff (c : Nat) : decide (c ∈ figs) = isDg c := by
  cases q : isDg c with
  | true =>
    have := isDg_iff.mp q
    have q : c = 48 ∨ c = 49 ∨ c = 50 ∨ c = 51 ∨ c = 52 ∨ c = 53 ∨ c = 54 ∨ c = 55 ∨ c = 56 ∨ c = 57 := by omega
    rcases q with rfl | rfl | rfl | rfl | rfl | rfl | rfl | rfl | rfl | rfl <;> decide
  | false =>
    refine decide_eq_false fun h => ?_
    have h2 : c = 48 ∨ c = 49 ∨ c = 50 ∨ c = 51 ∨ c = 52 ∨ c = 53 ∨ c = 54 ∨ c = 55 ∨ c = 56 ∨ c = 57 := by simpa [figs] using h
    rw [isDg_iff.mpr (by omega)] at q
    cases q
def figD : D → Bool
  | .val (.str z) => isDg (z.cps.toList.headD 0)
  | _ => false
theorem dgs_len (t : List Nat) : (dgs t).length ≤ t.length := by
  unfold dgs
  split
  · rw [List.length_drop]
    omega
  · exact Nat.le_refl _
theorem good_no1 {t : List Nat} (h : (dgs t).all isDg = false) : good t = false := by
  unfold good
  rw [h, Bool.false_and, Bool.and_false]
theorem good_no0 {t : List Nat} (h : dgs t = []) : good t = false := by
  unfold good
  rw [decide_eq_false (fun q => q h), Bool.false_and]
theorem good_no2 {t : List Nat} (h1 : (dgs t).headD 0 = 48) (h2 : t ≠ [48]) : good t = false := by
  unfold good
  rw [show decide ((dgs t).headD 0 ≠ 48) = false from decide_eq_false (fun q => q h1), decide_eq_false h2, Bool.or_self, Bool.and_false]
  exact Bool.and_false _
def PrLetter (ds : List D) (M : Mem) (d : D) (M' : Mem) : Prop := ∃ f : Int, ds = [dI f] ∧ (-100000 ≤ f ∧ f ≤ 100000) ∧ d = dS (S ([letters.getD (4 * f % 7).toNat 0] ++ List.replicate ((f + 1) / 7).toNat 35 ++ List.replicate (-((f + 1) / 7)).toNat 98)) ∧ M' = M
theorem letter_at (n : Int) (h : 0 ≤ n ∧ n < 7) : atI (S letters).cps.toList n = some (letters.getD n.toNat 0) := by
  have e : n = 0 ∨ n = 1 ∨ n = 2 ∨ n = 3 ∨ n = 4 ∨ n = 5 ∨ n = 6 := by omega
  rcases e with rfl | rfl | rfl | rfl | rfl | rfl | rfl <;> rfl
def numK (k : Nat) (t : List Nat) : Option Int := if good t = true ∧ (dgs t).length ≤ k then some (valN t) else none
theorem numK_no {k : Nat} {t : List Nat} (h : good t = false) : numK k t = none := by
  unfold numK
  rw [if_neg (by rw [h]; exact fun q => nomatch q.1)]
theorem numK_num {k : Nat} {i : Int} (h : (dgs (num i)).length ≤ k) : numK k (num i) = some i := by
  unfold numK
  obtain ⟨h1, h2⟩ := num_good i
  rw [if_pos ⟨h1, h⟩, h2]
def PrNumT (ds : List D) (M : Mem) (d : D) (M' : Mem) : Prop := ∃ (t : List Nat) (k : Nat), ds = [dS (S t), dI ((k : Nat) : Int)] ∧ t.length ≤ 5000 ∧ k ≤ 100 ∧ d = oD (numK k t) ∧ M' = M
def BW (f o : Int) : Prop := (-5000 ≤ f ∧ f ≤ 5000) ∧ -5000 ≤ o ∧ o ≤ 5000
theorem BT.wide {f o : Int} (h : BT f o) : BW f o := by
  obtain ⟨a, b⟩ := h
  exact ⟨by omega, by omega⟩
def PrTName (ds : List D) (M : Mem) (d : D) (M' : Mem) : Prop := ∃ b f o, ds = [pr b f o] ∧ BW f o ∧ d = dS (S (nm f o)) ∧ M' = M
def PrMeant (ds : List D) (M : Mem) (d : D) (M' : Mem) : Prop := ∃ f o : Int, ds = [dS (S (nm f o))] ∧ BT f o ∧ d = .tup [dI f, dI o] ∧ M' = M
theorem nm_len {f o : Int} (h : BW f o) : (nm f o).length ≤ 800 := by
  obtain ⟨a, b⟩ := h
  have h1 := num_len (i := (4 * f + 7 * o) / 7) (by omega)
  have h2 := marks_len ((f + 1) / 7)
  unfold nm
  rw [List.length_cons, List.length_append]
  omega
theorem dec_S (l m : List Nat) : decide (S l = S m) = decide (l = m) := decide_eq_decide.mpr ⟨fun h => S_inj h, fun h => by rw [h]⟩
theorem kD_two {n : Nat} {a b : D} (ha : kD n a) (hb : kD n b) : kD (n + 1) (.tup [a, b]) := ⟨by simp only [List.length_cons, List.length_nil]; decide, fun d hd => by
  rcases List.mem_cons.mp hd with rfl | hd
  · exact ha
  · rw [List.mem_singleton.mp hd]
    exact hb⟩
section
variable {P : Program} {w : World} {K : PySem.W.Frag} {mg : Str → Option Value} {base : Heap} {f : Addr} {fd : FuncData}
theorem c_p_number_in (F : Fun K "number_in" "number_in" s_p_number_in f fd) (hm : mg "number_in" = some (.ref f)) (T : Bt mg) (Gb : Gk K mg) : Cal P w K mg base 1 "number_in" (spD K PrNumT) := by
  refine cal_of F sc_p_number_in hm (fun _ _ _ _ _ _ us hl => match us, hl with | [_, _], _ => rfl) (fun ds M d M' h => ?_) fun cdv A outer s H E ds M d M' hr h => ?_
  · obtain ⟨i, k, rfl, _⟩ := h
    rfl
  · obtain ⟨t, k, rfl, tl, hk100, rfl, rfl⟩ := h
    show BV _ _ [some (dS (S t)), some (dI ((k : Nat) : Int)), none, none] _ _
    have hl6 : t.length ≤ 1000000 := Nat.le_trans tl (by decide)
    have hdl := dgs_len t
    have hd6 : (dgs t).length ≤ 1000000 := by omega
    refine bv_cons (sv_set 2 sc_p_number_in.nd (d := dS (S (dgs t))) (M1 := M') (ev_if (M1 := M') (tv_to (tv_cmpR op_eq (ev_sliceS (ev_var 0 rfl) ov_none (ov_some ev_int) hl6) ev_str rs_eqS (nomark _)) (by rw [sl_to1, e45])) (fun h => ?_) (fun h => ?_)) ?_)
    · have hh : t.take 1 = [45] := of_decide_eq_true h
      refine ev_to (ev_sliceS (ev_var 0 rfl) (ov_some ev_int) ov_none hl6) ?_
      rw [sl_from]
      unfold dgs
      rw [if_pos hh]
    · have hh : ¬ t.take 1 = [45] := of_decide_eq_false h
      refine ev_to (ev_var 0 rfl) ?_
      unfold dgs
      rw [if_neg hh]
    have em : ((dgs t).map fun c => dS (S [c])).map (fun d => dB (figD d)) = (((dgs t).map isDg).map dB) := by
      rw [List.map_map, List.map_map]
      rfl
    refine bv_cons (sv_if (p := (!(decide (1 ≤ (dgs t).length) && decide ((dgs t).length ≤ k))) || !((dgs t).all isDg)) (M1 := M') (PW.pt (wv_or (p := !(decide (1 ≤ (dgs t).length) && decide ((dgs t).length ≤ k))) (q := !((dgs t).all isDg)) ?_ (fun _ => wv_one_or ?_))) (fun h => ?_) (fun h => bv_nil ?_))
    · refine tv_not (b := decide (1 ≤ (dgs t).length) && decide ((dgs t).length ≤ k)) (tv_to (tv_chain (g := fun i j => decide (i ≤ j)) (g' := fun i j => decide (i ≤ j)) op_le op_le ev_int (ev_lenS T.len (ev_var 2 rfl) (by rw [S_len]; exact Nat.le_trans hd6 (by decide))) (ev_var 1 rfl)) ?_)
      rw [S_len, show decide ((1 : Int) ≤ ((dgs t).length : Int)) = decide (1 ≤ (dgs t).length) from decide_eq_decide.mpr (by omega), show decide (((dgs t).length : Int) ≤ k) = decide ((dgs t).length ≤ k) from decide_eq_decide.mpr (by omega)]
    · refine tv_to (b := !(((dgs t).map isDg).all id)) (tv_not (tv_val (ev_all rfl T.all ?_))) (by rw [List.all_map]; rfl)
      refine ev_to (ev_lcM (ds := (dgs t).map fun c => dS (S [c])) (own := [("sign", 3)]) (g := gName 3) rfl sc_p_number_in.nd (iv_str (ev_var 2 rfl)) (blkOk_by (N := ["text", "figures", "digits", "sign"]) (sc := defScope s_p_number_in) (by decide +kernel)) (fun _ _ _ _ _ => pg_name (i := 3) sc_p_number_in.nd rfl (Or.inl rfl)) (fun d => dB (figD d)) (by rw [List.length_map]; exact Nat.le_trans hd6 (by decide)) (fun j d hd => ?_)) (congrArg D.lst em)
      rw [List.getElem?_map, Option.map_eq_some_iff] at hd
      obtain ⟨c, _, rfl⟩ := hd
      refine ⟨_, tgb_name, fun M2 s H C cl fp => ?_⟩
      refine ev_to (ev_cmpR op_in_sign (ev_var 3 rfl) (ev_gS Gb.digits) rs_inC rfl) ?_
      rw [S_list, fig_iff]
      rfl
    · have hn : numK k t = none := by
        by_cases h6 : 1 ≤ (dgs t).length ∧ (dgs t).length ≤ k
        · rw [decide_eq_true h6.1, decide_eq_true h6.2] at h
          refine numK_no (good_no1 ?_)
          cases q : (dgs t).all isDg with
          | false => rfl
          | true =>
            rw [q] at h
            cases h
        · by_cases h0 : dgs t = []
          · exact numK_no (good_no0 h0)
          · have := List.length_pos_iff.mpr h0
            unfold numK
            rw [if_neg (fun q => h6 ⟨by omega, q.2⟩)]
      rw [hn]
      exact bv_one (sv_ret ev_non ⟨rfl, Mle.refl _⟩)
    · rw [Bool.or_eq_false_iff, Bool.not_eq_false', Bool.not_eq_false', Bool.and_eq_true, decide_eq_true_iff, decide_eq_true_iff] at h
      obtain ⟨⟨hne, h6⟩, hall⟩ := h
      have hg : atI (S (dgs t)).cps.toList 0 = some ((dgs t).headD 0) := by
        rw [S_list]
        cases q : dgs t with
        | nil => rw [q] at hne; exact absurd hne (by decide)
        | cons x r =>
          unfold atI ixN
          rw [if_pos (by decide), if_pos (by show (0 : Int) < ((x :: r).length : Int); rw [List.length_cons]; omega)]
          rfl
      have e48 : decide ((⟨#[(dgs t).headD 0]⟩ : Str) = Str.ofString "0") = decide ((dgs t).headD 0 = 48) := decide_eq_decide.mpr ⟨fun h => by
          have e := S_inj (l := [(dgs t).headD 0]) (m := [48]) (h.trans (by decide +kernel))
          injection e, fun h => by rw [h]; decide +kernel⟩
      have e0 : decide (S t = Str.ofString "0") = decide (t = [48]) := decide_eq_decide.mpr ⟨fun h => S_inj (m := [48]) (h.trans (by decide +kernel)), fun h => by rw [h]; decide +kernel⟩
      refine bv_cons (sv_if (p := decide ((dgs t).headD 0 = 48) && !decide (t = [48])) (M1 := M') (PW.pt (wv_and (p := decide ((dgs t).headD 0 = 48)) (q := !decide (t = [48])) (tv_to (tv_cmpR op_eq (ev_ixS (ev_var 2 rfl) ev_int (by rw [S_len]; exact Nat.le_trans hd6 (by decide)) hg) ev_str rs_eqS (nomark _)) e48) (fun h => (wv_one_and (tv_to (tv_cmpR op_ne (ev_var 0 rfl) ev_str rs_neS (nomark _)) (congrArg (!·) e0)))))) (fun h => ?_) (fun h => bv_nil ?_))
      · rw [Bool.and_eq_true, decide_eq_true_iff, Bool.not_eq_true', decide_eq_false_iff_not] at h
        rw [numK_no (good_no2 h.1 h.2)]
        exact bv_one (sv_ret ev_non ⟨rfl, Mle.refl _⟩)
      · have hgood : good t = true := by
          unfold good
          rw [decide_eq_true (show dgs t ≠ [] from List.length_pos_iff.mp (by omega)), hall, Bool.true_and, Bool.true_and]
          rw [Bool.and_eq_false_iff, decide_eq_false_iff_not, Bool.not_eq_false', decide_eq_true_iff] at h
          rw [Bool.or_eq_true, decide_eq_true_iff, decide_eq_true_iff]
          exact h
        have hn : numK k t = some (valN t) := by
          unfold numK
          rw [if_pos ⟨hgood, h6⟩]
        have tl7 : t.length ≤ 101 := by
          unfold dgs at h6
          split at h6
          · rw [List.length_drop] at h6
            omega
          · omega
        rw [hn]
        exact bv_one (sv_ret (ev_intS T.int (ev_var 0 rfl) (good_val hgood (by omega)) (by rw [S_len]; omega)) ⟨rfl, Mle.refl _⟩)
theorem c_p_letter_name (F : Fun K "letter_name" "letter_name" s_p_letter_name f fd) (hm : mg "letter_name" = some (.ref f)) (T : Bt mg) (Gb : Gk K mg) : Cal P w K mg base 1 "letter_name" (spD K PrLetter) := by
  refine cal_of F sc_p_letter_name hm (fun _ _ _ _ _ _ us hl => match us, hl with | [_], _ => rfl) (fun ds M d M' h => ?_) fun cdv A outer s H E ds M d M' hr h => ?_
  · obtain ⟨x, rfl, _⟩ := h
    rfl
  · obtain ⟨x, rfl, hb, rfl, rfl⟩ := h
    show BV _ _ [some (dI x), none] _ _
    refine bv_cons (sv_set 1 sc_p_letter_name.nd (ev_op op_fdiv (ev_op op_add (ev_var 0 rfl) ev_int rs_I0) ev_int (rs_I ⟨by decide, by decide⟩)) ?_)
    refine bv_one (sv_ret (ev_catS (ev_catS (l := [letters.getD (4 * x % 7).toNat 0]) (ev_ixS (ev_gS Gb.letters) (ev_op op_mod (ev_op op_mul ev_int (ev_var 0 rfl) (rs_I (cm_l (by decide) (by decide)))) ev_int (rs_I (by decide))) (by decide) (letter_at _ ⟨Int.emod_nonneg _ (by decide), Int.emod_lt_of_pos _ (by decide)⟩)) (ev_repS (ch := 35) (ev_strL (by decide +kernel)) (ev_var 1 rfl) (by omega)) ?_) (ev_repS (ch := 98) (ev_strL (by decide +kernel)) (ev_un un_neg (ev_var 1 rfl) ru_neg) (by omega)) ?_) ⟨rfl, Mle.refl _⟩)
    · rw [List.length_replicate]
      show 1 + _ ≤ 1000000
      omega
    · rw [List.length_append, List.length_replicate, List.length_replicate]
      show 1 + _ + _ ≤ 1000000
      omega
theorem c_p_tone_name (F : Fun K "tone_name" "tone_name" s_p_tone_name f fd) (hm : mg "tone_name" = some (.ref f)) (T : Bt mg) (c_p_letter_name : Cal P w K mg base 1 "letter_name" (spD K PrLetter)) (c_p_steps : Cal P w K mg base 1 "steps" (spD K PrSteps)) : Cal P w K mg base 2 "tone_name" (spD K PrTName) := by
  refine cal_of F sc_p_tone_name hm (fun _ _ _ _ _ _ us hl => match us, hl with | [_], _ => rfl) (fun ds M d M' h => ?_) fun cdv A outer s H E ds M d M' hr h => ?_
  · obtain ⟨b, x, o, rfl, _⟩ := h
    rfl
  · obtain ⟨b, x, o, rfl, ⟨hb1, hb2⟩, rfl, rfl⟩ := h
    show BV _ _ [some (sq b [dI x, dI o])] _ _
    have okl := num_len (i := (4 * x + 7 * o) / 7) (by omega)
    have es : (Str.ofString (toString ((4 * x + 7 * o) / 7))) = S (num ((4 * x + 7 * o) / 7)) := (S_of _).symm
    refine bv_one (sv_ret (ev_catS (m := num ((4 * x + 7 * o) / 7)) (ev_call c_p_letter_name (hr.mono (by decide)) (av_cons (ev_ixQ (ev_var 0 rfl) ev_int rfl) av_nil) ⟨x, rfl, by omega, rfl, rfl⟩) (ev_to (ev_strI T.str (ev_op op_fdiv (ev_call c_p_steps (hr.mono (by decide)) (av_cons (ev_var 0 rfl) av_nil) ⟨b, x, o, rfl, rfl, rfl⟩) ev_int (rs_I ⟨by decide, by decide⟩)) (by omega)) (by rw [es])) ?_) ⟨?_, Mle.refl _⟩)
    · rw [List.length_append, List.length_append, List.length_replicate, List.length_replicate]
      have := okl
      show 1 + _ + _ + _ ≤ 1000000
      omega
    · unfold nm marks
      rw [List.append_assoc, List.append_assoc]
      simp only [List.singleton_append, List.append_assoc]
theorem c_p_tone_meant (F : Fun K "_tone_meant" "_tone_meant" s_p_tone_meant f fd) (hm : mg "_tone_meant" = some (.ref f)) (T : Bt mg) (Gb : Gk K mg) (c_p_number_in : Cal P w K mg base 1 "number_in" (spD K PrNumT)) (c_p_with_steps : Cal P w K mg base 1 "with_steps" (spD K PrWithS)) : Cal P w K mg base 2 "_tone_meant" (spD K PrTM) := by
  refine cal_of F sc_p_tone_meant hm (fun _ _ _ _ _ _ us hl => match us, hl with | [_], _ => rfl) (fun ds M d M' h => ?_) fun cdv A outer s H E ds M d M' hr h => ?_
  · obtain ⟨t, rfl, _⟩ := h
    rfl
  · obtain ⟨t, rfl, tl, rfl, rfl⟩ := h
    show BV _ _ [some (dS (S t)), none, none, none, none, none] _ _
    have hn6 : t.length ≤ 1000000 := by omega
    have hfl : ((t.drop 1).dropWhile isMk).length ≤ 5000 := Nat.le_trans (List.dropWhile_sublist _).length_le (by rw [List.length_drop]; omega)
    refine bv_cons (sv_set 1 sc_p_tone_meant.nd (d := dS (S ((t.drop 1).dropWhile isMk))) (ev_to (ev_lstrip (l := t.drop 1) (m := [35, 98]) (ev_to (ev_sliceS (ev_var 0 rfl) (ov_some ev_int) ov_none hn6) (by rw [sl_from])) (ev_strL (by decide +kernel)) (by rw [List.length_drop]; omega)) rfl) ?_)
    refine bv_cons (sv_set 2 sc_p_tone_meant.nd (d := oD (numIn ((t.drop 1).dropWhile isMk))) (ev_call c_p_number_in (hr.mono (by decide)) (av_cons (ev_var 1 rfl) (av_cons (ev_gI Gb.most) av_nil)) ⟨_, 6, rfl, hfl, by decide, rfl, rfl⟩) ?_)
    have ev3 : ∀ (q : D) (i : Int), Txt.find (S letters) (S (t.take 1)) = i → SV (cxOf CX0 P w K mg base ["text", "figures", "octave", "letter", "signs", "f"] "_tone_meant" (defScope s_p_tone_meant) f cdv A outer s H E).nox ((defBody s_p_tone_meant).getD 2 (.Pass ⟨0, 0, 0, 0⟩)) [some (dS (S t)), some (dS (S ((t.drop 1).dropWhile isMk))), some q, none, none, none] M' (fun o => o = .nx [some (dS (S t)), some (dS (S ((t.drop 1).dropWhile isMk))), some q, some (dI i), none, none] M') := fun q i hi => sv_set 3 sc_p_tone_meant.nd (ev_find (y := S (t.take 1)) (ev_gS Gb.letters) (ev_to (ev_sliceS (ev_var 0 rfl) ov_none (ov_some ev_int) hn6) (by rw [sl_to1])) hi) rfl
    cases hq : numIn ((t.drop 1).dropWhile isMk) with
    | none =>
      have hp : progTone t = none := by
        unfold progTone
        rw [hq]
      rw [hp]
      refine bv_cons (sv_to (ev3 dN _ rfl) fun o e => ?_)
      subst e
      exact bv_cons (sv_if (p := true) (M1 := M') (PW.pt (wv_orT (tv_isNn (d := dN) (ev_var 2 rfl)))) (fun _ => bv_one (sv_ret ev_non ⟨rfl, Mle.refl _⟩)) (fun h => nomatch h))
    | some q =>
      cases t with
      | nil =>
        have : numIn [] = some q := hq
        cases this
      | cons c s0 =>
        have hp : progTone (c :: s0) = (if c ∈ letters then some (plainI (letters.idxOf c) + 7 * (cnt 35 (s0.takeWhile isMk) - cnt 98 (s0.takeWhile isMk)), (7 * q + ((letters.idxOf c : Nat) : Int) - 4 * (plainI (letters.idxOf c) + 7 * (cnt 35 (s0.takeWhile isMk) - cnt 98 (s0.takeWhile isMk)))) / 7) else none) := by
          unfold progTone
          rw [hq]
        rw [hp]
        refine bv_cons (sv_to (ev3 (dI q) _ (find_letter c)) fun o e => ?_)
        subst e
        by_cases hc : c ∈ letters
        · obtain ⟨hn, _⟩ := let_idx c hc
          rw [if_pos hc, if_pos hc]
          generalize letters.idxOf c = n at hn
          refine bv_cons (sv_if (p := false) (M1 := M') (PW.pt (wv_orF (tv_isNn (d := dI q) (ev_var 2 rfl)) (wv_one_or (tv_to (tv_cmpR op_lt (ev_var 3 rfl) ev_int rs_I0 (nomark _)) (decide_eq_false (by omega)))))) (fun h => nomatch h) (fun _ => bv_nil ?_))
          have hts := (tw_take (P := isMk) s0).1
          have htl : (s0.takeWhile isMk).length + (s0.dropWhile isMk).length = s0.length := by
            have := congrArg List.length (List.takeWhile_append_dropWhile (p := isMk) (l := s0))
            rw [List.length_append] at this
            exact this
          have ek : ((c :: s0).length : Int) - ((s0.dropWhile isMk).length : Int) = ((1 + (s0.takeWhile isMk).length : Nat) : Int) := by rw [List.length_cons]; omega
          refine bv_cons (sv_set 4 sc_p_tone_meant.nd (d := dS (S (s0.takeWhile isMk))) (ev_to (ev_sliceS (o2 := some ((1 + (s0.takeWhile isMk).length : Nat) : Int)) (ev_var 0 rfl) (ov_some ev_int) (ov_some (ev_to (ev_op op_sub (ev_lenS T.len (ev_var 0 rfl) (by rw [S_len]; exact Nat.le_trans hn6 (by decide))) (ev_lenS (z := S (s0.dropWhile isMk)) T.len (ev_var 1 rfl) (by rw [S_len]; have hfl : (s0.dropWhile isMk).length ≤ 5000 := hfl; exact Nat.le_trans hfl (by decide))) rs_I0) (by rw [S_len, S_len, ek]))) hn6) ?_) ?_)
          · rw [sl_mid (c :: s0) (by omega) (by rw [List.length_cons]; omega)]
            show dS (S (s0.take (1 + (s0.takeWhile isMk).length - 1))) = _
            rw [Nat.add_sub_cancel_left, hts]
          refine bv_cons (sv_set 5 sc_p_tone_meant.nd (ev_op op_add (ev_ixT (ev_gT Gb.plain) (ev_var 3 rfl) (plain_at (i := ((n : Nat) : Int)) (by omega))) (ev_op op_mul ev_int (ev_op op_sub (ev_count (ev_var 4 rfl) (ev_strL (l := [35]) (by decide +kernel)) (cnt_S _ 35)) (ev_count (ev_var 4 rfl) (ev_strL (l := [98]) (by decide +kernel)) (cnt_S _ 98)) rs_I0) (rs_I (cm_l (by decide) (by decide)))) rs_I0) ?_)
          exact bv_one (sv_ret (ev_call c_p_with_steps (hr.mono (by decide)) (av_cons (ev_var 5 rfl) (av_cons (ev_op op_add (ev_op op_mul ev_int (ev_var 2 rfl) (rs_I (cm_l (by decide) (by decide)))) (ev_var 3 rfl) rs_I0) av_nil)) ⟨_, _, rfl, rfl, rfl⟩) ⟨rfl, Mle.refl _⟩)
        · rw [if_neg hc, if_neg hc]
          exact bv_cons (sv_if (p := true) (M1 := M') (PW.pt (wv_orF (tv_isNn (d := dI q) (ev_var 2 rfl)) (wv_one_or (tv_cmpR op_lt (ev_var 3 rfl) ev_int rs_I0 (nomark _))))) (fun _ => bv_one (sv_ret ev_non ⟨rfl, Mle.refl _⟩)) (fun h => nomatch h))
theorem c_p_read_tone (F : Fun K "read_tone" "read_tone" s_p_read_tone f fd) (hm : mg "read_tone" = some (.ref f)) (c_p_tone_meant : Cal P w K mg base 2 "_tone_meant" (spD K PrTM)) (c_p_is_tone : Cal P w K mg base 3 "is_tone" (spD K PrToneK)) (c_p_tone_name : Cal P w K mg base 2 "tone_name" (spD K PrTName)) : Cal P w K mg base 4 "read_tone" (spD K PrMeant) := by
  refine cal_of F sc_p_read_tone hm (fun _ _ _ _ _ _ us hl => match us, hl with | [_], _ => rfl) (fun ds M d M' h => ?_) fun cdv A outer s H E ds M d M' hr h => ?_
  · obtain ⟨x, o, rfl, _⟩ := h
    rfl
  · obtain ⟨x, o, rfl, hb, rfl, rfl⟩ := h
    show BV _ _ [some (dS (S (nm x o))), none] _ _
    have hl := nm_len hb.wide
    have e : prO (progTone (nm x o)) = .tup [dI x, dI o] := by rw [progTone_nm hb]; rfl
    have ht : toneD (.tup [dI x, dI o]) = true := by
      obtain ⟨⟨a1, a2⟩, a3, a4⟩ := hb
      show (true && ((decide (-1000 ≤ x) && decide (x ≤ 1000)) && ((decide (-1000 ≤ o) && decide (o ≤ 1000)) && true))) = true
      rw [decide_eq_true a1, decide_eq_true a2, decide_eq_true a3, decide_eq_true a4]
      rfl
    refine bv_cons (sv_set 1 sc_p_read_tone.nd (ev_to (ev_call c_p_tone_meant (hr.mono (by decide)) (av_cons (ev_var 0 rfl) av_nil) ⟨_, rfl, by omega, rfl, rfl⟩) e) ?_)
    refine bv_cons (sv_if (p := false) (M1 := M') (PW.pt ?_) (fun h => nomatch h) (fun _ => bv_nil ?_))
    · refine wv_orF (M1 := M') ?_ (wv_one_or ?_)
      · exact tv_to (tv_not (tv_val (ev_call c_p_is_tone (hr.mono (by decide)) (av_cons (ev_var 1 rfl) av_nil) ⟨_, 1, rfl, kD_two (kD_int _) (kD_int _), rfl, rfl⟩))) (by rw [ht]; rfl)
      · refine tv_to (tv_cmpR op_ne (ev_call c_p_tone_name (hr.mono (by decide)) (av_cons (ev_var 1 rfl) av_nil) ⟨false, x, o, rfl, hb.wide, rfl, rfl⟩) (ev_var 0 rfl) rs_neS (nomark _)) ?_
        rw [decide_eq_true rfl]
        rfl
    exact bv_one (sv_ret (ev_var 1 rfl) ⟨rfl, Mle.refl _⟩)
end
section
variable {X : Cx} {ρ : Sl} {M M1 M2 M3 : Mem} {a b c e : Expr} {pos : Pos} {l m n : List Nat}
theorem ev_fmtI {i : Int} (h : EV X e ρ M (dI i) M1) (hb : i.natAbs.log2 < 1920) : EV X (.FormattedValue e (-1) none pos) ρ M (dS (S (num i))) M1 :=
  (pe_fmt h).mono fun σ H Q ⟨G, sa, k⟩ => ⟨G, sa, fun v G1 H1 g1 sh1 r1 => .inr ⟨i, r1.of_val, hb, by
    rw [show (Str.ofString (toString i)) = S (num i) from (S_of _).symm]
    exact k _ G1 H1 g1 sh1 (.val _)⟩⟩
theorem emp_app (l : List Nat) : Str.empty ++ S l = S l := by
  show (⟨#[] ++ l.toArray⟩ : Str) = ⟨l.toArray⟩
  simp
theorem ev_join2 (h1 : EV X a ρ M (dS (S l)) M1) (h2 : EV X b ρ M1 (dS (S m)) M2) (hl : l.length + m.length ≤ 1000000) : EV X (.JoinedStr [a, b] pos) ρ M (dS (S (l ++ m))) M2 :=
  (pe_joined (.cons h1 (.cons h2 .nil))).mono fun σ H Q ⟨G, sa, k⟩ => ⟨G, sa, fun v G1 H1 g1 sh1 r1 => ⟨S l, r1.of_val, by rw [emp_app, S_len]; exact Nat.le_trans (show l.length ≤ 1000000 by omega) (by decide), G1, ⟨sh1, sa.sl.up g1⟩, fun v2 G2 H2 g2 sh2 r2 => ⟨S m, r2.of_val, by rw [emp_app, S_app, S_len, List.length_append]; exact Nat.le_trans hl (by decide), by
    show Q (.str ((Str.empty ++ S l) ++ S m)) H2
    rw [emp_app, S_app]
    exact k _ G2 H2 (g1.trans g2) sh2 (.val _)⟩⟩⟩
theorem ev_join3 (h1 : EV X a ρ M (dS (S l)) M1) (h2 : EV X b ρ M1 (dS (S m)) M2) (h3 : EV X c ρ M2 (dS (S n)) M3) (hl : l.length + m.length + n.length ≤ 1000000) : EV X (.JoinedStr [a, b, c] pos) ρ M (dS (S (l ++ m ++ n))) M3 :=
  (pe_joined (.cons h1 (.cons h2 (.cons h3 .nil)))).mono fun σ H Q ⟨G, sa, k⟩ => ⟨G, sa, fun v G1 H1 g1 sh1 r1 => ⟨S l, r1.of_val, by rw [emp_app, S_len]; exact Nat.le_trans (show l.length ≤ 1000000 by omega) (by decide), G1, ⟨sh1, sa.sl.up g1⟩, fun v2 G2 H2 g2 sh2 r2 => ⟨S m, r2.of_val, by rw [emp_app, S_app, S_len, List.length_append]; exact Nat.le_trans (show l.length + m.length ≤ 1000000 by omega) (by decide), G2, ⟨sh2, (sa.sl.up g1).up g2⟩, fun v3 G3 H3 g3 sh3 r3 => ⟨S n, r3.of_val, by rw [emp_app, S_app, S_app, S_len, List.length_append, List.length_append]; exact Nat.le_trans hl (by decide), by
    show Q (.str (((Str.empty ++ S l) ++ S m) ++ S n)) H3
    rw [emp_app, S_app, S_app]
    exact k _ G3 H3 ((g1.trans g2).trans g3) sh3 (.val _)⟩⟩⟩⟩
theorem ev_strW {i : Int} {p : Pos} (hm : X.mg "str" = none) (ha : EV X e ρ M (dI i) M1) (hi : i.natAbs.log2 < 1920) (hg : Gl X "str" := by rfl) (hst : starEach [e] X.env = [(false, eval e X.env)] := by rfl) : EV X (.Call (.Name "str" p) [e] [] pos) ρ M (dS (S (num i))) M1 :=
  (pe_callTy call_str_int hg hm boot_str (av_cons ha av_nil hst) (he := hst)).mono fun σ H Q ⟨G, sa, k⟩ => ⟨G, sa, fun vs' G1 H1 g1 sh1 r1 => by
    rw [RepL.of_vals (xs := [.int i]) r1]
    refine ⟨i, rfl, hi, ?_⟩
    rw [show (Str.ofString (toString i)) = S (num i) from (S_of _).symm]
    exact k _ G1 H1 g1 sh1 (.val _)⟩
theorem ev_lcG {elt tg iter : Expr} {scope : Scope} {own : List (Str × Nat)} {g : TG} {ds ds2 : List D} (hc : X.calm = true) (hN : X.N.Nodup) (hi : IV X tg iter ρ M ds M1) (ok : BlkOk X.N X.env.scope scope own)
    (hg : ∀ (s : Shared) (H : Hp) (C : Addr) (cl : List (Str × Addr)) (fp : List Addr), PG (X.blk s H scope (compEnvC scope cl C X.env) fp) tg g) (hlen : ds.length ≤ sizeLine) (h2 : ds2.length = ds.length)
    (step : ∀ (i : Nat) d d2, ds[i]? = some d → ds2[i]? = some d2 → ∃ ρ', TGb X.K g (own.map (·.2)) (wipeD ρ (own.map (·.2))) d ρ' ∧ ∀ (M2 : Mem), ∀ (s : Shared) (H : Hp) (C : Addr) (cl : List (Str × Addr)) (fp : List Addr), EV (X.blk s H scope (compEnvC scope cl C X.env) fp) elt ρ' M2 d2 M2)
    (hs : ∀ x, foldedSetIterable iter X.env x = pure x := by intro _; rfl) : EV X (.ListComp elt [⟨tg, iter, [], 0⟩] scope pos) ρ M (.lst ds2) M1 := by
  have q := ev_lc (f := fun i => id (ds2.getD i dN)) (m := fun _ => M1) (pos := pos) hc hN hi ok hg rfl (fun _ _ h => h) hlen (fun i d h => by
    have hlt : i < ds2.length := by rw [h2]; exact (List.getElem?_eq_some_iff.mp h).1
    obtain ⟨ρ', h1, h3⟩ := step i d ds2[i] h (List.getElem?_eq_getElem hlt)
    refine ⟨ρ', h1, fun p acc _ s H C cl fp => ?_⟩
    show EV _ elt ρ' _ (ds2.getD i dN) _
    rw [getD_of (List.getElem?_eq_getElem hlt)]
    exact h3 _ s H C cl fp) hs
  rw [← h2, range_getD dN id ds2, List.map_id] at q
  exact q
end
/-! ### texts of columns and bars -/
def frT (p : Tn) : List Nat := if p.2 = 1 then num p.1 else num p.1 ++ [47] ++ num p.2
def wd0 (c : Col) : List Nat := frT c.dur ++ (if c.acc = 0 then [] else [33] ++ num c.acc)
def entW : Option (Tn × Bool) → List Nat
  | none => [45]
  | some (t, g) => if g = true then nm t.1 t.2 else [126] ++ nm t.1 t.2
def colW (c : Col) : List (List Nat) := wd0 c :: c.ents.map entW
def colText (c : Col) : List Nat := TL.joinL [32] (colW c)
def barText (bar : List Col) : List Nat := TL.joinL [32, 124, 32] (bar.map colText)
structure DurT (p : Tn) : Prop where
  n0 : 0 < p.1
  n1 : p.1 ≤ 1000000000000
  d0 : 0 < p.2
  d1 : p.2 ≤ 1000000000000
structure ColT (c : Col) : Prop where
  dur : DurT c.dur
  acc : 0 ≤ c.acc ∧ c.acc ≤ 9
  len : c.ents.length ≤ 4
  ton : ∀ t g, some (t, g) ∈ c.ents → BW t.1 t.2
theorem log_sm {i : Int} (h : 0 ≤ i ∧ i ≤ 1000000000000) : i.natAbs.log2 < 1920 := Nat.lt_trans (PySem.Flt.log2_lt_of (by decide) (show i.natAbs < 2 ^ 40 by omega)) (by decide)
theorem num_l13 {i : Int} (h : 0 ≤ i ∧ i ≤ 1000000000000) : (num i).length ≤ 13 := by
  obtain ⟨n, rfl⟩ := Int.eq_ofNat_of_zero_le h.1
  rw [num_nat]
  exact TL.numL_len (k := 13) (by decide) (by have := h.2; omega)
theorem frT_len {p : Tn} (h : DurT p) : (frT p).length ≤ 27 := by
  have h1 := num_l13 (i := p.1) ⟨by have := h.n0; omega, h.n1⟩
  have h2 := num_l13 (i := p.2) ⟨by have := h.d0; omega, h.d1⟩
  unfold frT
  split
  · omega
  · rw [List.length_append, List.length_append]
    show _ + 1 + _ ≤ 27
    omega
theorem wd0_len {c : Col} (h : ColT c) : (wd0 c).length ≤ 60 := by
  have h1 := frT_len h.dur
  have h2 := num_l13 (i := c.acc) ⟨h.acc.1, by have := h.acc.2; omega⟩
  unfold wd0
  rw [List.length_append]
  split
  · show _ + 0 ≤ 60
    omega
  · rw [List.length_append]
    show _ + (1 + _) ≤ 60
    omega
theorem entW_len {e : Option (Tn × Bool)} (h : ∀ t g, e = some (t, g) → BW t.1 t.2) : (entW e).length ≤ 801 := by
  cases e with
  | none => exact (by decide : 1 ≤ 801)
  | some tg =>
    obtain ⟨t, g⟩ := tg
    have := nm_len (h t g rfl)
    show (if g = true then nm t.1 t.2 else [126] ++ nm t.1 t.2).length ≤ 801
    split
    · omega
    · rw [List.length_append]
      show 1 + _ ≤ 801
      omega
theorem joinL_len (s : List Nat) : ∀ ws : List (List Nat), (TL.joinL s ws).length ≤ sumL ws + ws.length * s.length
  | [] => Nat.zero_le _
  | [p] => by
    show p.length ≤ _
    unfold sumL
    rw [List.map_cons, List.sum_cons]
    omega
  | p :: q :: r => by
    show (p ++ (s ++ TL.joinL s (q :: r))).length ≤ _
    have ih := joinL_len s (q :: r)
    unfold sumL at ih ⊢
    rw [List.length_append, List.length_append, List.map_cons, List.sum_cons, List.length_cons (as := q :: r), Nat.add_mul, Nat.one_mul]
    omega
theorem sumL_le {k : Nat} : ∀ {ws : List (List Nat)}, (∀ w ∈ ws, w.length ≤ k) → sumL ws ≤ ws.length * k
  | [], _ => Nat.zero_le _
  | w :: ws, h => by
    have h1 := h w List.mem_cons_self
    have ih := sumL_le (k := k) (ws := ws) fun x hx => h x (List.mem_cons_of_mem _ hx)
    unfold sumL at ih ⊢
    rw [List.map_cons, List.sum_cons, List.length_cons, Nat.add_mul, Nat.one_mul]
    omega
theorem colW_le {c : Col} (h : ColT c) : ∀ w ∈ colW c, w.length ≤ 801 := fun w hw => by
  rcases List.mem_cons.mp hw with rfl | hw
  · have := wd0_len h
    omega
  · obtain ⟨e, he, rfl⟩ := List.mem_map.mp hw
    exact entW_len fun t g q => h.ton t g (by rw [← q]; exact he)
theorem colW_len {c : Col} (h : ColT c) : (colW c).length ≤ 5 := by
  have := h.len
  unfold colW
  rw [List.length_cons, List.length_map]
  omega
theorem colW_sum {c : Col} (h : ColT c) : sumL (colW c) + (colW c).length * 1 ≤ 4010 := by
  have h1 := sumL_le (colW_le h)
  have h2 := colW_len h
  have h3 : (colW c).length * 801 ≤ 5 * 801 := Nat.mul_le_mul_right _ h2
  omega
theorem colText_len {c : Col} (h : ColT c) : (colText c).length ≤ 4010 := Nat.le_trans (joinL_len [32] (colW c)) (colW_sum h)
theorem barText_sum {bar : List Col} (hl : bar.length ≤ 1000) (h : ∀ c ∈ bar, ColT c) : sumL (bar.map colText) + (bar.map colText).length * 3 ≤ 16777216 := by
  have h1 := sumL_le (k := 4010) (ws := bar.map colText) fun w hw => by
    obtain ⟨c, hc, rfl⟩ := List.mem_map.mp hw
    exact colText_len (h c hc)
  rw [List.length_map] at h1 ⊢
  have h3 : bar.length * 4010 ≤ 1000 * 4010 := Nat.mul_le_mul_right _ hl
  omega
def PrFrT (ds : List D) (M : Mem) (d : D) (M' : Mem) : Prop := ∃ b p, ds = [sq b [dI p.1, dI p.2]] ∧ DurT p ∧ d = dS (S (frT p)) ∧ M' = M
def PrEnT (ds : List D) (M : Mem) (d : D) (M' : Mem) : Prop := ∃ b e, ds = [entQ b e] ∧ (∀ t g, e = some (t, g) → BW t.1 t.2) ∧ d = dS (S (entW e)) ∧ M' = M
def PrCoT (ds : List D) (M : Mem) (d : D) (M' : Mem) : Prop := ∃ b c, ds = [colQ b c] ∧ ColT c ∧ d = dS (S (colText c)) ∧ M' = M
def PrBaT (ds : List D) (M : Mem) (d : D) (M' : Mem) : Prop := ∃ b1 b2 bar, ds = [barQ b1 b2 bar] ∧ bar.length ≤ 1000 ∧ (∀ c ∈ bar, ColT c) ∧ d = dS (S (barText bar)) ∧ M' = M
theorem entQ_N (b : Bool) (e : Option (Tn × Bool)) : (entQ b e).isN = e.isNone := by
  cases e with
  | none => rfl
  | some tg => cases b <;> rfl
section
variable {P : Program} {w : World} {K : PySem.W.Frag} {mg : Str → Option Value} {base : Heap} {f : Addr} {fd : FuncData}
theorem c_p_fraction_text (F : Fun K "fraction_text" "fraction_text" s_p_fraction_text f fd) (hm : mg "fraction_text" = some (.ref f)) (T : Bt mg) : Cal P w K mg base 1 "fraction_text" (spD K PrFrT) := by
  refine cal_of F sc_p_fraction_text hm (fun _ _ _ _ _ _ us hl => match us, hl with | [_], _ => rfl) (fun ds M d M' h => ?_) fun cdv A outer s H E ds M d M' hr h => ?_
  · obtain ⟨b, p, rfl, _⟩ := h
    rfl
  · obtain ⟨b, ⟨n, k⟩, rfl, hp, rfl, rfl⟩ := h
    show BV _ _ [some (sq b [dI n, dI k]), none, none] _ _
    have l1 := log_sm (i := n) ⟨by have := hp.n0; simp only at this; omega, hp.n1⟩
    have l2 := log_sm (i := k) ⟨by have := hp.d0; simp only at this; omega, hp.d1⟩
    have b1 := num_l13 (i := n) ⟨by have := hp.n0; simp only at this; omega, hp.n1⟩
    have b2 := num_l13 (i := k) ⟨by have := hp.d0; simp only at this; omega, hp.d1⟩
    refine bv_cons (sv_asg (ev_var 0 rfl) (pg_any rfl (pgs_cons (pg_name (i := 1) sc_p_fraction_text.nd rfl (.inl rfl)) (pgs_cons (pg_name (i := 2) sc_p_fraction_text.nd rfl (.inl rfl)) pgs_nil))) (tg_any (tg_cons tg_name (tg_cons tg_name tg_nil))) ?_)
    refine bv_one (sv_ret (d := dS (S (frT (n, k)))) (M1 := M') (ev_if (p := decide (k = 1)) (M1 := M') (tv_to (tv_cmpR op_eq (ev_var 2 rfl) ev_int rs_eqI (nomark _)) rfl) (fun h => ?_) (fun h => ?_)) ⟨rfl, Mle.refl _⟩)
    · rw [show frT (n, k) = num n from if_pos (of_decide_eq_true h)]
      exact ev_strW T.str (ev_var 1 rfl) l1
    · rw [show frT (n, k) = num n ++ [47] ++ num k from if_neg (of_decide_eq_false h)]
      exact ev_join3 (ev_fmtI (ev_var 1 rfl) l1) (ev_strL (l := [47]) (by decide +kernel)) (ev_fmtI (ev_var 2 rfl) l2) (by show _ + 1 + _ ≤ _; omega)
theorem c_p_entry_text (F : Fun K "_entry_text" "_entry_text" s_p_entry_text f fd) (hm : mg "_entry_text" = some (.ref f)) (c_p_tone_name : Cal P w K mg base 2 "tone_name" (spD K PrTName)) : Cal P w K mg base 3 "_entry_text" (spD K PrEnT) := by
  refine cal_of F sc_p_entry_text hm (fun _ _ _ _ _ _ us hl => match us, hl with | [_], _ => rfl) (fun ds M d M' h => ?_) fun cdv A outer s H E ds M d M' hr h => ?_
  · obtain ⟨b, e, rfl, _⟩ := h
    rfl
  · obtain ⟨b, e, rfl, hb, rfl, rfl⟩ := h
    show BV _ _ [some (entQ b e), none, none] _ _
    cases e with
    | none => exact bv_cons (sv_if (p := true) (M1 := M') (tv_isNn (d := dN) (ev_var 0 rfl)) (fun _ => bv_one (sv_ret (ev_strL (l := [45]) (by decide +kernel)) ⟨rfl, Mle.refl _⟩)) (fun h => nomatch h))
    | some tg =>
      obtain ⟨t, g⟩ := tg
      have ht := hb t g rfl
      have hl := nm_len ht
      refine bv_cons (sv_if (p := false) (M1 := M') (tv_to (tv_isNn (d := entQ b (some (t, g))) (ev_var 0 rfl)) (entQ_N b _)) (fun h => nomatch h) (fun _ => bv_nil ?_))
      refine bv_cons (sv_asg (d := sq b [sq b [dI t.1, dI t.2], dB g]) (ev_var 0 rfl) (pg_any rfl (pgs_cons (pg_name (i := 1) sc_p_entry_text.nd rfl (.inl rfl)) (pgs_cons (pg_name (i := 2) sc_p_entry_text.nd rfl (.inl rfl)) pgs_nil))) (tg_any (tg_cons tg_name (tg_cons tg_name tg_nil))) ?_)
      refine bv_one (sv_ret (d := dS (S (entW (some (t, g))))) (M1 := M') (ev_if (p := g) (M1 := M') (tv_val (ev_var 2 rfl)) (fun h => ?_) (fun h => ?_)) ⟨rfl, Mle.refl _⟩)
      · rw [show entW (some (t, g)) = nm t.1 t.2 from if_pos h]
        exact ev_call c_p_tone_name (hr.mono (by decide)) (av_cons (ev_var 1 rfl) av_nil) ⟨b, t.1, t.2, rfl, ht, rfl, rfl⟩
      · rw [show entW (some (t, g)) = [126] ++ nm t.1 t.2 from if_neg (by rw [h]; exact Bool.false_ne_true)]
        exact ev_catS (ev_strL (l := [126]) (by decide +kernel)) (ev_call c_p_tone_name (hr.mono (by decide)) (av_cons (ev_var 1 rfl) av_nil) ⟨b, t.1, t.2, rfl, ht, rfl, rfl⟩) (by show 1 + _ ≤ _; omega)
theorem c_p_column_text (F : Fun K "_column_text" "_column_text" s_p_column_text f fd) (hm : mg "_column_text" = some (.ref f)) (c_p_fraction_text : Cal P w K mg base 1 "fraction_text" (spD K PrFrT)) (c_p_entry_text : Cal P w K mg base 3 "_entry_text" (spD K PrEnT)) : Cal P w K mg base 4 "_column_text" (spD K PrCoT) := by
  refine cal_of F sc_p_column_text hm (fun _ _ _ _ _ _ us hl => match us, hl with | [_], _ => rfl) (fun ds M d M' h => ?_) fun cdv A outer s H E ds M d M' hr h => ?_
  · obtain ⟨b, c, rfl, _⟩ := h
    rfl
  · obtain ⟨b, c, rfl, hc, rfl, rfl⟩ := h
    show BV _ _ [some (colQ b c), none, none, none, none, none, none] _ _
    have ha := hc.acc
    have lf := frT_len hc.dur
    have ln := num_l13 (i := c.acc) ⟨ha.1, by omega⟩
    refine bv_cons (sv_asg (d := sq b [sq b [dI c.dur.1, dI c.dur.2], dI c.acc, sq b (c.ents.map (entQ b))]) (ev_var 0 rfl) (pg_any rfl (pgs_cons (pg_name (i := 1) sc_p_column_text.nd rfl (.inl rfl)) (pgs_cons (pg_name (i := 2) sc_p_column_text.nd rfl (.inl rfl)) (pgs_cons (pg_name (i := 3) sc_p_column_text.nd rfl (.inl rfl)) pgs_nil)))) (tg_any (tg_cons tg_name (tg_cons tg_name (tg_cons tg_name tg_nil)))) ?_)
    refine bv_cons (sv_set 4 sc_p_column_text.nd (d := dS (S (if c.acc = 0 then [] else [33] ++ num c.acc))) (M1 := M') (ev_if (p := decide (c.acc = 0)) (M1 := M') (tv_to (tv_cmpR op_eq (ev_var 2 rfl) ev_int rs_eqI (nomark _)) rfl) (fun h => ?_) (fun h => ?_)) ?_)
    · rw [if_pos (of_decide_eq_true h)]
      exact ev_strL (by decide +kernel)
    · rw [if_neg (of_decide_eq_false h)]
      exact ev_join2 (ev_strL (l := [33]) (by decide +kernel)) (ev_fmtI (ev_var 2 rfl) (log_sm ⟨ha.1, by omega⟩)) (by show 1 + _ ≤ _; omega)
    have lm : (if c.acc = 0 then ([] : List Nat) else [33] ++ num c.acc).length ≤ 14 := by
      split
      · exact Nat.zero_le _
      · rw [List.length_append]
        show 1 + _ ≤ 14
        omega
    refine bv_cons (sv_setN 5 sc_p_column_text.nd (en_lst (ds := [dS (S (wd0 c))]) (av_cons (ev_catS (ev_call c_p_fraction_text (hr.mono (by decide)) (av_cons (ev_var 1 rfl) av_nil) ⟨b, c.dur, rfl, hc.dur, rfl, rfl⟩) (ev_var 4 rfl) (by omega)) av_nil)) (fun l hl => ?_))
    have hlen := hc.len
    refine bv_cons (sv_for rfl (iv_sq (b := b) (ev_var 3 rfl)) (pg_name (i := 6) sc_p_column_text.nd rfl (.inl rfl)) (fun i ρ M => ∃ x6, ρ = [some (colQ b c), some (sq b [dI c.dur.1, dI c.dur.2]), some (dI c.acc), some (sq b (c.ents.map (entQ b))), some (dS (S (if c.acc = 0 then [] else [33] ++ num c.acc))), some (dP l), x6] ∧ M = M'.set l (.lst ((wd0 c :: (c.ents.take i).map entW).map fun w => dS (S w)))) ⟨none, rfl, rfl⟩ (fun i d ρ' M1 hd hi => ?_) (fun ρ' M1 hi => ?_))
    · obtain ⟨x6, rfl, rfl⟩ := hi
      rw [List.getElem?_map, Option.map_eq_some_iff] at hd
      obtain ⟨e, he, rfl⟩ := hd
      have hil : i < c.ents.length := (List.getElem?_eq_some_iff.mp he).1
      refine ⟨_, tg_name, ?_⟩
      refine bv_one (sv_append (ds := (wd0 c :: (c.ents.take i).map entW).map fun w => dS (S w)) (ev_var 5 rfl) (ev_call c_p_entry_text (hr.mono (by decide)) (av_cons (ev_var 6 rfl) av_nil) ⟨b, e, rfl, fun t g q => hc.ton t g (by rw [← q]; exact List.mem_of_getElem? he), rfl, rfl⟩) ⟨_, Mem.set_same⟩ Mem.set_same ?_ ?_)
      · rw [List.length_map, List.length_cons, List.length_map, List.length_take]
        exact Nat.lt_of_le_of_lt (show min i c.ents.length + 1 ≤ 10 by omega) (by decide)
      · refine ⟨_, rfl, ?_⟩
        rw [Mem.set_set, List.take_add_one, he]
        simp only [Option.toList_some, List.map_append, List.map_cons, List.map_nil, List.cons_append]
    · obtain ⟨x6, rfl, rfl⟩ := hi
      rw [List.length_map, List.take_length]
      refine bv_freeze 5 rfl hl ?_
      exact bv_one (sv_ret (ev_join (q := true) (m := [32]) (ws := colW c) (ev_strL (by decide +kernel)) (ev_var 5 rfl) (by have := colW_sum hc; show _ + _ * 1 ≤ _; omega)) ⟨rfl, Mle.refl _⟩)
theorem c_p_bar_text (F : Fun K "bar_text" "bar_text" s_p_bar_text f fd) (hm : mg "bar_text" = some (.ref f)) (c_p_column_text : Cal P w K mg base 4 "_column_text" (spD K PrCoT)) : Cal P w K mg base 5 "bar_text" (spD K PrBaT) := by
  refine cal_of F sc_p_bar_text hm (fun _ _ _ _ _ _ us hl => match us, hl with | [_], _ => rfl) (fun ds M d M' h => ?_) fun cdv A outer s H E ds M d M' hr h => ?_
  · obtain ⟨b1, b2, bar, rfl, _⟩ := h
    rfl
  · obtain ⟨b1, b2, bar, rfl, hl, hc, rfl, rfl⟩ := h
    show BV _ _ [some (sq b1 (bar.map (colQ b2))), none] _ _
    refine bv_one (sv_ret (ev_join (q := true) (m := [32, 124, 32]) (ws := bar.map colText) (ev_strL (by decide +kernel)) ?_ (barText_sum hl hc)) ⟨rfl, Mle.refl _⟩)
    refine ev_lcG (ds := bar.map (colQ b2)) (ds2 := (bar.map colText).map fun w => dS (S w)) (own := [("column", 1)]) (g := gName 1) rfl sc_p_bar_text.nd (iv_sq (b := b1) (ev_var 0 rfl)) (blkOk_by (N := ["bar", "column"]) (sc := defScope s_p_bar_text) (by decide +kernel)) (fun _ _ _ _ _ => pg_name (i := 1) sc_p_bar_text.nd rfl (Or.inl rfl)) (by rw [List.length_map]; exact Nat.le_trans hl (by decide)) (by rw [List.length_map, List.length_map, List.length_map]) (fun j d d2 hd hd2 => ?_)
    rw [List.getElem?_map, Option.map_eq_some_iff] at hd
    obtain ⟨c, hcj, rfl⟩ := hd
    rw [List.getElem?_map, List.getElem?_map, hcj] at hd2
    cases hd2
    exact ⟨_, tgb_name, fun M2 s H C cl fp => ev_call c_p_column_text (hr.mono (by decide)) (av_cons (ev_var 1 rfl) av_nil) ⟨b2, c, rfl, hc c (List.mem_of_getElem? hcj), rfl, rfl⟩⟩
end
/-! ### right columns pass, spoilt ones don't -/
def TnK (t : Tn) : Prop := (-1000 ≤ t.1 ∧ t.1 ≤ 1000) ∧ -1000 ≤ t.2 ∧ t.2 ≤ 1000
theorem part_of {b : Bool} {ds : List D} {i : Nat} : partD (sq b ds) i = ds.getD i dN := by
  unfold partD
  rw [partsD_of]
theorem pair_of {b : Bool} {x y : D} : pairD (sq b [x, y]) = true := by
  unfold pairD
  rw [rowD_of, partsD_of]
  rfl
theorem whole_of {lo hi i : Int} (h : lo ≤ i ∧ i ≤ hi) : wholeD lo hi (dI i) = true := by
  show (decide (lo ≤ i) && decide (i ≤ hi)) = true
  rw [decide_eq_true h.1, decide_eq_true h.2]
  rfl
theorem short_of {b : Bool} {t : Tn} (h : DurOk t) : shortD (sq b [dI t.1, dI t.2]) = true := by
  unfold shortD
  have d0 := h.red.d0
  have n0 := h.n0
  have g := h.red.one
  have nb := h.nb
  have db := h.db
  rw [pair_of, partsD_of, part_of, part_of]
  show ((true && (wholeD 1 1000 (dI t.1) && (wholeD 1 1000 (dI t.2) && true))) && decide (((Nat.gcd t.1.natAbs t.2.natAbs : Nat) : Int) = 1)) = true
  rw [whole_of (by omega), whole_of (by omega)]
  unfold gz at g
  rw [decide_eq_true g]
  rfl
theorem entry_of {b : Bool} {e : Option (Tn × Bool)} (h : ∀ t g, e = some (t, g) → TnK t) : entryD (entQ b e) = true := by
  cases e with
  | none => rfl
  | some e =>
    obtain ⟨t, g⟩ := e
    have ht := h t g rfl
    show entryD (sq b [sq b [dI t.1, dI t.2], dB g]) = true
    unfold entryD
    rw [pair_of, part_of, part_of]
    show (_ || (true && (toneD (sq b [dI t.1, dI t.2]) && true))) = true
    unfold toneD
    rw [pair_of, partsD_of]
    show (_ || (true && ((true && (wholeD (-1000) 1000 (dI t.1) && (wholeD (-1000) 1000 (dI t.2) && true))) && true))) = true
    rw [whole_of ht.1, whole_of ht.2]
    exact Bool.or_true _
theorem ents_all {b : Bool} {es : List (Option (Tn × Bool))} (h : ∀ t g, some (t, g) ∈ es → TnK t) : (es.map (entQ b)).all entryD = true := by
  rw [List.all_eq_true]
  intro d hd
  obtain ⟨e, he, rfl⟩ := List.mem_map.mp hd
  exact entry_of fun t g e' => h t g (by rw [← e']; exact he)
theorem TnS.far {t : Tn} (h : TnS t) : TnK t := ⟨⟨by have := h.1; omega, by have := h.1; omega⟩, by have := h.2; omega, by have := h.2; omega⟩
def colL (c : Col) : D := .tup [frD c.dur, dI c.acc, .lst (c.ents.map (entQ false))]
theorem reason_L {v : Nat} {c : Col} {vo : Option Nat} (h : ColOk TnK v c) (hv : 1 ≤ v ∧ v ≤ 4) (hvo : ∀ k, vo = some k → k = v) : reasonD (colL c) vo = none := by
  have l : lenD (sq true (c.ents.map (entQ false))) = v := by
    unfold lenD
    rw [partsD_of, List.length_map, h.len]
  unfold reasonD
  rw [if_pos (show rowD (colL c) = true ∧ lenD (colL c) = 3 from ⟨rfl, rfl⟩)]
  show (if shortD (sq false [dI c.dur.1, dI c.dur.2]) = true then (if wholeD 0 9 (dI c.acc) = true then (if _ ∧ _ ∧ _ then (if (partsD (sq true (c.ents.map (entQ false)))).all entryD = true then none else _) else _) else _) else _) = none
  rw [if_pos (short_of h.dur), if_pos (whole_of h.acc), if_pos ⟨(rfl : rowD (partD (colL c) 2) = true), ⟨by show 1 ≤ lenD (sq true (c.ents.map (entQ false))); omega, by show lenD (sq true (c.ents.map (entQ false))) ≤ 4; omega⟩, fun k hk => by show lenD (sq true (c.ents.map (entQ false))) = k; rw [l, hvo k hk]⟩, partsD_of, if_pos (ents_all h.ton)]
theorem entT_of (e : Option (Tn × Bool)) : entT (entQ false e) = entQ false e := by
  cases e with
  | none => rfl
  | some tg => rfl
theorem barT_L (cols : List Col) : barT (.lst (cols.map colL)) = barD cols := by
  show D.tup ((cols.map colL).map colT) = D.tup (cols.map colD)
  rw [List.map_map]
  refine congrArg D.tup (List.map_congr_left fun c _ => ?_)
  show D.tup [frD c.dur, dI c.acc, .tup ((c.ents.map (entQ false)).map entT)] = _
  rw [List.map_map]
  refine congrArg (fun z => D.tup [frD c.dur, dI c.acc, .tup z]) (List.map_congr_left fun e _ => entT_of e)
theorem good_L {v : Nat} {cols : List Col} (hl : cols.length ≤ 64) (h : ∀ c ∈ cols, ColOk TnK v c) (hv : v ≤ 4) : GoodB (.lst (cols.map colL)) := by
  refine ⟨true, cols.map colL, rfl, by rw [List.length_map]; omega, fun d hd => ?_⟩
  obtain ⟨c, hc, rfl⟩ := List.mem_map.mp hd
  refine ⟨false, false, [dI c.dur.1, dI c.dur.2], dI c.acc, true, c.ents.map (entQ false), rfl, ?_, fun e he => ?_⟩
  · rw [List.length_map, (h c hc).len]
    omega
  · obtain ⟨e, _, rfl⟩ := List.mem_map.mp he
    cases e with
    | none => exact .inl rfl
    | some tg => exact .inr ⟨false, false, _, _, _, rfl⟩
theorem kD_L {v : Nat} {c : Col} (h : ColOk TnK v c) (hv : v ≤ 4) : kD 4 (colL c) := ⟨by simp only [List.length_cons, List.length_nil]; decide, fun d hd => by
  rcases List.mem_cons.mp hd with rfl | hd
  · exact kD_two (n := 2) (kD_int _) (kD_int _)
  rcases List.mem_cons.mp hd with rfl | hd
  · exact kD_int _
  rw [List.mem_singleton.mp hd]
  refine ⟨by rw [List.length_map, h.len]; omega, fun d hd => ?_⟩
  obtain ⟨e, _, rfl⟩ := List.mem_map.mp hd
  cases e with
  | none => exact .inl rfl
  | some tg => exact kD_two (kD_two (n := 0) (kD_int _) (kD_int _)) (.inr (.inl ⟨_, rfl⟩))⟩
def PrChk (ds : List D) (M : Mem) (d : D) (M' : Mem) : Prop := ∃ (cols : List Col) (v : Nat), ds = [.lst (cols.map colL)] ∧ (1 ≤ cols.length ∧ cols.length ≤ 64) ∧ (∀ c ∈ cols, ColOk TnK v c) ∧ (1 ≤ v ∧ v ≤ 4) ∧ d = barD cols ∧ M' = M
section
variable {X : Cx} {ρ : Sl} {M M1 : Mem} {e : Expr}
theorem tv_strT {l : List Nat} (hl : l.length ≤ 1000000) (ha : EV X e ρ M (dS (S l)) M1) (he : ∀ whole, isTrue e X.env whole = (do let v ← whole; standAt e.pos; holding [v] (truthy v)) := by intro _; rfl) : TV X e ρ M (!l.isEmpty) M1 :=
  (pt_truth ha he).mono fun σ H Q ⟨G, sa, k⟩ => ⟨G, sa, fun v1 G1 H1 g1 sh1 r1 => by
    rw [r1.of_val]
    refine ⟨!l.isEmpty, ⟨by rw [S_len]; exact Nat.le_trans hl (by decide), ?_⟩, k G1 H1 g1 sh1⟩
    rw [S_len]
    cases l with
    | nil => rfl
    | cons x l =>
      show true = ((((x :: l).length : Nat) : Int) != 0)
      rw [List.length_cons, bne_iff_ne.mpr (show (((l.length + 1 : Nat) : Int)) ≠ 0 by omega)]⟩
end
section
variable {P : Program} {w : World} {K : PySem.W.Frag} {mg : Str → Option Value} {base : Heap} {f : Addr} {fd : FuncData}
theorem c_p_check_ok (F : Fun K "check_bar" "check_bar" s_p_check_bar f fd) (hm : mg "check_bar" = some (.ref f)) (T : Bt mg) (he : mg "enumerate" = none) (hM : ∃ t, mg "MOST_COLUMNS" = some (.int 64 t)) (c_p_is_row : Cal P w K mg base 1 "is_row" (spD K PrRow)) (c_p_reason : Cal P w K mg base 5 "_reason" (spD K PrReason)) (c_p_as_tuples : Cal P w K mg base 4 "as_tuples" (spD K PrAsT)) : Cal P w K mg base 6 "check_bar" (spD K PrChk) := by
  refine cal_of F sc_p_check_bar hm (fun _ _ _ _ _ _ us hl => match us, hl with | [_], _ => rfl) (fun ds M d M' h => ?_) fun cdv A outer s H E ds M d M' hr h => ?_
  · obtain ⟨cols, v, rfl, _⟩ := h
    rfl
  · obtain ⟨cols, v, rfl, ⟨l1, l2⟩, hc, hv, rfl, rfl⟩ := h
    show BV _ _ [some (.lst (cols.map colL)), none, none, none, none] _ _
    have hk : kD 5 (.lst (cols.map colL)) := ⟨by rw [List.length_map]; omega, fun d hd => by
      obtain ⟨c, hcc, rfl⟩ := List.mem_map.mp hd
      exact kD_L (hc c hcc) hv.2⟩
    refine bv_cons (sv_if (p := false) (M1 := M') (PW.pt (wv_orF (tv_to (tv_not (tv_val (ev_call c_p_is_row (hr.mono (by decide)) (av_cons (ev_var 0 rfl) av_nil) ⟨_, 5, rfl, hk, rfl, rfl⟩))) rfl) (wv_one_or (tv_to (tv_not (tv_chain (g := fun i j => decide (i ≤ j)) (g' := fun i j => decide (i ≤ j)) op_le op_le ev_int (ev_lenL T.len (ev_var 0 rfl)) (ev_gI hM))) (by rw [List.length_map, decide_eq_true (show (1 : Int) ≤ (cols.length : Int) by omega), decide_eq_true (show (cols.length : Int) ≤ 64 by omega)]; rfl))))) (fun h => nomatch h) (fun _ => bv_nil ?_))
    refine bv_cons (sv_set 1 sc_p_check_bar.nd ev_non ?_)
    refine bv_cons (sw_for rfl (pg_tup rfl (pgs_cons (pg_name (i := 2) sc_p_check_bar.nd rfl (.inl rfl)) (pgs_cons (pg_name (i := 3) sc_p_check_bar.nd rfl (.inl rfl)) pgs_nil))) ?_)
    refine iw_enum true he (ev_var 0 rfl) ⟨fun i ρ M1 => M1 = M' ∧ ∃ (vo : Option Nat) (x2 x3 x4 : Option D), (∀ k, vo = some k → k = v) ∧ ρ = [some (.lst (cols.map colL)), some (optI vo), x2, x3, x4], ⟨rfl, none, none, none, none, (fun k q => nomatch q), rfl⟩, fun i d ρ' M1 hd2 iv => ?_, fun ρ' M1 iv => ?_⟩
    · obtain ⟨rfl, vo, x2, x3, x4, hvo, rfl⟩ := iv
      obtain ⟨d, hc1, rfl⟩ := enD_get hd2
      rw [List.getElem?_map, Option.map_eq_some_iff] at hc1
      obtain ⟨c, hc2, rfl⟩ := hc1
      have hcc := hc c (List.mem_of_getElem? hc2)
      refine ⟨_, tg_tup (tg_cons tg_name (tg_cons tg_name tg_nil)), ?_⟩
      refine bv_cons (sv_set 4 sc_p_check_bar.nd (ev_to (ev_call c_p_reason (hr.mono (by decide)) (av_cons (ev_var 3 rfl) (av_cons (ev_var 1 rfl) av_nil)) ⟨colL c, 4, vo, rfl, kD_L hcc hv.2, rfl, rfl⟩) (show optS (reasonD (colL c) vo) = dN by rw [reason_L hcc hv hvo]; rfl)) ?_)
      refine bv_cons (sv_if (p := false) (M1 := M1) (tv_to (tv_notNn (d := dN) (ev_var 4 rfl)) rfl) (fun h => nomatch h) (fun _ => bv_nil ?_))
      refine bv_one (sv_set 1 sc_p_check_bar.nd (d := optI (some v)) (ev_to (ev_lenL T.len (ev_ixT (ds := [frD c.dur, dI c.acc, .lst (c.ents.map (entQ false))]) (ev_var 3 rfl) ev_int rfl)) (by rw [List.length_map, hcc.len]; rfl)) ?_)
      exact ⟨rfl, some v, _, _, _, (fun k q => (Option.some.inj q).symm), rfl⟩
    · obtain ⟨rfl, vo, x2, x3, x4, hvo, rfl⟩ := iv
      exact bv_one (sv_ret (ev_call c_p_as_tuples (hr.mono (by decide)) (av_cons (ev_var 0 rfl) av_nil) ⟨_, rfl, good_L l2 hc hv.2, rfl, rfl⟩) ⟨barT_L cols, Mle.refl _⟩)
end
theorem eS_lit {l m : List Nat} {z : Str} (h : z = S m) : decide (S l = z) = decide (l = m) := by
  rw [h]
  exact dec_S l m
theorem at0 {c : Nat} {s : List Nat} : atI (S (c :: s)).cps.toList 0 = some c := by
  rw [S_list]
  unfold atI ixN
  rw [if_pos (by decide), if_pos (by show (0 : Int) < ((c :: s).length : Int); rw [List.length_cons]; omega)]
  rfl
/-! ### reading texts of bars -/
def Piece (ws : List (List Nat)) (q : List Nat) : Prop := ∃ parts : List (List Nat), parts ≠ [] ∧ (∀ p ∈ parts, 32 ∉ p ∧ 124 ∉ p) ∧ q = TL.joinL [32] parts ∧ parts.filter (fun p => !p.isEmpty) = ws
theorem join_mem {s : List Nat} {x : Nat} : ∀ {ws : List (List Nat)}, x ∈ TL.joinL s ws → x ∈ s ∨ ∃ w ∈ ws, x ∈ w
  | [], h => by cases h
  | [p], h => .inr ⟨p, List.mem_cons_self, h⟩
  | p :: q :: r, h => by
    have h : x ∈ p ++ (s ++ TL.joinL s (q :: r)) := h
    rcases List.mem_append.mp h with h | h
    · exact .inr ⟨p, List.mem_cons_self, h⟩
    · rcases List.mem_append.mp h with h | h
      · exact .inl h
      · rcases join_mem h with h | ⟨w, hw, hx⟩
        · exact .inl h
        · exact .inr ⟨w, List.mem_cons_of_mem _ hw, hx⟩
theorem Piece.no {ws : List (List Nat)} {q : List Nat} (h : Piece ws q) : 124 ∉ q := fun hx => by
  obtain ⟨parts, _, hp, rfl, _⟩ := h
  rcases join_mem hx with h | ⟨w, hw, hx⟩
  · exact absurd h (by decide)
  · exact (hp w hw).2 hx
theorem Piece.split {ws : List (List Nat)} {q : List Nat} (h : Piece ws q) : (TL.spl [32] 0 [] q).filter (fun p => !p.isEmpty) = ws := by
  obtain ⟨parts, hne, hp, rfl, hw⟩ := h
  rw [TL.spl_join hne fun p h => (hp p h).1]
  exact hw
theorem num_chars {i : Int} : ∀ c ∈ num i, c = 45 ∨ (48 ≤ c ∧ c ≤ 57) := fun c hc => by
  cases i with
  | ofNat n =>
    have hc : c ∈ num ((n : Nat) : Int) := hc
    rw [num_nat] at hc
    exact .inr (TL.numL_digits n c hc)
  | negSucc m =>
    rw [num_negS] at hc
    rcases List.mem_cons.mp hc with rfl | hc
    · exact .inl rfl
    · exact .inr (TL.numL_digits _ c hc)
theorem num_pos {i : Int} (h : 0 ≤ i) : ∀ c ∈ num i, 48 ≤ c ∧ c ≤ 57 := fun c hc => by
  obtain ⟨n, rfl⟩ := Int.eq_ofNat_of_zero_le h
  rw [num_nat] at hc
  exact TL.numL_digits n c hc
theorem dgs_pos {i : Int} (h : 0 ≤ i) : dgs (num i) = num i := by
  refine dgs_of fun q => ?_
  cases e : num i with
  | nil => rw [e] at q; cases q
  | cons x l =>
    rw [e] at q
    injection q with q
    have := num_pos h x (by rw [e]; exact List.mem_cons_self)
    omega
theorem num_l4 {i : Int} (h : 0 ≤ i ∧ i ≤ 1000) : (num i).length ≤ 4 := by
  obtain ⟨n, rfl⟩ := Int.eq_ofNat_of_zero_le h.1
  rw [num_nat]
  exact TL.numL_len (k := 4) (by decide) (by have := h.2; omega)
theorem num_l1 {i : Int} (h : 0 ≤ i ∧ i ≤ 9) : (num i).length ≤ 1 := by
  obtain ⟨n, rfl⟩ := Int.eq_ofNat_of_zero_le h.1
  rw [num_nat]
  exact TL.numL_len (k := 1) (by decide) (by have := h.2; omega)
theorem part_hit {x : Nat} {a b : List Nat} (h : x ∉ a) : Txt.partition (S (a ++ [x] ++ b)) (S [x]) = (S a, S [x], S b) := by
  have e : S (a ++ [x] ++ b) = S a ++ S [x] ++ S b := by rw [S_app, S_app]
  rw [e]
  exact TL.partition_app (s := x) (S := []) rfl h
theorem part_miss {x : Nat} {a : List Nat} (h : x ∉ a) : Txt.partition (S a) (S [x]) = (S a, S [], S []) := TL.partition_none (s := x) (S := []) rfl h
def PrFrIn (ds : List D) (M : Mem) (d : D) (M' : Mem) : Prop := ∃ p : Tn, ds = [dS (S (frT p)), dI 4] ∧ DurOk p ∧ d = frD p ∧ M' = M
def PrEnIn (ds : List D) (M : Mem) (d : D) (M' : Mem) : Prop := ∃ e : Option (Tn × Bool), ds = [dS (S (entW e))] ∧ (∀ t g, e = some (t, g) → BT t.1 t.2) ∧ d = entQ false e ∧ M' = M
def PrCoIn (ds : List D) (M : Mem) (d : D) (M' : Mem) : Prop := ∃ (q : List Nat) (c : Col) (v : Nat), ds = [dS (S q)] ∧ Piece (colW c) q ∧ ColOk TnK v c ∧ (1 ≤ v ∧ v ≤ 4) ∧ q.length ≤ 1000000 ∧ d = colL c ∧ M' = M
def PrRdBar (ds : List D) (M : Mem) (d : D) (M' : Mem) : Prop := ∃ (ps : List (List Nat)) (cols : List Col) (v : Nat), ds = [dS (S (TL.joinL [124] ps))] ∧ ps.length = cols.length ∧ (∀ (i : Nat) (q : List Nat) (c : Col), ps[i]? = some q → cols[i]? = some c → Piece (colW c) q) ∧ (TL.joinL [124] ps).length ≤ 1000000 ∧ (1 ≤ cols.length ∧ cols.length ≤ 64) ∧ (∀ c ∈ cols, ColOk TnK v c) ∧ (1 ≤ v ∧ v ≤ 4) ∧ d = barD cols ∧ M' = M
section
variable {P : Program} {w : World} {K : PySem.W.Frag} {mg : Str → Option Value} {base : Heap} {f : Addr} {fd : FuncData}
theorem c_p_fraction_in (F : Fun K "fraction_in" "fraction_in" s_p_fraction_in f fd) (hm : mg "fraction_in" = some (.ref f)) (hg : mg "gcd" = some (.builtin "math.gcd")) (c_p_number_in : Cal P w K mg base 1 "number_in" (spD K PrNumT)) : Cal P w K mg base 2 "fraction_in" (spD K PrFrIn) := by
  refine cal_of F sc_p_fraction_in hm (fun _ _ _ _ _ _ us hl => match us, hl with | [_, _], _ => rfl) (fun ds M d M' h => ?_) fun cdv A outer s H E ds M d M' hr h => ?_
  · obtain ⟨p, rfl, _⟩ := h
    rfl
  · obtain ⟨⟨n, k⟩, rfl, hp, rfl, rfl⟩ := h
    show BV _ _ [some (dS (S (frT (n, k)))), some (dI 4), none, none, none, none, none] _ _
    have n0 : 0 < n := hp.n0
    have k0 : 0 < k := hp.red.d0
    have nb : n ≤ 1000 := hp.nb
    have kb : k ≤ 1000 := hp.db
    have l1 := num_l4 (i := n) ⟨by omega, nb⟩
    have l2 := num_l4 (i := k) ⟨by omega, kb⟩
    have d1 : numK 4 (num n) = some n := numK_num (by rw [dgs_pos (by omega)]; exact l1)
    have d2 : numK 4 (num k) = some k := numK_num (by rw [dgs_pos (by omega)]; exact l2)
    have s1 : 47 ∉ num n := fun h => by have := num_pos (i := n) (by omega) 47 h; omega
    have hgcd : ((Nat.gcd n.natAbs k.natAbs : Nat) : Int) = 1 := hp.red.one
    by_cases hk : k = 1
    · subst hk
      have e0 : frT (n, 1) = num n := if_pos rfl
      rw [e0]
      refine bv_cons (sv_asg (ev_partition (p := num n) (q := []) (r := []) (m := [47]) (by decide) (part_miss s1) (ev_var 0 rfl) (ev_strL (by decide +kernel)) (by omega)) (pg_tup rfl (pgs_cons (pg_name (i := 2) sc_p_fraction_in.nd rfl (.inl rfl)) (pgs_cons (pg_name (i := 3) sc_p_fraction_in.nd rfl (.inl rfl)) (pgs_cons (pg_name (i := 4) sc_p_fraction_in.nd rfl (.inl rfl)) pgs_nil)))) (tg_tup (tg_cons tg_name (tg_cons tg_name (tg_cons tg_name tg_nil)))) ?_)
      refine bv_cons (sv_set 5 sc_p_fraction_in.nd (d := dI n) (ev_to (ev_call c_p_number_in (hr.mono (by decide)) (av_cons (ev_var 2 rfl) (av_cons (ev_var 1 rfl) av_nil)) ⟨num n, 4, rfl, by omega, by decide, rfl, rfl⟩) (by rw [d1]; rfl)) ?_)
      refine bv_cons (sv_set 6 sc_p_fraction_in.nd (ev_call c_p_number_in (hr.mono (by decide)) (av_cons (ev_var 4 rfl) (av_cons (ev_var 1 rfl) av_nil)) ⟨[], 4, rfl, by decide, by decide, rfl, rfl⟩) ?_)
      refine bv_cons (sv_if (p := true) (M1 := M') (tv_to (tv_cmpR op_eq (ev_var 0 rfl) (ev_var 2 rfl) rs_eqS (nomark _)) (decide_eq_true rfl)) (fun _ => bv_one (sv_set 6 sc_p_fraction_in.nd ev_int ?_)) (fun h => nomatch h))
      refine bv_cons (sv_if (p := false) (M1 := M') (PW.pt (wv_orF (tv_isNn (d := dI n) (ev_var 5 rfl)) (wv_orF (tv_isNn (d := dI 1) (ev_var 6 rfl)) (wv_orF (tv_to (tv_cmpR op_lt (ev_var 5 rfl) ev_int rs_I0 (nomark _)) (decide_eq_false (by omega))) (wv_orF (tv_to (tv_cmpR op_lt (ev_var 6 rfl) ev_int rs_I0 (nomark _)) (by decide)) (wv_one_or (tv_to (tv_cmpR op_gt (ev_bf2 cr_gcd hg (ev_var 5 rfl) (ev_var 6 rfl) (z := .int ((Nat.gcd n.natAbs (1 : Int).natAbs : Nat) : Int)) (fun H Q q => ⟨n, 1, rfl, q⟩)) ev_int rs_I0 (nomark _)) (decide_eq_false (by rw [hgcd]; decide))))))))) (fun h => nomatch h) (fun _ => bv_nil ?_))
      exact bv_one (sv_ret (ev_tup (av_cons (ev_var 5 rfl) (av_cons (ev_var 6 rfl) av_nil))) ⟨rfl, Mle.refl _⟩)
    · have e0 : frT (n, k) = num n ++ [47] ++ num k := if_neg hk
      rw [e0]
      have hne : ¬ num n ++ [47] ++ num k = num n := fun q => by
        have := congrArg List.length q
        rw [List.length_append, List.length_append] at this
        have h1 : ([47] : List Nat).length = 1 := rfl
        omega
      have hl : (num n ++ [47] ++ num k).length ≤ 10000000 := by
        rw [List.length_append, List.length_append]
        show _ + 1 + _ ≤ 10000000
        omega
      refine bv_cons (sv_asg (ev_partition (p := num n) (q := [47]) (r := num k) (m := [47]) (by decide) (part_hit s1) (ev_var 0 rfl) (ev_strL (by decide +kernel)) hl) (pg_tup rfl (pgs_cons (pg_name (i := 2) sc_p_fraction_in.nd rfl (.inl rfl)) (pgs_cons (pg_name (i := 3) sc_p_fraction_in.nd rfl (.inl rfl)) (pgs_cons (pg_name (i := 4) sc_p_fraction_in.nd rfl (.inl rfl)) pgs_nil)))) (tg_tup (tg_cons tg_name (tg_cons tg_name (tg_cons tg_name tg_nil)))) ?_)
      refine bv_cons (sv_set 5 sc_p_fraction_in.nd (d := dI n) (ev_to (ev_call c_p_number_in (hr.mono (by decide)) (av_cons (ev_var 2 rfl) (av_cons (ev_var 1 rfl) av_nil)) ⟨num n, 4, rfl, by omega, by decide, rfl, rfl⟩) (by rw [d1]; rfl)) ?_)
      refine bv_cons (sv_set 6 sc_p_fraction_in.nd (d := dI k) (ev_to (ev_call c_p_number_in (hr.mono (by decide)) (av_cons (ev_var 4 rfl) (av_cons (ev_var 1 rfl) av_nil)) ⟨num k, 4, rfl, by omega, by decide, rfl, rfl⟩) (by rw [d2]; rfl)) ?_)
      refine bv_cons (sv_if (p := false) (M1 := M') (tv_to (tv_cmpR op_eq (ev_var 0 rfl) (ev_var 2 rfl) rs_eqS (nomark _)) (by rw [dec_S]; exact decide_eq_false hne)) (fun h => nomatch h) (fun _ => bv_one (sv_if (p := false) (M1 := M') (tv_to (tv_cmpR op_eq (ev_var 6 rfl) ev_int rs_eqI (nomark _)) (decide_eq_false hk)) (fun h => nomatch h) (fun _ => bv_nil ?_))))
      refine bv_cons (sv_if (p := false) (M1 := M') (PW.pt (wv_orF (tv_isNn (d := dI n) (ev_var 5 rfl)) (wv_orF (tv_isNn (d := dI k) (ev_var 6 rfl)) (wv_orF (tv_to (tv_cmpR op_lt (ev_var 5 rfl) ev_int rs_I0 (nomark _)) (decide_eq_false (by omega))) (wv_orF (tv_to (tv_cmpR op_lt (ev_var 6 rfl) ev_int rs_I0 (nomark _)) (decide_eq_false (by omega))) (wv_one_or (tv_to (tv_cmpR op_gt (ev_bf2 cr_gcd hg (ev_var 5 rfl) (ev_var 6 rfl) (z := .int ((Nat.gcd n.natAbs k.natAbs : Nat) : Int)) (fun H Q q => ⟨n, k, rfl, q⟩)) ev_int rs_I0 (nomark _)) (decide_eq_false (by rw [hgcd]; decide))))))))) (fun h => nomatch h) (fun _ => bv_nil ?_))
      exact bv_one (sv_ret (ev_tup (av_cons (ev_var 5 rfl) (av_cons (ev_var 6 rfl) av_nil))) ⟨rfl, Mle.refl _⟩)
theorem c_p_entry_in (F : Fun K "_entry_in" "_entry_in" s_p_entry_in f fd) (hm : mg "_entry_in" = some (.ref f)) (c_p_read_tone : Cal P w K mg base 4 "read_tone" (spD K PrMeant)) : Cal P w K mg base 5 "_entry_in" (spD K PrEnIn) := by
  refine cal_of F sc_p_entry_in hm (fun _ _ _ _ _ _ us hl => match us, hl with | [_], _ => rfl) (fun ds M d M' h => ?_) fun cdv A outer s H E ds M d M' hr h => ?_
  · obtain ⟨e, rfl, _⟩ := h
    rfl
  · obtain ⟨e, rfl, hb, rfl, rfl⟩ := h
    show BV _ _ [some (dS (S (entW e)))] _ _
    cases e with
    | none => exact bv_cons (sv_if (p := true) (M1 := M') (tv_to (tv_cmpR op_eq (ev_var 0 rfl) ev_str rs_eqS (nomark _)) (decide_eq_true (by decide +kernel))) (fun _ => bv_one (sv_ret ev_non ⟨rfl, Mle.refl _⟩)) (fun h => nomatch h))
    | some tg =>
      obtain ⟨⟨x, o⟩, g⟩ := tg
      have ht : BT x o := hb (x, o) g rfl
      have hl := nm_len ht.wide
      have hd : ∃ c r, nm x o = c :: r ∧ c ∈ letters := by
        have hp : 0 ≤ 4 * x % 7 ∧ 4 * x % 7 < 7 := by omega
        exact ⟨_, _, rfl, (let_at (4 * x % 7).toNat (by omega)).1⟩
      obtain ⟨c, r, enm, hcl⟩ := hd
      have c45 : c ≠ 45 := fun q => by rw [q] at hcl; exact absurd hcl (by decide)
      have c126 : c ≠ 126 := fun q => by rw [q] at hcl; exact absurd hcl (by decide)
      cases g with
      | true =>
        rw [show entW (some ((x, o), true)) = nm x o from rfl]
        have hz : (S (c :: r)).length ≤ sizeLine := by rw [← enm, S_len]; exact Nat.le_trans hl (by decide)
        refine bv_cons (sv_if (p := false) (M1 := M') (tv_to (tv_cmpR op_eq (ev_var 0 rfl) ev_str rs_eqS (nomark _)) ((eS_lit (m := [45]) (by decide +kernel)).trans (decide_eq_false fun q => by rw [enm] at q; injection q with q; exact c45 q))) (fun h => nomatch h) (fun _ => bv_nil ?_))
        refine bv_cons (sv_if (p := false) (M1 := M') (tv_to (tv_cmpR op_eq (ev_ixS (ev_to (ev_var 0 rfl) (by rw [enm])) ev_int hz at0) ev_str rs_eqS (nomark _)) ((eS_lit (l := [c]) (m := [126]) (by decide +kernel)).trans (decide_eq_false fun q => by injection q with q; exact c126 q))) (fun h => nomatch h) (fun _ => bv_nil ?_))
        exact bv_one (sv_ret (ev_tup (av_cons (ev_call c_p_read_tone (hr.mono (by decide)) (av_cons (ev_var 0 rfl) av_nil) ⟨x, o, rfl, ht, rfl, rfl⟩) (av_cons ev_bl av_nil))) ⟨rfl, Mle.refl _⟩)
      | false =>
        rw [show entW (some ((x, o), false)) = 126 :: nm x o from rfl]
        have hz : (S (126 :: nm x o)).length ≤ sizeLine := by rw [S_len, List.length_cons]; exact Nat.le_trans (show (nm x o).length + 1 ≤ 1000 by omega) (by decide)
        refine bv_cons (sv_if (p := false) (M1 := M') (tv_to (tv_cmpR op_eq (ev_var 0 rfl) ev_str rs_eqS (nomark _)) ((eS_lit (m := [45]) (by decide +kernel)).trans (decide_eq_false fun q => by injection q with q; cases q))) (fun h => nomatch h) (fun _ => bv_nil ?_))
        refine bv_cons (sv_if (p := true) (M1 := M') (tv_to (tv_cmpR op_eq (ev_ixS (ev_var 0 rfl) ev_int hz at0) ev_str rs_eqS (nomark _)) (by decide +kernel)) (fun _ => ?_) (fun h => nomatch h))
        exact bv_one (sv_ret (ev_tup (av_cons (ev_call c_p_read_tone (hr.mono (by decide)) (av_cons (d := dS (S (nm x o))) (ev_to (ev_sliceS (ev_var 0 rfl) (ov_some ev_int) ov_none (by rw [List.length_cons]; omega)) (by rw [sl_from]; rfl)) av_nil) ⟨x, o, rfl, ht, rfl, rfl⟩) (av_cons ev_bl av_nil))) ⟨rfl, Mle.refl _⟩)
end
theorem cut_tail (x : D) (ds : List D) : cutD (x :: ds) (some 1) none = ds := by
  unfold cutD
  have e1 : HT.sIx (x :: ds).length 0 (some 1) = 1 := by
    rw [show (1 : Int) = ((1 : Nat) : Int) from rfl, HT.sIx_nat, List.length_cons]
    omega
  rw [e1, HT.sIx_none, List.drop_one]
  show ds.take _ = ds
  exact List.take_of_length_le (by rw [List.length_cons]; omega)
theorem join_le {s : List Nat} {p : List Nat} : ∀ {ws : List (List Nat)}, p ∈ ws → p.length ≤ (TL.joinL s ws).length
  | [], h => by cases h
  | [q], h => by
    rw [List.mem_singleton.mp h]
    exact Nat.le_refl _
  | q :: r :: t, h => by
    show _ ≤ (q ++ (s ++ TL.joinL s (r :: t))).length
    rw [List.length_append, List.length_append]
    rcases List.mem_cons.mp h with rfl | h
    · omega
    · have := join_le (s := s) h
      omega
theorem join_cnt {x : Nat} : ∀ ws : List (List Nat), ws.length ≤ (TL.joinL [x] ws).length + 1
  | [] => Nat.zero_le _
  | [q] => by
    show 1 ≤ _
    omega
  | q :: r :: t => by
    show _ ≤ (q ++ ([x] ++ TL.joinL [x] (r :: t))).length + 1
    have ih := join_cnt (x := x) (r :: t)
    rw [List.length_append, List.length_append]
    have h1 : ([x] : List Nat).length = 1 := rfl
    simp only [List.length_cons] at ih h1 ⊢
    omega
theorem filter_snoc {α : Type} {xs : List α} {f : α → Bool} {i : Nat} {x : α} (h : xs[i]? = some x) : (xs.take (i + 1)).filter f = (xs.take i).filter f ++ (if f x = true then [x] else []) := by
  rw [List.take_add_one, h, List.filter_append]
  show _ ++ List.filter f [x] = _
  cases hf : f x <;> simp [hf]
section
variable {X : Cx} {ρ : Sl} {M M1 : Mem} {pos : Pos} {Ψ : Out → Prop}
theorem sv_setLcG (i : Nat) {y : Str} {py : Pos} {elt tg iter : Expr} {scope : Scope} {own : List (Str × Nat)} {spos : Pos} {g : TG} {ds ds2 : List D} (hc : X.calm = true) (hN : X.N.Nodup) (hi : IV X tg iter ρ M ds M1) (ok : BlkOk X.N X.env.scope scope own)
    (hg : ∀ (s : Shared) (H : Hp) (C : Addr) (cl : List (Str × Addr)) (fp : List Addr), PG (X.blk s H scope (compEnvC scope cl C X.env) fp) tg g) (hlen : ds.length ≤ sizeLine) (h2 : ds2.length = ds.length)
    (step : ∀ (i : Nat) d d2, ds[i]? = some d → ds2[i]? = some d2 → ∃ ρ', TGb X.K g (own.map (·.2)) (wipeD ρ (own.map (·.2))) d ρ' ∧ ∀ (M2 : Mem), ∀ (s : Shared) (H : Hp) (C : Addr) (cl : List (Str × Addr)) (fp : List Addr), EV (X.blk s H scope (compEnvC scope cl C X.env) fp) elt ρ' M2 d2 M2)
    (hΨ : Ψ (.nx (ρ.set i (some (.lst ds2))) M1)) (hw : swapsWith (.ListComp elt [⟨tg, iter, [], 0⟩] scope pos) (some (.Name y py)) spos.line X.env = pure true := by rfl) (hy : X.N[i]? = some y := by rfl) (hl : X.env.scope.names.lookup y = some .local := by rfl)
    (hs : ∀ x, foldedSetIterable iter X.env x = pure x := by intro _; rfl) : SV X (.Assign [.Name y py] (.ListComp elt [⟨tg, iter, [], 0⟩] scope pos) spos) ρ M Ψ := by
  refine sv_setLc i hc hN hy hl hw hi ok hg (fun j => id (ds2.getD j dN)) (fun _ => M1) rfl (fun _ _ h => h) hlen (fun j d h => ?_) ?_ hs
  · have hlt : j < ds2.length := by rw [h2]; exact (List.getElem?_eq_some_iff.mp h).1
    obtain ⟨ρ', h1, h3⟩ := step j d ds2[j] h (List.getElem?_eq_getElem hlt)
    refine ⟨ρ', h1, fun p acc _ s H C cl fp => ?_⟩
    show EV _ elt ρ' _ (ds2.getD j dN) _
    rw [getD_of (List.getElem?_eq_getElem hlt)]
    exact h3 _ s H C cl fp
  · rw [← h2, range_getD dN id ds2, List.map_id]
    exact hΨ
end
section
variable {P : Program} {w : World} {K : PySem.W.Frag} {mg : Str → Option Value} {base : Heap} {f : Addr} {fd : FuncData}
theorem c_p_column_in (F : Fun K "_column_in" "_column_in" s_p_column_in f fd) (hm : mg "_column_in" = some (.ref f)) (T : Bt mg) (Gb : Gk K mg) (hV : ∃ t, mg "MOST_VOICES" = some (.int 4 t)) (c_p_number_in : Cal P w K mg base 1 "number_in" (spD K PrNumT)) (c_p_fraction_in : Cal P w K mg base 2 "fraction_in" (spD K PrFrIn)) (c_p_is_short : Cal P w K mg base 3 "is_short_fraction" (spD K PrShort)) (c_p_entry_in : Cal P w K mg base 5 "_entry_in" (spD K PrEnIn)) : Cal P w K mg base 6 "_column_in" (spD K PrCoIn) := by
  refine cal_of F sc_p_column_in hm (fun _ _ _ _ _ _ us hl => match us, hl with | [_], _ => rfl) (fun ds M d M' h => ?_) fun cdv A outer s H E ds M d M' hr h => ?_
  · obtain ⟨q, c, v, rfl, _⟩ := h
    rfl
  · obtain ⟨q, c, v, rfl, ⟨parts, hne, hp, rfl, hw⟩, hc, hv, hql, rfl, rfl⟩ := h
    show BV _ _ [some (dS (S (TL.joinL [32] parts))), none, none, none, none, none, none, none, none] _ _
    have es : TL.spl [32] 0 [] (TL.joinL [32] parts) = parts := TL.spl_join hne fun p h => (hp p h).1
    have hcnt := join_cnt (x := 32) parts
    refine bv_cons (sw_setLcF 1 (own := [("word", 2)]) (g := gName 2) rfl sc_p_column_in.nd (blkOk_by (N := ["text", "words", "word", "duration", "mark", "accent", "length", "weight", "entries"]) (sc := defScope s_p_column_in) (by decide +kernel)) (fun _ _ _ _ _ => pg_name (i := 2) sc_p_column_in.nd rfl (Or.inl rfl)) ?_)
    refine iw_iv (iv_list (ds := parts.map fun w => dS (S w)) (ev_to (ev_split (m := [32]) (by decide) (by decide) (ev_var 0 rfl) (ev_strL (by decide +kernel)) (by omega)) (by rw [es]))) ⟨by rw [List.length_map]; exact Nat.le_trans (show parts.length ≤ 1000001 by omega) (by decide), fun i acc M1 => M1 = M' ∧ acc = ((parts.take i).filter (fun p => !p.isEmpty)).map fun w => dS (S w), ⟨rfl, rfl⟩, fun i d acc M1 hd hacc iv => ?_, fun acc M1 hacc iv p hpn => ?_⟩
    · obtain ⟨rfl, rfl⟩ := iv
      rw [List.getElem?_map, Option.map_eq_some_iff] at hd
      obtain ⟨x, hx, rfl⟩ := hd
      have hxl := join_le (s := [32]) (List.mem_of_getElem? hx)
      refine ⟨_, tgb_name, fun p hpn s H C cl fp => ?_⟩
      refine tw_tv (tv_strT (l := x) (by omega) (ev_var 2 rfl)) ⟨M1, rfl, hpn, fun hb => ⟨rfl, ?_⟩, fun hb s H C cl fp => ew_ev (ev_var 2 rfl) ⟨M1, rfl, hpn, rfl, ?_⟩⟩
      · rw [filter_snoc hx, if_neg (by rw [hb]; exact Bool.false_ne_true), List.append_nil]
      · rw [filter_snoc hx, if_pos hb, List.map_append]
        rfl
    obtain ⟨rfl, rfl⟩ := iv
    rw [List.length_map, List.take_length, hw]
    refine bv_freeze 1 rfl hpn ?_
    show BV _ _ [some (dS (S (TL.joinL [32] parts))), some (.lst ((colW c).map fun w => dS (S w))), none, none, none, none, none, none, none] _ _
    have hlen : ((colW c).map fun w => dS (S w)).length = v + 1 := by
      unfold colW
      rw [List.length_map, List.length_cons, List.length_map, hc.len]
    refine bv_cons (sv_if (p := false) (M1 := M1) (tv_to (tv_not (tv_chain (g := fun i j => decide (i ≤ j)) (g' := fun i j => decide (i ≤ j)) op_le op_le ev_int (ev_lenL T.len (ev_var 1 rfl)) (ev_op op_add ev_int (ev_gI hV) rs_I0))) (by rw [hlen, decide_eq_true (show (2 : Int) ≤ ((v + 1 : Nat) : Int) by omega), decide_eq_true (show ((v + 1 : Nat) : Int) ≤ 1 + 4 by omega)]; rfl)) (fun h => nomatch h) (fun _ => bv_nil ?_))
    have ha := hc.acc
    have n0 := hc.dur.n0
    have k0 := hc.dur.red.d0
    have nb := hc.dur.nb
    have kb := hc.dur.db
    have f33 : 33 ∉ frT c.dur := fun h => by
      unfold frT at h
      split at h
      · have := num_pos (by omega) 33 h
        omega
      · rcases List.mem_append.mp h with h | h
        · rcases List.mem_append.mp h with h | h
          · have := num_pos (by omega) 33 h
            omega
          · exact absurd h (by decide)
        · have := num_pos (by omega) 33 h
          omega
    have fl : (frT c.dur).length ≤ 27 := frT_len ⟨n0, by omega, k0, by omega⟩
    have fn := num_l1 (i := c.acc) ha
    have mk : List Nat × List Nat := if c.acc = 0 then ([], []) else ([33], num c.acc)
    have hpart : Txt.partition (S (wd0 c)) (S [33]) = (S (frT c.dur), S (if c.acc = 0 then [] else [33]), S (if c.acc = 0 then [] else num c.acc)) := by
      unfold wd0
      split
      · rw [List.append_nil]
        exact part_miss f33
      · rw [← List.append_assoc]
        exact part_hit f33
    have hwl : (wd0 c).length ≤ 10000000 := by
      unfold wd0
      rw [List.length_append]
      split
      · show _ + 0 ≤ _
        omega
      · rw [List.length_append]
        show _ + (1 + _) ≤ _
        omega
    refine bv_cons (sv_asg (ev_partition (m := [33]) (by decide) hpart (ev_ixL (ev_var 1 rfl) ev_int (atI_nat (k := 0) rfl rfl)) (ev_strL (by decide +kernel)) hwl) (pg_tup rfl (pgs_cons (pg_name (i := 3) sc_p_column_in.nd rfl (.inl rfl)) (pgs_cons (pg_name (i := 4) sc_p_column_in.nd rfl (.inl rfl)) (pgs_cons (pg_name (i := 5) sc_p_column_in.nd rfl (.inl rfl)) pgs_nil)))) (tg_tup (tg_cons tg_name (tg_cons tg_name (tg_cons tg_name tg_nil)))) ?_)
    refine bv_cons (sv_set 6 sc_p_column_in.nd (ev_call c_p_fraction_in (hr.mono (by decide)) (av_cons (ev_var 3 rfl) (av_cons (ev_gI Gb.mostb) av_nil)) ⟨c.dur, rfl, hc.dur, rfl, rfl⟩) ?_)
    have m1 : (if c.acc = 0 then ([] : List Nat) else [33]).length ≤ 1000000 := by
      split <;> simp
    have me : (!(if c.acc = 0 then ([] : List Nat) else [33]).isEmpty) = !decide (c.acc = 0) := by
      by_cases h : c.acc = 0
      · rw [if_pos h, decide_eq_true h]
        rfl
      · rw [if_neg h, decide_eq_false h]
        rfl
    refine bv_cons (sv_set 7 sc_p_column_in.nd (d := dI c.acc) (M1 := M1) (ev_if (p := !decide (c.acc = 0)) (M1 := M1) (tv_to (tv_strT m1 (ev_var 4 rfl)) me) (fun h => ?_) (fun h => ?_)) ?_)
    · rw [Bool.not_eq_true', decide_eq_false_iff_not] at h
      refine ev_to (ev_call c_p_number_in (hr.mono (by decide)) (av_cons (ev_to (ev_var 5 rfl) (by rw [if_neg h])) (av_cons ev_int av_nil)) ⟨num c.acc, 1, rfl, by omega, by decide, rfl, rfl⟩) ?_
      rw [numK_num (by rw [dgs_pos ha.1]; exact fn)]
      rfl
    · rw [Bool.not_eq_false', decide_eq_true_iff] at h
      exact ev_to ev_int (by rw [h])
    refine bv_cons (sv_if (p := false) (M1 := M1) (PW.pt (wv_orF (tv_to (tv_not (tv_val (ev_call c_p_is_short (hr.mono (by decide)) (av_cons (ev_var 6 rfl) av_nil) ⟨frD c.dur, 1, rfl, kD_two (kD_int _) (kD_int _), rfl, rfl⟩))) (by rw [show shortD (frD c.dur) = true from short_of (b := false) hc.dur]; rfl)) (wv_orF (tv_isNn (d := dI c.acc) (ev_var 7 rfl)) (wv_one_or (PW.pt (wv_to (wv_and (p := !decide (c.acc = 0)) (q := decide (c.acc < 1)) (tv_to (tv_strT m1 (ev_var 4 rfl)) me) (fun _ => wv_one_and (tv_cmpR op_lt (ev_var 7 rfl) ev_int rs_I0 (nomark _)))) (by
      by_cases h : c.acc = 0
      · rw [decide_eq_true h]; rfl
      · rw [decide_eq_false (show ¬ c.acc < 1 by omega), Bool.and_false]))))))) (fun h => nomatch h) (fun _ => bv_nil ?_))
    refine bv_cons (sv_tryThru (bv_one (sv_setLcG 8 (ds := (c.ents.map entW).map fun w => dS (S w)) (ds2 := c.ents.map (entQ false)) (own := [("word", 2)]) (g := gName 2) rfl sc_p_column_in.nd (iv_list (ev_to (ev_sliceQ (b' := true) (ev_var 1 rfl) (ov_some ev_int) ov_none) (show sq true (cutD ((colW c).map fun w => dS (S w)) (some 1) none) = .lst ((c.ents.map entW).map fun w => dS (S w)) by unfold colW; rw [List.map_cons, cut_tail]; rfl))) (blkOk_by (N := ["text", "words", "word", "duration", "mark", "accent", "length", "weight", "entries"]) (sc := defScope s_p_column_in) (by decide +kernel)) (fun _ _ _ _ _ => pg_name (i := 2) sc_p_column_in.nd rfl (Or.inl rfl)) (by rw [List.length_map, List.length_map, hc.len]; exact Nat.le_trans (show v ≤ 4 from hv.2) (by decide)) (by rw [List.length_map, List.length_map, List.length_map]) (fun j d d2 hd hd2 => ?_) ?_)))
    · rw [List.getElem?_map, List.getElem?_map, Option.map_eq_some_iff] at hd
      obtain ⟨x, hx, rfl⟩ := hd
      obtain ⟨e, he, rfl⟩ := Option.map_eq_some_iff.mp hx
      rw [List.getElem?_map, he] at hd2
      cases hd2
      exact ⟨_, tgb_name, fun M2 s H C cl fp => ev_call c_p_entry_in (hr.mono (by decide)) (av_cons (ev_var 2 rfl) av_nil) ⟨e, rfl, fun t g q => hc.ton t g (by rw [← q]; exact List.mem_of_getElem? he), rfl, rfl⟩⟩
    exact bv_one (sv_ret (ev_tup (av_cons (ev_var 6 rfl) (av_cons (ev_var 7 rfl) (av_cons (ev_var 8 rfl) av_nil)))) ⟨rfl, Mle.refl _⟩)
theorem c_p_read_bar (F : Fun K "read_bar" "read_bar" s_p_read_bar f fd) (hm : mg "read_bar" = some (.ref f)) (T : Bt mg) (c_p_column_in : Cal P w K mg base 6 "_column_in" (spD K PrCoIn)) (c_p_check_ok : Cal P w K mg base 6 "check_bar" (spD K PrChk)) : Cal P w K mg base 7 "read_bar" (spD K PrRdBar) := by
  refine cal_of F sc_p_read_bar hm (fun _ _ _ _ _ _ us hl => match us, hl with | [_], _ => rfl) (fun ds M d M' h => ?_) fun cdv A outer s H E ds M d M' hr h => ?_
  · obtain ⟨ps, cols, v, rfl, _⟩ := h
    rfl
  · obtain ⟨ps, cols, v, rfl, hpl, hps, hql, hcl, hc, hv, rfl, rfl⟩ := h
    show BV _ _ [some (dS (S (TL.joinL [124] ps))), none, none, none, none] _ _
    have pc : ∀ (i : Nat) (q : List Nat), ps[i]? = some q → ∃ c, cols[i]? = some c ∧ Piece (colW c) q := fun i q h => by
      have hlt : i < cols.length := by rw [← hpl]; exact (List.getElem?_eq_some_iff.mp h).1
      exact ⟨cols[i], List.getElem?_eq_getElem hlt, hps i q _ h (List.getElem?_eq_getElem hlt)⟩
    have hne : ps ≠ [] := fun q => by
      rw [q] at hpl
      have : (0 : Nat) = cols.length := hpl
      omega
    have es : TL.spl [124] 0 [] (TL.joinL [124] ps) = ps := TL.spl_join hne fun p h => by
      obtain ⟨i, hi⟩ := List.getElem?_of_mem h
      obtain ⟨c, _, hp⟩ := pc i p hi
      exact hp.no
    refine bv_cons (sv_setN 1 sc_p_read_bar.nd (en_lst av_nil) (fun l hl => ?_))
    refine bv_cons (sv_set 2 sc_p_read_bar.nd ev_int ?_)
    refine bv_cons (sv_for rfl (iv_list (ds := ps.map fun w => dS (S w)) (ev_to (ev_split (m := [124]) (by decide) (by decide) (ev_var 0 rfl) (ev_strL (by decide +kernel)) (by omega)) (by rw [es]))) (pg_name (i := 3) sc_p_read_bar.nd rfl (.inl rfl)) (fun i ρ M => ∃ (st : Int) (x3 x4 : Option D), ρ = [some (dS (S (TL.joinL [124] ps))), some (dP l), some (dI st), x3, x4] ∧ M = M'.set l (.lst ((cols.take i).map colL))) ⟨0, none, none, rfl, rfl⟩ (fun i d ρ' M1 hd hi => ?_) (fun ρ' M1 hi => ?_))
    · obtain ⟨st, x3, x4, rfl, rfl⟩ := hi
      rw [List.getElem?_map, Option.map_eq_some_iff] at hd
      obtain ⟨q, hq, rfl⟩ := hd
      obtain ⟨c, hci, hp⟩ := pc i q hq
      have hcc := hc c (List.mem_of_getElem? hci)
      have hqle := join_le (s := [124]) (List.mem_of_getElem? hq)
      refine ⟨_, tg_name, ?_⟩
      refine bv_cons (sv_set 4 sc_p_read_bar.nd (ev_call c_p_column_in (hr.mono (by decide)) (av_cons (ev_var 3 rfl) av_nil) ⟨q, c, v, rfl, hp, hcc, hv, by omega, rfl, rfl⟩) ?_)
      have hM : (M'.set l (.lst ((cols.take i).map colL))) l = some (.lst ((cols.take i).map colL)) := Mem.set_same
      refine bv_cons (sv_if (p := false) (M1 := M'.set l (.lst ((cols.take i).map colL))) (PW.pt (wv_orF (tv_isNn (d := colL c) (ev_var 4 rfl)) (wv_one_or (PW.pt (wv_to (wv_and (q := false) (tv_lstM (ev_var 1 rfl) hM) (fun hb => wv_one_and ?_)) (Bool.and_false _)))))) (fun h => nomatch h) (fun _ => bv_nil ?_))
      · cases e : cols.take i with
        | nil =>
          rw [e] at hb
          cases hb
        | cons c0 r =>
          have hc0 := hc c0 (List.mem_of_mem_take (by rw [e]; exact List.mem_cons_self))
          rw [e] at hM
          refine tv_to (tv_cmpR op_ne (ev_lenL T.len (ev_ixT (ds := [frD c.dur, dI c.acc, .lst (c.ents.map (entQ false))]) (ev_var 4 rfl) ev_int rfl)) (ev_lenL T.len (ev_ixT (ds := [frD c0.dur, dI c0.acc, .lst (c0.ents.map (entQ false))]) (ev_ixM (ev_var 1 rfl) ev_int hM (atI_nat (k := 0) rfl rfl)) ev_int rfl)) rs_neI (nomark _)) ?_
          rw [List.length_map, List.length_map, hcc.len, hc0.len, decide_eq_true rfl]
          rfl
      have hil : i < cols.length := (List.getElem?_eq_some_iff.mp hci).1
      refine bv_cons (sv_append (ds := (cols.take i).map colL) (ev_var 1 rfl) (ev_var 4 rfl) ⟨_, hM⟩ hM (by rw [List.length_map, List.length_take]; exact Nat.lt_of_le_of_lt (show min i cols.length ≤ 64 by omega) (by decide)) ?_)
      refine bv_one (sv_augI 2 sc_p_read_bar.nd rfl (ev_op op_add (ev_lenS T.len (ev_var 3 rfl) (by rw [S_len]; exact Nat.le_trans (show q.length ≤ 1000000 by omega) (by decide))) ev_int rs_I0) ⟨_, _, _, rfl, ?_⟩)
      rw [Mem.set_set, List.take_add_one, hci, List.map_append]
      rfl
    · obtain ⟨st, x3, x4, rfl, rfl⟩ := hi
      rw [List.length_map, hpl, List.take_length]
      refine bv_freeze 1 rfl hl ?_
      exact bv_one (sv_ret (ev_call c_p_check_ok (hr.mono (by decide)) (av_cons (ev_var 1 rfl) av_nil) ⟨cols, v, rfl, hcl, hc, hv, rfl, rfl⟩) ⟨rfl, Mle.refl _⟩)
end
/-! ### pieces -/
theorem join_app {s : List Nat} : ∀ {A B : List (List Nat)}, A ≠ [] → B ≠ [] → TL.joinL s (A ++ B) = TL.joinL s A ++ (s ++ TL.joinL s B)
  | [], _, h, _ => absurd rfl h
  | [p], [], _, h => absurd rfl h
  | [p], b :: B, _, _ => rfl
  | p :: q :: r, B, _, hB => by
    show p ++ (s ++ TL.joinL s ((q :: r) ++ B)) = (p ++ (s ++ TL.joinL s (q :: r))) ++ _
    rw [join_app (A := q :: r) (fun h => nomatch h) hB]
    simp only [List.append_assoc]
theorem join_sp (w : List Nat) : ∀ n, TL.joinL [32] (List.replicate n [] ++ [w]) = List.replicate n 32 ++ w
  | 0 => rfl
  | n + 1 => by
    rw [List.replicate_succ, List.replicate_succ, List.cons_append, List.cons_append, ← join_sp w n]
    cases e : List.replicate n ([] : List Nat) ++ [w] with
    | nil => exact absurd e (by simp)
    | cons x l => rfl
theorem join_end {A : List (List Nat)} (h : A ≠ []) : ∀ n, TL.joinL [32] (A ++ List.replicate n []) = TL.joinL [32] A ++ List.replicate n 32
  | 0 => by rw [List.replicate_zero, List.append_nil, List.replicate_zero, List.append_nil]
  | n + 1 => by
    have e : List.replicate (n + 1) ([] : List Nat) = List.replicate n [] ++ [[]] := List.replicate_succ'
    rw [e, ← List.append_assoc, join_app (by simp [h]) (by simp), join_end h n]
    show (TL.joinL [32] A ++ List.replicate n 32) ++ ([32] ++ []) = _
    rw [List.append_nil, List.append_assoc, ← List.replicate_succ']
theorem rep_ok {n : Nat} : ∀ p ∈ List.replicate n ([] : List Nat), 32 ∉ p ∧ 124 ∉ p := fun p hp => by
  rw [List.eq_of_mem_replicate hp]
  exact ⟨List.not_mem_nil, List.not_mem_nil⟩
theorem rep_fil (n : Nat) : (List.replicate n ([] : List Nat)).filter (fun p => !p.isEmpty) = [] := by
  rw [List.filter_eq_nil_iff]
  intro p hp
  rw [List.eq_of_mem_replicate hp]
  decide
def WOk (w : List Nat) : Prop := w ≠ [] ∧ 32 ∉ w ∧ 124 ∉ w
theorem WOk.fil {w : List Nat} (h : WOk w) : [w].filter (fun p => !p.isEmpty) = [w] := by
  obtain ⟨h, _⟩ := h
  cases w with
  | nil => exact absurd rfl h
  | cons x l => rfl
def sigc (x : Nat) : Prop := x ∈ letters ∨ x = 35 ∨ x = 98 ∨ x = 45 ∨ x = 126 ∨ x = 47 ∨ x = 33 ∨ (48 ≤ x ∧ x ≤ 57)
theorem sigc.no {x : Nat} (h : sigc x) : x ≠ 32 ∧ x ≠ 124 := by
  rcases h with h | h | h | h | h | h | h | h
  · exact ⟨fun q => by rw [q] at h; exact absurd h (by decide), fun q => by rw [q] at h; exact absurd h (by decide)⟩
  all_goals exact ⟨by omega, by omega⟩
theorem wok_of {w : List Nat} (h0 : w ≠ []) (h : ∀ x ∈ w, sigc x) : WOk w := ⟨h0, fun q => (h 32 q).no.1 rfl, fun q => (h 124 q).no.2 rfl⟩
theorem num_sig (i : Int) : ∀ x ∈ num i, sigc x := fun x hx => by
  rcases num_chars x hx with h | h
  · exact .inr (.inr (.inr (.inl h)))
  · exact .inr (.inr (.inr (.inr (.inr (.inr (.inr h))))))
theorem nm_sig (f o : Int) : ∀ x ∈ nm f o, sigc x := fun x hx => by
  rcases List.mem_cons.mp hx with rfl | hx
  · exact .inl (let_at (4 * f % 7).toNat (by omega)).1
  · rcases List.mem_append.mp hx with hx | hx
    · rcases marks_mem hx with h | h
      · exact .inr (.inl h)
      · exact .inr (.inr (.inl h))
    · exact num_sig _ x hx
theorem num_ne (i : Int) : num i ≠ [] := fun q => by
  obtain ⟨c, l, h, _⟩ := num_head i
  rw [q] at h
  cases h
theorem frT_sig (p : Tn) : ∀ x ∈ frT p, sigc x := fun x hx => by
  unfold frT at hx
  split at hx
  · exact num_sig _ x hx
  · rcases List.mem_append.mp hx with hx | hx
    · rcases List.mem_append.mp hx with hx | hx
      · exact num_sig _ x hx
      · rw [List.mem_singleton.mp hx]
        exact .inr (.inr (.inr (.inr (.inr (.inl rfl)))))
    · exact num_sig _ x hx
theorem frT_ne (p : Tn) : frT p ≠ [] := by
  unfold frT
  split
  · exact num_ne _
  · simp
theorem colW_ok (c : Col) : ∀ w ∈ colW c, WOk w := fun w hw => by
  rcases List.mem_cons.mp hw with rfl | hw
  · refine wok_of (fun q => ?_) fun x hx => ?_
    · unfold wd0 at q
      exact frT_ne _ (List.append_eq_nil_iff.mp q).1
    · unfold wd0 at hx
      rcases List.mem_append.mp hx with hx | hx
      · exact frT_sig _ x hx
      · split at hx
        · cases hx
        · rcases List.mem_append.mp hx with hx | hx
          · rw [List.mem_singleton.mp hx]
            exact .inr (.inr (.inr (.inr (.inr (.inr (.inl rfl))))))
          · exact num_sig _ x hx
  · obtain ⟨e, _, rfl⟩ := List.mem_map.mp hw
    cases e with
    | none =>
      refine wok_of (fun h => nomatch h) fun x hx => ?_
      rw [List.mem_singleton.mp hx]
      exact .inr (.inr (.inr (.inl rfl)))
    | some tg =>
      obtain ⟨t, g⟩ := tg
      cases g with
      | true => exact wok_of (fun h => nomatch h) (nm_sig _ _)
      | false =>
        refine wok_of (fun h => nomatch h) fun x hx => ?_
        rcases List.mem_cons.mp hx with rfl | hx
        · exact .inr (.inr (.inr (.inr (.inl rfl))))
        · exact nm_sig _ _ x hx
theorem colW_fil (c : Col) : (colW c).filter (fun p => !p.isEmpty) = colW c := by
  rw [List.filter_eq_self]
  intro w hw
  have := (colW_ok c w hw).1
  cases w with
  | nil => exact absurd rfl this
  | cons _ _ => rfl
theorem piece_pad (c : Col) (m n : Nat) : Piece (colW c) (List.replicate m 32 ++ colText c ++ List.replicate n 32) := by
  have hne : colW c ≠ [] := fun h => nomatch h
  refine ⟨List.replicate m [] ++ colW c ++ List.replicate n [], by simp [hne], fun p hp => ?_, ?_, ?_⟩
  · rcases List.mem_append.mp hp with hp | hp
    · rcases List.mem_append.mp hp with hp | hp
      · exact rep_ok p hp
      · exact ⟨(colW_ok c p hp).2.1, (colW_ok c p hp).2.2⟩
    · exact rep_ok p hp
  · rw [join_end (by simp [hne])]
    refine congrArg (· ++ _) ?_
    unfold colText colW
    cases c.ents.map entW with
    | nil => exact (join_sp (wd0 c) m).symm
    | cons x l =>
      rw [show List.replicate m [] ++ wd0 c :: x :: l = (List.replicate m [] ++ [wd0 c]) ++ (x :: l) by simp, join_app (by simp) (by simp), join_sp]
      show List.replicate m 32 ++ (wd0 c ++ ([32] ++ TL.joinL [32] (x :: l))) = _
      rw [List.append_assoc]
  · rw [List.filter_append, List.filter_append, rep_fil, rep_fil, List.append_nil, List.nil_append, colW_fil]
def Pieces (ps : List (List Nat)) (cols : List Col) : Prop := ps.length = cols.length ∧ ∀ (i : Nat) (q : List Nat) (c : Col), ps[i]? = some q → cols[i]? = some c → Piece (colW c) q
theorem Pieces.snoc {ps : List (List Nat)} {cols : List Col} {q : List Nat} {c : Col} (h : Pieces ps cols) (hq : Piece (colW c) q) : Pieces (ps ++ [q]) (cols ++ [c]) := by
  refine ⟨by rw [List.length_append, List.length_append, h.1]; rfl, fun i q' c' h1 h2 => ?_⟩
  by_cases hi : i < ps.length
  · rw [List.getElem?_append_left hi] at h1
    rw [List.getElem?_append_left (by rw [← h.1]; exact hi)] at h2
    exact h.2 i q' c' h1 h2
  · rw [List.getElem?_append_right (by omega)] at h1
    rw [List.getElem?_append_right (by rw [← h.1]; omega), ← h.1] at h2
    cases e : i - ps.length with
    | zero =>
      rw [e] at h1 h2
      cases h1
      cases h2
      exact hq
    | succ k =>
      rw [e] at h1
      cases h1
theorem Pieces.cons {ps : List (List Nat)} {cols : List Col} {q : List Nat} {c : Col} (h : Pieces ps cols) (hq : Piece (colW c) q) : Pieces (q :: ps) (c :: cols) := by
  refine ⟨by rw [List.length_cons, List.length_cons, h.1], fun i q' c' h1 h2 => ?_⟩
  cases i with
  | zero =>
    cases h1
    cases h2
    exact hq
  | succ k => exact h.2 k q' c' h1 h2
theorem text_pieces : ∀ (cols : List Col) (m : Nat), cols ≠ [] → ∃ ps, Pieces ps cols ∧ TL.joinL [124] ps = List.replicate m 32 ++ barText cols
  | [], _, h => absurd rfl h
  | [c], m, _ => ⟨[List.replicate m 32 ++ colText c ++ List.replicate 0 32], Pieces.cons ⟨rfl, fun i _ _ h => nomatch h⟩ (piece_pad c m 0), by
    show List.replicate m 32 ++ colText c ++ List.replicate 0 32 = List.replicate m 32 ++ colText c
    rw [List.replicate_zero, List.append_nil]⟩
  | c :: d :: r, m, _ => by
    obtain ⟨ps, hp, he⟩ := text_pieces (d :: r) 1 (fun h => nomatch h)
    refine ⟨(List.replicate m 32 ++ colText c ++ List.replicate 1 32) :: ps, hp.cons (piece_pad c m 1), ?_⟩
    cases ps with
    | nil =>
      have := hp.1
      cases this
    | cons p ps =>
      show (List.replicate m 32 ++ colText c ++ [32]) ++ ([124] ++ TL.joinL [124] (p :: ps)) = List.replicate m 32 ++ (colText c ++ ([32, 124, 32] ++ barText (d :: r)))
      rw [he]
      show (List.replicate m 32 ++ colText c ++ [32]) ++ ([124] ++ ([32] ++ barText (d :: r))) = _
      simp only [List.append_assoc, List.cons_append, List.nil_append]
/-! ### the law's own texts -/
theorem marks_pos {m : Int} (h : 0 < m) : List.replicate m.toNat 35 = marks m := by
  unfold marks
  rw [show (-m).toNat = 0 by omega, List.replicate_zero, List.append_nil]
theorem marks_neg {m : Int} (h : ¬ 0 < m) : List.replicate (-m).toNat 98 = marks m := by
  unfold marks
  rw [show m.toNat = 0 by omega, List.replicate_zero, List.nil_append]
def PrLLetter (ds : List D) (M : Mem) (d : D) (M' : Mem) : Prop := ∃ f : Int, ds = [dI f] ∧ d = .tup [dI (4 * f % 7), dI ((f + 1) / 7)] ∧ M' = M
def PrTTx (ds : List D) (M : Mem) (d : D) (M' : Mem) : Prop := ∃ f o, ds = [.tup [dI f, dI o]] ∧ BW f o ∧ d = dS (S (nm f o)) ∧ M' = M
def PrCW (ds : List D) (M : Mem) (d : D) (M' : Mem) : Prop := ∃ c : Col, ds = [colD c] ∧ ColT c ∧ d = .lst ((colW c).map fun w => dS (S w)) ∧ M' = M
def PrTxt (ds : List D) (M : Mem) (d : D) (M' : Mem) : Prop := ∃ bar : List Col, ds = [barD bar] ∧ bar.length ≤ 1000 ∧ (∀ c ∈ bar, ColT c) ∧ d = dS (S (barText bar)) ∧ M' = M
def R_pad (ds : List D) (M : Mem) (Φ : D → Mem → Prop) : Prop := ∃ a p, ds = [dP a] ∧ M a = some (Pool.mo p) ∧ p.Ok ∧ ∀ n : Nat, n ≤ 5 → Draw M a Φ (dS (S (List.replicate n 32)))
def R_spaced (ds : List D) (M : Mem) (Φ : D → Mem → Prop) : Prop := ∃ (a : Addr) (p : Pool) (bar : List Col), ds = [dP a, barD bar] ∧ M a = some (Pool.mo p) ∧ p.Ok ∧ (1 ≤ bar.length ∧ bar.length ≤ 64) ∧ (∀ c ∈ bar, ColT c) ∧ ∀ ps, Pieces ps bar → (TL.joinL [124] ps).length ≤ 1000000 → Draw M a Φ (dS (S (TL.joinL [124] ps)))
section
variable {P : Program} {w : World} {K : PySem.W.Frag} {mg : Str → Option Value} {base : Heap} {f : Addr} {fd : FuncData}
theorem c_letter (F : Fun K "_law_letter" "_law_letter" s_letter f fd) (hm : mg "_law_letter" = some (.ref f)) (T : Bt mg) : Cal P w K mg base 1 "_law_letter" (spD K PrLLetter) := by
  refine cal_of F sc_letter hm (fun _ _ _ _ _ _ us hl => match us, hl with | [_], _ => rfl) (fun ds M d M' h => ?_) fun cdv A outer s H E ds M d M' hr h => ?_
  · obtain ⟨x, rfl, _⟩ := h
    rfl
  · obtain ⟨x, rfl, rfl, rfl⟩ := h
    show BV _ _ [some (dI x), none, none] _ _
    refine bv_cons (sv_for rfl (iv_range1 T.range ev_int ⟨by decide, by decide⟩) (pg_name (i := 1) sc_letter.nd rfl (.inl rfl)) (fun i ρ M => ∃ x1 x2, ρ = [some (dI x), x1, x2] ∧ M = M' ∧ (i : Int) ≤ 4 * x % 7) ⟨none, none, rfl, rfl, by omega⟩ (fun i d ρ' M1 hd hi => ?_) (fun ρ' M1 hi => ?_))
    · obtain ⟨x1, x2, rfl, rfl, hle⟩ := hi
      obtain ⟨hi7, rfl⟩ := rgD_get hd
      have hi7 : i < 7 := hi7
      rw [show (0 : Int) + (i : Nat) = i by omega]
      refine ⟨_, tg_name, ?_⟩
      obtain ⟨h1, h2⟩ := plain_hit x i hi7
      refine bv_cons (sv_set 2 sc_letter.nd (ev_op op_sub (ev_var 0 rfl) (ev_ixL (ev_lst (av_cons ev_int (av_cons ev_int (av_cons ev_int (av_cons (ev_un un_neg ev_int ru_neg) (av_cons ev_int (av_cons ev_int (av_cons ev_int av_nil)))))))) (ev_var 1 rfl) (plain_at (i := ((i : Nat) : Int)) (by omega))) rs_I0) ?_)
      refine bv_one (sv_if (p := decide ((x - plainI i) % 7 = 0)) (tv_to (tv_cmpR op_eq (ev_op op_mod (ev_intI T.int (ev_var 2 rfl)) ev_int (rs_I (by decide))) ev_int rs_eqI (nomark _)) (by rfl)) (fun h => ?_) (fun h => bv_nil ?_))
      · have h := h1.mp (of_decide_eq_true h)
        refine bv_one (sv_ret (ev_tup (av_cons (ev_var 1 rfl) (av_cons (ev_intI T.int (ev_op op_fdiv (ev_var 2 rfl) ev_int (rs_I ⟨by decide, by decide⟩))) av_nil))) ⟨?_, Mle.refl _⟩)
        rw [Int.toNat_natCast, h2 h, h]
      · have h := of_decide_eq_false h
        have hn : 4 * x % 7 ≠ i := fun q => h (h1.mpr q)
        exact ⟨_, _, rfl, rfl, by omega⟩
    · obtain ⟨x1, x2, rfl, rfl, hle⟩ := hi
      rw [rgD_len] at hle
      have hle : (7 : Int) ≤ 4 * x % 7 := hle
      exact absurd hle (by omega)
theorem c_tone_text (F : Fun K "_law_tone_text" "_law_tone_text" s_tone_text f fd) (hm : mg "_law_tone_text" = some (.ref f)) (T : Bt mg) (c_letter : Cal P w K mg base 1 "_law_letter" (spD K PrLLetter)) : Cal P w K mg base 2 "_law_tone_text" (spD K PrTTx) := by
  refine cal_of F sc_tone_text hm (fun _ _ _ _ _ _ us hl => match us, hl with | [_], _ => rfl) (fun ds M d M' h => ?_) fun cdv A outer s H E ds M d M' hr h => ?_
  · obtain ⟨x, o, rfl, _⟩ := h
    rfl
  · obtain ⟨x, o, rfl, ⟨hb1, hb2⟩, rfl, rfl⟩ := h
    show BV _ _ [some (.tup [dI x, dI o]), none, none, none] _ _
    refine bv_cons (sv_asg (ev_call c_letter (hr.mono (by decide)) (av_cons (ev_ixT (ev_var 0 rfl) ev_int rfl) av_nil) ⟨x, rfl, rfl, rfl⟩) (pg_tup rfl (pgs_cons (pg_name (i := 1) sc_tone_text.nd rfl (.inl rfl)) (pgs_cons (pg_name (i := 2) sc_tone_text.nd rfl (.inl rfl)) pgs_nil))) (tg_tup (tg_cons tg_name (tg_cons tg_name tg_nil))) ?_)
    have hm1 : -720 ≤ (x + 1) / 7 ∧ (x + 1) / 7 ≤ 720 := by omega
    have hp : 0 ≤ 4 * x % 7 ∧ 4 * x % 7 < 7 := by omega
    refine bv_cons (sv_set 3 sc_tone_text.nd (d := dS (S (marks ((x + 1) / 7)))) (M1 := M') (ev_if (p := decide ((x + 1) / 7 > 0)) (M1 := M') (tv_to (tv_cmpR op_gt (ev_var 2 rfl) ev_int rs_I0 (nomark _)) (by rfl)) (fun h => ?_) (fun h => ?_)) ?_)
    · rw [← marks_pos (show 0 < (x + 1) / 7 from of_decide_eq_true h)]
      exact ev_repS (ch := 35) (ev_strL (by decide +kernel)) (ev_var 2 rfl) (by omega)
    · rw [← marks_neg (show ¬ 0 < (x + 1) / 7 from of_decide_eq_false h)]
      exact ev_repS (ch := 98) (ev_strL (by decide +kernel)) (ev_un un_neg (ev_var 2 rfl) ru_neg) (by omega)
    have hl := num_len (i := (4 * x + 7 * o - 4 * x % 7) / 7) (by omega)
    have es : (Str.ofString (toString ((4 * x + 7 * o - 4 * x % 7) / 7))) = S (num ((4 * x + 7 * o - 4 * x % 7) / 7)) := (S_of _).symm
    have hml := marks_len ((x + 1) / 7)
    refine bv_one (sv_ret (ev_catS (l := letters.getD (4 * x % 7).toNat 0 :: marks ((x + 1) / 7)) (m := num ((4 * x + 7 * o - 4 * x % 7) / 7)) (ev_to (ev_catS (l := [letters.getD (4 * x % 7).toNat 0]) (ev_ixS (ev_strL (l := letters) (by decide +kernel)) (ev_var 1 rfl) (by decide) (letter_at _ hp)) (ev_var 3 rfl) ?_) rfl) (ev_to (ev_strI T.str (ev_intI T.int (ev_op op_fdiv (ev_op op_sub (ev_op op_add (ev_op op_mul ev_int (ev_ixT (ev_var 0 rfl) ev_int rfl) (rs_I (cm_l (by decide) (by decide)))) (ev_op op_mul ev_int (ev_ixT (ev_var 0 rfl) ev_int rfl) (rs_I (cm_l (by decide) (by decide)))) rs_I0) (ev_var 1 rfl) rs_I0) ev_int (rs_I ⟨by decide, by decide⟩))) (by omega)) (by rw [es])) ?_) ⟨?_, Mle.refl _⟩)
    · show 1 + _ ≤ _
      omega
    · rw [List.length_cons]
      omega
    · rw [show (4 * x + 7 * o - 4 * x % 7) / 7 = (4 * x + 7 * o) / 7 by omega]
      rfl
theorem c_cell_words (F : Fun K "_law_cell_words" "_law_cell_words" s_cell_words f fd) (hm : mg "_law_cell_words" = some (.ref f)) (T : Bt mg) (c_tone_text : Cal P w K mg base 2 "_law_tone_text" (spD K PrTTx)) : Cal P w K mg base 3 "_law_cell_words" (spD K PrCW) := by
  refine cal_of F sc_cell_words hm (fun _ _ _ _ _ _ us hl => match us, hl with | [_], _ => rfl) (fun ds M d M' h => ?_) fun cdv A outer s H E ds M d M' hr h => ?_
  · obtain ⟨c, rfl, _⟩ := h
    rfl
  · obtain ⟨c, rfl, hc, rfl, rfl⟩ := h
    show BV _ _ [some (.tup [.tup [dI c.dur.1, dI c.dur.2], dI c.acc, .tup (c.ents.map (entQ false))]), none, none, none] _ _
    have ha := hc.acc
    have n0 := hc.dur.n0
    have k0 := hc.dur.d0
    have l1 := log_sm (i := c.dur.1) ⟨by omega, hc.dur.n1⟩
    have l2 := log_sm (i := c.dur.2) ⟨by omega, hc.dur.d1⟩
    have b1 := num_l13 (i := c.dur.1) ⟨by omega, hc.dur.n1⟩
    have b2 := num_l13 (i := c.dur.2) ⟨by omega, hc.dur.d1⟩
    have lf := frT_len hc.dur
    have ln := num_l13 (i := c.acc) ⟨ha.1, by omega⟩
    refine bv_cons (sv_set 1 sc_cell_words.nd (d := dS (S (frT c.dur))) (M1 := M') (ev_if (p := decide (c.dur.2 = 1)) (M1 := M') (tv_to (tv_cmpR op_eq (ev_ixT (ev_ixT (ev_var 0 rfl) ev_int rfl) ev_int rfl) ev_int rs_eqI (nomark _)) rfl) (fun h => ?_) (fun h => ?_)) ?_)
    · rw [show frT c.dur = num c.dur.1 from if_pos (of_decide_eq_true h)]
      exact ev_strW T.str (ev_ixT (ev_ixT (ev_var 0 rfl) ev_int rfl) ev_int rfl) l1
    · rw [show frT c.dur = num c.dur.1 ++ [47] ++ num c.dur.2 from if_neg (of_decide_eq_false h)]
      exact ev_catS (ev_catS (ev_strW T.str (ev_ixT (ev_ixT (ev_var 0 rfl) ev_int rfl) ev_int rfl) l1) (ev_strL (l := [47]) (by decide +kernel)) (by show _ + 1 ≤ _; omega)) (ev_strW T.str (ev_ixT (ev_ixT (ev_var 0 rfl) ev_int rfl) ev_int rfl) l2) (by rw [List.length_append]; show _ + 1 + _ ≤ _; omega)
    have em : (if c.acc = 0 then ([] : List Nat) else [33] ++ num c.acc) = (if c.acc > 0 then [33] ++ num c.acc else []) := by
      by_cases h : c.acc = 0
      · rw [if_pos h, if_neg (by omega)]
      · rw [if_neg h, if_pos (by omega)]
    have lm : (if c.acc > 0 then [33] ++ num c.acc else ([] : List Nat)).length ≤ 14 := by
      split
      · rw [List.length_append]
        show 1 + _ ≤ 14
        omega
      · exact Nat.zero_le _
    refine bv_cons (sv_setN 2 (M1 := M') sc_cell_words.nd (en_lst (ds := [dS (S (wd0 c))]) (av_cons (ev_to (ev_catS (m := if c.acc > 0 then [33] ++ num c.acc else []) (ev_var 1 rfl) (ev_if (p := decide (c.acc > 0)) (M1 := M') (tv_to (tv_cmpR op_gt (ev_ixT (ev_var 0 rfl) ev_int rfl) ev_int rs_I0 (nomark _)) rfl) (fun h => ?_) (fun h => ?_)) (by omega)) (by unfold wd0; rw [em])) av_nil)) (fun l hl => ?_))
    · rw [if_pos (of_decide_eq_true h)]
      exact ev_catS (ev_strL (l := [33]) (by decide +kernel)) (ev_strW T.str (ev_ixT (ev_var 0 rfl) ev_int rfl) (log_sm ⟨ha.1, by omega⟩)) (by show 1 + _ ≤ _; omega)
    · rw [if_neg (of_decide_eq_false h)]
      exact ev_strL (by decide +kernel)
    have hlen := hc.len
    refine bv_cons (sv_for rfl (iv_tup (ds := c.ents.map (entQ false)) (ev_ixT (ev_var 0 rfl) ev_int rfl)) (pg_name (i := 3) sc_cell_words.nd rfl (.inl rfl)) (fun i ρ M => ∃ x3, ρ = [some (.tup [.tup [dI c.dur.1, dI c.dur.2], dI c.acc, .tup (c.ents.map (entQ false))]), some (dS (S (frT c.dur))), some (dP l), x3] ∧ M = M'.set l (.lst ((wd0 c :: (c.ents.take i).map entW).map fun w => dS (S w)))) ⟨none, rfl, rfl⟩ (fun i d ρ' M1 hd hi => ?_) (fun ρ' M1 hi => ?_))
    · obtain ⟨x3, rfl, rfl⟩ := hi
      rw [List.getElem?_map, Option.map_eq_some_iff] at hd
      obtain ⟨e, he, rfl⟩ := hd
      have hil : i < c.ents.length := (List.getElem?_eq_some_iff.mp he).1
      have hlt : ((wd0 c :: (c.ents.take i).map entW).map fun w => dS (S w)).length < sizeLine := by
        rw [List.length_map, List.length_cons, List.length_map, List.length_take]
        exact Nat.lt_of_le_of_lt (show min i c.ents.length + 1 ≤ 10 by omega) (by decide)
      have fin : ∀ d3, ∃ x3, [some (.tup [.tup [dI c.dur.1, dI c.dur.2], dI c.acc, .tup (c.ents.map (entQ false))]), some (dS (S (frT c.dur))), some (dP l), d3] = [some (.tup [.tup [dI c.dur.1, dI c.dur.2], dI c.acc, .tup (c.ents.map (entQ false))]), some (dS (S (frT c.dur))), some (dP l), x3] ∧ (M'.set l (.lst ((wd0 c :: (c.ents.take i).map entW).map fun w => dS (S w)))).set l (.lst (((wd0 c :: (c.ents.take i).map entW).map fun w => dS (S w)) ++ [dS (S (entW e))])) = M'.set l (.lst ((wd0 c :: (c.ents.take (i + 1)).map entW).map fun w => dS (S w))) := fun d3 => by
        refine ⟨_, rfl, ?_⟩
        rw [Mem.set_set, List.take_add_one, he]
        simp only [Option.toList_some, List.map_append, List.map_cons, List.map_nil, List.cons_append]
      refine ⟨_, tg_name, ?_⟩
      cases e with
      | none => exact bv_one (sv_if (p := true) (tv_isNn (d := dN) (ev_var 3 rfl)) (fun _ => bv_one (sv_append (ev_var 2 rfl) (ev_strL (l := [45]) (by decide +kernel)) ⟨_, Mem.set_same⟩ Mem.set_same hlt (fin _))) (fun h => nomatch h))
      | some tg =>
        obtain ⟨t, g⟩ := tg
        have ht := hc.ton t g (List.mem_of_getElem? he)
        have hnl := nm_len ht
        refine bv_one (sv_if (p := false) (tv_isNn (d := .tup [.tup [dI t.1, dI t.2], dB g]) (ev_var 3 rfl)) (fun h => nomatch h) (fun _ => bv_one (sv_append (d := dS (S (entW (some (t, g))))) (ev_var 2 rfl) (ev_to (ev_catS (l := if g = true then [] else [126]) (m := nm t.1 t.2) (M1 := M'.set l (.lst ((wd0 c :: (c.ents.take i).map entW).map fun w => dS (S w)))) (ev_if (p := g) (M1 := M'.set l (.lst ((wd0 c :: (c.ents.take i).map entW).map fun w => dS (S w)))) (tv_val (ev_ixT (ds := [.tup [dI t.1, dI t.2], dB g]) (ev_var 3 rfl) ev_int rfl)) (fun h => ?_) (fun h => ?_)) (ev_call c_tone_text (hr.mono (by decide)) (av_cons (ev_ixT (ds := [.tup [dI t.1, dI t.2], dB g]) (ev_var 3 rfl) ev_int rfl) av_nil) ⟨t.1, t.2, rfl, ht, rfl, rfl⟩) ?_) ?_) ⟨_, Mem.set_same⟩ Mem.set_same hlt (fin _))))
        · rw [if_pos h]
          exact ev_strL (by decide +kernel)
        · rw [if_neg (by rw [h]; exact Bool.false_ne_true)]
          exact ev_strL (by decide +kernel)
        · have : (if g = true then ([] : List Nat) else [126]).length ≤ 1 := by split <;> decide
          omega
        · cases g <;> rfl
    · obtain ⟨x3, rfl, rfl⟩ := hi
      rw [List.length_map, List.take_length]
      refine bv_freeze 2 rfl hl ?_
      exact bv_one (sv_ret (ev_var 2 rfl) ⟨rfl, Mle.refl _⟩)
theorem c_text (F : Fun K "_law_text" "_law_text" s_text f fd) (hm : mg "_law_text" = some (.ref f)) (c_cell_words : Cal P w K mg base 3 "_law_cell_words" (spD K PrCW)) : Cal P w K mg base 4 "_law_text" (spD K PrTxt) := by
  refine cal_of F sc_text hm (fun _ _ _ _ _ _ us hl => match us, hl with | [_], _ => rfl) (fun ds M d M' h => ?_) fun cdv A outer s H E ds M d M' hr h => ?_
  · obtain ⟨bar, rfl, _⟩ := h
    rfl
  · obtain ⟨bar, rfl, hl, hc, rfl, rfl⟩ := h
    show BV _ _ [some (.tup (bar.map colD)), none] _ _
    refine bv_one (sv_ret (ev_join (q := true) (m := [32, 124, 32]) (ws := bar.map colText) (ev_strL (by decide +kernel)) ?_ (barText_sum hl hc)) ⟨rfl, Mle.refl _⟩)
    refine ev_lcG (ds := bar.map colD) (ds2 := (bar.map colText).map fun w => dS (S w)) (own := [("cell", 1)]) (g := gName 1) rfl sc_text.nd (iv_tup (ev_var 0 rfl)) (blkOk_by (N := ["bar", "cell"]) (sc := defScope s_text) (by decide +kernel)) (fun _ _ _ _ _ => pg_name (i := 1) sc_text.nd rfl (Or.inl rfl)) (by rw [List.length_map]; exact Nat.le_trans hl (by decide)) (by rw [List.length_map, List.length_map, List.length_map]) (fun j d d2 hd hd2 => ?_)
    rw [List.getElem?_map, Option.map_eq_some_iff] at hd
    obtain ⟨c, hcj, rfl⟩ := hd
    rw [List.getElem?_map, List.getElem?_map, hcj] at hd2
    cases hd2
    have hcc := hc c (List.mem_of_getElem? hcj)
    exact ⟨_, tgb_name, fun M2 s H C cl fp => ev_join (q := true) (m := [32]) (ws := colW c) (ev_strL (by decide +kernel)) (ev_call c_cell_words (hr.mono (by decide)) (av_cons (ev_var 1 rfl) av_nil) ⟨c, rfl, hcc, rfl, rfl⟩) (by have := colW_sum hcc; show _ + _ * 1 ≤ _; omega)⟩
theorem c_pad (F : Fun K "_law_pad" "_law_pad" s_pad f fd) (hm : mg "_law_pad" = some (.ref f)) (c_pick : Cal P w K mg base 3 "_law_pick" (spW K R_pick)) : Cal P w K mg base 4 "_law_pad" (spW K R_pad) := by
  refine calW_of F sc_pad hm (fun _ _ _ _ _ _ us hl => match us, hl with | [_], _ => rfl) (fun ds M Φ h => ?_) fun cdv A outer s H E ds M Φ hr h => ?_
  · obtain ⟨a, p, rfl, _⟩ := h
    rfl
  · obtain ⟨a, p, rfl, hA, ok, hΦ⟩ := h
    show BV _ _ [some (dP a)] _ _
    refine bv_one (sw_ret (ew_op op_repS (ew_ev (ev_strL (l := [32]) (by decide +kernel)) ⟨_, rfl, ew_callW c_pick (hr.mono (by decide)) (aw_av (av_cons (ev_var 0 rfl) (av_cons (d := .lst (([0, 1, 1, 2, 5] : List Int).map dI)) (ev_lst (av_cons ev_int (av_cons ev_int (av_cons ev_int (av_cons ev_int (av_cons ev_int av_nil)))))) av_nil)) ⟨a, p, true, ([0, 1, 1, 2, 5] : List Int).map dI, rfl, hA, ok, by decide, by decide, fun d hd p1 ok1 M1 fr1 hA1 => ?_⟩)⟩)))
    obtain ⟨n, hn, rfl⟩ := List.mem_map.mp hd
    have hb : 0 ≤ n ∧ n ≤ 5 := (by decide : ∀ n ∈ ([0, 1, 1, 2, 5] : List Int), 0 ≤ n ∧ n ≤ 5) n hn
    exact ⟨_, .str (S (List.replicate n.toNat 32)), rfl, fun H Q q => ⟨32, n, rfl, rfl, ⟨by omega, by omega⟩, q⟩, _, hΦ n.toNat (by omega) p1 ok1 _ fr1 hA1, Mle.refl _⟩
end
structure ColE (TP : Tn → Prop) (v : Nat) (c : Col) : Prop where
  len : c.ents.length = v
  ton : ∀ t g, some (t, g) ∈ c.ents → TP t
theorem ColOk.e {TP : Tn → Prop} {v : Nat} {c : Col} (h : ColOk TP v c) : ColE TP v c := ⟨h.len, h.ton⟩
def R_columnW (ds : List D) (M : Mem) (Φ : D → Mem → Prop) : Prop := ∃ (a : Addr) (p : Pool) (v : Nat) (before : Option Col) (ts : List Tn) (TP : Tn → Prop), ds = [dP a, dI ((v : Nat) : Int), optC before, .lst (ts.map frD)] ∧ M a = some (Pool.mo p) ∧ p.Ok ∧ v ≤ 1000 ∧ (0 < ts.length ∧ ts.length ≤ 1000) ∧ (∀ t ∈ ts, TP t) ∧ (∀ c, before = some c → ColE TP v c) ∧ ∀ c, ColOk TP v c → Draw M a Φ (colD c)
section
variable {P : Program} {w : World} {K : PySem.W.Frag} {mg : Str → Option Value} {base : Heap} {f : Addr} {fd : FuncData}
theorem c_columnW (F : Fun K "_law_column" "_law_column" s_column f fd) (hm : mg "_law_column" = some (.ref f)) (T : Bt mg) (c_take : Cal P w K mg base 2 "_law_take" (spW K R_take)) (c_pick : Cal P w K mg base 3 "_law_pick" (spW K R_pick)) (c_duration : Cal P w K mg base 4 "_law_duration" (spW K R_duration)) : Cal P w K mg base 5 "_law_column" (spW K R_columnW) := by
  refine calW_of F sc_column hm (fun _ _ _ _ _ _ us hl => match us, hl with | [_, _, _, _], _ => rfl) (fun ds M Φ h => ?_) fun cdv A outer s H E ds M Φ hr h => ?_
  · obtain ⟨a, p, v, before, ts, TP, rfl, _⟩ := h
    rfl
  · obtain ⟨a, p, v, before, ts, TP, rfl, hA, ok, hv, hts, tp, bok, hΦ⟩ := h
    show BV _ _ [some (dP a), some (dI ((v : Nat) : Int)), some (optC before), some (.lst (ts.map frD)), none, none, none, none, none, none] _ _
    refine bv_cons (sv_set 4 sc_column.nd (ev_tup av_nil) ?_)
    refine bv_cons (sw_for rfl (pg_name (i := 5) sc_column.nd rfl (.inl rfl)) ?_)
    refine iw_iv (iv_range1 T.range (ev_var 1 rfl) (by omega)) ⟨fun i ρ M1 => ∃ (x5 x6 x7 x8 x9 : Option D) (q : Pool) (es : List (Option (Tn × Bool))), ρ = [some (dP a), some (dI ((v : Nat) : Int)), some (optC before), some (.lst (ts.map frD)), some (.tup (es.map (entQ false))), x5, x6, x7, x8, x9] ∧ Fr1 a M M1 ∧ M1 a = some q.mo ∧ q.Ok ∧ es.length = i ∧ ∀ t g, some (t, g) ∈ es → TP t, ⟨none, none, none, none, none, p, [], rfl, Fr1.refl _ _, hA, ok, rfl, fun t g h => absurd h List.not_mem_nil⟩, fun i d ρ' M' hd iv => ?_, fun ρ' M' iv => ?_⟩
    · obtain ⟨x5, x6, x7, x8, x9, q, es, rfl, fr, hA, ok, len, hes⟩ := iv
      obtain ⟨hi, rfl⟩ := rgD_get hd
      have hi : i < v := by omega
      refine ⟨_, tg_name, ?_⟩
      refine bv_cons (sw_set 6 sc_column.nd ?_)
      refine ew_callW c_take (hr.mono (by decide)) (aw_av (av_cons (ev_var 0 rfl) (av_cons ev_int av_nil)) ⟨a, q, _, rfl, hA, ok, by decide, by decide, fun n1 lo1 hi1 p1 ok1 M1 fr1 hA1 => ?_⟩)
      refine bv_cons (sw_set 7 sc_column.nd ?_)
      refine ew_tup ?_
      refine aw_cons ?_
      refine ew_callW c_pick (hr.mono (by decide)) (aw_av (av_cons (ev_var 0 rfl) (av_cons (ev_var 3 rfl) av_nil)) ⟨a, p1, true, _, rfl, hA1, ok1, by rw [List.length_map]; exact hts.1, by rw [List.length_map]; omega, fun d2 g2 p2 ok2 M2 fr2 hA2 => ?_⟩)
      obtain ⟨t, ht, rfl⟩ := List.mem_map.mp g2
      have tpt := tp t ht
      refine aw_cons (ew_ev ev_bl ?_)
      refine aw_nil ⟨by (simp only [List.length_cons, List.length_nil]; decide), ?_⟩
      refine bv_cons (sv_join (fun ρ M => ∃ (x8 x9 : Option D) (q : Pool) (e : Option (Tn × Bool)), ρ = [some (dP a), some (dI ((v : Nat) : Int)), some (optC before), some (.lst (ts.map frD)), some (.tup (es.map (entQ false))), some (dI (0 + (i : Int))), some (dI n1), some (entQ false e), x8, x9] ∧ Fr1 a M2 M ∧ M a = some q.mo ∧ q.Ok ∧ ∀ t g, e = some (t, g) → TP t) ?_ ?_)
      · refine sv_if (tv_cmpR op_eq (ev_var 6 rfl) ev_int rs_eqI (nomark _)) (fun h => ?_) (fun h => ?_)
        · exact bv_one (sv_set 7 sc_column.nd ev_non ⟨_, _, p2, none, rfl, Fr1.refl _ _, hA2, ok2, fun _ _ h => nomatch h⟩)
        · refine bv_one (sv_if (tv_cmpR op_lt (ev_var 6 rfl) ev_int rs_I0 (nomark _)) (fun h => ?_) (fun h => bv_nil ⟨_, _, p2, some (t, true), rfl, Fr1.refl _ _, hA2, ok2, fun t' g' h => by cases h; exact tpt⟩))
          cases before with
          | none =>
            refine bv_cons (sw_set 8 sc_column.nd (ew_if (tw_tv (tv_isNn (ev_var 2 rfl)) ⟨fun _ => ew_ev ev_non ?_, fun h => nomatch h⟩)))
            refine bv_cons (sw_set 9 sc_column.nd (ew_if (PW.pt (ww_and (tw_tv (tv_notNn (ev_var 8 rfl)) ⟨fun h => (nomatch h), fun _ => ⟨fun h => (nomatch h), fun _ => ew_ev (ev_ixT (ev_var 7 rfl) ev_int rfl) ?_⟩⟩)))))
            exact bv_one (sv_set 7 sc_column.nd (ev_tup (av_cons (ev_var 9 rfl) (av_cons ev_bl av_nil))) ⟨_, _, p2, some (t, false), rfl, Fr1.refl _ _, hA2, ok2, fun t' g' h => by cases h; exact tpt⟩)
          | some c =>
            have cok := bok c rfl
            have hic : i < c.ents.length := by rw [cok.len]; exact hi
            refine bv_cons (sw_set 8 sc_column.nd (ew_if (tw_tv (tv_isNn (ev_var 2 rfl)) ⟨fun h => (nomatch h), fun _ => ew_ev (ev_ixT (ds := c.ents.map (entQ false)) (ev_ixT (ev_var 2 rfl) ev_int rfl) (ev_var 5 rfl) (atI_nat (ents_at hic) (by omega))) ?_⟩)))
            have htc : ∀ t g, c.ents[i] = some (t, g) → TP t := fun t g h => cok.ton t g (by rw [← h]; exact List.getElem_mem hic)
            generalize c.ents[i] = e0 at htc ⊢
            cases e0 with
            | none =>
              refine bv_cons (sw_set 9 sc_column.nd (ew_if (PW.pt (ww_and (tw_tv (tv_notNn (ev_var 8 rfl)) ⟨fun h => (nomatch h), fun _ => ⟨fun h => (nomatch h), fun _ => ew_ev (ev_ixT (ev_var 7 rfl) ev_int rfl) ?_⟩⟩)))))
              exact bv_one (sv_set 7 sc_column.nd (ev_tup (av_cons (ev_var 9 rfl) (av_cons ev_bl av_nil))) ⟨_, _, p2, some (t, false), rfl, Fr1.refl _ _, hA2, ok2, fun t' g' h => by cases h; exact tpt⟩)
            | some e0 =>
              obtain ⟨t0, g0⟩ := e0
              refine bv_cons (sw_set 9 sc_column.nd ?_)
              refine ew_if ?_
              refine PW.pt ?_
              refine ww_and (tw_tv (tv_notNn (ev_var 8 rfl)) ⟨fun _ => ?_, fun h => nomatch h⟩)
              refine ww_one_and ?_
              refine tw_cmp op_gt ?_ (nomark _)
              refine ew_callW c_take (hr.mono (by decide)) (aw_av (av_cons (ev_var 0 rfl) (av_cons ev_int av_nil)) ⟨a, p2, _, rfl, hA2, ok2, by decide, by decide, fun n3 lo3 hi3 p3 ok3 M3 fr3 hA3 => ⟨_, rfl, ?_⟩⟩)
              refine ew_ev ev_int ⟨_, _, rfl, rs_I0, ⟨fun h => ?_, fun h => ?_⟩⟩
              · refine ew_ev (ev_ixT (ev_var 8 rfl) ev_int rfl) ?_
                exact bv_one (sv_set 7 sc_column.nd (ev_tup (av_cons (ev_var 9 rfl) (av_cons ev_bl av_nil))) ⟨_, _, p3, some (t0, false), rfl, fr3, hA3, ok3, fun t' g' h => by cases h; exact htc _ _ rfl⟩)
              · refine ew_ev (ev_ixT (ev_var 7 rfl) ev_int rfl) ?_
                exact bv_one (sv_set 7 sc_column.nd (ev_tup (av_cons (ev_var 9 rfl) (av_cons ev_bl av_nil))) ⟨_, _, p3, some (t, false), rfl, fr3, hA3, ok3, fun t' g' h => by cases h; exact tpt⟩)
      · rintro ρ M' ⟨x8, x9, q, e, rfl, fr3, hA3, ok3, he⟩
        refine bv_one (sv_set 4 sc_column.nd (ev_catT (ev_var 4 rfl) (ev_tup (av_cons (ev_var 7 rfl) av_nil)) ?_) ?_)
        · rw [List.length_map, len]
          exact Nat.le_trans (show i + 1 ≤ 1000 by omega) (by decide)
        · refine ⟨_, _, _, _, _, q, es ++ [e], by rw [List.map_append]; rfl, ((fr.trans fr1).trans fr2).trans fr3, hA3, ok3, by rw [List.length_append, len]; rfl, fun t g h => ?_⟩
          rcases List.mem_append.mp h with h | h
          · exact hes t g h
          · exact he t g (List.mem_singleton.mp h).symm
    · obtain ⟨x5, x6, x7, x8, x9, q, es, rfl, fr, hA, ok, len, hes⟩ := iv
      rw [rgD_len] at len
      refine bv_one (sw_ret ?_)
      refine ew_tup ?_
      refine aw_cons ?_
      refine ew_callW c_duration (hr.mono (by decide)) (aw_av (av_cons (ev_var 0 rfl) av_nil) ⟨a, q, rfl, hA, ok, fun t ht p1 ok1 M1 fr1 hA1 => ?_⟩)
      refine aw_cons ?_
      refine ew_if ?_
      refine tw_cmp op_eq ?_ (nomark _)
      refine ew_callW c_take (hr.mono (by decide)) (aw_av (av_cons (ev_var 0 rfl) (av_cons ev_int av_nil)) ⟨a, p1, _, rfl, hA1, ok1, by decide, by decide, fun n2 lo2 hi2 p2 ok2 M2 fr2 hA2 => ⟨_, rfl, ?_⟩⟩)
      refine ew_ev ev_int ⟨_, _, rfl, rs_eqI, ⟨fun h => ?_, fun h => ?_⟩⟩
      · refine ew_callW c_take (hr.mono (by decide)) (aw_av (av_cons (ev_var 0 rfl) (av_cons ev_int av_nil)) ⟨a, p2, _, rfl, hA2, ok2, by decide, by decide, fun n3 lo3 hi3 p3 ok3 M3 fr3 hA3 => ?_⟩)
        refine aw_cons (ew_ev (ev_var 4 rfl) ?_)
        exact aw_nil ⟨by (simp only [List.length_cons, List.length_nil]; decide), _, hΦ ⟨t, n3, es⟩ ⟨ht, by show 0 ≤ n3 ∧ n3 ≤ 9; omega, by show es.length = v; omega, hes⟩ p3 ok3 _ (((fr.trans fr1).trans fr2).trans fr3) hA3, Mle.refl _⟩
      · refine ew_ev ev_int ?_
        refine aw_cons (ew_ev (ev_var 4 rfl) ?_)
        exact aw_nil ⟨by (simp only [List.length_cons, List.length_nil]; decide), _, hΦ ⟨t, 0, es⟩ ⟨ht, by show (0 : Int) ≤ 0 ∧ (0 : Int) ≤ 9; decide, by show es.length = v; omega, hes⟩ p2 ok2 _ ((fr.trans fr1).trans fr2) hA2, Mle.refl _⟩
theorem w_column (C : Cal P w K mg base 5 "_law_column" (spW K R_columnW)) : Cal P w K mg base 5 "_law_column" (spW K R_column) :=
  C.imp fun vs H Q E ⟨G, ds, M, Φ, sh, r, ⟨a, p, v, before, ts, TP, e, hA, ok, hv, hts, tp, bok, hΦ⟩, k⟩ => ⟨G, ds, M, Φ, sh, r, ⟨a, p, v, before, ts, TP, e, hA, ok, hv, hts, tp, fun c h => (bok c h).e, hΦ⟩, k⟩
end
section
variable {X : Cx} {ρ : Sl} {M : Mem} {a b : Expr} {pos : Pos} {Φ : D → Mem → Prop}
theorem ew_catS (h : EW X a ρ M (fun d1 M1 => ∃ l, d1 = dS (S l) ∧ EW X b ρ M1 (fun d2 M2 => ∃ m, d2 = dS (S m) ∧ l.length + m.length ≤ 1000000 ∧ Φ (dS (S (l ++ m))) M2))) : EW X (.BinOp a .Add b pos) ρ M Φ :=
  ew_op op_add_str (ew_to h fun d1 M1 ⟨l, e1, h2⟩ => ⟨_, e1, ew_to h2 fun d2 M2 ⟨m, e2, hl, q⟩ => ⟨_, .str (S (l ++ m)), e2, fun H Q q => ⟨S l, S m, rfl, rfl, by rw [S_len, S_len]; exact Nat.le_trans hl (by decide), by rw [S_app]; exact q⟩, q⟩⟩)
end
theorem join_snoc {ps : List (List Nat)} {q : List Nat} : TL.joinL [124] (ps ++ [q]) = TL.joinL [124] ps ++ (if ps.length > 0 then [124] else []) ++ q := by
  cases ps with
  | nil => rfl
  | cons p r =>
    rw [join_app (A := p :: r) (B := [q]) (fun h => nomatch h) (fun h => nomatch h), if_pos (by rw [List.length_cons]; omega), List.append_assoc]
    rfl
section
variable {P : Program} {w : World} {K : PySem.W.Frag} {mg : Str → Option Value} {base : Heap} {f : Addr} {fd : FuncData}
theorem c_spaced (F : Fun K "_law_spaced" "_law_spaced" s_spaced f fd) (hm : mg "_law_spaced" = some (.ref f)) (T : Bt mg) (c_cell_words : Cal P w K mg base 3 "_law_cell_words" (spD K PrCW)) (c_pad : Cal P w K mg base 4 "_law_pad" (spW K R_pad)) : Cal P w K mg base 5 "_law_spaced" (spW K R_spaced) := by
  refine calW_of F sc_spaced hm (fun _ _ _ _ _ _ us hl => match us, hl with | [_, _], _ => rfl) (fun ds M Φ h => ?_) fun cdv A outer s H E ds M Φ hr h => ?_
  · obtain ⟨a, p, bar, rfl, _⟩ := h
    rfl
  · obtain ⟨a, p, bar, rfl, hA, ok, hbl, hc, hΦ⟩ := h
    show BV _ _ [some (dP a), some (.tup (bar.map colD)), none, none, none, none] _ _
    refine bv_cons (sv_set 2 sc_spaced.nd (ev_strL (l := []) (by decide +kernel)) ?_)
    refine bv_cons (sw_for rfl (pg_name (i := 3) sc_spaced.nd rfl (.inl rfl)) ?_)
    refine iw_iv (iv_range1 T.range (ev_lenT T.len (ev_var 1 rfl)) (by rw [List.length_map]; omega)) ⟨fun i ρ M2 => ∃ (ps : List (List Nat)) (q : Pool) (x3 x4 x5 : Option D), ρ = [some (dP a), some (.tup (bar.map colD)), some (dS (S (TL.joinL [124] ps))), x3, x4, x5] ∧ Fr1 a M M2 ∧ M2 a = some (Pool.mo q) ∧ q.Ok ∧ Pieces ps (bar.take i) ∧ (TL.joinL [124] ps).length ≤ i * 5000, ⟨[], p, none, none, none, rfl, Fr1.refl _ _, hA, ok, ⟨rfl, fun i _ _ h => nomatch h⟩, Nat.zero_le _⟩, fun i d ρ' M2 hd iv => ?_, fun ρ' M2 iv => ?_⟩
    · obtain ⟨ps, q, x3, x4, x5, rfl, fr, hA2, ok2, hps, hpl⟩ := iv
      obtain ⟨hi, rfl⟩ := rgD_get hd
      have hi : i < bar.length := by
        rw [List.length_map] at hi
        exact hi
      have hci : bar[i]? = some bar[i] := List.getElem?_eq_getElem hi
      generalize bar[i] = c at hci
      have hcc := hc c (List.mem_of_getElem? hci)
      refine ⟨_, tg_name, ?_⟩
      refine bv_cons (sv_set 4 sc_spaced.nd (ev_call c_cell_words (hr.mono (by decide)) (av_cons (ev_ixT (ds := bar.map colD) (ev_var 1 rfl) (ev_var 3 rfl) (atI_nat (k := i) (by rw [List.getElem?_map, hci]; rfl) (by omega))) av_nil) ⟨c, rfl, hcc, rfl, rfl⟩) ?_)
      have hpn : ps.length = i := by
        have := hps.1
        rw [List.length_take] at this
        omega
      have epre : (if ps.length > 0 then ([124] : List Nat) else []) = if i > 0 then [124] else [] := by rw [hpn]
      obtain ⟨pre, hpre⟩ : ∃ pre, pre = TL.joinL [124] ps ++ (if i > 0 then ([124] : List Nat) else []) := ⟨_, rfl⟩
      have lpre : pre.length ≤ i * 5000 + 1 := by
        rw [hpre, List.length_append]
        have : (if i > 0 then ([124] : List Nat) else []).length ≤ 1 := by split <;> decide
        omega
      have hib : i * 5000 ≤ 63 * 5000 := Nat.mul_le_mul_right _ (by omega)
      refine bv_cons (sw_set 2 sc_spaced.nd (ew_catS (ew_ev (d := dS (S pre)) (M1 := M2) (ev_to (ev_catS (l := TL.joinL [124] ps) (m := if i > 0 then [124] else []) (M1 := M2) (M2 := M2) (ev_var 2 rfl) (ev_if (p := decide (i > 0)) (M1 := M2) (tv_to (tv_cmpR op_gt (ev_var 3 rfl) ev_int rs_I0 (nomark _)) (decide_eq_decide.mpr (by omega))) (fun h => ?_) (fun h => ?_)) ?_) (by rw [hpre])) ⟨pre, rfl, ew_callW c_pad (hr.mono (by decide)) (aw_av (av_cons (ev_var 0 rfl) av_nil) ⟨a, q, rfl, hA2, ok2, fun n hn p3 ok3 M3 fr3 hA3 => ⟨_, rfl, by rw [List.length_replicate]; omega, ?_⟩⟩)⟩)))
      · rw [if_pos (of_decide_eq_true h)]
        exact ev_strL (by decide +kernel)
      · rw [if_neg (of_decide_eq_false h)]
        exact ev_strL (by decide +kernel)
      · rw [← List.length_append, ← hpre]
        omega
      refine bv_cons (sw_for rfl (pg_name (i := 5) sc_spaced.nd rfl (.inl rfl)) ?_)
      have hwl : ((colW c).map fun w => dS (S w)).length = (colW c).length := List.length_map _
      have hw5 := colW_len hcc
      refine iw_iv (iv_range1 T.range (ev_lenL T.len (ev_var 4 rfl)) (by rw [hwl]; omega)) ⟨fun j ρ M4 => ∃ (fd : List Nat) (q4 : Pool) (x5 : Option D), ρ = [some (dP a), some (.tup (bar.map colD)), some (dS (S fd)), some (dI (0 + (i : Int))), some (.lst ((colW c).map fun w => dS (S w))), x5] ∧ Fr1 a M M4 ∧ M4 a = some (Pool.mo q4) ∧ q4.Ok ∧ fd.length ≤ pre.length + 10 + j * 820 ∧ ((j = 0 ∧ ∃ n, fd = pre ++ List.replicate n 32) ∨ ∃ parts : List (List Nat), 0 < j ∧ parts ≠ [] ∧ (∀ p ∈ parts, 32 ∉ p ∧ 124 ∉ p) ∧ parts.filter (fun p => !p.isEmpty) = (colW c).take j ∧ fd = pre ++ TL.joinL [32] parts), ⟨_, p3, x5, rfl, fr.trans fr3, hA3, ok3, by rw [List.length_append, List.length_replicate]; omega, .inl ⟨rfl, n, rfl⟩⟩, fun j d ρ' M4 hd4 iv4 => ?_, fun ρ' M4 iv4 => ?_⟩
      · obtain ⟨fd4, q4, y5, rfl, fr4, hA4, ok4, hfl, hshape⟩ := iv4
        obtain ⟨hj, rfl⟩ := rgD_get hd4
        have hj : j < (colW c).length := by
          rw [hwl] at hj
          exact hj
        have hwj : (colW c)[j]? = some (colW c)[j] := List.getElem?_eq_getElem hj
        generalize (colW c)[j] = wd at hwj
        have wok := colW_ok c wd (List.mem_of_getElem? hwj)
        have wle := colW_le hcc wd (List.mem_of_getElem? hwj)
        have wix : atI ((colW c).map fun w => dS (S w)) (0 + (j : Int)) = some (dS (S wd)) := atI_nat (k := j) (by rw [List.getElem?_map, hwj]; rfl) (by omega)
        have tk : (colW c).take (j + 1) = (colW c).take j ++ [wd] := by
          rw [List.take_add_one, hwj]
          rfl
        refine ⟨_, tg_name, ?_⟩
        refine bv_one (sw_set 2 sc_spaced.nd (ew_catS (ew_catS (ew_ev (ev_var 2 rfl) ⟨fd4, rfl, ?_⟩))))
        by_cases hj0 : j = 0
        · subst hj0
          refine ew_if (tw_tv (tv_to (tv_cmpR op_gt (ev_var 5 rfl) ev_int rs_I0 (nomark _)) (show _ = false by decide)) ⟨(fun h => nomatch h), fun _ => ew_ev (ev_strL (l := []) (by decide +kernel)) ⟨[], rfl, by show _ + 0 ≤ _; omega, fd4 ++ [], rfl, ew_ev (ev_ixL (ev_var 4 rfl) (ev_var 5 rfl) wix) ⟨wd, rfl, by rw [List.append_nil]; omega, _, q4, _, rfl, fr4, hA4, ok4, by rw [List.append_nil, List.length_append]; omega, ?_⟩⟩⟩)
          rcases hshape with ⟨_, n, hn⟩ | ⟨parts, hj00, hne, hp, hfil, hfd⟩
          · refine .inr ⟨List.replicate n [] ++ [wd], Nat.succ_pos _, by simp, fun p hp => ?_, ?_, ?_⟩
            · rcases List.mem_append.mp hp with hp | hp
              · exact rep_ok p hp
              · rw [List.mem_singleton.mp hp]
                exact ⟨wok.2.1, wok.2.2⟩
            · rw [List.filter_append, rep_fil, wok.fil, tk]
              rfl
            · rw [List.append_nil, hn, join_sp, List.append_assoc]
          · exact absurd hj00 (Nat.lt_irrefl 0)
        · refine ew_if (tw_tv (tv_to (tv_cmpR op_gt (ev_var 5 rfl) ev_int rs_I0 (nomark _)) (show _ = true from decide_eq_true (by omega))) ⟨fun _ => ?_, fun h => nomatch h⟩)
          refine ew_catS (ew_ev (ev_strL (l := [32]) (by decide +kernel)) ⟨[32], rfl, ew_callW c_pad (hr.mono (by decide)) (aw_av (av_cons (ev_var 0 rfl) av_nil) ⟨a, q4, rfl, hA4, ok4, fun n hn p6 ok6 M6 fr6 hA6 => ⟨_, rfl, by rw [List.length_replicate]; show 1 + _ ≤ _; omega, _, rfl, by rw [List.length_append, List.length_replicate]; show _ + (1 + _) ≤ _; omega, _, rfl, ew_ev (ev_ixL (ev_var 4 rfl) (ev_var 5 rfl) wix) ⟨wd, rfl, by rw [List.length_append, List.length_append, List.length_replicate]; show _ + (1 + _) + _ ≤ _; omega, _, p6, _, rfl, fr4.trans fr6, hA6, ok6, by rw [List.length_append, List.length_append, List.length_append, List.length_replicate, Nat.add_mul]; show _ + (1 + _) + _ ≤ _; omega, ?_⟩⟩⟩)⟩)
          rcases hshape with ⟨h0, _⟩ | ⟨parts, hj00, hne, hp, hfil, hfd⟩
          · exact absurd h0 hj0
          · refine .inr ⟨parts ++ (List.replicate n [] ++ [wd]), Nat.succ_pos _, by simp, fun p hp2 => ?_, ?_, ?_⟩
            · rcases List.mem_append.mp hp2 with hp2 | hp2
              · exact hp p hp2
              · rcases List.mem_append.mp hp2 with hp2 | hp2
                · exact rep_ok p hp2
                · rw [List.mem_singleton.mp hp2]
                  exact ⟨wok.2.1, wok.2.2⟩
            · rw [List.filter_append, List.filter_append, rep_fil, wok.fil, tk, hfil]
              rfl
            · rw [hfd, join_app hne (by simp), join_sp]
              simp only [List.append_assoc]
      · obtain ⟨fd4, q4, y5, rfl, fr4, hA4, ok4, hfl, hshape⟩ := iv4
        rw [rgD_len] at hfl hshape
        have elen : (((colW c).map fun w => dS (S w)).length : Int).toNat = (colW c).length := by rw [hwl]; rfl
        rw [elen] at hfl hshape
        have hj820 : (colW c).length * 820 ≤ 5 * 820 := Nat.mul_le_mul_right _ hw5
        refine bv_one (sw_set 2 sc_spaced.nd (ew_catS (ew_ev (ev_var 2 rfl) ⟨fd4, rfl, ew_callW c_pad (hr.mono (by decide)) (aw_av (av_cons (ev_var 0 rfl) av_nil) ⟨a, q4, rfl, hA4, ok4, fun n hn p6 ok6 M6 fr6 hA6 => ⟨_, rfl, by rw [List.length_replicate]; omega, ?_⟩⟩)⟩)))
        rcases hshape with ⟨h0, _⟩ | ⟨parts, hj00, hne, hp, hfil, hfd⟩
        · exact absurd h0 (by show ¬ (c.ents.map entW).length + 1 = 0; omega)
        · have eq1 : fd4 ++ List.replicate n 32 = TL.joinL [124] (ps ++ [TL.joinL [32] (parts ++ List.replicate n [])]) := by
            rw [join_snoc, epre, ← hpre, join_end hne, hfd, List.append_assoc]
          have hl9 : (fd4 ++ List.replicate n 32).length ≤ (i + 1) * 5000 := by
            rw [List.length_append, List.length_replicate]
            omega
          rw [eq1] at hl9
          rw [eq1]
          refine ⟨_, p6, _, _, _, rfl, (fr4.trans fr6), hA6, ok6, ?_, hl9⟩
          rw [List.take_add_one, hci]
          refine hps.snoc ⟨parts ++ List.replicate n [], by simp [hne], fun p hp2 => ?_, rfl, ?_⟩
          · rcases List.mem_append.mp hp2 with hp2 | hp2
            · exact hp p hp2
            · exact rep_ok p hp2
          · rw [List.filter_append, rep_fil, List.append_nil, hfil, List.take_length]
    · obtain ⟨ps, q, x3, x4, x5, rfl, fr, hA2, ok2, hps, hpl⟩ := iv
      rw [rgD_len] at hps hpl
      have elen : ((bar.map colD).length : Int).toNat = bar.length := by rw [List.length_map]; rfl
      rw [elen] at hps hpl
      rw [List.take_length] at hps
      have hb64 : bar.length * 5000 ≤ 64 * 5000 := Nat.mul_le_mul_right _ hbl.2
      exact bv_one (sv_ret (ev_var 2 rfl) ⟨_, hΦ ps hps (by omega) q ok2 _ fr hA2, Mle.refl _⟩)
end
/-! ### the law's bars -/
def TnW (t : Tn) : Prop := BW t.1 t.2
theorem TnK.bw {t : Tn} (h : TnK t) : TnW t := ⟨by have := h.1; exact ⟨by omega, by omega⟩, by have := h.2; omega, by have := h.2; omega⟩
theorem DurOk.t {p : Tn} (h : DurOk p) : DurT p := ⟨h.n0, by have := h.nb; omega, h.red.d0, by have := h.db; omega⟩
theorem ColOk.text {v : Nat} {c : Col} {TP : Tn → Prop} (h : ColOk TP v c) (hv : v ≤ 4) (ht : ∀ t, TP t → TnW t) : ColT c := ⟨h.dur.t, h.acc, by rw [h.len]; exact hv, fun t g q => ht t (h.ton t g q)⟩
def R_farK (ds : List D) (M : Mem) (Φ : D → Mem → Prop) : Prop := ∃ a p, ds = [dP a] ∧ M a = some (Pool.mo p) ∧ p.Ok ∧ ∀ t : Tn, TnK t → Draw M a Φ (frD t)
def R_farbar (ds : List D) (M : Mem) (Φ : D → Mem → Prop) : Prop := ∃ (a : Addr) (p : Pool) (v : Nat), ds = [dP a, dI ((v : Nat) : Int)] ∧ M a = some (Pool.mo p) ∧ p.Ok ∧ (1 ≤ v ∧ v ≤ 4) ∧ ∀ bar : List Col, (1 ≤ bar.length ∧ bar.length ≤ 64) → (∀ c ∈ bar, ColOk TnK v c) → Draw M a Φ (barD bar)
def R_longrow (ds : List D) (M : Mem) (Φ : D → Mem → Prop) : Prop := ∃ (a : Addr) (p : Pool) (v : Nat), ds = [dP a, dI ((v : Nat) : Int)] ∧ M a = some (Pool.mo p) ∧ p.Ok ∧ (1 ≤ v ∧ v ≤ 4) ∧ ∀ bar : List Col, (1 ≤ bar.length ∧ bar.length ≤ 1000) → (∀ c ∈ bar, ColT c) → Draw M a Φ (barD bar)
theorem beforeE {TP : Tn → Prop} {v : Nat} {bar : List Col} (h : ∀ c ∈ bar, ColE TP v c) : ∃ before : Option Col, (∀ c, before = some c → ColE TP v c) ∧ ((bar = [] ∧ before = none) ∨ ∃ c, bar.getLast? = some c ∧ before = some c) := by
  cases hb : bar.getLast? with
  | none => exact ⟨none, fun _ h => (nomatch h), .inl ⟨List.getLast?_eq_none_iff.mp hb, rfl⟩⟩
  | some c => exact ⟨some c, fun c' q => by cases q; exact h c (List.mem_of_getLast? hb), .inr ⟨c, rfl, rfl⟩⟩
theorem Fr1.no {a l : Addr} {M M1 : Mem} {o : MO} (h : Fr1 a M M1) (hA : M1 a = some o) (hl : M1 l = none) : M l = none := by
  cases e : M l with
  | none => rfl
  | some u =>
    by_cases q : l = a
    · rw [q, hA] at hl
      cases hl
    · rw [h l q u e] at hl
      cases hl
section
variable {P : Program} {w : World} {K : PySem.W.Frag} {mg : Str → Option Value} {base : Heap} {f : Addr} {fd : FuncData}
theorem w_far (C : Cal P w K mg base 4 "_law_far_pair" (spD K PrFar)) : Cal P w K mg base 4 "_law_far_pair" (spW K R_farK) := C.spW_of fun ds M Φ ⟨a, p, e, hA, ok, hΦ⟩ =>
  ⟨_, _, ⟨a, M, p, e, (mem_eta hA).symm, ok, rfl, rfl⟩, hΦ (p.far.1, p.far.2.1) p.far_bd _ ok.far _ (Fr1.refl _ _).set Mem.set_same⟩
theorem c_far_bar (F : Fun K "_law_far_bar" "_law_far_bar" s_far_bar f fd) (hm : mg "_law_far_bar" = some (.ref f)) (T : Bt mg) (c_take : Cal P w K mg base 2 "_law_take" (spW K R_take)) (c_pick : Cal P w K mg base 3 "_law_pick" (spW K R_pick)) (c_far : Cal P w K mg base 4 "_law_far_pair" (spW K R_farK)) (c_bar : Cal P w K mg base 6 "_law_bar" (spW K R_bar)) (c_column : Cal P w K mg base 5 "_law_column" (spW K R_columnW)) : Cal P w K mg base 7 "_law_far_bar" (spW K R_farbar) := by
  refine calW_of F sc_far_bar hm (fun _ _ _ _ _ _ us hl => match us, hl with | [_, _], _ => rfl) (fun ds M Φ h => ?_) fun cdv A outer s H E ds M Φ hr h => ?_
  · obtain ⟨a, p, v, rfl, _⟩ := h
    rfl
  · obtain ⟨a, p, v, rfl, hA, ok, hv, hΦ⟩ := h
    show BV _ _ [some (dP a), some (dI ((v : Nat) : Int)), none, none, none] _ _
    refine bv_cons (sw_if (tw_cmp op_gt ?_ (nomark _)))
    refine ew_callW c_take (hr.mono (by decide)) (aw_av (av_cons (ev_var 0 rfl) (av_cons ev_int av_nil)) ⟨a, p, 3, rfl, hA, ok, by decide, by decide, fun n0 lo0 hi0 p1 ok1 M1 fr1 hA1 => ⟨_, rfl, ew_ev ev_int ⟨_, _, rfl, rs_I0, ⟨fun h => ?_, fun h => bv_nil ?_⟩⟩⟩⟩)
    · exact bv_one (sw_ret (ew_callW c_bar (hr.mono (by decide)) (aw_av (av_cons (ev_var 0 rfl) (av_cons (ev_var 1 rfl) (av_cons ev_int av_nil))) ⟨a, p1, v, 9, rfl, hA1, ok1, by omega, ⟨by decide, by decide⟩, fun bar h0 h1 hb p2 ok2 M2 fr2 hA2 => ⟨_, hΦ bar ⟨h0, by omega⟩ (fun c hc => ⟨(hb c hc).dur, (hb c hc).acc, (hb c hc).len, fun t g q => ((hb c hc).ton t g q).far⟩) p2 ok2 _ (fr1.trans fr2) hA2, Mle.refl _⟩⟩)))
    refine bv_cons (sw_setLc 2 (own := [("k", 3)]) (g := gName 3) rfl sc_far_bar.nd (blkOk_by (N := ["pool", "voices", "some", "k", "found"]) (sc := defScope s_far_bar) (by decide +kernel)) (fun _ _ _ _ _ => (pg_name (i := 3) sc_far_bar.nd rfl (.inl rfl))) ?_)
    refine iw_iv (iv_range1 T.range ev_int (by decide)) ⟨by rw [rgD_len]; decide, fun i acc M2 => ∃ (ts : List Tn) (q : Pool), acc = ts.map frD ∧ ts.length = i ∧ (∀ t ∈ ts, TnK t) ∧ Fr1 a M M2 ∧ M2 a = some q.mo ∧ q.Ok, ⟨[], p1, rfl, rfl, fun t h => absurd h List.not_mem_nil, fr1, hA1, ok1⟩, fun i d acc M2 hd hacc iv => ?_, fun acc M2 hacc iv => ?_⟩
    · obtain ⟨ts, q, rfl, len, hts, fr, hA, ok⟩ := iv
      refine ⟨_, tgb_name, fun l hl s H C cl fp => ?_⟩
      refine ew_callW c_far (hr.mono (by decide)) (aw_av (av_cons (ev_var 0 rfl) av_nil) ⟨a, q, rfl, Mem.set_at hA hl, ok, fun t ht p2 ok2 M3 fr2 hA2 => ?_⟩)
      obtain ⟨e1, e2, e3, e4⟩ := lc_back hA hl fr2
      refine ⟨_, e1, e2, ts ++ [t], p2, by rw [List.map_append]; rfl, by rw [List.length_append, len]; rfl, fun t' h => ?_, fr.trans e3, e4 _ hA2, ok2⟩
      rcases List.mem_append.mp h with h | h
      · exact hts t' h
      · rw [List.mem_singleton.mp h]
        exact ht
    · obtain ⟨ts, q, rfl, len, hts, fr, hA, ok⟩ := iv
      rw [rgD_len] at len
      have len : ts.length = 5 := len
      refine bv_cons (sv_set 4 sc_far_bar.nd (ev_tup av_nil) ?_)
      refine bv_cons (sw_for rfl (pg_name (i := 3) sc_far_bar.nd rfl (.inl rfl)) ?_)
      refine iw_range1 T.range ?_
      refine ew_callW c_pick (hr.mono (by decide)) (aw_av (av_cons (ev_var 0 rfl) (av_cons (d := .lst (([1, 2, 5, 63, 64] : List Int).map dI)) (ev_lst (av_cons ev_int (av_cons ev_int (av_cons ev_int (av_cons ev_int (av_cons ev_int av_nil)))))) av_nil)) ⟨a, q, true, ([1, 2, 5, 63, 64] : List Int).map dI, rfl, hA, ok, by decide, by decide, fun d7 g7 p2 ok2 M3 fr2 hA2 => ?_⟩)
      obtain ⟨n, hn, rfl⟩ := List.mem_map.mp g7
      have hnb : 1 ≤ n ∧ n ≤ 64 := (by decide : ∀ n ∈ ([1, 2, 5, 63, 64] : List Int), 1 ≤ n ∧ n ≤ 64) n hn
      refine ⟨n, rfl, by omega, fun i ρ M4 => ∃ (x3 : Option D) (q : Pool) (bar : List Col), ρ = [some (dP a), some (dI ((v : Nat) : Int)), some (.lst (ts.map frD)), x3, some (barD bar)] ∧ Fr1 a M M4 ∧ M4 a = some q.mo ∧ q.Ok ∧ bar.length = i ∧ ∀ c ∈ bar, ColOk TnK v c, ⟨_, p2, [], rfl, fr.trans fr2, hA2, ok2, rfl, fun c h => absurd h List.not_mem_nil⟩, fun i d ρ' M' hd iv => ?_, fun ρ' M' iv => ?_⟩
      · obtain ⟨x3, q, bar, rfl, fr, hA, ok, len2, hbar⟩ := iv
        obtain ⟨hi, rfl⟩ := rgD_get hd
        refine ⟨_, tg_name, ?_⟩
        refine bv_one (sw_set 4 sc_far_bar.nd ?_)
        obtain ⟨before, bok, hb⟩ := beforeE fun c hc => (hbar c hc).e
        refine ew_catT ?_
        refine ew_ev (ev_var 4 rfl) ⟨_, rfl, ?_⟩
        refine ew_tup ?_
        refine aw_cons ?_
        refine ew_callW c_column (hr.mono (by decide)) ?_
        refine aw_cons (ew_ev (ev_var 0 rfl) ?_)
        refine aw_cons (ew_ev (ev_var 1 rfl) ?_)
        refine aw_cons (ew_ev (d := optC before) (M1 := M') ?_ ?_)
        · rcases hb with ⟨rfl, rfl⟩ | ⟨c, hc, rfl⟩
          · exact ev_if (tv_sqT (b := false) (ev_var 4 rfl)) (fun h => nomatch h) (fun _ => ev_non)
          · have ne : (bar.map colD).isEmpty = false := by
              cases bar with
              | nil => cases hc
              | cons c bar => rfl
            exact ev_if (tv_sqT (b := false) (ds := bar.map colD) (ev_var 4 rfl)) (fun _ => ev_ixT (ds := bar.map colD) (ev_var 4 rfl) (ev_un un_neg ev_int ru_neg) (atI_last (by rw [List.getLast?_map, hc]; rfl))) (fun h => by rw [ne] at h; cases h)
        refine aw_cons (ew_ev (ev_var 2 rfl) ?_)
        refine aw_nil ⟨a, q, v, before, ts, TnK, rfl, hA, ok, by omega, by omega, hts, bok, fun c cok p3 ok3 M5 fr3 hA3 => ?_⟩
        refine aw_nil ⟨by (simp only [List.length_cons, List.length_nil]; decide), ⟨_, rfl, ?_, ?_⟩⟩
        · rw [List.length_map, len2]
          exact Nat.le_trans (show i + 1 ≤ 2000 by omega) (by decide)
        · refine ⟨some (dI (0 + (i : Int))), p3, bar ++ [c], ?_, fr.trans fr3, hA3, ok3, by rw [List.length_append, len2]; rfl, fun c' h => ?_⟩
          · rw [bar_snoc]
            rfl
          · rcases List.mem_append.mp h with h | h
            · exact hbar c' h
            · rw [List.mem_singleton.mp h]
              exact cok
      · obtain ⟨x3, q, bar, rfl, fr, hA, ok, len2, hbar⟩ := iv
        rw [rgD_len] at len2
        exact bv_one (sv_ret (ev_var 4 rfl) ⟨_, hΦ bar (by omega) hbar q ok _ fr hA, Mle.refl _⟩)
theorem c_long_row (F : Fun K "_law_long_row" "_law_long_row" s_long_row f fd) (hm : mg "_law_long_row" = some (.ref f)) (T : Bt mg) (c_take : Cal P w K mg base 2 "_law_take" (spW K R_take)) (c_pick : Cal P w K mg base 3 "_law_pick" (spW K R_pick)) (c_far : Cal P w K mg base 4 "_law_far_pair" (spW K R_farK)) (c_below : Cal P w K mg base 3 "_law_below" (spW K R_below)) (c_lowest : Cal P w K mg base 1 "_law_lowest" (spD K PrLow)) (c_column : Cal P w K mg base 5 "_law_column" (spW K R_columnW)) : Cal P w K mg base 6 "_law_long_row" (spW K R_longrow) := by
  refine calW_of F sc_long_row hm (fun _ _ _ _ _ _ us hl => match us, hl with | [_, _], _ => rfl) (fun ds M Φ h => ?_) fun cdv A outer s H E ds M Φ hr h => ?_
  · obtain ⟨a, p, v, rfl, _⟩ := h
    rfl
  · obtain ⟨a, p, v, rfl, hA, ok, hv, hΦ⟩ := h
    show BV _ _ [some (dP a), some (dI ((v : Nat) : Int)), none, none, none, none, none] _ _
    refine bv_cons (sv_join (fun ρ M2 => ∃ (ts : List Tn) (q : Pool) (x3 : Option D), ρ = [some (dP a), some (dI ((v : Nat) : Int)), some (.lst (ts.map frD)), x3, none, none, none] ∧ ts.length = 5 ∧ (∀ t ∈ ts, TnW t) ∧ Fr1 a M M2 ∧ M2 a = some q.mo ∧ q.Ok) (sw_set 2 sc_long_row.nd ?_) (fun ρ M2 ⟨ts, q, x3, eρ, len, hts, fr, hA2, ok2⟩ => ?_))
    · refine ew_catL (ew_lstN (aw_one (ew_tup (aw_cons (ew_op op_sub (ew_callW c_take (hr.mono (by decide)) (aw_av (av_cons (ev_var 0 rfl) (av_cons ev_int av_nil)) ⟨a, p, 9001, rfl, hA, ok, by decide, by decide, fun n1 lo1 hi1 p1 ok1 M1 fr1 hA1 => ⟨_, rfl, ew_ev ev_int ⟨_, _, rfl, rs_I0, ?_⟩⟩⟩)))))))
      refine aw_one (ew_op op_sub (ew_callW c_take (hr.mono (by decide)) (aw_av (av_cons (ev_var 0 rfl) (av_cons ev_int av_nil)) ⟨a, p1, 9001, rfl, hA1, ok1, by decide, by decide, fun n2 lo2 hi2 p2 ok2 M2 fr2 hA2 => ⟨_, rfl, ew_ev ev_int ⟨_, _, rfl, rs_I0, (by show 2 ≤ sizeLine; decide), (by show 1 ≤ sizeLine; decide), fun l hl => ?_⟩⟩⟩)))
      have hla : l ≠ a := (mem_ne hA2 hl).symm
      refine ⟨l, [frD (n1 - 4500, n2 - 4500)], rfl, Mem.set_same, ?_⟩
      have hA3 := Mem.set_at (u := .lst [frD (n1 - 4500, n2 - 4500)]) hA2 hl
      have fr3 : Fr1 a M (M2.set l (.lst [frD (n1 - 4500, n2 - 4500)])) := (fr1.trans fr2).new ((fr1.trans fr2).no hA2 hl)
      refine ew_lcN (own := [("k", 3)]) (g := gName 3) rfl sc_long_row.nd (blkOk_by (N := ["pool", "voices", "some", "k", "long", "found", "cell"]) (sc := defScope s_long_row) (by decide +kernel)) (fun _ _ _ _ _ => (pg_name (i := 3) sc_long_row.nd rfl (.inl rfl))) ?_
      refine iw_iv (iv_range1 T.range ev_int (by decide)) ⟨by rw [rgD_len]; decide, fun i acc M4 => ∃ (ts : List Tn) (q : Pool), acc = ts.map frD ∧ ts.length = i ∧ (∀ t ∈ ts, TnK t) ∧ Fr1 a M M4 ∧ M4 a = some q.mo ∧ q.Ok ∧ M4 l = some (.lst [frD (n1 - 4500, n2 - 4500)]), ⟨[], p2, rfl, rfl, fun t h => absurd h List.not_mem_nil, fr3, hA3, ok2, Mem.set_same⟩, fun i d acc M4 hd hacc iv => ?_, fun acc M4 hacc iv => ?_⟩
      · obtain ⟨ts, q, rfl, len, hts, fr, hA, ok, hL⟩ := iv
        refine ⟨_, tgb_name, fun y hy s H C cl fp => ?_⟩
        refine ew_callW c_far (hr.mono (by decide)) (aw_av (av_cons (ev_var 0 rfl) av_nil) ⟨a, q, rfl, Mem.set_at hA hy, ok, fun t ht p2 ok2 M3 fr2 hA2 => ?_⟩)
        obtain ⟨e1, e2, e3, e4⟩ := lc_back hA hy fr2
        refine ⟨_, e1, e2, ts ++ [t], p2, by rw [List.map_append]; rfl, by rw [List.length_append, len]; rfl, fun t' h => ?_, fr.trans e3, e4 _ hA2, ok2, e3 l hla _ hL⟩
        rcases List.mem_append.mp h with h | h
        · exact hts t' h
        · rw [List.mem_singleton.mp h]
          exact ht
      · obtain ⟨ts, q, rfl, len, hts, fr, hA, ok, hL⟩ := iv
        rw [rgD_len] at len
        have len : ts.length = 4 := len
        intro y hy
        refine ⟨y, ts.map frD, rfl, Mem.set_at hL hy, Mem.set_same, (by rw [List.length_map, len]; show 1 + 4 ≤ sizeLine; decide), (n1 - 4500, n2 - 4500) :: ts, q, _, rfl, by rw [List.length_cons, len], fun t ht => ?_, fr.new (fr.no hA hy), Mem.set_at hA hy, ok⟩
        rcases List.mem_cons.mp ht with rfl | ht
        · exact ⟨⟨by show -5000 ≤ n1 - 4500; omega, by show n1 - 4500 ≤ 5000; omega⟩, by show -5000 ≤ n2 - 4500; omega, by show n2 - 4500 ≤ 5000; omega⟩
        · exact (hts t ht).bw
    subst eρ
    refine bv_cons (sv_join (fun ρ M2 => ∃ (lg : Tn) (q : Pool), ρ = [some (dP a), some (dI ((v : Nat) : Int)), some (.lst (ts.map frD)), x3, some (frD lg), none, none] ∧ DurT lg ∧ Fr1 a M M2 ∧ M2 a = some q.mo ∧ q.Ok) (sw_set 4 sc_long_row.nd ?_) (fun ρ M2 ⟨lg, q, eρ, hlg, fr, hA2, ok2⟩ => ?_))
    · refine ew_callD c_lowest (hr.mono (by decide)) ?_
      refine aw_cons (ew_op op_add (ew_ev ev_int ⟨_, rfl, ?_⟩))
      refine ew_callW c_below (hr.mono (by decide)) (aw_av (av_cons (ev_var 0 rfl) (av_cons (ev_op op_pow ev_int ev_int (rs_I ⟨by decide, by decide, by decide⟩)) av_nil)) ⟨a, q, _, rfl, hA2, ok2, by decide, fun n5 lo5 hi5 p5 ok5 M5 fr5 hA5 => ⟨_, _, rfl, rs_I0, ?_⟩⟩)
      refine aw_one (ew_op op_add (ew_ev ev_int ⟨_, rfl, ?_⟩))
      refine ew_callW c_below (hr.mono (by decide)) (aw_av (av_cons (ev_var 0 rfl) (av_cons (ev_op op_pow ev_int ev_int (rs_I ⟨by decide, by decide, by decide⟩)) av_nil)) ⟨a, p5, _, rfl, hA5, ok5, by decide, fun n6 lo6 hi6 p6 ok6 M6 fr6 hA6 => ⟨_, _, rfl, rs_I0, ?_⟩⟩)
      have hi5 : n5 < 1000000000000 := hi5
      have hi6 : n6 < 1000000000000 := hi6
      have hle := low_le (n := 1 + n5) (d := 1 + n6) (by omega) (by omega)
      exact ⟨_, _, low_at (by omega) (Bd.of (m := 1000000000000) (k := 900) (by omega) (Nat.lt_of_lt_of_le (show 1000000000000 < 2 ^ 41 by decide) (Nat.pow_le_pow_right (by decide) (by decide)))) (Bd.of (m := 1000000000000) (k := 900) (by omega) (Nat.lt_of_lt_of_le (show 1000000000000 < 2 ^ 41 by decide) (Nat.pow_le_pow_right (by decide) (by decide)))), low (1 + n5) (1 + n6), p6, rfl, ⟨low_num (by omega) (by omega), by omega, low_den (by omega), by omega⟩, (fr.trans fr5).trans fr6, hA6, ok6⟩
    subst eρ
    refine bv_cons (sv_set 5 sc_long_row.nd (ev_tup av_nil) ?_)
    refine bv_cons (sw_for rfl (pg_name (i := 3) sc_long_row.nd rfl (.inl rfl)) ?_)
    refine iw_range1 T.range ?_
    refine ew_callW c_pick (hr.mono (by decide)) ?_
    refine aw_cons (ew_ev (ev_var 0 rfl) ?_)
    refine aw_one (ew_lst ?_)
    refine aw_cons (ew_ev ev_int ?_)
    refine aw_cons (ew_ev ev_int ?_)
    refine aw_cons (ew_op op_add (ew_ev ev_int ⟨_, rfl, ?_⟩))
    refine ew_callW c_take (hr.mono (by decide)) (aw_av (av_cons (ev_var 0 rfl) (av_cons ev_int av_nil)) ⟨a, q, 100, rfl, hA2, ok2, by decide, by decide, fun n6 lo6 hi6 p6 ok6 M6 fr6 hA6 => ⟨_, _, rfl, rs_I0, ?_⟩⟩)
    refine aw_one (ew_ev ev_int ?_)
    refine ⟨by (simp only [List.length_cons, List.length_nil]; decide), ?_⟩
    refine ⟨a, p6, true, [dI 1, dI 64, dI (65 + n6), dI 1000], rfl, hA6, ok6, by simp, by simp, fun d7 g7 p7 ok7 M7 fr7 hA7 => ?_⟩
    obtain ⟨n, rfl, hnb⟩ : ∃ n : Int, d7 = dI n ∧ 1 ≤ n ∧ n ≤ 1000 := by
      simp only [List.mem_cons, List.not_mem_nil, or_false] at g7
      rcases g7 with rfl | rfl | rfl | rfl
      · exact ⟨1, rfl, by decide, by decide⟩
      · exact ⟨64, rfl, by decide, by decide⟩
      · exact ⟨65 + n6, rfl, by omega, by omega⟩
      · exact ⟨1000, rfl, by decide, by decide⟩
    refine ⟨n, rfl, by omega, fun i ρ M4 => ∃ (x3 x6 : Option D) (q : Pool) (bar : List Col), ρ = [some (dP a), some (dI ((v : Nat) : Int)), some (.lst (ts.map frD)), x3, some (frD lg), some (barD bar), x6] ∧ Fr1 a M M4 ∧ M4 a = some q.mo ∧ q.Ok ∧ bar.length = i ∧ (∀ c ∈ bar, ColT c) ∧ ∀ c ∈ bar, ColE TnW v c, ⟨_, _, p7, [], rfl, (fr.trans fr6).trans fr7, hA7, ok7, rfl, (fun c h => absurd h List.not_mem_nil), fun c h => absurd h List.not_mem_nil⟩, fun i d ρ' M' hd iv => ?_, fun ρ' M' iv => ?_⟩
    · obtain ⟨x3, x6, q, bar, rfl, fr, hA, ok, len2, hbT, hbar⟩ := iv
      obtain ⟨hi, rfl⟩ := rgD_get hd
      obtain ⟨before, bok, hb⟩ := beforeE hbar
      refine ⟨_, tg_name, ?_⟩
      refine bv_cons (sw_set 6 sc_long_row.nd ?_)
      refine ew_callW c_column (hr.mono (by decide)) ?_
      refine aw_cons (ew_ev (ev_var 0 rfl) ?_)
      refine aw_cons (ew_ev (ev_var 1 rfl) ?_)
      refine aw_cons (ew_ev (d := optC before) (M1 := M') ?_ ?_)
      · rcases hb with ⟨rfl, rfl⟩ | ⟨c, hc, rfl⟩
        · exact ev_if (tv_sqT (b := false) (ev_var 5 rfl)) (fun h => nomatch h) (fun _ => ev_non)
        · have ne : (bar.map colD).isEmpty = false := by
            cases bar with
            | nil => cases hc
            | cons c bar => rfl
          exact ev_if (tv_sqT (b := false) (ds := bar.map colD) (ev_var 5 rfl)) (fun _ => ev_ixT (ds := bar.map colD) (ev_var 5 rfl) (ev_un un_neg ev_int ru_neg) (atI_last (by rw [List.getLast?_map, hc]; rfl))) (fun h => by rw [ne] at h; cases h)
      refine aw_cons (ew_ev (ev_var 2 rfl) ?_)
      refine aw_nil ⟨a, q, v, before, ts, TnW, rfl, hA, ok, by omega, by omega, hts, bok, fun c0 cok p3 ok3 M5 fr3 hA3 => ?_⟩
      show BV _ _ [some (dP a), some (dI ((v : Nat) : Int)), some (.lst (ts.map frD)), some (dI (0 + (i : Int))), some (frD lg), some (barD bar), some (colD c0)] _ _
      refine bv_cons (sv_join (fun ρ M6 => ∃ (c : Col) (q6 : Pool), ρ = [some (dP a), some (dI ((v : Nat) : Int)), some (.lst (ts.map frD)), some (dI (0 + (i : Int))), some (frD lg), some (barD bar), some (colD c)] ∧ ColT c ∧ ColE TnW v c ∧ Fr1 a M M6 ∧ M6 a = some q6.mo ∧ q6.Ok) ?_ (fun ρ M6 ⟨c, q6, eρ, cT, cE, fr6, hA6, ok6⟩ => ?_))
      · refine sw_if (tw_cmp op_eq ?_ (nomark _))
        refine ew_callW c_take (hr.mono (by decide)) (aw_av (av_cons (ev_var 0 rfl) (av_cons ev_int av_nil)) ⟨a, p3, 9, rfl, hA3, ok3, by decide, by decide, fun n8 lo8 hi8 p8 ok8 M8 fr8 hA8 => ⟨_, rfl, ew_ev ev_int ⟨_, _, rfl, rs_eqI, ⟨fun h => ?_, fun h => bv_nil ⟨c0, p8, rfl, cok.text hv.2 (fun _ h => h), cok.e, (fr.trans fr3).trans fr8, hA8, ok8⟩⟩⟩⟩⟩)
        refine bv_one (sv_set 6 sc_long_row.nd (ev_catT (ds := [frD lg]) (es := [dI c0.acc, .tup (c0.ents.map (entQ false))]) (ev_tup (av_cons (ev_var 4 rfl) av_nil)) (ev_to (ev_sliceQ (b' := false) (ds := [frD c0.dur, dI c0.acc, .tup (c0.ents.map (entQ false))]) (ev_var 6 rfl) (ov_some ev_int) ov_none) (by rw [cut_tail]; rfl)) (by simp only [List.length_cons, List.length_nil]; decide)) ?_)
        have ct := cok.text hv.2 (fun _ h => h)
        exact ⟨⟨lg, c0.acc, c0.ents⟩, p8, rfl, ⟨hlg, ct.acc, ct.len, ct.ton⟩, ⟨cok.len, cok.ton⟩, (fr.trans fr3).trans fr8, hA8, ok8⟩
      subst eρ
      refine bv_one (sv_set 5 sc_long_row.nd (ev_catT (ds := bar.map colD) (es := [colD c]) (ev_var 5 rfl) (ev_tup (av_cons (ev_var 6 rfl) av_nil)) ?_) ?_)
      · rw [List.length_map, len2]
        exact Nat.le_trans (show i + 1 ≤ 2000 by omega) (by decide)
      · refine ⟨some (dI (0 + (i : Int))), some (colD c), q6, bar ++ [c], ?_, fr6, hA6, ok6, by rw [List.length_append, len2]; rfl, fun c' h => ?_, fun c' h => ?_⟩
        · rw [bar_snoc]
          rfl
        · rcases List.mem_append.mp h with h | h
          · exact hbT c' h
          · rw [List.mem_singleton.mp h]
            exact cT
        · rcases List.mem_append.mp h with h | h
          · exact hbar c' h
          · rw [List.mem_singleton.mp h]
            exact cE
    · obtain ⟨x3, x6, q, bar, rfl, fr, hA, ok, len2, hbT, hbar⟩ := iv
      rw [rgD_len] at len2
      exact bv_one (sv_ret (ev_var 5 rfl) ⟨_, hΦ bar (by omega) hbT q ok _ fr hA, Mle.refl _⟩)
end
/-! repr of trees of bounded size -/
def rp : Nat → Nat → D → Prop
  | _, w, .val v => (v = .non ∧ 4 ≤ w) ∨ ((∃ b, v = .bl b) ∧ 5 ≤ w) ∨ (∃ i, v = .int i ∧ i.natAbs.log2 < 1900 ∧ i.natAbs.log2 + 2 ≤ w) ∨ ∃ z, v = .str z ∧ (reprText z).length ≤ w
  | n + 1, w, .tup ds => ∃ w', ds.length * (w' + 2) + 3 ≤ w ∧ ∀ d ∈ ds, rp n w' d
  | n + 1, w, .lst ds => ∃ w', ds.length * (w' + 2) + 3 ≤ w ∧ ∀ d ∈ ds, rp n w' d
  | 0, _, _ => False
  | _ + 1, _, .dic => False
structure RpOk (n w : Nat) (d : D) : Prop where
  pl : D.plain d = true
  nd : d.py.hasDict = false
  ss : d.py.showable = true
  dd : d.py.depth ≤ n
  sz : d.py.shown.length ≤ w
theorem piled_le {w : Nat} : ∀ {ts : List Str}, (∀ t ∈ ts, t.length ≤ w) → piled ts ≤ ts.length * (w + 2)
  | [], _ => Nat.zero_le _
  | t :: ts, h => by
    have a := h t List.mem_cons_self
    have b := piled_le (ts := ts) fun u hu => h u (List.mem_cons_of_mem _ hu)
    rw [piled_cons, List.length_cons, Nat.succ_mul]
    omega
theorem listText_le : ∀ ts : List Str, (listText ts).length ≤ piled ts + 3
  | [] => by decide
  | t :: r => by
    have h := textFrom_length_pos r 1 (("[" : Str) ++ (if (0 : Nat) > 0 then ", " else "" : String) ++ t) (Nat.succ_pos 0)
    have e : (listText (t :: r)).length = (textFrom 1 (("[" : Str) ++ (if (0 : Nat) > 0 then ", " else "" : String) ++ t) r).length + 1 := by
      show (textFrom 1 _ r ++ ("]" : Str)).length = _
      rw [strLen_append]
      rfl
    rw [e, h, piled_cons, strLen_append, strLen_append]
    show 1 + 0 + t.length + _ + 1 ≤ _
    omega
theorem tupleText_le (ts : List Str) : (tupleText ts).length ≤ piled ts + 3 := by
  unfold tupleText
  rw [strLen_append, strLen_append]
  have e1 : ((("(" : String) : Str)).length = 1 := rfl
  have e3 : (((if ts.length == 1 then ",)" else ")" : String) : Str)).length ≤ 2 := by split <;> decide
  have e2 : (Str.join ", " ts).length ≤ piled ts := by
    cases ts with
    | nil => exact Nat.zero_le _
    | cons t r =>
      have := join_length_add (t :: r) (by simp)
      omega
  rw [e1]
  omega
theorem shownAll_eq : ∀ ds : List PyData, PyData.shownAll ds = ds.map PyData.shown
  | [] => by simp only [PyData.shownAll, List.map_nil]
  | d :: ds => by simp only [PyData.shownAll, List.map_cons, shownAll_eq ds]
theorem pyL_eq : ∀ ds : List D, D.pyL ds = ds.map D.py
  | [] => by simp only [D.pyL, List.map_nil]
  | d :: ds => by simp only [D.pyL, List.map_cons, pyL_eq ds]
theorem rp_all {n w : Nat} : ∀ {ds : List D}, (∀ d ∈ ds, RpOk n w d) → D.plainL ds = true ∧ PyData.hasDictAll (D.pyL ds) = false ∧ PyData.showableAll (D.pyL ds) = true ∧ PyData.depthAll (D.pyL ds) ≤ n ∧ (∀ t ∈ PyData.shownAll (D.pyL ds), t.length ≤ w)
  | [], _ => ⟨rfl, by simp [D.pyL, PyData.hasDictAll], by simp [D.pyL, PyData.showableAll], by simp [D.pyL, PyData.depthAll], fun t ht => by simp [D.pyL, PyData.shownAll] at ht⟩
  | d :: ds, h => by
    obtain ⟨a1, a2, a3, a4, a5⟩ := h d List.mem_cons_self
    obtain ⟨b1, b2, b3, b4, b5⟩ := rp_all (ds := ds) fun u hu => h u (List.mem_cons_of_mem _ hu)
    refine ⟨?_, ?_, ?_, ?_, fun t ht => ?_⟩
    · simp only [D.plainL, a1, b1, Bool.and_self]
    · simp only [D.pyL, PyData.hasDictAll, a2, b2, Bool.or_self]
    · simp only [D.pyL, PyData.showableAll, a3, b3, Bool.and_self]
    · simp only [D.pyL, PyData.depthAll]
      omega
    · simp only [D.pyL, PyData.shownAll] at ht
      rcases List.mem_cons.mp ht with rfl | ht
      · exact a5
      · exact b5 t ht
theorem rp_seq {n w : Nat} {ds : List D} {w' : Nat} (hl : ds.length * (w' + 2) + 3 ≤ w) (h : ∀ d ∈ ds, RpOk n w' d) : RpOk (n + 1) w (.tup ds) ∧ RpOk (n + 1) w (.lst ds) := by
  obtain ⟨b1, b2, b3, b4, b5⟩ := rp_all h
  have e : (PyData.shownAll (D.pyL ds)).length = ds.length := by rw [shownAll_eq, pyL_eq, List.length_map, List.length_map]
  have k := piled_le b5
  rw [e] at k
  have k1 := tupleText_le (PyData.shownAll (D.pyL ds))
  have k2 := listText_le (PyData.shownAll (D.pyL ds))
  refine ⟨⟨?_, ?_, ?_, ?_, ?_⟩, ⟨?_, ?_, ?_, ?_, ?_⟩⟩
  · simpa only [D.plain] using b1
  · simpa only [D.py, PyData.hasDict] using b2
  · simpa only [D.py, PyData.showable] using b3
  · simp only [D.py, PyData.depth]; omega
  · simp only [D.py, PyData.shown]; omega
  · simpa only [D.plain] using b1
  · simpa only [D.py, PyData.hasDict] using b2
  · simpa only [D.py, PyData.showable] using b3
  · simp only [D.py, PyData.depth]; omega
  · simp only [D.py, PyData.shown]; omega
theorem rp_ok : ∀ (n w : Nat) (d : D), rp n w d → RpOk n w d
  | n, w, .val v, h => by
    have h : (v = .non ∧ 4 ≤ w) ∨ ((∃ b, v = .bl b) ∧ 5 ≤ w) ∨ (∃ i, v = .int i ∧ i.natAbs.log2 < 1900 ∧ i.natAbs.log2 + 2 ≤ w) ∨ ∃ z, v = .str z ∧ (reprText z).length ≤ w := by
      cases n <;> exact h
    rcases h with ⟨rfl, hw⟩ | ⟨⟨b, rfl⟩, hw⟩ | ⟨i, rfl, hi, hw⟩ | ⟨z, rfl, hw⟩
    · exact ⟨rfl, by simp only [D.py, PyData.hasDict], by simp only [D.py, PyData.showable], by simp only [D.py, PyData.depth, Nat.zero_le], by simp only [D.py, PyData.shown]; exact hw⟩
    · refine ⟨rfl, by simp only [D.py, PyData.hasDict], by simp only [D.py, PyData.showable], by simp only [D.py, PyData.depth, Nat.zero_le], ?_⟩
      simp only [D.py, PyData.shown]
      cases b
      · exact hw
      · exact Nat.le_trans (show 4 ≤ 5 by decide) hw
    · refine ⟨rfl, by simp only [D.py, PyData.hasDict], ?_, by simp only [D.py, PyData.depth, Nat.zero_le], ?_⟩
      · simp only [D.py, PyData.showable, decide_eq_true_eq]
        omega
      · simp only [D.py, PyData.shown]
        have := int_text_length_le (a := i) (k := i.natAbs.log2 + 1) (by omega) (by omega)
        have e : (Str.ofString (toString i)).length = (toString i).length := by
          rw [Str.ofString_eq_toList]
          simp [Str.length, String.length_toList]
        rw [e]
        omega
    · exact ⟨rfl, by simp only [D.py, PyData.hasDict], by simp only [D.py, PyData.showable], by simp only [D.py, PyData.depth, Nat.zero_le], by simp only [D.py, PyData.shown]; exact hw⟩
  | 0, _, .tup _, h => h.elim
  | 0, _, .lst _, h => h.elim
  | 0, _, .dic, h => h.elim
  | _ + 1, _, .dic, h => h.elim
  | n + 1, w, .tup ds, ⟨w', hl, h⟩ => (rp_seq hl fun d hd => rp_ok n w' d (h d hd)).1
  | n + 1, w, .lst ds, ⟨w', hl, h⟩ => (rp_seq hl fun d hd => rp_ok n w' d (h d hd)).2
theorem rp_mono {n w w2 : Nat} : ∀ {d : D}, rp n w d → w ≤ w2 → rp n w2 d
  | .val v, h, hw => by
    have h : (v = .non ∧ 4 ≤ w) ∨ ((∃ b, v = .bl b) ∧ 5 ≤ w) ∨ (∃ i, v = .int i ∧ i.natAbs.log2 < 1900 ∧ i.natAbs.log2 + 2 ≤ w) ∨ ∃ z, v = .str z ∧ (reprText z).length ≤ w := by
      cases n <;> exact h
    have k : (v = .non ∧ 4 ≤ w2) ∨ ((∃ b, v = .bl b) ∧ 5 ≤ w2) ∨ (∃ i, v = .int i ∧ i.natAbs.log2 < 1900 ∧ i.natAbs.log2 + 2 ≤ w2) ∨ ∃ z, v = .str z ∧ (reprText z).length ≤ w2 := by
      rcases h with ⟨rfl, h⟩ | ⟨b, h⟩ | ⟨i, e, h, h2⟩ | ⟨z, e, h⟩
      · exact .inl ⟨rfl, by omega⟩
      · exact .inr (.inl ⟨b, by omega⟩)
      · exact .inr (.inr (.inl ⟨i, e, h, by omega⟩))
      · exact .inr (.inr (.inr ⟨z, e, by omega⟩))
    cases n <;> exact k
  | .tup ds, h, hw => by
    cases n with
    | zero => exact h.elim
    | succ n => obtain ⟨w', hl, h⟩ := h; exact ⟨w', by omega, h⟩
  | .lst ds, h, hw => by
    cases n with
    | zero => exact h.elim
    | succ n => obtain ⟨w', hl, h⟩ := h; exact ⟨w', by omega, h⟩
  | .dic, h, hw => by cases n <;> exact h.elim
theorem rp_int {n w : Nat} {i : Int} (h : i.natAbs < 2 ^ 1000) (hw : 1002 ≤ w) : rp n w (dI i) := by
  have l : i.natAbs.log2 < 1000 := PySem.Flt.log2_lt_of (by decide) h
  cases n <;> exact .inr (.inr (.inl ⟨i, rfl, by omega, by omega⟩))
section
variable {X : Cx} {ρ : Sl} {M M1 : Mem} {e : Expr} {d : D} {pos : Pos}
theorem ev_reprB {p : Pos} {n w k : Nat} (g : X.A.guards = some []) (hr : Room k X.A) (hm : X.mg "repr" = none) (ha : EV X e ρ M d M1) (h : rp n w d) (nv : ∀ v, d ≠ .val v) (hn : n < 60) (hw : w ≤ sizeLine) (hg : Gl X "repr" := by rfl) (hst : starEach [e] X.env = [(false, eval e X.env)] := by rfl) :
    EV X (.Call (.Name "repr" p) [e] [] pos) ρ M (dS d.py.shown) M1 := by
  obtain ⟨h1, h2, h3, h4, h5⟩ := rp_ok n w d h
  exact ev_repr g (hu64 hr) hm ha h1 nv h2 h3 (by omega) (by omega) hg hst
end
theorem sq_nv {b : Bool} {ds : List D} : ∀ v, sq b ds ≠ .val v := fun v h => by cases b <;> cases h
theorem rp_sq {n w w' : Nat} (b : Bool) {ds : List D} (hl : ds.length * (w' + 2) + 3 ≤ w) (h : ∀ d ∈ ds, rp n w' d) : rp (n + 1) w (sq b ds) := by cases b <;> exact ⟨w', hl, h⟩
theorem rp_small {n w : Nat} {i : Int} (h : -100000 ≤ i ∧ i ≤ 100000) (hw : 20 ≤ w) : rp n w (dI i) := by
  have l : i.natAbs.log2 < 17 := PySem.Flt.log2_lt_of (by decide) (show i.natAbs < 2 ^ 17 by omega)
  cases n <;> exact .inr (.inr (.inl ⟨i, rfl, by omega, by omega⟩))
theorem rp_bool {n w : Nat} {b : Bool} (hw : 5 ≤ w) : rp n w (dB b) := by cases n <;> exact .inr (.inl ⟨⟨b, rfl⟩, hw⟩)
theorem rp_none {n w : Nat} (hw : 4 ≤ w) : rp n w dN := by cases n <;> exact .inl ⟨rfl, hw⟩
theorem all2 {PD : D → Prop} {a b : D} (ha : PD a) (hb : PD b) : ∀ d ∈ [a, b], PD d := fun d hd => by
  rcases List.mem_cons.mp hd with rfl | hd
  · exact ha
  · rw [List.mem_singleton.mp hd]
    exact hb
theorem all3 {PD : D → Prop} {a b c : D} (ha : PD a) (hb : PD b) (hc : PD c) : ∀ d ∈ [a, b, c], PD d := fun d hd => by
  rcases List.mem_cons.mp hd with rfl | hd
  · exact ha
  · exact all2 hb hc d hd
theorem rp_big {n w : Nat} {i : Int} (h : 0 ≤ i ∧ i ≤ 1000000000000) (hw : 60 ≤ w) : rp n w (dI i) := by
  have l : i.natAbs.log2 < 40 := PySem.Flt.log2_lt_of (by decide) (show i.natAbs < 2 ^ 40 by omega)
  cases n <;> exact .inr (.inr (.inl ⟨i, rfl, by omega, by omega⟩))
theorem rp_barT {bar : List Col} (hl : bar.length ≤ 1000) (h : ∀ c ∈ bar, ColT c) (b1 b2 : Bool) : rp 5 3000000 (barQ b1 b2 bar) := by
  refine rp_sq b1 (w' := 2400) (by rw [List.length_map]; omega) fun d hd => ?_
  obtain ⟨c, hc, rfl⟩ := List.mem_map.mp hd
  have hcol := h c hc
  refine rp_sq b2 (w' := 700) (by simp only [List.length_cons, List.length_nil]; decide) (all3 ?_ ?_ ?_)
  · refine rp_mono (rp_sq (n := 2) b2 (w' := 60) (w := 700) (by simp only [List.length_cons, List.length_nil]; decide) (all2 (rp_big ?_ (by decide)) (rp_big ?_ (by decide)))) (by decide)
    · exact ⟨by have := hcol.dur.n0; omega, hcol.dur.n1⟩
    · exact ⟨by have := hcol.dur.d0; omega, hcol.dur.d1⟩
  · refine rp_small ?_ (by decide)
    have := hcol.acc
    omega
  · refine rp_sq b2 (w' := 140) (by rw [List.length_map]; have := hcol.len; omega) fun d hd => ?_
    obtain ⟨e, he, rfl⟩ := List.mem_map.mp hd
    cases e with
    | none => exact rp_none (by decide)
    | some e =>
      obtain ⟨t, g⟩ := e
      have ht := hcol.ton t g he
      exact rp_sq b2 (w' := 60) (by simp only [List.length_cons, List.length_nil]; decide) (all2 (rp_sq b2 (w' := 20) (by simp only [List.length_cons, List.length_nil]; decide) (all2 (rp_small (by have := ht.1; omega) (by decide)) (rp_small (by have := ht.2; omega) (by decide)))) (rp_bool (by decide)))
theorem okD_str {n : Nat} (z : Str) : okD n (dS z) := by cases n <;> exact .inr (.inr (.inr ⟨z, rfl⟩))
def rowB (r : List Col × List (List Nat)) : D := .tup [barD r.1, dS (S (TL.joinL [124] r.2))]
structure RowOk (r : List Col × List (List Nat)) : Prop where
  pcs : Pieces r.2 r.1
  len : (TL.joinL [124] r.2).length ≤ 1000000
  cl : 1 ≤ r.1.length ∧ r.1.length ≤ 64
  ex : ∃ v : Nat, (1 ≤ v ∧ v ≤ 4) ∧ ∀ c ∈ r.1, ColOk TnK v c
structure BarT (b : List Col) : Prop where
  len : b.length ≤ 1000
  col : ∀ c ∈ b, ColT c
theorem RowOk.bar {r : List Col × List (List Nat)} (h : RowOk r) : BarT r.1 := by
  obtain ⟨v, hv, hc⟩ := h.ex
  exact ⟨by have := h.cl; omega, fun c q => (hc c q).text hv.2 fun t ht => ht.bw⟩
theorem barText_small {bar : List Col} (hl : bar.length ≤ 64) (h : ∀ c ∈ bar, ColT c) : (barText bar).length ≤ 1000000 := by
  have h1 := sumL_le (k := 4010) (ws := bar.map colText) fun w hw => by
    obtain ⟨c, hc, rfl⟩ := List.mem_map.mp hw
    exact colText_len (h c hc)
  have h2 := joinL_len [32, 124, 32] (bar.map colText)
  have h0 : ([32, 124, 32] : List Nat).length = 3 := rfl
  rw [h0] at h2
  rw [List.length_map] at h1 h2
  have h3 : bar.length * 4010 ≤ 64 * 4010 := Nat.mul_le_mul_right _ hl
  unfold barText
  omega
section
variable {P : Program} {w : World} {K : PySem.W.Frag} {mg : Str → Option Value} {base : Heap} {f : Addr} {fd : FuncData}
theorem c_law (F : Fun K "law" "law" s_law f fd) (T : Bt mg) (hrep : mg "repr" = none) (c_pool : Cal P w K mg base 1 "_law_pool" (spN K PrPool)) (c_take : Cal P w K mg base 2 "_law_take" (spW K R_take)) (c_pick : Cal P w K mg base 3 "_law_pick" (spW K R_pick)) (c_order : Cal P w K mg base 3 "_law_order" (spW K R_order)) (c_same : Cal P w K mg base 7 "_law_same" (spD K (PrSame 5))) (c_listed : Cal P w K mg base 6 "_law_listed" (spD K (PrListed 5))) (c_far_bar : Cal P w K mg base 7 "_law_far_bar" (spW K R_farbar)) (c_long_row : Cal P w K mg base 6 "_law_long_row" (spW K R_longrow)) (c_text : Cal P w K mg base 4 "_law_text" (spD K PrTxt)) (c_spaced : Cal P w K mg base 5 "_law_spaced" (spW K R_spaced)) (c_p_read_bar : Cal P w K mg base 7 "read_bar" (spD K PrRdBar)) (c_p_bar_text : Cal P w K mg base 5 "bar_text" (spD K PrBaT)) : FnG P w K mg base 8 f fd ["script"] (spLaw K) := by
  refine law_ofG F sc_law fun cdv A outer s H E ns g hr hl => ?_
  show BV _ _ [some (.lst (ns.map dI)), none, none, none, none, none, none, none, none, none] _ _
  refine bv_cons (sv_setN 1 sc_law.nd (en_call c_pool (hr.mono (by decide)) (av_cons (ev_var 0 rfl) av_nil) ⟨ns, rfl, by omega, rfl, rfl⟩) (fun a ha => ?_))
  show BV _ _ [some (.lst (ns.map dI)), some (dP a), none, none, none, none, none, none, none, none] (Mem.set (fun _ => none) a (Pool.new ns).mo) _
  have ok := Pool.new_ok ns
  generalize Pool.new ns = p at ok ⊢
  have hA : (Mem.set (fun _ => none) a (Pool.mo p)) a = some p.mo := Mem.set_same
  generalize Mem.set (fun _ => none) a (Pool.mo p) = M0 at hA ⊢
  refine bv_cons (sv_setN 2 sc_law.nd (en_lst av_nil) (fun l hl2 => ?_))
  have hla : l ≠ a := (mem_ne hA hl2).symm
  refine bv_cons (sv_join (fun ρ M => ∃ (x3 x4 : Option D) (q : Pool) (rows : List (List Col × List (List Nat))), ρ = [some (.lst (ns.map dI)), some (dP a), some (dP l), x3, x4, none, none, none, none, none] ∧ M a = some q.mo ∧ q.Ok ∧ M l = some (.lst (rows.map rowB)) ∧ rows.length ≤ 10 ∧ ∀ r ∈ rows, RowOk r) (sw_for rfl (pg_name (i := 3) sc_law.nd rfl (.inl rfl)) ?_) (fun ρ M ⟨x3, x4, q, rows, eρ, hA2, okq, hL, hlen, hrows⟩ => ?_))
  · refine iw_range1 T.range (ew_op op_add (ew_ev ev_int ⟨_, rfl, ?_⟩))
    refine ew_callW c_take (hr.mono (by decide)) (aw_av (av_cons (ev_var 1 rfl) (av_cons ev_int av_nil)) ⟨a, p, 4, rfl, Mem.set_at hA hl2, ok, by decide, by decide, fun n1 lo1 hi1 p1 ok1 M1 fr1 hA1 => ⟨_, _, rfl, rs_I0, ⟨_, rfl, by omega, fun i ρ M => ∃ (x3 x4 : Option D) (q : Pool) (rows : List (List Col × List (List Nat))), ρ = [some (.lst (ns.map dI)), some (dP a), some (dP l), x3, x4, none, none, none, none, none] ∧ M a = some q.mo ∧ q.Ok ∧ M l = some (.lst (rows.map rowB)) ∧ rows.length = 2 * i ∧ i ≤ 5 ∧ ∀ r ∈ rows, RowOk r, ⟨none, none, p1, [], rfl, hA1, ok1, fr1 l hla _ Mem.set_same, rfl, by omega, fun r hr => nomatch hr⟩, fun i d ρ' M hd iv => ?_, fun ρ' M iv => ?_⟩⟩⟩)
    · obtain ⟨x3, x4, q, rows, rfl, hA2, okq, hL, hlen, hi5, hrows⟩ := iv
      obtain ⟨hi, rfl⟩ := rgD_get hd
      have hi5 : i < 5 := by omega
      refine ⟨_, tg_name, ?_⟩
      refine bv_cons (sw_set 4 sc_law.nd (ew_callW c_far_bar (hr.mono (by decide)) (aw_cons (ew_ev (ev_var 1 rfl) (aw_one (ew_op op_add (ew_ev ev_int ⟨_, rfl, ?_⟩)))))))
      refine ew_callW c_take (hr.mono (by decide)) (aw_av (av_cons (ev_var 1 rfl) (av_cons ev_int av_nil)) ⟨a, q, 4, rfl, hA2, okq, by decide, by decide, fun n2 lo2 hi2 p2 ok2 M2 fr2 hA3 => ⟨_, _, rfl, rs_I0, ?_⟩⟩)
      obtain ⟨m, rfl⟩ := Int.eq_ofNat_of_zero_le lo2
      refine ⟨a, p2, 1 + m, by rw [Int.natCast_add]; rfl, hA3, ok2, by omega, fun bar hbl hbc p3 ok3 M3 fr3 hA4 => ?_⟩
      have hbT : ∀ c ∈ bar, ColT c := fun c hc => (hbc c hc).text (by omega) fun t ht => ht.bw
      have hL3 := fr3 l hla _ (fr2 l hla _ hL)
      have hrl : (rows.map rowB).length = 2 * i := by rw [List.length_map, hlen]
      obtain ⟨ps, hps, eps⟩ := text_pieces bar 0 (fun q => by rw [q] at hbl; exact absurd hbl.1 (by decide))
      have eps : TL.joinL [124] ps = barText bar := eps
      have hts := barText_small hbl.2 hbT
      refine bv_cons (sv_append (d := rowB (bar, ps)) (ds := rows.map rowB) (ev_var 2 rfl) (ev_tup (av_cons (ev_var 4 rfl) (av_cons (ev_to (ev_call c_text (hr.mono (by decide)) (av_cons (ev_var 4 rfl) av_nil) ⟨bar, rfl, by omega, hbT, rfl, rfl⟩) (by rw [eps])) av_nil))) ⟨_, hL3⟩ hL3 (by rw [hrl]; exact Nat.lt_of_lt_of_le (show 2 * i < 1000 by omega) (by decide)) ?_)
      have hA5 : (M3.set l (.lst (rows.map rowB ++ [rowB (bar, ps)]))) a = some p3.mo := by rw [Mem.set_ne hla.symm]; exact hA4
      refine bv_one (sw_append (ev_var 2 rfl) ⟨_, Mem.set_same⟩ ?_)
      refine ew_tup ?_
      refine aw_cons ?_
      refine ew_ev (ev_var 4 rfl) ?_
      refine aw_one ?_
      refine ew_callW c_spaced (hr.mono (by decide)) (aw_av (av_cons (ev_var 1 rfl) (av_cons (ev_var 4 rfl) av_nil)) ⟨a, p3, bar, rfl, hA5, ok3, hbl, hbT, fun ps2 hps2 hpl2 p4 ok4 M4 fr4 hA6 => ⟨(by show 2 ≤ sizeLine; decide), _, fr4 l hla _ Mem.set_same, (by rw [List.length_append, hrl]; exact Nat.lt_of_lt_of_le (show 2 * i + 1 < 1000 by omega) (by decide)), ?_⟩⟩)
      refine ⟨_, _, p4, rows ++ [(bar, ps), (bar, ps2)], rfl, by rw [Mem.set_ne hla.symm]; exact hA6, ok4, ?_, by rw [List.length_append, hlen]; show 2 * i + 2 = _; omega, by omega, fun r hr => ?_⟩
      · rw [Mem.set_same, List.map_append, List.append_assoc]
        rfl
      · rcases List.mem_append.mp hr with hr | hr
        · exact hrows r hr
        · rcases List.mem_cons.mp hr with rfl | hr
          · exact ⟨hps, by rw [eps]; exact hts, hbl, 1 + m, by omega, hbc⟩
          · rw [List.mem_singleton.mp hr]
            exact ⟨hps2, hpl2, hbl, 1 + m, by omega, hbc⟩
    · obtain ⟨x3, x4, q, rows, rfl, hA2, okq, hL, hlen, hi5, hrows⟩ := iv
      exact ⟨x3, x4, q, rows, rfl, hA2, okq, hL, by omega, hrows⟩
  subst eρ
  have hrl : (rows.map rowB).length = rows.length := List.length_map _
  refine bv_still 2 rfl hL ?_
  have hA3 : (M.del l) a = some q.mo := by rw [Mem.del_ne hla.symm]; exact hA2
  show BV _ _ [some (.lst (ns.map dI)), some (dP a), some (.lst (rows.map rowB)), x3, x4, none, none, none, none, none] (M.del l) _
  generalize M.del l = M1 at hA3
  refine bv_cons (sv_join (fun ρ M => ∃ (x5 : Option D) (q : Pool), ρ = [some (.lst (ns.map dI)), some (dP a), some (.lst (rows.map rowB)), x3, x4, x5, none, none, none, none] ∧ M a = some q.mo ∧ q.Ok) (sw_for rfl (pg_name (i := 5) sc_law.nd rfl (.inl rfl)) ?_) (fun ρ M2 ⟨x5, q2, eρ, hA4, okq2⟩ => ?_))
  · refine iw_tup ?_
    refine ew_callW c_order (hr.mono (by decide)) (aw_av (av_cons (ev_var 1 rfl) (av_cons (ev_lenL T.len (ev_var 2 rfl)) av_nil)) ⟨a, q, _, rfl, hA3, okq, by omega, by omega, fun ks kl km p1 ok1 M2 fr1 hA4 => ⟨_, rfl, ⟨fun i ρ M => ∃ (x5 : Option D), ρ = [some (.lst (ns.map dI)), some (dP a), some (.lst (rows.map rowB)), x3, x4, x5, none, none, none, none] ∧ M a = some p1.mo, ⟨_, rfl, hA4⟩, fun i d ρ' M' hd iv => ?_, fun ρ' M' iv => ?_⟩⟩⟩)
    · obtain ⟨x5, rfl, hA5⟩ := iv
      rw [List.getElem?_map, Option.map_eq_some_iff] at hd
      obtain ⟨k, hk, rfl⟩ := hd
      have k0 := km k (List.mem_of_getElem? hk)
      have hkr : k.toNat < rows.length := by omega
      have hg : rows[k.toNat]? = some rows[k.toNat] := List.getElem?_eq_getElem hkr
      have hro := hrows rows[k.toNat] (List.getElem_mem hkr)
      generalize rows[k.toNat] = r at hg hro
      obtain ⟨bar, ps⟩ := r
      obtain ⟨v, hv, hc⟩ := hro.ex
      have hix : atI (rows.map rowB) k = some (rowB (bar, ps)) := atI_nat (k := k.toNat) (by rw [List.getElem?_map, hg]; rfl) (by omega)
      refine ⟨_, tg_name, ?_⟩
      refine bv_one (sv_if (p := false) (M1 := M') (tv_to (tv_not (tv_val (ev_call c_same (hr.mono (by decide)) (av_cons (ev_call c_p_read_bar (hr.mono (by decide)) (av_cons (ev_ixT (ds := [barD bar, dS (S (TL.joinL [124] ps))]) (ev_ixL (ev_var 2 rfl) (ev_var 5 rfl) hix) ev_int rfl) av_nil) ⟨ps, bar, v, rfl, hro.pcs.1, hro.pcs.2, hro.len, hro.cl, hc, hv, rfl, rfl⟩) (av_cons (ev_ixT (ds := [barD bar, dS (S (TL.joinL [124] ps))]) (ev_ixL (ev_var 2 rfl) (ev_var 5 rfl) hix) ev_int rfl) av_nil)) ⟨barD bar, rfl, okD_of_tup (tup_bar (by have := hro.cl; simp only at this; omega) (fun c q => by rw [(hc c q).len]; omega)), rfl, rfl⟩))) rfl) (fun h => nomatch h) (fun _ => bv_nil ⟨_, rfl, hA5⟩))
    · obtain ⟨x5, rfl, hA5⟩ := iv
      exact ⟨x5, p1, rfl, hA5, ok1⟩
  subst eρ
  refine bv_cons (sw_setLcN 6 (own := [("k", 5)]) (g := gName 5) rfl sc_law.nd (blkOk_by (N := ["script", "pool", "rows", "turn", "bar", "k", "wide", "row", "handed", "kept"]) (sc := defScope s_law) (by decide +kernel)) (fun _ _ _ _ _ => (pg_name (i := 5) sc_law.nd rfl (.inl rfl))) ?_)
  refine iw_range1 T.range ?_
  refine ew_callW c_take (hr.mono (by decide)) (aw_av (av_cons (ev_var 1 rfl) (av_cons ev_int av_nil)) ⟨a, q2, 2, rfl, hA4, okq2, by decide, by decide, fun n3 lo3 hi3 p3 ok3 M3 fr3 hA5 => ⟨n3, rfl, by omega, ?_⟩⟩)
  refine ⟨by rw [rgD_len]; exact Nat.le_trans (show n3.toNat ≤ 2 by omega) (by decide), fun i acc M4 => ∃ (bs : List (List Col)) (q : Pool), acc = bs.map barD ∧ bs.length = i ∧ (∀ b ∈ bs, BarT b) ∧ M4 a = some q.mo ∧ q.Ok, ⟨[], p3, rfl, rfl, (fun b hb => nomatch hb), hA5, ok3⟩, fun i d acc M4 hd hacc iv => ?_, fun acc M4 hacc iv => ?_⟩
  · obtain ⟨bs, q, rfl, len, hbs, hA, ok⟩ := iv
    refine ⟨_, tgb_name, fun y hy s H C cl fp => ?_⟩
    refine ew_callW c_long_row (hr.mono (by decide)) (aw_cons (ew_ev (ev_var 1 rfl) (aw_one (ew_op op_add (ew_ev ev_int ⟨_, rfl, ?_⟩)))))
    refine ew_callW c_take (hr.mono (by decide)) (aw_av (av_cons (ev_var 1 rfl) (av_cons ev_int av_nil)) ⟨a, q, 4, rfl, Mem.set_at hA hy, ok, by decide, by decide, fun n2 lo2 hi2 p2 ok2 M2 fr2 hA3 => ⟨_, _, rfl, rs_I0, ?_⟩⟩)
    obtain ⟨m, rfl⟩ := Int.eq_ofNat_of_zero_le lo2
    refine ⟨a, p2, 1 + m, by rw [Int.natCast_add]; rfl, hA3, ok2, by omega, fun bar hbl hbc p4 ok4 M5 fr5 hA6 => ?_⟩
    obtain ⟨e1, e2, e3, e4⟩ := lc_back hA hy (fr2.trans fr5)
    refine ⟨_, e1, e2, bs ++ [bar], p4, by rw [List.map_append]; rfl, by rw [List.length_append, len]; rfl, fun b hb => ?_, e4 _ hA6, ok4⟩
    rcases List.mem_append.mp hb with hb | hb
    · exact hbs b hb
    · rw [List.mem_singleton.mp hb]
      exact ⟨hbl.2, hbc⟩
  · obtain ⟨bs, q, rfl, len, hbs, hA, ok⟩ := iv
    rw [rgD_len] at len
    intro wd hwd
    have hA7 := Mem.set_at (u := .lst (bs.map barD)) hA hwd
    show BV _ _ [some (.lst (ns.map dI)), some (dP a), some (.lst (rows.map rowB)), x3, x4, x5, some (dP wd), none, none, none] (M4.set wd (.lst (bs.map barD))) _
    have hW : (M4.set wd (.lst (bs.map barD))) wd = some (.lst (bs.map barD)) := Mem.set_same
    generalize M4.set wd (.lst (bs.map barD)) = M5 at hA7 hW
    refine bv_cons (sw_for rfl (pg_name (i := 4) sc_law.nd rfl (.inl rfl)) ?_)
    refine iw_list (ew_catL ?_)
    refine ew_lcN (own := [("row", 7)]) (g := gName 7) rfl sc_law.nd (blkOk_by (N := ["script", "pool", "rows", "turn", "bar", "k", "wide", "row", "handed", "kept"]) (sc := defScope s_law) (by decide +kernel)) (fun _ _ _ _ _ => (pg_name (i := 7) sc_law.nd rfl (.inl rfl))) ?_
    refine iw_iv (iv_list (ds := rows.map rowB) (ev_var 2 rfl)) ⟨by rw [hrl]; exact Nat.le_trans hlen (by decide), fun i acc M6 => M6 = M5 ∧ acc = ((rows.take i).map (·.1)).map barD, ⟨rfl, rfl⟩, fun i d acc M6 hd hacc iv => ?_, fun acc M6 hacc iv => ?_⟩
    · obtain ⟨rfl, rfl⟩ := iv
      rw [List.getElem?_map, Option.map_eq_some_iff] at hd
      obtain ⟨r, hr1, rfl⟩ := hd
      refine ⟨_, tgb_name, fun y hy s H C cl fp => ew_ev (ev_ixT (ds := [barD r.1, dS (S (TL.joinL [124] r.2))]) (ev_var 7 rfl) ev_int rfl) ⟨M6, rfl, hy, rfl, ?_⟩⟩
      rw [List.take_add_one, hr1, List.map_append, List.map_append]
      rfl
    · obtain ⟨rfl, rfl⟩ := iv
      rw [hrl, List.take_length]
      intro y hy
      refine ⟨y, (rows.map (·.1)).map barD, rfl, Mem.set_same, ew_ev (ev_var 6 rfl) ⟨wd, bs.map barD, rfl, Mem.set_same, Mem.set_at hW hy, ?_, _, rfl, ?_⟩⟩
      · rw [List.length_map, List.length_map, List.length_map, len]
        exact Nat.le_trans (show rows.length + n3.toNat ≤ 20 by omega) (by decide)
      have hA8 := Mem.set_at (u := .lst ((rows.map (·.1)).map barD)) hA7 hy
      generalize M6.set y (.lst ((rows.map (·.1)).map barD)) = M7 at hA8
      have hall : ∀ d ∈ (rows.map (·.1)).map barD ++ bs.map barD, ∃ b, d = barD b ∧ BarT b := fun d hd => by
        rcases List.mem_append.mp hd with hd | hd
        · obtain ⟨b, hb, rfl⟩ := List.mem_map.mp hd
          obtain ⟨r, hr1, rfl⟩ := List.mem_map.mp hb
          exact ⟨_, rfl, (hrows r hr1).bar⟩
        · obtain ⟨b, hb, rfl⟩ := List.mem_map.mp hd
          exact ⟨b, rfl, hbs b hb⟩
      refine ⟨fun i ρ M => ∃ (x4 x8 x9 : Option D) (q : Pool), ρ = [some (.lst (ns.map dI)), some (dP a), some (.lst (rows.map rowB)), x3, x4, x5, some (dP wd), none, x8, x9] ∧ M a = some q.mo ∧ q.Ok, ⟨_, _, _, q, rfl, hA8, ok⟩, fun i d ρ' M' hd iv => ?_, fun ρ' M' iv => ?_⟩
      · obtain ⟨x4, x8, x9, q, rfl, hA, ok⟩ := iv
        obtain ⟨b, rfl, hb⟩ := hall d (List.mem_of_getElem? hd)
        have hb1 := hb.len
        have hb2 := hb.col
        refine ⟨_, tg_name, ?_⟩
        refine bv_cons (sw_set 8 sc_law.nd ?_)
        refine ew_callW c_pick (hr.mono (by decide)) (aw_av (av_cons (ev_var 1 rfl) (av_cons (ev_lst (av_cons (ev_var 4 rfl) (av_cons (ev_var 4 rfl) (av_cons (ev_listL (b := false) (ds := b.map colD) T.list (ev_var 4 rfl)) (av_cons (ev_call c_listed (hr.mono (by decide)) (av_cons (ev_var 4 rfl) av_nil) ⟨barD b, rfl, tup_bar (by omega) (fun c hc => by have := (hb2 c hc).len; omega), rfl, rfl⟩) av_nil))))) av_nil)) ⟨a, q, true, _, rfl, hA, ok, by simp, by simp, fun d3 g3 p3 ok3 M3 fr3 hA3 => ?_⟩)
        obtain ⟨b1, b2, rfl⟩ : ∃ b1 b2, d3 = barQ b1 b2 b := by
          rw [lst_bar] at g3
          rcases List.mem_cons.mp g3 with rfl | g3
          · exact ⟨false, false, rfl⟩
          rcases List.mem_cons.mp g3 with rfl | g3
          · exact ⟨false, false, rfl⟩
          rcases List.mem_cons.mp g3 with rfl | g3
          · exact ⟨true, false, rfl⟩
          rcases List.mem_cons.mp g3 with rfl | g3
          · exact ⟨true, true, rfl⟩
          cases g3
        have rpb := rp_barT hb1 hb2 b1 b2
        refine bv_cons (sv_set 9 sc_law.nd (ev_reprB g hr hrep (ev_var 8 rfl) rpb sq_nv (by decide) (by decide)) ?_)
        refine bv_one (sv_if (PW.pt (wv_or (tv_not (tv_val (ev_call c_same (hr.mono (by decide)) (av_cons (ev_call c_p_bar_text (hr.mono (by decide)) (av_cons (ev_var 8 rfl) av_nil) ⟨b1, b2, b, rfl, hb1, hb2, rfl, rfl⟩) (av_cons (ev_call c_text (hr.mono (by decide)) (av_cons (ev_var 4 rfl) av_nil) ⟨b, rfl, hb1, hb2, rfl, rfl⟩) av_nil)) ⟨_, rfl, okD_str _, rfl, rfl⟩))) (fun _ => wv_one_or (tv_cmpR op_ne (ev_reprB g hr hrep (ev_var 8 rfl) rpb sq_nv (by decide) (by decide)) (ev_var 9 rfl) rs_neS (nomark _))))) (fun h => ?_) (fun _ => bv_nil ?_))
        · rw [decide_eq_true rfl] at h
          cases h
        · exact ⟨_, _, _, p3, rfl, hA3, ok3⟩
      · obtain ⟨x4, x8, x9, q, rfl, hA, ok⟩ := iv
        exact bv_one (sv_ret ev_bl rfl)
end
theorem all_mk {l : PySem.W.OpenLaw} {w : World} {K : PySem.W.Frag} {h : Heap} {mg : Str → Option Value} {fa f_take f_pool f_pick f_is_integer f_same f_tone f_order f_far_pair f_lowest f_duration f_column f_bar f_listed f_below f_p_is_row f_p_is_pair f_p_is_number f_p_is_whole f_p_is_tone f_p_is_short_fraction f_p_is_entry f_p_reason f_p_tuple_of f_p_entries f_p_with_tones f_p_as_tuples f_p_steps f_p_with_steps f_p_number_in f_p_letter_name f_p_tone_name f_p_tone_meant f_p_read_tone f_p_fraction_text f_p_entry_text f_p_column_text f_p_bar_text f_p_check_bar f_p_fraction_in f_p_entry_in f_p_column_in f_p_read_bar f_letter f_tone_text f_cell_words f_text f_pad f_spaced f_far_bar f_long_row f_law : Addr} (X : K.In h) (G : h.Ns mainGlobals mg) (hfa : mg "law" = some (.ref fa))
    {t_FAR t_MOST_PARTS t_MOST_ACCENT t_MOST_VOICES t_MOST_COLUMNS : Tok}
    {t_DIGITS t_LETTERS t_MOSTN t_MOSTB : Tok} {f_PLAIN : Addr} {od_PLAIN : Option Addr} {sl_PLAIN : Array (Option Value)} {n_PLAIN : Nat} {t0 t1 t2 t3 t4 t5 t6 : Tok}
    {od_take an_take od_pool an_pool od_pick an_pick od_is_integer an_is_integer od_same an_same od_tone an_tone od_order an_order od_far_pair an_far_pair od_lowest an_lowest od_duration an_duration od_column an_column od_bar an_bar od_listed an_listed od_below an_below od_p_is_row an_p_is_row od_p_is_pair an_p_is_pair od_p_is_number an_p_is_number od_p_is_whole an_p_is_whole od_p_is_tone an_p_is_tone od_p_is_short_fraction an_p_is_short_fraction od_p_is_entry an_p_is_entry od_p_reason an_p_reason od_p_tuple_of an_p_tuple_of od_p_entries an_p_entries od_p_with_tones an_p_with_tones od_p_as_tuples an_p_as_tuples od_p_steps an_p_steps od_p_with_steps an_p_with_steps od_p_number_in an_p_number_in od_p_letter_name an_p_letter_name od_p_tone_name an_p_tone_name od_p_tone_meant an_p_tone_meant od_p_read_tone an_p_read_tone od_p_fraction_text an_p_fraction_text od_p_entry_text an_p_entry_text od_p_column_text an_p_column_text od_p_bar_text an_p_bar_text od_p_check_bar an_p_check_bar od_p_fraction_in an_p_fraction_in od_p_entry_in an_p_entry_in od_p_column_in an_p_column_in od_p_read_bar an_p_read_bar od_letter an_letter od_tone_text an_tone_text od_cell_words an_cell_words od_text an_text od_pad an_pad od_spaced an_spaced od_far_bar an_far_bar od_long_row an_long_row od_law an_law : Option Addr} {sl_take sl_pool sl_pick sl_is_integer sl_same sl_tone sl_order sl_far_pair sl_lowest sl_duration sl_column sl_bar sl_listed sl_below sl_p_is_row sl_p_is_pair sl_p_is_number sl_p_is_whole sl_p_is_tone sl_p_is_short_fraction sl_p_is_entry sl_p_reason sl_p_tuple_of sl_p_entries sl_p_with_tones sl_p_as_tuples sl_p_steps sl_p_with_steps sl_p_number_in sl_p_letter_name sl_p_tone_name sl_p_tone_meant sl_p_read_tone sl_p_fraction_text sl_p_entry_text sl_p_column_text sl_p_bar_text sl_p_check_bar sl_p_fraction_in sl_p_entry_in sl_p_column_in sl_p_read_bar sl_letter sl_tone_text sl_cell_words sl_text sl_pad sl_spaced sl_far_bar sl_long_row sl_law : Array (Option Value)} {oc_take kV_take dc_take pm_take cd_take ct_take oc_pool kV_pool dc_pool pm_pool cd_pool ct_pool oc_pick kV_pick dc_pick pm_pick cd_pick ct_pick oc_is_integer kV_is_integer dc_is_integer pm_is_integer cd_is_integer ct_is_integer oc_same kV_same dc_same pm_same cd_same ct_same oc_tone kV_tone dc_tone pm_tone cd_tone ct_tone oc_order kV_order dc_order pm_order cd_order ct_order oc_far_pair kV_far_pair dc_far_pair pm_far_pair cd_far_pair ct_far_pair oc_lowest kV_lowest dc_lowest pm_lowest cd_lowest ct_lowest oc_duration kV_duration dc_duration pm_duration cd_duration ct_duration oc_column kV_column dc_column pm_column cd_column ct_column oc_bar kV_bar dc_bar pm_bar cd_bar ct_bar oc_listed kV_listed dc_listed pm_listed cd_listed ct_listed oc_below kV_below dc_below pm_below cd_below ct_below oc_p_is_row kV_p_is_row dc_p_is_row pm_p_is_row cd_p_is_row ct_p_is_row oc_p_is_pair kV_p_is_pair dc_p_is_pair pm_p_is_pair cd_p_is_pair ct_p_is_pair oc_p_is_number kV_p_is_number dc_p_is_number pm_p_is_number cd_p_is_number ct_p_is_number oc_p_is_whole kV_p_is_whole dc_p_is_whole pm_p_is_whole cd_p_is_whole ct_p_is_whole oc_p_is_tone kV_p_is_tone dc_p_is_tone pm_p_is_tone cd_p_is_tone ct_p_is_tone oc_p_is_short_fraction kV_p_is_short_fraction dc_p_is_short_fraction pm_p_is_short_fraction cd_p_is_short_fraction ct_p_is_short_fraction oc_p_is_entry kV_p_is_entry dc_p_is_entry pm_p_is_entry cd_p_is_entry ct_p_is_entry oc_p_reason kV_p_reason dc_p_reason pm_p_reason cd_p_reason ct_p_reason oc_p_tuple_of kV_p_tuple_of dc_p_tuple_of pm_p_tuple_of cd_p_tuple_of ct_p_tuple_of oc_p_entries kV_p_entries dc_p_entries pm_p_entries cd_p_entries ct_p_entries oc_p_with_tones kV_p_with_tones dc_p_with_tones pm_p_with_tones cd_p_with_tones ct_p_with_tones oc_p_as_tuples kV_p_as_tuples dc_p_as_tuples pm_p_as_tuples cd_p_as_tuples ct_p_as_tuples oc_p_steps kV_p_steps dc_p_steps pm_p_steps cd_p_steps ct_p_steps oc_p_with_steps kV_p_with_steps dc_p_with_steps pm_p_with_steps cd_p_with_steps ct_p_with_steps oc_p_number_in kV_p_number_in dc_p_number_in pm_p_number_in cd_p_number_in ct_p_number_in oc_p_letter_name kV_p_letter_name dc_p_letter_name pm_p_letter_name cd_p_letter_name ct_p_letter_name oc_p_tone_name kV_p_tone_name dc_p_tone_name pm_p_tone_name cd_p_tone_name ct_p_tone_name oc_p_tone_meant kV_p_tone_meant dc_p_tone_meant pm_p_tone_meant cd_p_tone_meant ct_p_tone_meant oc_p_read_tone kV_p_read_tone dc_p_read_tone pm_p_read_tone cd_p_read_tone ct_p_read_tone oc_p_fraction_text kV_p_fraction_text dc_p_fraction_text pm_p_fraction_text cd_p_fraction_text ct_p_fraction_text oc_p_entry_text kV_p_entry_text dc_p_entry_text pm_p_entry_text cd_p_entry_text ct_p_entry_text oc_p_column_text kV_p_column_text dc_p_column_text pm_p_column_text cd_p_column_text ct_p_column_text oc_p_bar_text kV_p_bar_text dc_p_bar_text pm_p_bar_text cd_p_bar_text ct_p_bar_text oc_p_check_bar kV_p_check_bar dc_p_check_bar pm_p_check_bar cd_p_check_bar ct_p_check_bar oc_p_fraction_in kV_p_fraction_in dc_p_fraction_in pm_p_fraction_in cd_p_fraction_in ct_p_fraction_in oc_p_entry_in kV_p_entry_in dc_p_entry_in pm_p_entry_in cd_p_entry_in ct_p_entry_in oc_p_column_in kV_p_column_in dc_p_column_in pm_p_column_in cd_p_column_in ct_p_column_in oc_p_read_bar kV_p_read_bar dc_p_read_bar pm_p_read_bar cd_p_read_bar ct_p_read_bar oc_letter kV_letter dc_letter pm_letter cd_letter ct_letter oc_tone_text kV_tone_text dc_tone_text pm_tone_text cd_tone_text ct_tone_text oc_cell_words kV_cell_words dc_cell_words pm_cell_words cd_cell_words ct_cell_words oc_text kV_text dc_text pm_text cd_text ct_text oc_pad kV_pad dc_pad pm_pad cd_pad ct_pad oc_spaced kV_spaced dc_spaced pm_spaced cd_spaced ct_spaced oc_far_bar kV_far_bar dc_far_bar pm_far_bar cd_far_bar ct_far_bar oc_long_row kV_long_row dc_long_row pm_long_row cd_long_row ct_long_row oc_law kV_law dc_law pm_law cd_law ct_law : Value}
    (a_take : PySem.W.nsIn K mainGlobals "_law_take" = some (some (.ref f_take))) (l_take : K.lookup f_take = some ⟨oc_take, od_take, .func (PySem.W.fnOf "_law_take" "_law_take" (defArgs s_take) (defBody s_take) (defScope s_take) .none kV_take dc_take pm_take an_take cd_take ct_take), sl_take⟩) (c_take : PySem.W.codeIn K cd_take "_law_take" = true) (k_take : PySem.W.keepIn K (.ref f_take) = true)
    (a_pool : PySem.W.nsIn K mainGlobals "_law_pool" = some (some (.ref f_pool))) (l_pool : K.lookup f_pool = some ⟨oc_pool, od_pool, .func (PySem.W.fnOf "_law_pool" "_law_pool" (defArgs s_pool) (defBody s_pool) (defScope s_pool) .none kV_pool dc_pool pm_pool an_pool cd_pool ct_pool), sl_pool⟩) (c_pool : PySem.W.codeIn K cd_pool "_law_pool" = true) (k_pool : PySem.W.keepIn K (.ref f_pool) = true)
    (a_pick : PySem.W.nsIn K mainGlobals "_law_pick" = some (some (.ref f_pick))) (l_pick : K.lookup f_pick = some ⟨oc_pick, od_pick, .func (PySem.W.fnOf "_law_pick" "_law_pick" (defArgs s_pick) (defBody s_pick) (defScope s_pick) .none kV_pick dc_pick pm_pick an_pick cd_pick ct_pick), sl_pick⟩) (c_pick : PySem.W.codeIn K cd_pick "_law_pick" = true) (k_pick : PySem.W.keepIn K (.ref f_pick) = true)
    (a_is_integer : PySem.W.nsIn K mainGlobals "_law_is_integer" = some (some (.ref f_is_integer))) (l_is_integer : K.lookup f_is_integer = some ⟨oc_is_integer, od_is_integer, .func (PySem.W.fnOf "_law_is_integer" "_law_is_integer" (defArgs s_is_integer) (defBody s_is_integer) (defScope s_is_integer) .none kV_is_integer dc_is_integer pm_is_integer an_is_integer cd_is_integer ct_is_integer), sl_is_integer⟩) (c_is_integer : PySem.W.codeIn K cd_is_integer "_law_is_integer" = true) (k_is_integer : PySem.W.keepIn K (.ref f_is_integer) = true)
    (a_same : PySem.W.nsIn K mainGlobals "_law_same" = some (some (.ref f_same))) (l_same : K.lookup f_same = some ⟨oc_same, od_same, .func (PySem.W.fnOf "_law_same" "_law_same" (defArgs s_same) (defBody s_same) (defScope s_same) .none kV_same dc_same pm_same an_same cd_same ct_same), sl_same⟩) (c_same : PySem.W.codeIn K cd_same "_law_same" = true) (k_same : PySem.W.keepIn K (.ref f_same) = true)
    (a_tone : PySem.W.nsIn K mainGlobals "_law_tone" = some (some (.ref f_tone))) (l_tone : K.lookup f_tone = some ⟨oc_tone, od_tone, .func (PySem.W.fnOf "_law_tone" "_law_tone" (defArgs s_tone) (defBody s_tone) (defScope s_tone) .none kV_tone dc_tone pm_tone an_tone cd_tone ct_tone), sl_tone⟩) (c_tone : PySem.W.codeIn K cd_tone "_law_tone" = true) (k_tone : PySem.W.keepIn K (.ref f_tone) = true)
    (a_order : PySem.W.nsIn K mainGlobals "_law_order" = some (some (.ref f_order))) (l_order : K.lookup f_order = some ⟨oc_order, od_order, .func (PySem.W.fnOf "_law_order" "_law_order" (defArgs s_order) (defBody s_order) (defScope s_order) .none kV_order dc_order pm_order an_order cd_order ct_order), sl_order⟩) (c_order : PySem.W.codeIn K cd_order "_law_order" = true) (k_order : PySem.W.keepIn K (.ref f_order) = true)
    (a_far_pair : PySem.W.nsIn K mainGlobals "_law_far_pair" = some (some (.ref f_far_pair))) (l_far_pair : K.lookup f_far_pair = some ⟨oc_far_pair, od_far_pair, .func (PySem.W.fnOf "_law_far_pair" "_law_far_pair" (defArgs s_far_pair) (defBody s_far_pair) (defScope s_far_pair) .none kV_far_pair dc_far_pair pm_far_pair an_far_pair cd_far_pair ct_far_pair), sl_far_pair⟩) (c_far_pair : PySem.W.codeIn K cd_far_pair "_law_far_pair" = true) (k_far_pair : PySem.W.keepIn K (.ref f_far_pair) = true)
    (a_lowest : PySem.W.nsIn K mainGlobals "_law_lowest" = some (some (.ref f_lowest))) (l_lowest : K.lookup f_lowest = some ⟨oc_lowest, od_lowest, .func (PySem.W.fnOf "_law_lowest" "_law_lowest" (defArgs s_lowest) (defBody s_lowest) (defScope s_lowest) .none kV_lowest dc_lowest pm_lowest an_lowest cd_lowest ct_lowest), sl_lowest⟩) (c_lowest : PySem.W.codeIn K cd_lowest "_law_lowest" = true) (k_lowest : PySem.W.keepIn K (.ref f_lowest) = true)
    (a_duration : PySem.W.nsIn K mainGlobals "_law_duration" = some (some (.ref f_duration))) (l_duration : K.lookup f_duration = some ⟨oc_duration, od_duration, .func (PySem.W.fnOf "_law_duration" "_law_duration" (defArgs s_duration) (defBody s_duration) (defScope s_duration) .none kV_duration dc_duration pm_duration an_duration cd_duration ct_duration), sl_duration⟩) (c_duration : PySem.W.codeIn K cd_duration "_law_duration" = true) (k_duration : PySem.W.keepIn K (.ref f_duration) = true)
    (a_column : PySem.W.nsIn K mainGlobals "_law_column" = some (some (.ref f_column))) (l_column : K.lookup f_column = some ⟨oc_column, od_column, .func (PySem.W.fnOf "_law_column" "_law_column" (defArgs s_column) (defBody s_column) (defScope s_column) .none kV_column dc_column pm_column an_column cd_column ct_column), sl_column⟩) (c_column : PySem.W.codeIn K cd_column "_law_column" = true) (k_column : PySem.W.keepIn K (.ref f_column) = true)
    (a_bar : PySem.W.nsIn K mainGlobals "_law_bar" = some (some (.ref f_bar))) (l_bar : K.lookup f_bar = some ⟨oc_bar, od_bar, .func (PySem.W.fnOf "_law_bar" "_law_bar" (defArgs s_bar) (defBody s_bar) (defScope s_bar) .none kV_bar dc_bar pm_bar an_bar cd_bar ct_bar), sl_bar⟩) (c_bar : PySem.W.codeIn K cd_bar "_law_bar" = true) (k_bar : PySem.W.keepIn K (.ref f_bar) = true)
    (a_listed : PySem.W.nsIn K mainGlobals "_law_listed" = some (some (.ref f_listed))) (l_listed : K.lookup f_listed = some ⟨oc_listed, od_listed, .func (PySem.W.fnOf "_law_listed" "_law_listed" (defArgs s_listed) (defBody s_listed) (defScope s_listed) .none kV_listed dc_listed pm_listed an_listed cd_listed ct_listed), sl_listed⟩) (c_listed : PySem.W.codeIn K cd_listed "_law_listed" = true) (k_listed : PySem.W.keepIn K (.ref f_listed) = true)
    (a_below : PySem.W.nsIn K mainGlobals "_law_below" = some (some (.ref f_below))) (l_below : K.lookup f_below = some ⟨oc_below, od_below, .func (PySem.W.fnOf "_law_below" "_law_below" (defArgs s_below) (defBody s_below) (defScope s_below) .none kV_below dc_below pm_below an_below cd_below ct_below), sl_below⟩) (c_below : PySem.W.codeIn K cd_below "_law_below" = true) (k_below : PySem.W.keepIn K (.ref f_below) = true)
    (a_p_is_row : PySem.W.nsIn K mainGlobals "is_row" = some (some (.ref f_p_is_row))) (l_p_is_row : K.lookup f_p_is_row = some ⟨oc_p_is_row, od_p_is_row, .func (PySem.W.fnOf "is_row" "is_row" (defArgs s_p_is_row) (defBody s_p_is_row) (defScope s_p_is_row) .none kV_p_is_row dc_p_is_row pm_p_is_row an_p_is_row cd_p_is_row ct_p_is_row), sl_p_is_row⟩) (c_p_is_row : PySem.W.codeIn K cd_p_is_row "is_row" = true) (k_p_is_row : PySem.W.keepIn K (.ref f_p_is_row) = true)
    (a_p_is_pair : PySem.W.nsIn K mainGlobals "is_pair" = some (some (.ref f_p_is_pair))) (l_p_is_pair : K.lookup f_p_is_pair = some ⟨oc_p_is_pair, od_p_is_pair, .func (PySem.W.fnOf "is_pair" "is_pair" (defArgs s_p_is_pair) (defBody s_p_is_pair) (defScope s_p_is_pair) .none kV_p_is_pair dc_p_is_pair pm_p_is_pair an_p_is_pair cd_p_is_pair ct_p_is_pair), sl_p_is_pair⟩) (c_p_is_pair : PySem.W.codeIn K cd_p_is_pair "is_pair" = true) (k_p_is_pair : PySem.W.keepIn K (.ref f_p_is_pair) = true)
    (a_p_is_number : PySem.W.nsIn K mainGlobals "is_number" = some (some (.ref f_p_is_number))) (l_p_is_number : K.lookup f_p_is_number = some ⟨oc_p_is_number, od_p_is_number, .func (PySem.W.fnOf "is_number" "is_number" (defArgs s_p_is_number) (defBody s_p_is_number) (defScope s_p_is_number) .none kV_p_is_number dc_p_is_number pm_p_is_number an_p_is_number cd_p_is_number ct_p_is_number), sl_p_is_number⟩) (c_p_is_number : PySem.W.codeIn K cd_p_is_number "is_number" = true) (k_p_is_number : PySem.W.keepIn K (.ref f_p_is_number) = true)
    (a_p_is_whole : PySem.W.nsIn K mainGlobals "is_whole" = some (some (.ref f_p_is_whole))) (l_p_is_whole : K.lookup f_p_is_whole = some ⟨oc_p_is_whole, od_p_is_whole, .func (PySem.W.fnOf "is_whole" "is_whole" (defArgs s_p_is_whole) (defBody s_p_is_whole) (defScope s_p_is_whole) .none kV_p_is_whole dc_p_is_whole pm_p_is_whole an_p_is_whole cd_p_is_whole ct_p_is_whole), sl_p_is_whole⟩) (c_p_is_whole : PySem.W.codeIn K cd_p_is_whole "is_whole" = true) (k_p_is_whole : PySem.W.keepIn K (.ref f_p_is_whole) = true)
    (a_p_is_tone : PySem.W.nsIn K mainGlobals "is_tone" = some (some (.ref f_p_is_tone))) (l_p_is_tone : K.lookup f_p_is_tone = some ⟨oc_p_is_tone, od_p_is_tone, .func (PySem.W.fnOf "is_tone" "is_tone" (defArgs s_p_is_tone) (defBody s_p_is_tone) (defScope s_p_is_tone) .none kV_p_is_tone dc_p_is_tone pm_p_is_tone an_p_is_tone cd_p_is_tone ct_p_is_tone), sl_p_is_tone⟩) (c_p_is_tone : PySem.W.codeIn K cd_p_is_tone "is_tone" = true) (k_p_is_tone : PySem.W.keepIn K (.ref f_p_is_tone) = true)
    (a_p_is_short_fraction : PySem.W.nsIn K mainGlobals "is_short_fraction" = some (some (.ref f_p_is_short_fraction))) (l_p_is_short_fraction : K.lookup f_p_is_short_fraction = some ⟨oc_p_is_short_fraction, od_p_is_short_fraction, .func (PySem.W.fnOf "is_short_fraction" "is_short_fraction" (defArgs s_p_is_short_fraction) (defBody s_p_is_short_fraction) (defScope s_p_is_short_fraction) .none kV_p_is_short_fraction dc_p_is_short_fraction pm_p_is_short_fraction an_p_is_short_fraction cd_p_is_short_fraction ct_p_is_short_fraction), sl_p_is_short_fraction⟩) (c_p_is_short_fraction : PySem.W.codeIn K cd_p_is_short_fraction "is_short_fraction" = true) (k_p_is_short_fraction : PySem.W.keepIn K (.ref f_p_is_short_fraction) = true)
    (a_p_is_entry : PySem.W.nsIn K mainGlobals "_is_entry" = some (some (.ref f_p_is_entry))) (l_p_is_entry : K.lookup f_p_is_entry = some ⟨oc_p_is_entry, od_p_is_entry, .func (PySem.W.fnOf "_is_entry" "_is_entry" (defArgs s_p_is_entry) (defBody s_p_is_entry) (defScope s_p_is_entry) .none kV_p_is_entry dc_p_is_entry pm_p_is_entry an_p_is_entry cd_p_is_entry ct_p_is_entry), sl_p_is_entry⟩) (c_p_is_entry : PySem.W.codeIn K cd_p_is_entry "_is_entry" = true) (k_p_is_entry : PySem.W.keepIn K (.ref f_p_is_entry) = true)
    (a_p_reason : PySem.W.nsIn K mainGlobals "_reason" = some (some (.ref f_p_reason))) (l_p_reason : K.lookup f_p_reason = some ⟨oc_p_reason, od_p_reason, .func (PySem.W.fnOf "_reason" "_reason" (defArgs s_p_reason) (defBody s_p_reason) (defScope s_p_reason) .none kV_p_reason dc_p_reason pm_p_reason an_p_reason cd_p_reason ct_p_reason), sl_p_reason⟩) (c_p_reason : PySem.W.codeIn K cd_p_reason "_reason" = true) (k_p_reason : PySem.W.keepIn K (.ref f_p_reason) = true)
    (a_p_tuple_of : PySem.W.nsIn K mainGlobals "tuple_of" = some (some (.ref f_p_tuple_of))) (l_p_tuple_of : K.lookup f_p_tuple_of = some ⟨oc_p_tuple_of, od_p_tuple_of, .func (PySem.W.fnOf "tuple_of" "tuple_of" (defArgs s_p_tuple_of) (defBody s_p_tuple_of) (defScope s_p_tuple_of) .none kV_p_tuple_of dc_p_tuple_of pm_p_tuple_of an_p_tuple_of cd_p_tuple_of ct_p_tuple_of), sl_p_tuple_of⟩) (c_p_tuple_of : PySem.W.codeIn K cd_p_tuple_of "tuple_of" = true) (k_p_tuple_of : PySem.W.keepIn K (.ref f_p_tuple_of) = true)
    (a_p_entries : PySem.W.nsIn K mainGlobals "_entries" = some (some (.ref f_p_entries))) (l_p_entries : K.lookup f_p_entries = some ⟨oc_p_entries, od_p_entries, .func (PySem.W.fnOf "_entries" "_entries" (defArgs s_p_entries) (defBody s_p_entries) (defScope s_p_entries) .none kV_p_entries dc_p_entries pm_p_entries an_p_entries cd_p_entries ct_p_entries), sl_p_entries⟩) (c_p_entries : PySem.W.codeIn K cd_p_entries "_entries" = true) (k_p_entries : PySem.W.keepIn K (.ref f_p_entries) = true)
    (a_p_with_tones : PySem.W.nsIn K mainGlobals "_with_tones" = some (some (.ref f_p_with_tones))) (l_p_with_tones : K.lookup f_p_with_tones = some ⟨oc_p_with_tones, od_p_with_tones, .func (PySem.W.fnOf "_with_tones" "_with_tones" (defArgs s_p_with_tones) (defBody s_p_with_tones) (defScope s_p_with_tones) .none kV_p_with_tones dc_p_with_tones pm_p_with_tones an_p_with_tones cd_p_with_tones ct_p_with_tones), sl_p_with_tones⟩) (c_p_with_tones : PySem.W.codeIn K cd_p_with_tones "_with_tones" = true) (k_p_with_tones : PySem.W.keepIn K (.ref f_p_with_tones) = true)
    (a_p_as_tuples : PySem.W.nsIn K mainGlobals "as_tuples" = some (some (.ref f_p_as_tuples))) (l_p_as_tuples : K.lookup f_p_as_tuples = some ⟨oc_p_as_tuples, od_p_as_tuples, .func (PySem.W.fnOf "as_tuples" "as_tuples" (defArgs s_p_as_tuples) (defBody s_p_as_tuples) (defScope s_p_as_tuples) .none kV_p_as_tuples dc_p_as_tuples pm_p_as_tuples an_p_as_tuples cd_p_as_tuples ct_p_as_tuples), sl_p_as_tuples⟩) (c_p_as_tuples : PySem.W.codeIn K cd_p_as_tuples "as_tuples" = true) (k_p_as_tuples : PySem.W.keepIn K (.ref f_p_as_tuples) = true)
    (a_p_steps : PySem.W.nsIn K mainGlobals "steps" = some (some (.ref f_p_steps))) (l_p_steps : K.lookup f_p_steps = some ⟨oc_p_steps, od_p_steps, .func (PySem.W.fnOf "steps" "steps" (defArgs s_p_steps) (defBody s_p_steps) (defScope s_p_steps) .none kV_p_steps dc_p_steps pm_p_steps an_p_steps cd_p_steps ct_p_steps), sl_p_steps⟩) (c_p_steps : PySem.W.codeIn K cd_p_steps "steps" = true) (k_p_steps : PySem.W.keepIn K (.ref f_p_steps) = true)
    (a_p_with_steps : PySem.W.nsIn K mainGlobals "with_steps" = some (some (.ref f_p_with_steps))) (l_p_with_steps : K.lookup f_p_with_steps = some ⟨oc_p_with_steps, od_p_with_steps, .func (PySem.W.fnOf "with_steps" "with_steps" (defArgs s_p_with_steps) (defBody s_p_with_steps) (defScope s_p_with_steps) .none kV_p_with_steps dc_p_with_steps pm_p_with_steps an_p_with_steps cd_p_with_steps ct_p_with_steps), sl_p_with_steps⟩) (c_p_with_steps : PySem.W.codeIn K cd_p_with_steps "with_steps" = true) (k_p_with_steps : PySem.W.keepIn K (.ref f_p_with_steps) = true)
    (a_p_number_in : PySem.W.nsIn K mainGlobals "number_in" = some (some (.ref f_p_number_in))) (l_p_number_in : K.lookup f_p_number_in = some ⟨oc_p_number_in, od_p_number_in, .func (PySem.W.fnOf "number_in" "number_in" (defArgs s_p_number_in) (defBody s_p_number_in) (defScope s_p_number_in) .none kV_p_number_in dc_p_number_in pm_p_number_in an_p_number_in cd_p_number_in ct_p_number_in), sl_p_number_in⟩) (c_p_number_in : PySem.W.codeIn K cd_p_number_in "number_in" = true) (k_p_number_in : PySem.W.keepIn K (.ref f_p_number_in) = true)
    (a_p_letter_name : PySem.W.nsIn K mainGlobals "letter_name" = some (some (.ref f_p_letter_name))) (l_p_letter_name : K.lookup f_p_letter_name = some ⟨oc_p_letter_name, od_p_letter_name, .func (PySem.W.fnOf "letter_name" "letter_name" (defArgs s_p_letter_name) (defBody s_p_letter_name) (defScope s_p_letter_name) .none kV_p_letter_name dc_p_letter_name pm_p_letter_name an_p_letter_name cd_p_letter_name ct_p_letter_name), sl_p_letter_name⟩) (c_p_letter_name : PySem.W.codeIn K cd_p_letter_name "letter_name" = true) (k_p_letter_name : PySem.W.keepIn K (.ref f_p_letter_name) = true)
    (a_p_tone_name : PySem.W.nsIn K mainGlobals "tone_name" = some (some (.ref f_p_tone_name))) (l_p_tone_name : K.lookup f_p_tone_name = some ⟨oc_p_tone_name, od_p_tone_name, .func (PySem.W.fnOf "tone_name" "tone_name" (defArgs s_p_tone_name) (defBody s_p_tone_name) (defScope s_p_tone_name) .none kV_p_tone_name dc_p_tone_name pm_p_tone_name an_p_tone_name cd_p_tone_name ct_p_tone_name), sl_p_tone_name⟩) (c_p_tone_name : PySem.W.codeIn K cd_p_tone_name "tone_name" = true) (k_p_tone_name : PySem.W.keepIn K (.ref f_p_tone_name) = true)
    (a_p_tone_meant : PySem.W.nsIn K mainGlobals "_tone_meant" = some (some (.ref f_p_tone_meant))) (l_p_tone_meant : K.lookup f_p_tone_meant = some ⟨oc_p_tone_meant, od_p_tone_meant, .func (PySem.W.fnOf "_tone_meant" "_tone_meant" (defArgs s_p_tone_meant) (defBody s_p_tone_meant) (defScope s_p_tone_meant) .none kV_p_tone_meant dc_p_tone_meant pm_p_tone_meant an_p_tone_meant cd_p_tone_meant ct_p_tone_meant), sl_p_tone_meant⟩) (c_p_tone_meant : PySem.W.codeIn K cd_p_tone_meant "_tone_meant" = true) (k_p_tone_meant : PySem.W.keepIn K (.ref f_p_tone_meant) = true)
    (a_p_read_tone : PySem.W.nsIn K mainGlobals "read_tone" = some (some (.ref f_p_read_tone))) (l_p_read_tone : K.lookup f_p_read_tone = some ⟨oc_p_read_tone, od_p_read_tone, .func (PySem.W.fnOf "read_tone" "read_tone" (defArgs s_p_read_tone) (defBody s_p_read_tone) (defScope s_p_read_tone) .none kV_p_read_tone dc_p_read_tone pm_p_read_tone an_p_read_tone cd_p_read_tone ct_p_read_tone), sl_p_read_tone⟩) (c_p_read_tone : PySem.W.codeIn K cd_p_read_tone "read_tone" = true) (k_p_read_tone : PySem.W.keepIn K (.ref f_p_read_tone) = true)
    (a_p_fraction_text : PySem.W.nsIn K mainGlobals "fraction_text" = some (some (.ref f_p_fraction_text))) (l_p_fraction_text : K.lookup f_p_fraction_text = some ⟨oc_p_fraction_text, od_p_fraction_text, .func (PySem.W.fnOf "fraction_text" "fraction_text" (defArgs s_p_fraction_text) (defBody s_p_fraction_text) (defScope s_p_fraction_text) .none kV_p_fraction_text dc_p_fraction_text pm_p_fraction_text an_p_fraction_text cd_p_fraction_text ct_p_fraction_text), sl_p_fraction_text⟩) (c_p_fraction_text : PySem.W.codeIn K cd_p_fraction_text "fraction_text" = true) (k_p_fraction_text : PySem.W.keepIn K (.ref f_p_fraction_text) = true)
    (a_p_entry_text : PySem.W.nsIn K mainGlobals "_entry_text" = some (some (.ref f_p_entry_text))) (l_p_entry_text : K.lookup f_p_entry_text = some ⟨oc_p_entry_text, od_p_entry_text, .func (PySem.W.fnOf "_entry_text" "_entry_text" (defArgs s_p_entry_text) (defBody s_p_entry_text) (defScope s_p_entry_text) .none kV_p_entry_text dc_p_entry_text pm_p_entry_text an_p_entry_text cd_p_entry_text ct_p_entry_text), sl_p_entry_text⟩) (c_p_entry_text : PySem.W.codeIn K cd_p_entry_text "_entry_text" = true) (k_p_entry_text : PySem.W.keepIn K (.ref f_p_entry_text) = true)
    (a_p_column_text : PySem.W.nsIn K mainGlobals "_column_text" = some (some (.ref f_p_column_text))) (l_p_column_text : K.lookup f_p_column_text = some ⟨oc_p_column_text, od_p_column_text, .func (PySem.W.fnOf "_column_text" "_column_text" (defArgs s_p_column_text) (defBody s_p_column_text) (defScope s_p_column_text) .none kV_p_column_text dc_p_column_text pm_p_column_text an_p_column_text cd_p_column_text ct_p_column_text), sl_p_column_text⟩) (c_p_column_text : PySem.W.codeIn K cd_p_column_text "_column_text" = true) (k_p_column_text : PySem.W.keepIn K (.ref f_p_column_text) = true)
    (a_p_bar_text : PySem.W.nsIn K mainGlobals "bar_text" = some (some (.ref f_p_bar_text))) (l_p_bar_text : K.lookup f_p_bar_text = some ⟨oc_p_bar_text, od_p_bar_text, .func (PySem.W.fnOf "bar_text" "bar_text" (defArgs s_p_bar_text) (defBody s_p_bar_text) (defScope s_p_bar_text) .none kV_p_bar_text dc_p_bar_text pm_p_bar_text an_p_bar_text cd_p_bar_text ct_p_bar_text), sl_p_bar_text⟩) (c_p_bar_text : PySem.W.codeIn K cd_p_bar_text "bar_text" = true) (k_p_bar_text : PySem.W.keepIn K (.ref f_p_bar_text) = true)
    (a_p_check_bar : PySem.W.nsIn K mainGlobals "check_bar" = some (some (.ref f_p_check_bar))) (l_p_check_bar : K.lookup f_p_check_bar = some ⟨oc_p_check_bar, od_p_check_bar, .func (PySem.W.fnOf "check_bar" "check_bar" (defArgs s_p_check_bar) (defBody s_p_check_bar) (defScope s_p_check_bar) .none kV_p_check_bar dc_p_check_bar pm_p_check_bar an_p_check_bar cd_p_check_bar ct_p_check_bar), sl_p_check_bar⟩) (c_p_check_bar : PySem.W.codeIn K cd_p_check_bar "check_bar" = true) (k_p_check_bar : PySem.W.keepIn K (.ref f_p_check_bar) = true)
    (a_p_fraction_in : PySem.W.nsIn K mainGlobals "fraction_in" = some (some (.ref f_p_fraction_in))) (l_p_fraction_in : K.lookup f_p_fraction_in = some ⟨oc_p_fraction_in, od_p_fraction_in, .func (PySem.W.fnOf "fraction_in" "fraction_in" (defArgs s_p_fraction_in) (defBody s_p_fraction_in) (defScope s_p_fraction_in) .none kV_p_fraction_in dc_p_fraction_in pm_p_fraction_in an_p_fraction_in cd_p_fraction_in ct_p_fraction_in), sl_p_fraction_in⟩) (c_p_fraction_in : PySem.W.codeIn K cd_p_fraction_in "fraction_in" = true) (k_p_fraction_in : PySem.W.keepIn K (.ref f_p_fraction_in) = true)
    (a_p_entry_in : PySem.W.nsIn K mainGlobals "_entry_in" = some (some (.ref f_p_entry_in))) (l_p_entry_in : K.lookup f_p_entry_in = some ⟨oc_p_entry_in, od_p_entry_in, .func (PySem.W.fnOf "_entry_in" "_entry_in" (defArgs s_p_entry_in) (defBody s_p_entry_in) (defScope s_p_entry_in) .none kV_p_entry_in dc_p_entry_in pm_p_entry_in an_p_entry_in cd_p_entry_in ct_p_entry_in), sl_p_entry_in⟩) (c_p_entry_in : PySem.W.codeIn K cd_p_entry_in "_entry_in" = true) (k_p_entry_in : PySem.W.keepIn K (.ref f_p_entry_in) = true)
    (a_p_column_in : PySem.W.nsIn K mainGlobals "_column_in" = some (some (.ref f_p_column_in))) (l_p_column_in : K.lookup f_p_column_in = some ⟨oc_p_column_in, od_p_column_in, .func (PySem.W.fnOf "_column_in" "_column_in" (defArgs s_p_column_in) (defBody s_p_column_in) (defScope s_p_column_in) .none kV_p_column_in dc_p_column_in pm_p_column_in an_p_column_in cd_p_column_in ct_p_column_in), sl_p_column_in⟩) (c_p_column_in : PySem.W.codeIn K cd_p_column_in "_column_in" = true) (k_p_column_in : PySem.W.keepIn K (.ref f_p_column_in) = true)
    (a_p_read_bar : PySem.W.nsIn K mainGlobals "read_bar" = some (some (.ref f_p_read_bar))) (l_p_read_bar : K.lookup f_p_read_bar = some ⟨oc_p_read_bar, od_p_read_bar, .func (PySem.W.fnOf "read_bar" "read_bar" (defArgs s_p_read_bar) (defBody s_p_read_bar) (defScope s_p_read_bar) .none kV_p_read_bar dc_p_read_bar pm_p_read_bar an_p_read_bar cd_p_read_bar ct_p_read_bar), sl_p_read_bar⟩) (c_p_read_bar : PySem.W.codeIn K cd_p_read_bar "read_bar" = true) (k_p_read_bar : PySem.W.keepIn K (.ref f_p_read_bar) = true)
    (a_letter : PySem.W.nsIn K mainGlobals "_law_letter" = some (some (.ref f_letter))) (l_letter : K.lookup f_letter = some ⟨oc_letter, od_letter, .func (PySem.W.fnOf "_law_letter" "_law_letter" (defArgs s_letter) (defBody s_letter) (defScope s_letter) .none kV_letter dc_letter pm_letter an_letter cd_letter ct_letter), sl_letter⟩) (c_letter : PySem.W.codeIn K cd_letter "_law_letter" = true) (k_letter : PySem.W.keepIn K (.ref f_letter) = true)
    (a_tone_text : PySem.W.nsIn K mainGlobals "_law_tone_text" = some (some (.ref f_tone_text))) (l_tone_text : K.lookup f_tone_text = some ⟨oc_tone_text, od_tone_text, .func (PySem.W.fnOf "_law_tone_text" "_law_tone_text" (defArgs s_tone_text) (defBody s_tone_text) (defScope s_tone_text) .none kV_tone_text dc_tone_text pm_tone_text an_tone_text cd_tone_text ct_tone_text), sl_tone_text⟩) (c_tone_text : PySem.W.codeIn K cd_tone_text "_law_tone_text" = true) (k_tone_text : PySem.W.keepIn K (.ref f_tone_text) = true)
    (a_cell_words : PySem.W.nsIn K mainGlobals "_law_cell_words" = some (some (.ref f_cell_words))) (l_cell_words : K.lookup f_cell_words = some ⟨oc_cell_words, od_cell_words, .func (PySem.W.fnOf "_law_cell_words" "_law_cell_words" (defArgs s_cell_words) (defBody s_cell_words) (defScope s_cell_words) .none kV_cell_words dc_cell_words pm_cell_words an_cell_words cd_cell_words ct_cell_words), sl_cell_words⟩) (c_cell_words : PySem.W.codeIn K cd_cell_words "_law_cell_words" = true) (k_cell_words : PySem.W.keepIn K (.ref f_cell_words) = true)
    (a_text : PySem.W.nsIn K mainGlobals "_law_text" = some (some (.ref f_text))) (l_text : K.lookup f_text = some ⟨oc_text, od_text, .func (PySem.W.fnOf "_law_text" "_law_text" (defArgs s_text) (defBody s_text) (defScope s_text) .none kV_text dc_text pm_text an_text cd_text ct_text), sl_text⟩) (c_text : PySem.W.codeIn K cd_text "_law_text" = true) (k_text : PySem.W.keepIn K (.ref f_text) = true)
    (a_pad : PySem.W.nsIn K mainGlobals "_law_pad" = some (some (.ref f_pad))) (l_pad : K.lookup f_pad = some ⟨oc_pad, od_pad, .func (PySem.W.fnOf "_law_pad" "_law_pad" (defArgs s_pad) (defBody s_pad) (defScope s_pad) .none kV_pad dc_pad pm_pad an_pad cd_pad ct_pad), sl_pad⟩) (c_pad : PySem.W.codeIn K cd_pad "_law_pad" = true) (k_pad : PySem.W.keepIn K (.ref f_pad) = true)
    (a_spaced : PySem.W.nsIn K mainGlobals "_law_spaced" = some (some (.ref f_spaced))) (l_spaced : K.lookup f_spaced = some ⟨oc_spaced, od_spaced, .func (PySem.W.fnOf "_law_spaced" "_law_spaced" (defArgs s_spaced) (defBody s_spaced) (defScope s_spaced) .none kV_spaced dc_spaced pm_spaced an_spaced cd_spaced ct_spaced), sl_spaced⟩) (c_spaced : PySem.W.codeIn K cd_spaced "_law_spaced" = true) (k_spaced : PySem.W.keepIn K (.ref f_spaced) = true)
    (a_far_bar : PySem.W.nsIn K mainGlobals "_law_far_bar" = some (some (.ref f_far_bar))) (l_far_bar : K.lookup f_far_bar = some ⟨oc_far_bar, od_far_bar, .func (PySem.W.fnOf "_law_far_bar" "_law_far_bar" (defArgs s_far_bar) (defBody s_far_bar) (defScope s_far_bar) .none kV_far_bar dc_far_bar pm_far_bar an_far_bar cd_far_bar ct_far_bar), sl_far_bar⟩) (c_far_bar : PySem.W.codeIn K cd_far_bar "_law_far_bar" = true) (k_far_bar : PySem.W.keepIn K (.ref f_far_bar) = true)
    (a_long_row : PySem.W.nsIn K mainGlobals "_law_long_row" = some (some (.ref f_long_row))) (l_long_row : K.lookup f_long_row = some ⟨oc_long_row, od_long_row, .func (PySem.W.fnOf "_law_long_row" "_law_long_row" (defArgs s_long_row) (defBody s_long_row) (defScope s_long_row) .none kV_long_row dc_long_row pm_long_row an_long_row cd_long_row ct_long_row), sl_long_row⟩) (c_long_row : PySem.W.codeIn K cd_long_row "_law_long_row" = true) (k_long_row : PySem.W.keepIn K (.ref f_long_row) = true)
    (a_law : PySem.W.nsIn K mainGlobals "law" = some (some (.ref f_law))) (l_law : K.lookup f_law = some ⟨oc_law, od_law, .func (PySem.W.fnOf "law" "law" (defArgs s_law) (defBody s_law) (defScope s_law) .none kV_law dc_law pm_law an_law cd_law ct_law), sl_law⟩) (c_law : PySem.W.codeIn K cd_law "law" = true) (k_law : PySem.W.keepIn K (.ref f_law) = true)
    (z_len : PySem.W.nsIn K mainGlobals "len" = some none)
    (z_int : PySem.W.nsIn K mainGlobals "int" = some none)
    (z_isinstance : PySem.W.nsIn K mainGlobals "isinstance" = some none)
    (z_range : PySem.W.nsIn K mainGlobals "range" = some none)
    (z_list : PySem.W.nsIn K mainGlobals "list" = some none)
    (z_tuple : PySem.W.nsIn K mainGlobals "tuple" = some none)
    (z_all : PySem.W.nsIn K mainGlobals "all" = some none)
    (z_bool : PySem.W.nsIn K mainGlobals "bool" = some none)
    (z_str : PySem.W.nsIn K mainGlobals "str" = some none)
    (z_abs : PySem.W.nsIn K mainGlobals "abs" = some none)
    (z_enumerate : PySem.W.nsIn K mainGlobals "enumerate" = some none)
    (z_repr : PySem.W.nsIn K mainGlobals "repr" = some none)
    (a_FAR : PySem.W.nsIn K mainGlobals "FAR" = some (some (.int 1000 t_FAR)))
    (a_MOST_ACCENT : PySem.W.nsIn K mainGlobals "MOST_ACCENT" = some (some (.int 9 t_MOST_ACCENT)))
    (a_MOST_COLUMNS : PySem.W.nsIn K mainGlobals "MOST_COLUMNS" = some (some (.int 64 t_MOST_COLUMNS)))
    (a_MOST_PARTS : PySem.W.nsIn K mainGlobals "MOST_PARTS" = some (some (.int 1000 t_MOST_PARTS)))
    (a_MOST_VOICES : PySem.W.nsIn K mainGlobals "MOST_VOICES" = some (some (.int 4 t_MOST_VOICES)))
    (g_gcd : PySem.W.nsIn K mainGlobals "gcd" = some (some (.builtin "math.gcd")))
    (a_DIGITS : PySem.W.nsIn K mainGlobals "DIGITS" = some (some (.str "0123456789" t_DIGITS)))
    (a_LETTERS : PySem.W.nsIn K mainGlobals "LETTERS" = some (some (.str "CDEFGAB" t_LETTERS)))
    (a_MOSTN : PySem.W.nsIn K mainGlobals "MOST_FIGURES_names" = some (some (.int 6 t_MOSTN)))
    (a_MOSTB : PySem.W.nsIn K mainGlobals "MOST_FIGURES_bartexts" = some (some (.int 4 t_MOSTB)))
    (a_PLAIN : PySem.W.nsIn K mainGlobals "PLAIN" = some (some (.ref f_PLAIN)))
    (l_PLAIN : K.lookup f_PLAIN = some ⟨.type "tuple", od_PLAIN, .seq #[.int 0 t0, .int 2 t1, .int 4 t2, .int (-1) t3, .int 1 t4, .int 3 t5, .int 5 t6] n_PLAIN, sl_PLAIN⟩)
    : ∃ fd : FuncData, (∀ (s : Shared) (v : Value), BindsTo s fd ⟨[v], []⟩ [("script", v)]) ∧ ∀ base : Heap, K.In base → base.Ns mainGlobals mg → FnG l.prog w K mg base 8 fa fd ["script"] (spLaw K) := by
  have e := hfa.symm.trans (PySem.W.mg_of X G a_law)
  cases e
  have T : Bt mg := ⟨PySem.W.mg_none_of X G z_len, PySem.W.mg_none_of X G z_int, PySem.W.mg_none_of X G z_isinstance, PySem.W.mg_none_of X G z_range, PySem.W.mg_none_of X G z_list, PySem.W.mg_none_of X G z_tuple, PySem.W.mg_none_of X G z_all, PySem.W.mg_none_of X G z_bool, PySem.W.mg_none_of X G z_str⟩
  have F_take := fun_mk (st := s_take) l_take c_take k_take
  have m_take := PySem.W.mg_of X G a_take
  have F_pool := fun_mk (st := s_pool) l_pool c_pool k_pool
  have m_pool := PySem.W.mg_of X G a_pool
  have F_pick := fun_mk (st := s_pick) l_pick c_pick k_pick
  have m_pick := PySem.W.mg_of X G a_pick
  have F_is_integer := fun_mk (st := s_is_integer) l_is_integer c_is_integer k_is_integer
  have m_is_integer := PySem.W.mg_of X G a_is_integer
  have F_same := fun_mk (st := s_same) l_same c_same k_same
  have m_same := PySem.W.mg_of X G a_same
  have F_tone := fun_mk (st := s_tone) l_tone c_tone k_tone
  have m_tone := PySem.W.mg_of X G a_tone
  have F_order := fun_mk (st := s_order) l_order c_order k_order
  have m_order := PySem.W.mg_of X G a_order
  have F_far_pair := fun_mk (st := s_far_pair) l_far_pair c_far_pair k_far_pair
  have m_far_pair := PySem.W.mg_of X G a_far_pair
  have F_lowest := fun_mk (st := s_lowest) l_lowest c_lowest k_lowest
  have m_lowest := PySem.W.mg_of X G a_lowest
  have F_duration := fun_mk (st := s_duration) l_duration c_duration k_duration
  have m_duration := PySem.W.mg_of X G a_duration
  have F_column := fun_mk (st := s_column) l_column c_column k_column
  have m_column := PySem.W.mg_of X G a_column
  have F_bar := fun_mk (st := s_bar) l_bar c_bar k_bar
  have m_bar := PySem.W.mg_of X G a_bar
  have F_listed := fun_mk (st := s_listed) l_listed c_listed k_listed
  have m_listed := PySem.W.mg_of X G a_listed
  have F_below := fun_mk (st := s_below) l_below c_below k_below
  have m_below := PySem.W.mg_of X G a_below
  have F_p_is_row := fun_mk (st := s_p_is_row) l_p_is_row c_p_is_row k_p_is_row
  have m_p_is_row := PySem.W.mg_of X G a_p_is_row
  have F_p_is_pair := fun_mk (st := s_p_is_pair) l_p_is_pair c_p_is_pair k_p_is_pair
  have m_p_is_pair := PySem.W.mg_of X G a_p_is_pair
  have F_p_is_number := fun_mk (st := s_p_is_number) l_p_is_number c_p_is_number k_p_is_number
  have m_p_is_number := PySem.W.mg_of X G a_p_is_number
  have F_p_is_whole := fun_mk (st := s_p_is_whole) l_p_is_whole c_p_is_whole k_p_is_whole
  have m_p_is_whole := PySem.W.mg_of X G a_p_is_whole
  have F_p_is_tone := fun_mk (st := s_p_is_tone) l_p_is_tone c_p_is_tone k_p_is_tone
  have m_p_is_tone := PySem.W.mg_of X G a_p_is_tone
  have F_p_is_short_fraction := fun_mk (st := s_p_is_short_fraction) l_p_is_short_fraction c_p_is_short_fraction k_p_is_short_fraction
  have m_p_is_short_fraction := PySem.W.mg_of X G a_p_is_short_fraction
  have F_p_is_entry := fun_mk (st := s_p_is_entry) l_p_is_entry c_p_is_entry k_p_is_entry
  have m_p_is_entry := PySem.W.mg_of X G a_p_is_entry
  have F_p_reason := fun_mk (st := s_p_reason) l_p_reason c_p_reason k_p_reason
  have m_p_reason := PySem.W.mg_of X G a_p_reason
  have F_p_tuple_of := fun_mk (st := s_p_tuple_of) l_p_tuple_of c_p_tuple_of k_p_tuple_of
  have m_p_tuple_of := PySem.W.mg_of X G a_p_tuple_of
  have F_p_entries := fun_mk (st := s_p_entries) l_p_entries c_p_entries k_p_entries
  have m_p_entries := PySem.W.mg_of X G a_p_entries
  have F_p_with_tones := fun_mk (st := s_p_with_tones) l_p_with_tones c_p_with_tones k_p_with_tones
  have m_p_with_tones := PySem.W.mg_of X G a_p_with_tones
  have F_p_as_tuples := fun_mk (st := s_p_as_tuples) l_p_as_tuples c_p_as_tuples k_p_as_tuples
  have m_p_as_tuples := PySem.W.mg_of X G a_p_as_tuples
  have F_p_steps := fun_mk (st := s_p_steps) l_p_steps c_p_steps k_p_steps
  have m_p_steps := PySem.W.mg_of X G a_p_steps
  have F_p_with_steps := fun_mk (st := s_p_with_steps) l_p_with_steps c_p_with_steps k_p_with_steps
  have m_p_with_steps := PySem.W.mg_of X G a_p_with_steps
  have F_p_number_in := fun_mk (st := s_p_number_in) l_p_number_in c_p_number_in k_p_number_in
  have m_p_number_in := PySem.W.mg_of X G a_p_number_in
  have F_p_letter_name := fun_mk (st := s_p_letter_name) l_p_letter_name c_p_letter_name k_p_letter_name
  have m_p_letter_name := PySem.W.mg_of X G a_p_letter_name
  have F_p_tone_name := fun_mk (st := s_p_tone_name) l_p_tone_name c_p_tone_name k_p_tone_name
  have m_p_tone_name := PySem.W.mg_of X G a_p_tone_name
  have F_p_tone_meant := fun_mk (st := s_p_tone_meant) l_p_tone_meant c_p_tone_meant k_p_tone_meant
  have m_p_tone_meant := PySem.W.mg_of X G a_p_tone_meant
  have F_p_read_tone := fun_mk (st := s_p_read_tone) l_p_read_tone c_p_read_tone k_p_read_tone
  have m_p_read_tone := PySem.W.mg_of X G a_p_read_tone
  have F_p_fraction_text := fun_mk (st := s_p_fraction_text) l_p_fraction_text c_p_fraction_text k_p_fraction_text
  have m_p_fraction_text := PySem.W.mg_of X G a_p_fraction_text
  have F_p_entry_text := fun_mk (st := s_p_entry_text) l_p_entry_text c_p_entry_text k_p_entry_text
  have m_p_entry_text := PySem.W.mg_of X G a_p_entry_text
  have F_p_column_text := fun_mk (st := s_p_column_text) l_p_column_text c_p_column_text k_p_column_text
  have m_p_column_text := PySem.W.mg_of X G a_p_column_text
  have F_p_bar_text := fun_mk (st := s_p_bar_text) l_p_bar_text c_p_bar_text k_p_bar_text
  have m_p_bar_text := PySem.W.mg_of X G a_p_bar_text
  have F_p_check_bar := fun_mk (st := s_p_check_bar) l_p_check_bar c_p_check_bar k_p_check_bar
  have m_p_check_bar := PySem.W.mg_of X G a_p_check_bar
  have F_p_fraction_in := fun_mk (st := s_p_fraction_in) l_p_fraction_in c_p_fraction_in k_p_fraction_in
  have m_p_fraction_in := PySem.W.mg_of X G a_p_fraction_in
  have F_p_entry_in := fun_mk (st := s_p_entry_in) l_p_entry_in c_p_entry_in k_p_entry_in
  have m_p_entry_in := PySem.W.mg_of X G a_p_entry_in
  have F_p_column_in := fun_mk (st := s_p_column_in) l_p_column_in c_p_column_in k_p_column_in
  have m_p_column_in := PySem.W.mg_of X G a_p_column_in
  have F_p_read_bar := fun_mk (st := s_p_read_bar) l_p_read_bar c_p_read_bar k_p_read_bar
  have m_p_read_bar := PySem.W.mg_of X G a_p_read_bar
  have F_letter := fun_mk (st := s_letter) l_letter c_letter k_letter
  have m_letter := PySem.W.mg_of X G a_letter
  have F_tone_text := fun_mk (st := s_tone_text) l_tone_text c_tone_text k_tone_text
  have m_tone_text := PySem.W.mg_of X G a_tone_text
  have F_cell_words := fun_mk (st := s_cell_words) l_cell_words c_cell_words k_cell_words
  have m_cell_words := PySem.W.mg_of X G a_cell_words
  have F_text := fun_mk (st := s_text) l_text c_text k_text
  have m_text := PySem.W.mg_of X G a_text
  have F_pad := fun_mk (st := s_pad) l_pad c_pad k_pad
  have m_pad := PySem.W.mg_of X G a_pad
  have F_spaced := fun_mk (st := s_spaced) l_spaced c_spaced k_spaced
  have m_spaced := PySem.W.mg_of X G a_spaced
  have F_far_bar := fun_mk (st := s_far_bar) l_far_bar c_far_bar k_far_bar
  have m_far_bar := PySem.W.mg_of X G a_far_bar
  have F_long_row := fun_mk (st := s_long_row) l_long_row c_long_row k_long_row
  have m_long_row := PySem.W.mg_of X G a_long_row
  have F_law := fun_mk (st := s_law) l_law c_law k_law
  have m_law := PySem.W.mg_of X G a_law
  have n_abs := PySem.W.mg_none_of X G z_abs
  have n_enumerate := PySem.W.mg_none_of X G z_enumerate
  have n_repr := PySem.W.mg_none_of X G z_repr
  refine ⟨PySem.W.fnOf "law" "law" (defArgs s_law) (defBody s_law) (defScope s_law) .none kV_law dc_law pm_law an_law cd_law ct_law, fun s v => .of_eq rfl, fun base _ _ => ?_⟩
  have Gb : Vt.Gk K mg := ⟨⟨_, PySem.W.mg_of X G a_FAR⟩, ⟨_, (PySem.W.mg_of X G a_DIGITS).trans (by rw [show ("0123456789" : Str) = S figs by decide +kernel])⟩, ⟨_, (PySem.W.mg_of X G a_LETTERS).trans (by rw [show ("CDEFGAB" : Str) = S Vt.letters by decide +kernel])⟩, ⟨_, PySem.W.mg_of X G a_MOSTN⟩, ⟨_, PySem.W.mg_of X G a_MOSTB⟩, ⟨_, PySem.W.mg_of X G a_PLAIN, fun G => rep_kT (ns := [0, 2, 4, -1, 1, 3, 5]) l_PLAIN rfl rfl (by simp only [List.size_toArray, List.length_cons, List.length_nil]; decide) (.cons ⟨_, rfl⟩ (.cons ⟨_, rfl⟩ (.cons ⟨_, rfl⟩ (.cons ⟨_, rfl⟩ (.cons ⟨_, rfl⟩ (.cons ⟨_, rfl⟩ (.cons ⟨_, rfl⟩ .nil)))))))⟩⟩
  have q_c_take0 := Vt.c_take0 (P := l.prog) (w := w) (base := base) F_take m_take T
  have q_c_take := Vt.c_take (P := l.prog) (w := w) (base := base) F_take m_take T
  have q_c_pool := Vt.c_pool (P := l.prog) (w := w) (base := base) F_pool m_pool
  have q_c_pick := Vt.c_pick F_pick m_pick T q_c_take
  have q_c_is_integer := Vt.c_is_integer (P := l.prog) (w := w) (base := base) F_is_integer m_is_integer T
  have q_c_same := Vt.c_same F_same m_same T q_c_is_integer
  have q_c_tone := Vt.c_tone F_tone m_tone T q_c_take
  have q_c_order := Vt.c_order F_order m_order T q_c_take
  have q_c_far_pair := Vt.c_far_pair F_far_pair m_far_pair q_c_take q_c_pick q_c_tone
  have q_w_take := Vt.w_take q_c_take
  have q_w_pick := Vt.w_pick q_c_pick
  have q_w_tone := Vt.w_tone q_c_tone
  have q_w_order := Vt.w_order q_c_order
  have q_c_lowest := Vt.c_lowest (P := l.prog) (w := w) (base := base) F_lowest m_lowest T n_abs
  have q_c_duration := Vt.c_duration F_duration m_duration T q_w_take q_w_pick q_c_lowest
  have q_c_column := Vt.c_column F_column m_column T q_w_take q_w_pick q_c_duration
  have q_c_bar := Vt.c_bar F_bar m_bar T q_w_take q_w_tone q_c_column
  have q_c_listed := Vt.c_listed (P := l.prog) (w := w) (base := base) F_listed m_listed T
  have q_c_below := Vt.c_below F_below m_below T q_w_take
  have q_c_p_is_row := Vt.c_p_is_row (P := l.prog) (w := w) (base := base) F_p_is_row m_p_is_row T
  have q_c_p_is_pair := Vt.c_p_is_pair F_p_is_pair m_p_is_pair T q_c_p_is_row
  have q_c_p_is_number := Vt.c_p_is_number (P := l.prog) (w := w) (base := base) F_p_is_number m_p_is_number T
  have q_c_p_is_whole := Vt.c_p_is_whole F_p_is_whole m_p_is_whole q_c_p_is_number
  have q_c_p_is_tone := Vt.c_p_is_tone F_p_is_tone m_p_is_tone T ⟨_, PySem.W.mg_of X G a_FAR⟩ q_c_p_is_pair q_c_p_is_whole
  have q_c_p_is_short_fraction := Vt.c_p_is_short_fraction F_p_is_short_fraction m_p_is_short_fraction T ⟨_, PySem.W.mg_of X G a_MOST_PARTS⟩ (PySem.W.mg_of X G g_gcd) q_c_p_is_pair q_c_p_is_whole
  have q_c_p_is_entry := Vt.c_p_is_entry F_p_is_entry m_p_is_entry T q_c_p_is_pair q_c_p_is_tone
  have q_c_p_reason := Vt.c_p_reason F_p_reason m_p_reason T ⟨_, PySem.W.mg_of X G a_MOST_ACCENT⟩ ⟨_, PySem.W.mg_of X G a_MOST_VOICES⟩ q_c_p_is_row q_c_p_is_whole q_c_p_is_short_fraction q_c_p_is_entry
  have q_c_p_tuple_of := Vt.c_p_tuple_of (P := l.prog) (w := w) (base := base) F_p_tuple_of m_p_tuple_of
  have q_c_p_entries := Vt.c_p_entries (P := l.prog) (w := w) (base := base) F_p_entries m_p_entries T
  have q_c_p_with_tones := Vt.c_p_with_tones F_p_with_tones m_p_with_tones T q_c_p_entries
  have q_c_p_as_tuples := Vt.c_p_as_tuples F_p_as_tuples m_p_as_tuples q_c_p_tuple_of q_c_p_with_tones
  have q_c_p_steps := Vt.c_p_steps (P := l.prog) (w := w) (base := base) F_p_steps m_p_steps
  have q_c_p_with_steps := Vt.c_p_with_steps (P := l.prog) (w := w) (base := base) F_p_with_steps m_p_with_steps
  have q_c_p_number_in := Vt.c_p_number_in (P := l.prog) (w := w) (base := base) F_p_number_in m_p_number_in T Gb
  have q_c_p_letter_name := Vt.c_p_letter_name (P := l.prog) (w := w) (base := base) F_p_letter_name m_p_letter_name T Gb
  have q_c_p_tone_name := Vt.c_p_tone_name F_p_tone_name m_p_tone_name T q_c_p_letter_name q_c_p_steps
  have q_c_p_tone_meant := Vt.c_p_tone_meant F_p_tone_meant m_p_tone_meant T Gb q_c_p_number_in q_c_p_with_steps
  have q_c_p_read_tone := Vt.c_p_read_tone F_p_read_tone m_p_read_tone q_c_p_tone_meant q_c_p_is_tone q_c_p_tone_name
  have q_c_p_fraction_text := Vt.c_p_fraction_text (P := l.prog) (w := w) (base := base) F_p_fraction_text m_p_fraction_text T
  have q_c_p_entry_text := Vt.c_p_entry_text F_p_entry_text m_p_entry_text q_c_p_tone_name
  have q_c_p_column_text := Vt.c_p_column_text F_p_column_text m_p_column_text q_c_p_fraction_text q_c_p_entry_text
  have q_c_p_bar_text := Vt.c_p_bar_text F_p_bar_text m_p_bar_text q_c_p_column_text
  have q_c_p_check_ok := Vt.c_p_check_ok F_p_check_bar m_p_check_bar T n_enumerate ⟨_, PySem.W.mg_of X G a_MOST_COLUMNS⟩ q_c_p_is_row q_c_p_reason q_c_p_as_tuples
  have q_c_p_fraction_in := Vt.c_p_fraction_in F_p_fraction_in m_p_fraction_in (PySem.W.mg_of X G g_gcd) q_c_p_number_in
  have q_c_p_entry_in := Vt.c_p_entry_in F_p_entry_in m_p_entry_in q_c_p_read_tone
  have q_c_p_column_in := Vt.c_p_column_in F_p_column_in m_p_column_in T Gb ⟨_, PySem.W.mg_of X G a_MOST_VOICES⟩ q_c_p_number_in q_c_p_fraction_in q_c_p_is_short_fraction q_c_p_entry_in
  have q_c_p_read_bar := Vt.c_p_read_bar F_p_read_bar m_p_read_bar T q_c_p_column_in q_c_p_check_ok
  have q_c_letter := Vt.c_letter (P := l.prog) (w := w) (base := base) F_letter m_letter T
  have q_c_tone_text := Vt.c_tone_text F_tone_text m_tone_text T q_c_letter
  have q_c_cell_words := Vt.c_cell_words F_cell_words m_cell_words T q_c_tone_text
  have q_c_text := Vt.c_text F_text m_text q_c_cell_words
  have q_c_pad := Vt.c_pad F_pad m_pad q_w_pick
  have q_c_columnW := Vt.c_columnW F_column m_column T q_w_take q_w_pick q_c_duration
  have q_w_column := Vt.w_column q_c_columnW
  have q_c_spaced := Vt.c_spaced F_spaced m_spaced T q_c_cell_words q_c_pad
  have q_w_far := Vt.w_far q_c_far_pair
  have q_c_far_bar := Vt.c_far_bar F_far_bar m_far_bar T q_w_take q_w_pick q_w_far q_c_bar q_c_columnW
  have q_c_long_row := Vt.c_long_row F_long_row m_long_row T q_w_take q_w_pick q_w_far q_c_below q_c_lowest q_c_columnW
  exact Vt.c_law F_law T n_repr q_c_pool q_w_take q_w_pick q_w_order (q_c_same 5) (q_c_listed 5) q_c_far_bar q_c_long_row q_c_text q_c_spaced q_c_p_read_bar q_c_p_bar_text
end Vt
open PySem PySem.W PyProof.Rows
set_option maxRecDepth 100000 in
set_option maxHeartbeats 0 in
theorem PySem.Challenge.cw_counterheld_k11_whole_texts_of_bars_holds : PySem.Challenge.rw_counterheld_k11_whole_texts_of_bars.Holds := by
  w_on; o_law; k_head; (case hw => w_witness2)
  k_fill
  refine Vt.walkG (l := PySem.Challenge.rw_counterheld_k11_whole_texts_of_bars) (k := 8) ⟨rfl, by decide, by decide⟩ rfl rfl (fun w h Y => PySem.W.kIn_of Y) ?F
  case F =>
    intro w mg fa h KX G hmg
    refine' Vt.all_mk KX G hmg ?a_take ?l_take ?c_take ?k_take ?a_pool ?l_pool ?c_pool ?k_pool ?a_pick ?l_pick ?c_pick ?k_pick ?a_is_integer ?l_is_integer ?c_is_integer ?k_is_integer ?a_same ?l_same ?c_same ?k_same ?a_tone ?l_tone ?c_tone ?k_tone ?a_order ?l_order ?c_order ?k_order ?a_far_pair ?l_far_pair ?c_far_pair ?k_far_pair ?a_lowest ?l_lowest ?c_lowest ?k_lowest ?a_duration ?l_duration ?c_duration ?k_duration ?a_column ?l_column ?c_column ?k_column ?a_bar ?l_bar ?c_bar ?k_bar ?a_listed ?l_listed ?c_listed ?k_listed ?a_below ?l_below ?c_below ?k_below ?a_p_is_row ?l_p_is_row ?c_p_is_row ?k_p_is_row ?a_p_is_pair ?l_p_is_pair ?c_p_is_pair ?k_p_is_pair ?a_p_is_number ?l_p_is_number ?c_p_is_number ?k_p_is_number ?a_p_is_whole ?l_p_is_whole ?c_p_is_whole ?k_p_is_whole ?a_p_is_tone ?l_p_is_tone ?c_p_is_tone ?k_p_is_tone ?a_p_is_short_fraction ?l_p_is_short_fraction ?c_p_is_short_fraction ?k_p_is_short_fraction ?a_p_is_entry ?l_p_is_entry ?c_p_is_entry ?k_p_is_entry ?a_p_reason ?l_p_reason ?c_p_reason ?k_p_reason ?a_p_tuple_of ?l_p_tuple_of ?c_p_tuple_of ?k_p_tuple_of ?a_p_entries ?l_p_entries ?c_p_entries ?k_p_entries ?a_p_with_tones ?l_p_with_tones ?c_p_with_tones ?k_p_with_tones ?a_p_as_tuples ?l_p_as_tuples ?c_p_as_tuples ?k_p_as_tuples ?a_p_steps ?l_p_steps ?c_p_steps ?k_p_steps ?a_p_with_steps ?l_p_with_steps ?c_p_with_steps ?k_p_with_steps ?a_p_number_in ?l_p_number_in ?c_p_number_in ?k_p_number_in ?a_p_letter_name ?l_p_letter_name ?c_p_letter_name ?k_p_letter_name ?a_p_tone_name ?l_p_tone_name ?c_p_tone_name ?k_p_tone_name ?a_p_tone_meant ?l_p_tone_meant ?c_p_tone_meant ?k_p_tone_meant ?a_p_read_tone ?l_p_read_tone ?c_p_read_tone ?k_p_read_tone ?a_p_fraction_text ?l_p_fraction_text ?c_p_fraction_text ?k_p_fraction_text ?a_p_entry_text ?l_p_entry_text ?c_p_entry_text ?k_p_entry_text ?a_p_column_text ?l_p_column_text ?c_p_column_text ?k_p_column_text ?a_p_bar_text ?l_p_bar_text ?c_p_bar_text ?k_p_bar_text ?a_p_check_bar ?l_p_check_bar ?c_p_check_bar ?k_p_check_bar ?a_p_fraction_in ?l_p_fraction_in ?c_p_fraction_in ?k_p_fraction_in ?a_p_entry_in ?l_p_entry_in ?c_p_entry_in ?k_p_entry_in ?a_p_column_in ?l_p_column_in ?c_p_column_in ?k_p_column_in ?a_p_read_bar ?l_p_read_bar ?c_p_read_bar ?k_p_read_bar ?a_letter ?l_letter ?c_letter ?k_letter ?a_tone_text ?l_tone_text ?c_tone_text ?k_tone_text ?a_cell_words ?l_cell_words ?c_cell_words ?k_cell_words ?a_text ?l_text ?c_text ?k_text ?a_pad ?l_pad ?c_pad ?k_pad ?a_spaced ?l_spaced ?c_spaced ?k_spaced ?a_far_bar ?l_far_bar ?c_far_bar ?k_far_bar ?a_long_row ?l_long_row ?c_long_row ?k_long_row ?a_law ?l_law ?c_law ?k_law ?z_len ?z_int ?z_isinstance ?z_range ?z_list ?z_tuple ?z_all ?z_bool ?z_str ?z_abs ?z_enumerate ?z_repr ?a_FAR ?a_MOST_ACCENT ?a_MOST_COLUMNS ?a_MOST_PARTS ?a_MOST_VOICES ?g_gcd ?a_DIGITS ?a_LETTERS ?a_MOSTN ?a_MOSTB ?a_PLAIN ?l_PLAIN
    (case a_take => k_is)
    (case l_take => k_is)
    (case c_take => k_is)
    (case k_take => k_is)
    (case a_pool => k_is)
    (case l_pool => k_is)
    (case c_pool => k_is)
    (case k_pool => k_is)
    (case a_pick => k_is)
    (case l_pick => k_is)
    (case c_pick => k_is)
    (case k_pick => k_is)
    (case a_is_integer => k_is)
    (case l_is_integer => k_is)
    (case c_is_integer => k_is)
    (case k_is_integer => k_is)
    (case a_same => k_is)
    (case l_same => k_is)
    (case c_same => k_is)
    (case k_same => k_is)
    (case a_tone => k_is)
    (case l_tone => k_is)
    (case c_tone => k_is)
    (case k_tone => k_is)
    (case a_order => k_is)
    (case l_order => k_is)
    (case c_order => k_is)
    (case k_order => k_is)
    (case a_far_pair => k_is)
    (case l_far_pair => k_is)
    (case c_far_pair => k_is)
    (case k_far_pair => k_is)
    (case a_lowest => k_is)
    (case l_lowest => k_is)
    (case c_lowest => k_is)
    (case k_lowest => k_is)
    (case a_duration => k_is)
    (case l_duration => k_is)
    (case c_duration => k_is)
    (case k_duration => k_is)
    (case a_column => k_is)
    (case l_column => k_is)
    (case c_column => k_is)
    (case k_column => k_is)
    (case a_bar => k_is)
    (case l_bar => k_is)
    (case c_bar => k_is)
    (case k_bar => k_is)
    (case a_listed => k_is)
    (case l_listed => k_is)
    (case c_listed => k_is)
    (case k_listed => k_is)
    (case a_below => k_is)
    (case l_below => k_is)
    (case c_below => k_is)
    (case k_below => k_is)
    (case a_p_is_row => k_is)
    (case l_p_is_row => k_is)
    (case c_p_is_row => k_is)
    (case k_p_is_row => k_is)
    (case a_p_is_pair => k_is)
    (case l_p_is_pair => k_is)
    (case c_p_is_pair => k_is)
    (case k_p_is_pair => k_is)
    (case a_p_is_number => k_is)
    (case l_p_is_number => k_is)
    (case c_p_is_number => k_is)
    (case k_p_is_number => k_is)
    (case a_p_is_whole => k_is)
    (case l_p_is_whole => k_is)
    (case c_p_is_whole => k_is)
    (case k_p_is_whole => k_is)
    (case a_p_is_tone => k_is)
    (case l_p_is_tone => k_is)
    (case c_p_is_tone => k_is)
    (case k_p_is_tone => k_is)
    (case a_p_is_short_fraction => k_is)
    (case l_p_is_short_fraction => k_is)
    (case c_p_is_short_fraction => k_is)
    (case k_p_is_short_fraction => k_is)
    (case a_p_is_entry => k_is)
    (case l_p_is_entry => k_is)
    (case c_p_is_entry => k_is)
    (case k_p_is_entry => k_is)
    (case a_p_reason => k_is)
    (case l_p_reason => k_is)
    (case c_p_reason => k_is)
    (case k_p_reason => k_is)
    (case a_p_tuple_of => k_is)
    (case l_p_tuple_of => k_is)
    (case c_p_tuple_of => k_is)
    (case k_p_tuple_of => k_is)
    (case a_p_entries => k_is)
    (case l_p_entries => k_is)
    (case c_p_entries => k_is)
    (case k_p_entries => k_is)
    (case a_p_with_tones => k_is)
    (case l_p_with_tones => k_is)
    (case c_p_with_tones => k_is)
    (case k_p_with_tones => k_is)
    (case a_p_as_tuples => k_is)
    (case l_p_as_tuples => k_is)
    (case c_p_as_tuples => k_is)
    (case k_p_as_tuples => k_is)
    (case a_p_steps => k_is)
    (case l_p_steps => k_is)
    (case c_p_steps => k_is)
    (case k_p_steps => k_is)
    (case a_p_with_steps => k_is)
    (case l_p_with_steps => k_is)
    (case c_p_with_steps => k_is)
    (case k_p_with_steps => k_is)
    (case a_p_number_in => k_is)
    (case l_p_number_in => k_is)
    (case c_p_number_in => k_is)
    (case k_p_number_in => k_is)
    (case a_p_letter_name => k_is)
    (case l_p_letter_name => k_is)
    (case c_p_letter_name => k_is)
    (case k_p_letter_name => k_is)
    (case a_p_tone_name => k_is)
    (case l_p_tone_name => k_is)
    (case c_p_tone_name => k_is)
    (case k_p_tone_name => k_is)
    (case a_p_tone_meant => k_is)
    (case l_p_tone_meant => k_is)
    (case c_p_tone_meant => k_is)
    (case k_p_tone_meant => k_is)
    (case a_p_read_tone => k_is)
    (case l_p_read_tone => k_is)
    (case c_p_read_tone => k_is)
    (case k_p_read_tone => k_is)
    (case a_p_fraction_text => k_is)
    (case l_p_fraction_text => k_is)
    (case c_p_fraction_text => k_is)
    (case k_p_fraction_text => k_is)
    (case a_p_entry_text => k_is)
    (case l_p_entry_text => k_is)
    (case c_p_entry_text => k_is)
    (case k_p_entry_text => k_is)
    (case a_p_column_text => k_is)
    (case l_p_column_text => k_is)
    (case c_p_column_text => k_is)
    (case k_p_column_text => k_is)
    (case a_p_bar_text => k_is)
    (case l_p_bar_text => k_is)
    (case c_p_bar_text => k_is)
    (case k_p_bar_text => k_is)
    (case a_p_check_bar => k_is)
    (case l_p_check_bar => k_is)
    (case c_p_check_bar => k_is)
    (case k_p_check_bar => k_is)
    (case a_p_fraction_in => k_is)
    (case l_p_fraction_in => k_is)
    (case c_p_fraction_in => k_is)
    (case k_p_fraction_in => k_is)
    (case a_p_entry_in => k_is)
    (case l_p_entry_in => k_is)
    (case c_p_entry_in => k_is)
    (case k_p_entry_in => k_is)
    (case a_p_column_in => k_is)
    (case l_p_column_in => k_is)
    (case c_p_column_in => k_is)
    (case k_p_column_in => k_is)
    (case a_p_read_bar => k_is)
    (case l_p_read_bar => k_is)
    (case c_p_read_bar => k_is)
    (case k_p_read_bar => k_is)
    (case a_letter => k_is)
    (case l_letter => k_is)
    (case c_letter => k_is)
    (case k_letter => k_is)
    (case a_tone_text => k_is)
    (case l_tone_text => k_is)
    (case c_tone_text => k_is)
    (case k_tone_text => k_is)
    (case a_cell_words => k_is)
    (case l_cell_words => k_is)
    (case c_cell_words => k_is)
    (case k_cell_words => k_is)
    (case a_text => k_is)
    (case l_text => k_is)
    (case c_text => k_is)
    (case k_text => k_is)
    (case a_pad => k_is)
    (case l_pad => k_is)
    (case c_pad => k_is)
    (case k_pad => k_is)
    (case a_spaced => k_is)
    (case l_spaced => k_is)
    (case c_spaced => k_is)
    (case k_spaced => k_is)
    (case a_far_bar => k_is)
    (case l_far_bar => k_is)
    (case c_far_bar => k_is)
    (case k_far_bar => k_is)
    (case a_long_row => k_is)
    (case l_long_row => k_is)
    (case c_long_row => k_is)
    (case k_long_row => k_is)
    (case a_law => k_is)
    (case l_law => k_is)
    (case c_law => k_is)
    (case k_law => k_is)
    (case z_len => k_is)
    (case z_int => k_is)
    (case z_isinstance => k_is)
    (case z_range => k_is)
    (case z_list => k_is)
    (case z_tuple => k_is)
    (case z_all => k_is)
    (case z_bool => k_is)
    (case z_str => k_is)
    (case z_abs => k_is)
    (case z_enumerate => k_is)
    (case z_repr => k_is)
    (case a_FAR => k_is)
    (case a_MOST_ACCENT => k_is)
    (case a_MOST_COLUMNS => k_is)
    (case a_MOST_PARTS => k_is)
    (case a_MOST_VOICES => k_is)
    (case g_gcd => k_is)
    (case a_DIGITS => k_is)
    (case a_LETTERS => k_is)
    (case a_MOSTN => k_is)
    (case a_MOSTB => k_is)
    (case a_PLAIN => k_is)
    (case l_PLAIN => k_is)
