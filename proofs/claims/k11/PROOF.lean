import PyProof.Rows.All
import Wide.All
import OpenK.AllK
import Wide.FinOn
import HandS.ForMost
import HandS.Exc
import HandS.TryOnly
import HandS.ExcOwn
import HandS.ExcInit
import HandS.ExcField
import HandS.WordsExc
import HandS.IsInst
import HandS.Wide
import HandS.Defaults
import HandS.ExcValue
import HandS.ExcCtx
import HandS.HotCalls
import HandS.ExcInitHot
import PySem.Challenge.RW_leastcomplaint_k11_ratios
set_option Elab.async false
set_option linter.all false
set_option maxRecDepth 100000
set_option maxHeartbeats 4000000
namespace DL
open PySem PySem.Spec PyProof.Rows L2

/-! ### data: what a value is, all the way down; what may change stands by its address -/
inductive D where
  | non | bl (b : Bool) | int (i : Int) | str (x : Str) | lst (ds : List D) | tup (ds : List D)
  | dct (kvs : List (List Key × D)) | scr (ns : List Int) | ref (a : Addr) | ty (n : String) | exc (a C d : Addr) (gs : List (Str × D))
  | exv (C : Addr) (f : Str) (d : D) | exb (C : Addr) | obj (C : Addr) (fs : List (Str × D)) | lck (o : Obj) (ws : List (List Key × V)) (kvs : List (List Key × D))
abbrev Mu := Addr → Option D
def Sub (G H : Hp) : Prop := ∀ a o, G a = some o → H a = some o
theorem Sub.refl (G : Hp) : Sub G G := fun _ _ h => h
theorem Sub.trans {G H I : Hp} (a : Sub G H) (b : Sub H I) : Sub G I := fun x o h => b x o (a x o h)

mutual
inductive Rp (K : PySem.W.Frag) (G : Hp) : V → D → Prop
  | non : Rp K G .non .non
  | bl (b : Bool) : Rp K G (.bl b) (.bl b)
  | int (i : Int) : Rp K G (.int i) (.int i)
  | str (x : Str) : Rp K G (.str x) (.str x)
  | ref (a : Addr) : Rp K G (.ref a) (.ref a)
  | ty (n : String) : Rp K G (.ty n) (.ty n)
  | exc {a C d : Addr} {fs : List (Str × V)} {gs : List (Str × D)} : G d = some (.xd fs) → RpFs K G fs gs → Rp K G (.ref a) (.exc a C d gs)
  | exv {a C dd : Addr} {f : Str} {v : V} {d : D} : G a = some (exo a C (some dd)) → G dd = some (exd dd [(f, v)]) → Rp K G v d → Rp K G (.ref a) (.exv C f d)
  | exb {a C : Addr} : G a = some (ExO (.ref C) a) → Rp K G (.ref a) (.exb C)
  | scr {a : Addr} {ns : List Int} : SqL K G a (ns.map V.int) → Rp K G (.ref a) (.scr ns)
  | lst {a : Addr} {xs : List V} {ds : List D} : G a = some (.lst xs) → RpAll K G xs ds → Rp K G (.ref a) (.lst ds)
  | tup {a : Addr} {xs : List V} {ds : List D} : G a = some (.tup xs) → RpAll K G xs ds → Rp K G (.ref a) (.tup ds)
  | dct {a : Addr} {o : Obj} {xs : List (List Key × V)} {ds : List (List Key × D)} : G a = some (.frz o (.dT xs)) → RpKv K G xs ds → Rp K G (.ref a) (.dct ds)
  | obj {a C dx : Addr} {fs : List (Str × V)} {gs : List (Str × D)} : G a = some (.ins C dx fs) → RpFs K G fs gs → Rp K G (.ref a) (.obj C gs)
inductive RpAll (K : PySem.W.Frag) (G : Hp) : List V → List D → Prop
  | nil : RpAll K G [] []
  | cons {v : V} {vs : List V} {d : D} {ds : List D} : Rp K G v d → RpAll K G vs ds → RpAll K G (v :: vs) (d :: ds)
inductive RpFs (K : PySem.W.Frag) (G : Hp) : List (Str × V) → List (Str × D) → Prop
  | nil : RpFs K G [] []
  | cons {k : Str} {v : V} {vs : List (Str × V)} {d : D} {ds : List (Str × D)} : Rp K G v d → RpFs K G vs ds → RpFs K G ((k, v) :: vs) ((k, d) :: ds)
inductive RpKv (K : PySem.W.Frag) (G : Hp) : List (List Key × V) → List (List Key × D) → Prop
  | nil : RpKv K G [] []
  | cons {k : List Key} {v : V} {vs : List (List Key × V)} {d : D} {ds : List (List Key × D)} : Rp K G v d → RpKv K G vs ds → RpKv K G ((k, v) :: vs) ((k, d) :: ds)
end
theorem seq_sub {K : PySem.W.Frag} {G H : Hp} {a : Addr} {xs : List V} (e : Sub G H) (h : SqL K G a xs) : SqL K H a xs := by
  rcases h with (h | ⟨o, h⟩) | h
  · exact .inl (.inl (e _ _ h))
  · exact .inl (.inr ⟨o, e _ _ h⟩)
  · exact .inr h
section
variable {K : PySem.W.Frag} {G H : Hp}
mutual
theorem Rp.mono (e : Sub G H) : ∀ {v : V} {d : D}, Rp K G v d → Rp K H v d
  | _, _, .non => .non
  | _, _, .bl b => .bl b
  | _, _, .int i => .int i
  | _, _, .str x => .str x
  | _, _, .ref a => .ref a
  | _, _, .ty n => .ty n
  | _, _, .exc h r => .exc (e _ _ h) (RpFs.mono e r)
  | _, _, .exv h i r => .exv (e _ _ h) (e _ _ i) (Rp.mono e r)
  | _, _, .exb h => .exb (e _ _ h)
  | _, _, .scr h => .scr (seq_sub e h)
  | _, _, .lst h r => .lst (e _ _ h) (RpAll.mono e r)
  | _, _, .tup h r => .tup (e _ _ h) (RpAll.mono e r)
  | _, _, .dct h r => .dct (e _ _ h) (RpKv.mono e r)
  | _, _, .obj h r => .obj (e _ _ h) (RpFs.mono e r)
theorem RpAll.mono (e : Sub G H) : ∀ {vs : List V} {ds : List D}, RpAll K G vs ds → RpAll K H vs ds
  | _, _, .nil => .nil
  | _, _, .cons a r => .cons (Rp.mono e a) (RpAll.mono e r)
theorem RpFs.mono (e : Sub G H) : ∀ {vs : List (Str × V)} {ds : List (Str × D)}, RpFs K G vs ds → RpFs K H vs ds
  | _, _, .nil => .nil
  | _, _, .cons a r => .cons (Rp.mono e a) (RpFs.mono e r)
theorem RpKv.mono (e : Sub G H) : ∀ {vs : List (List Key × V)} {ds : List (List Key × D)}, RpKv K G vs ds → RpKv K H vs ds
  | _, _, .nil => .nil
  | _, _, .cons a r => .cons (Rp.mono e a) (RpKv.mono e r)
end
theorem RpFs.lookup : ∀ {vs : List (Str × V)} {ds : List (Str × D)} {f : Str} {d : D}, RpFs K G vs ds → ds.lookup f = some d → ∃ v, vs.lookup f = some v ∧ Rp K G v d
  | _, _, _, _, .nil, e => by simp at e
  | (k, v) :: vs, (_, d') :: ds, f, d, .cons r t, e => by
    by_cases q : (f == k) = true
    · rw [List.lookup_cons, q] at e
      cases e
      exact ⟨v, by rw [List.lookup_cons, q], r⟩
    · have q' : (f == k) = false := by simpa using q
      rw [List.lookup_cons, q'] at e
      obtain ⟨u, h1, h2⟩ := RpFs.lookup t e
      exact ⟨u, by rw [List.lookup_cons, q']; exact h1, h2⟩
theorem RpAll.length : ∀ {vs : List V} {ds : List D}, RpAll K G vs ds → vs.length = ds.length
  | _, _, .nil => rfl
  | _, _, .cons _ r => congrArg (· + 1) r.length
theorem RpAll.get : ∀ {vs : List V} {ds : List D} {i : Nat} {d : D}, RpAll K G vs ds → ds[i]? = some d → ∃ v, vs[i]? = some v ∧ Rp K G v d
  | _, _, _, _, .nil, e => by simp at e
  | _, _, 0, _, .cons r _, e => by simp at e; subst e; exact ⟨_, rfl, r⟩
  | _, _, i + 1, d, .cons _ t, e => by
    obtain ⟨u, h1, h2⟩ := RpAll.get (i := i) (d := d) t (by simpa using e)
    exact ⟨u, by simpa using h1, h2⟩
theorem RpAll.append : ∀ {vs ws : List V} {ds es : List D}, RpAll K G vs ds → RpAll K G ws es → RpAll K G (vs ++ ws) (ds ++ es)
  | _, _, _, _, .nil, s => s
  | _, _, _, _, .cons r t, s => .cons r (RpAll.append t s)
theorem RpAll.take : ∀ {vs : List V} {ds : List D} (n : Nat), RpAll K G vs ds → RpAll K G (vs.take n) (ds.take n)
  | _, _, 0, _ => .nil
  | _, _, _ + 1, .nil => .nil
  | _, _, n + 1, .cons r t => .cons r (RpAll.take n t)
theorem RpAll.drop : ∀ {vs : List V} {ds : List D} (n : Nat), RpAll K G vs ds → RpAll K G (vs.drop n) (ds.drop n)
  | _, _, 0, r => r
  | _, _, _ + 1, .nil => .nil
  | _, _, n + 1, .cons _ t => RpAll.drop n t
theorem RpAll.set {x : V} {d : D} (r : Rp K G x d) : ∀ {xs : List V} {us : List D} (i : Nat), RpAll K G xs us → RpAll K G (xs.set i x) (us.set i d)
  | _, _, _, .nil => .nil
  | _, _, 0, .cons _ t => .cons r t
  | _, _, i + 1, .cons q t => .cons q (RpAll.set r i t)
theorem RpAll.rep {xs : List V} {us : List D} (r : RpAll K G xs us) : ∀ n : Nat, RpAll K G (List.replicate n xs).flatten (List.replicate n us).flatten
  | 0 => .nil
  | n + 1 => by
    rw [List.replicate_succ, List.replicate_succ, List.flatten_cons, List.flatten_cons]
    exact r.append (RpAll.rep r n)
theorem RpAll.ints : ∀ {vs : List V} {ns : List Int}, RpAll K G vs (ns.map D.int) → vs = ns.map V.int
  | _, [], .nil => rfl
  | _, _ :: _, .cons (.int _) r => congrArg _ r.ints
theorem RpAll.of_ints : ∀ {ns : List Int}, RpAll K G (ns.map V.int) (ns.map D.int)
  | [] => .nil
  | n :: _ => .cons (.int n) RpAll.of_ints
end

/-- the part of the heap that stays: all but what may change -/
def Im (μ : Mu) (H : Hp) : Hp := fun a => if (μ a).isSome then none else H a
theorem im_sub {μ : Mu} {H H' : Hp} (e : Sub H H') : Sub (Im μ H) (Im μ H') := fun a o h => by
  unfold Im at h ⊢
  split at h
  · cases h
  · rename_i q
    rw [if_neg q]
    exact e a o h
theorem im_all {μ : Mu} {H : Hp} : Sub (Im μ H) H := fun a o h => by
  unfold Im at h
  split at h
  · cases h
  · exact h
def updM (μ : Mu) (a : Addr) (c : D) : Mu := fun b => if b = a then some c else μ b
theorem updM_same {μ : Mu} {a : Addr} {c : D} : updM μ a c a = some c := if_pos rfl
theorem updM_ne {μ : Mu} {a b : Addr} {c : D} (h : b ≠ a) : updM μ a c b = μ b := if_neg h
def Ct (K : PySem.W.Frag) (G : Hp) : Option HO → D → Prop
  | some (.lst vs), .lst ds => RpAll K G vs ds
  | some (.dT vs), .dct ds => RpKv K G vs ds
  | some (.frz o (.dT vs)), .lck o' ws ds => o = o' ∧ vs = ws ∧ RpKv K G vs ds
  | some (.ins C _ vs), .obj C' ds => C' = C ∧ RpFs K G vs ds
  | _, _ => False
theorem Ct.mono {K : PySem.W.Frag} {G H : Hp} (e : Sub G H) : ∀ {o : Option HO} {c : D}, Ct K G o c → Ct K H o c := fun {o c} h => by
  unfold Ct at h ⊢
  split at h
  · exact RpAll.mono e h
  · exact RpKv.mono e h
  · exact ⟨h.1, h.2.1, RpKv.mono e h.2.2⟩
  · exact ⟨h.1, RpFs.mono e h.2⟩
  · exact h.elim
theorem Ct.some {K : PySem.W.Frag} {G : Hp} {o : Option HO} {c : D} (h : Ct K G o c) : ∃ u, o = Option.some u := by
  unfold Ct at h
  split at h
  · exact ⟨_, rfl⟩
  · exact ⟨_, rfl⟩
  · exact ⟨_, rfl⟩
  · exact ⟨_, rfl⟩
  · exact h.elim
def MuOk (K : PySem.W.Frag) (μ : Mu) (H : Hp) : Prop := ∀ p c, μ p = some c → Ct K (Im μ H) (H p) c
theorem MuOk.lst {K : PySem.W.Frag} {μ : Mu} {H : Hp} {p : Addr} {ds : List D} (m : MuOk K μ H) (h : μ p = some (.lst ds)) : ∃ vs, H p = some (.lst vs) ∧ RpAll K (Im μ H) vs ds := by
  have q := m p _ h
  unfold Ct at q
  split at q
  · rename_i e1 e2
    cases e2
    exact ⟨_, e1, q⟩
  · rename_i e1 e2
    cases e2
  · rename_i e1 e2
    cases e2
  · rename_i e1 e2
    cases e2
  · exact q.elim
theorem MuOk.dct {K : PySem.W.Frag} {μ : Mu} {H : Hp} {p : Addr} {ds : List (List Key × D)} (m : MuOk K μ H) (h : μ p = some (.dct ds)) : ∃ vs, H p = some (.dT vs) ∧ RpKv K (Im μ H) vs ds := by
  have q := m p _ h
  unfold Ct at q
  split at q
  · rename_i e1 e2
    cases e2
  · rename_i e1 e2
    cases e2
    exact ⟨_, e1, q⟩
  · rename_i e1 e2
    cases e2
  · rename_i e1 e2
    cases e2
  · exact q.elim
theorem MuOk.lck {K : PySem.W.Frag} {μ : Mu} {H : Hp} {p : Addr} {o : Obj} {ws : List (List Key × V)} {ds : List (List Key × D)} (m : MuOk K μ H) (h : μ p = some (.lck o ws ds)) : H p = some (.frz o (.dT ws)) ∧ RpKv K (Im μ H) ws ds := by
  have q := m p _ h
  unfold Ct at q
  split at q
  · rename_i e1 e2
    cases e2
  · rename_i e1 e2
    cases e2
  · rename_i e1 e2
    cases e2
    obtain ⟨rfl, rfl, q⟩ := q
    exact ⟨e1, q⟩
  · rename_i e1 e2
    cases e2
  · exact q.elim
theorem MuOk.obj {K : PySem.W.Frag} {μ : Mu} {H : Hp} {p C : Addr} {ds : List (Str × D)} (m : MuOk K μ H) (h : μ p = some (.obj C ds)) : ∃ dx vs, H p = some (.ins C dx vs) ∧ RpFs K (Im μ H) vs ds := by
  have q := m p _ h
  unfold Ct at q
  split at q
  · rename_i e1 e2
    cases e2
  · rename_i e1 e2
    cases e2
  · rename_i e1 e2
    cases e2
  · rename_i e1 e2
    cases e2
    obtain ⟨rfl, q⟩ := q
    exact ⟨_, _, e1, q⟩
  · exact q.elim
/-- all that H holds stays, so what may change is as it was -/
theorem MuOk.ext {K : PySem.W.Frag} {μ : Mu} {H H' : Hp} (m : MuOk K μ H) (e : Sub H H') : MuOk K μ H' := fun p c h => by
  have q := m p c h
  obtain ⟨u, hu⟩ := q.some
  rw [e _ _ hu]
  rw [hu] at q
  exact q.mono (im_sub e)
theorem sub_new {H : Hp} {p : Addr} {o : HO} (h : H p = none) : Sub H (upd H p o) := fun a u e => by
  rw [upd_ne (ne_of_none e h)]
  exact e
theorem mu_free {K : PySem.W.Frag} {μ : Mu} {H : Hp} {p : Addr} (m : MuOk K μ H) (h : H p = none) : μ p = none := by
  cases e : μ p with
  | none => rfl
  | some c =>
    obtain ⟨u, hu⟩ := (m p c e).some
    rw [h] at hu
    cases hu
/-- one of what may change has changed -/
theorem im_upd {μ : Mu} {H : Hp} {p : Addr} {c : D} {o : HO} (h : (μ p).isSome = true) : Im (updM μ p c) (upd H p o) = Im μ H := by
  funext a
  unfold Im updM upd
  by_cases e : a = p
  · subst e
    rw [if_pos rfl, if_pos rfl, if_pos h]
    rfl
  · rw [if_neg e, if_neg e]
/-- a new one -/
theorem im_new {μ : Mu} {H : Hp} {p : Addr} {c : D} {o : HO} (h : H p = none) : Im (updM μ p c) (upd H p o) = Im μ H := by
  funext a
  unfold Im updM upd
  by_cases e : a = p
  · subst e
    rw [if_pos rfl, if_pos rfl, h, ite_self]
    rfl
  · rw [if_neg e, if_neg e]
theorem MuOk.upd {K : PySem.W.Frag} {μ : Mu} {H : Hp} {p : Addr} {c : D} {o : HO} (m : MuOk K μ H) (hi : Im (updM μ p c) (L2.upd H p o) = Im μ H) (hc : Ct K (Im μ H) (some o) c) : MuOk K (updM μ p c) (L2.upd H p o) := fun q c' h => by
  rw [hi]
  by_cases e : q = p
  · subst e
    rw [updM_same] at h
    cases h
    rw [upd_same]
    exact hc
  · rw [updM_ne e] at h
    rw [upd_ne e]
    exact m q c' h

/-! ### the state: slots, what may change, over a base that stays -/
structure Bd (K : PySem.W.Frag) (G0 : Hp) (δ : List (Option D)) (μ : Mu) (σ : L2.St) (H : Hp) : Prop where
  len : σ.length = δ.length
  sl : ∀ (i : Nat) d, δ[i]? = some (some d) → ∃ v, σ[i]? = some (some v) ∧ Rp K (Im μ H) v d
  mu : MuOk K μ H
  base : Sub G0 (Im μ H)
section
variable {K : PySem.W.Frag} {G0 G1 H H' : Hp} {δ : List (Option D)} {μ μ' : Mu} {σ : L2.St}
theorem Bd.step (B : Bd K G0 δ μ σ H) (m : MuOk K μ' H') (e : Sub (Im μ H) (Im μ' H')) : Bd K G0 δ μ' σ H' :=
  ⟨B.len, fun i d h => let ⟨v, h1, h2⟩ := B.sl i d h; ⟨v, h1, h2.mono e⟩, m, B.base.trans e⟩
theorem Bd.ext (B : Bd K G0 δ μ σ H) (e : Sub H H') : Bd K G0 δ μ σ H' := B.step (B.mu.ext e) (im_sub e)
theorem Bd.set (B : Bd K G0 δ μ σ H) {i : Nat} {v : V} {d : D} (r : Rp K (Im μ H) v d) : Bd K G0 (δ.set i (some d)) μ (σ.set i (some v)) H := by
  refine ⟨by rw [List.length_set, List.length_set, B.len], fun j e h => ?_, B.mu, B.base⟩
  by_cases q : i = j
  · subst q
    rw [List.getElem?_set] at h
    rw [if_pos rfl] at h
    split at h
    · rename_i hl
      cases h
      refine ⟨v, ?_, r⟩
      rw [List.getElem?_set, if_pos rfl, if_pos (by rw [B.len]; exact hl)]
    · cases h
  · rw [List.getElem?_set_ne q] at h
    obtain ⟨w, h1, h2⟩ := B.sl j e h
    exact ⟨w, by rw [List.getElem?_set_ne q]; exact h1, h2⟩
theorem Bd.rebase (B : Bd K G0 δ μ σ H) : Bd K (Im μ H) δ μ σ H := ⟨B.len, B.sl, B.mu, Sub.refl _⟩
theorem Bd.weaken (B : Bd K G1 δ μ σ H) (e : Sub G0 G1) : Bd K G0 δ μ σ H := ⟨B.len, B.sl, B.mu, e.trans B.base⟩
end
end DL

namespace DL
open PySem PySem.Spec PyProof.Rows L2

/-! ### canonical readings -/
section
variable (X : Cx)
def wE (e : Expr) : TE := fun σ H Q => ∀ pins s, Inv X pins σ H s → wpAny (model X.prog X.w) X.A (eval e X.env) (EP X pins σ Q) X.xe s
def wT (e : Expr) : TT := fun σ H Q => ∀ pins s, Inv X pins σ H s → wpAny (model X.prog X.w) X.A (isTrue e X.env (eval e X.env)) (TP X pins σ Q) X.xe s
def wW (e : Expr) : TT := fun σ H Q => ∀ (whole : Sem Value) pins s, Inv X pins σ H s → wpAny (model X.prog X.w) X.A (isTrue e X.env whole) (TP X pins σ Q) X.xe s
def wA (es : List Expr) : TA := fun σ H Q => ∀ (pos : Pos) pins s, Inv X pins σ H s → wpAny (model X.prog X.w) X.A (spliced (backTo pos (starEach es X.env))) (AP X pins σ Q) X.xe s
def wK (kws : List Keyword) : TA := fun σ H Q => ∀ (pos : Pos) pins s, Inv X pins σ H s → wpAny (model X.prog X.w) X.A (evalAll ((backToKw pos (keywordEach kws X.env)).map (·.2))) (AP X pins σ Q) X.xe s
def wS (st : Stmt) : TS := fun D σ H => ∀ pins s, Inv X pins σ H s → wpAny (model X.prog X.w) X.A (exec st X.env) (SP X pins D) X.xe s
def wSs (st : List Stmt) : TS := fun D σ H => ∀ pins s, Inv X pins σ H s → wpAny (model X.prog X.w) X.A (execs st X.env) (SP X pins D) X.xe s
/-- a two-place operation by itself -/
def wOp (f : Value → Value → Sem Value) : R2 := fun x y H Q => ∀ (pins : List (Addr × Obj)) (s : Shared) (σ : L2.St) (v u : Value), Inv X pins σ H s → RelV x v → RelV y u → wpAny (model X.prog X.w) X.A (f v u) (EP X pins σ Q) X.xe s
def wUn (f : Value → Sem Value) : V → Hp → VK → Prop := fun x H Q => ∀ (pins : List (Addr × Obj)) (s : Shared) (σ : L2.St) (v : Value), Inv X pins σ H s → RelV x v → wpAny (model X.prog X.w) X.A (f v) (EP X pins σ Q) X.xe s
def wCall (f : Value) : List V → Hp → VK → Prop := fun xs H Q => ∀ (pins : List (Addr × Obj)) (s : Shared) (σ : L2.St) (us : List Value), Inv X pins σ H s → Vals xs us → wpAny (model X.prog X.w) X.A (call f us) (EP X pins σ Q) X.xe s
def wIx : R2 := fun x y H Q => ∀ (value slice : Expr) (pins : List (Addr × Obj)) (s : Shared) (σ : L2.St) (v u : Value), Inv X pins σ H s → RelV x v → RelV y u → subscripted slice false v u = operate [v, u] (getItem v u) → wpAny (model X.prog X.w) X.A (subscriptTail value slice v u) (EP X pins σ Q) X.xe s
end
section
variable {X : Cx} {e a b : Expr} {σ : L2.St} {H : Hp} {pos : Pos}
theorem pe_w : PE X e (wE X e) := ⟨fun pins s _ _ _ I h => h pins s I⟩
theorem pt_w : PT X e (wT X e) := ⟨fun pins s _ _ _ I h => h pins s I⟩
theorem pw_w : PW X e (wW X e) := ⟨fun wh pins s _ _ _ I h => h wh pins s I⟩
theorem pa_w {es : List Expr} : PA X es (wA X es) := ⟨fun p pins s _ _ _ I h => h p pins s I⟩
theorem pk_w {es : List Keyword} : PK X es (wK X es) := ⟨fun p pins s _ _ _ I h => h p pins s I⟩
theorem ps_w {st : Stmt} : PS X st (wS X st) := ⟨fun pins s _ _ _ I h => h pins s I⟩
theorem pss_w {st : List Stmt} : PSs X st (wSs X st) := ⟨fun pins s _ _ _ I h => h pins s I⟩
theorem op_w {f : Value → Value → Sem Value} : OpR X f (wOp X f) := fun pins s σ _ _ _ v u _ I r1 r2 h => h pins s σ v u I r1 r2
theorem un_w {f : Value → Sem Value} : UnR X f (wUn X f) := fun pins s σ _ _ v _ I r h => h pins s σ v I r
theorem call_w {f : Value} : CallR X f (wCall X f) := fun pins s σ _ _ us _ I r h => h pins s σ us I r
theorem ix_w : IxR X (wIx X) := fun ve se pins s σ _ _ _ v u _ I r1 r2 h hs => h ve se pins s σ v u I r1 r2 hs
theorem wE_of {t : TE} {Q : VK} (h : PE X e t) (q : t σ H Q) : wE X e σ H Q := fun pins s I => h.run pins s σ H Q I q
theorem wT_of {t : TT} {Q : Bool → Hp → Prop} (h : PT X e t) (q : t σ H Q) : wT X e σ H Q := fun pins s I => h.run pins s σ H Q I q
theorem wW_of {t : TT} {Q : Bool → Hp → Prop} (h : PW X e t) (q : t σ H Q) : wW X e σ H Q := fun wh pins s I => h.run wh pins s σ H Q I q
theorem wA_of {t : TA} {es : List Expr} {Q : List V → Hp → Prop} (h : PA X es t) (q : t σ H Q) : wA X es σ H Q := fun p pins s I => h.run p pins s σ H Q I q
theorem wK_of {t : TA} {es : List Keyword} {Q : List V → Hp → Prop} (h : PK X es t) (q : t σ H Q) : wK X es σ H Q := fun p pins s I => h.run p pins s σ H Q I q
theorem wS_of {t : TS} {st : Stmt} {E : Ends} (h : PS X st t) (q : t E σ H) : wS X st E σ H := fun pins s I => h.run pins s σ H E I q
theorem wSs_of {t : TS} {st : List Stmt} {E : Ends} (h : PSs X st t) (q : t E σ H) : wSs X st E σ H := fun pins s I => h.run pins s σ H E I q
theorem wOp_of {f : Value → Value → Sem Value} {r : R2} {x y : V} {Q : VK} (h : OpR X f r) (q : r x y H Q) : wOp X f x y H Q := fun pins s σ v u I r1 r2 => h pins s σ H x y v u Q I r1 r2 q
theorem wUn_of {f : Value → Sem Value} {r : V → Hp → VK → Prop} {x : V} {Q : VK} (h : UnR X f r) (q : r x H Q) : wUn X f x H Q := fun pins s σ v I r1 => h pins s σ H x v Q I r1 q
theorem wCall_of {f : Value} {r : List V → Hp → VK → Prop} {xs : List V} {Q : VK} (h : CallR X f r) (q : r xs H Q) : wCall X f xs H Q := fun pins s σ us I r1 => h pins s σ H xs us Q I r1 q
theorem wIx_of {r : R2} {x y : V} {Q : VK} (h : IxR X r) (q : r x y H Q) : wIx X x y H Q := fun ve se pins s σ v u I r1 r2 hs => h ve se pins s σ H x y v u Q I r1 r2 q hs
end

/-! ### data's judgements -/
/-- what is wanted of data -/
abbrev DK := D → Mu → Prop
/-- behind a value that is d -/
def KP (K : PySem.W.Frag) (μ : Mu) (H : Hp) (Φ : DK) (Q : VK) : Prop :=
  ∀ v H2 d μ2, Φ d μ2 → MuOk K μ2 H2 → Sub (Im μ H) (Im μ2 H2) → Rp K (Im μ2 H2) v d → Q v H2
def dE (X : Cx) (G0 : Hp) (e : Expr) (δ : List (Option D)) (μ : Mu) (Φ : DK) : Prop := ∀ σ H, Bd X.K G0 δ μ σ H → ∀ Q, KP X.K μ H Φ Q → wE X e σ H Q
def dT (X : Cx) (G0 : Hp) (e : Expr) (δ : List (Option D)) (μ : Mu) (Φ : Bool → Mu → Prop) : Prop := ∀ σ H, Bd X.K G0 δ μ σ H → ∀ Q : Bool → Hp → Prop,
  (∀ b H2 μ2, Φ b μ2 → MuOk X.K μ2 H2 → Sub (Im μ H) (Im μ2 H2) → Q b H2) → wT X e σ H Q
def dW (X : Cx) (G0 : Hp) (e : Expr) (δ : List (Option D)) (μ : Mu) (Φ : Bool → Mu → Prop) : Prop := ∀ σ H, Bd X.K G0 δ μ σ H → ∀ Q : Bool → Hp → Prop,
  (∀ b H2 μ2, Φ b μ2 → MuOk X.K μ2 H2 → Sub (Im μ H) (Im μ2 H2) → Q b H2) → wW X e σ H Q
abbrev DKs := List D → Mu → Prop
def KPs (K : PySem.W.Frag) (μ : Mu) (H : Hp) (Φ : DKs) (Q : List V → Hp → Prop) : Prop :=
  ∀ vs H2 ds μ2, Φ ds μ2 → MuOk K μ2 H2 → Sub (Im μ H) (Im μ2 H2) → RpAll K (Im μ2 H2) vs ds → Q vs H2
def dA (X : Cx) (G0 : Hp) (es : List Expr) (δ : List (Option D)) (μ : Mu) (Φ : DKs) : Prop := ∀ σ H, Bd X.K G0 δ μ σ H → ∀ Q, KPs X.K μ H Φ Q → wA X es σ H Q
def dKw (X : Cx) (G0 : Hp) (es : List Keyword) (δ : List (Option D)) (μ : Mu) (Φ : DKs) : Prop := ∀ σ H, Bd X.K G0 δ μ σ H → ∀ Q, KPs X.K μ H Φ Q → wK X es σ H Q
/-- an operation on data -/
def dOp (X : Cx) (f : Value → Value → Sem Value) (x y : D) (μ : Mu) (Φ : DK) : Prop := ∀ v u H, Rp X.K (Im μ H) v x → Rp X.K (Im μ H) u y → MuOk X.K μ H → ∀ Q, KP X.K μ H Φ Q → wOp X f v u H Q
def dUn (X : Cx) (f : Value → Sem Value) (x : D) (μ : Mu) (Φ : DK) : Prop := ∀ v H, Rp X.K (Im μ H) v x → MuOk X.K μ H → ∀ Q, KP X.K μ H Φ Q → wUn X f v H Q
def dCall (X : Cx) (f : Value) (xs : List D) (μ : Mu) (Φ : DK) : Prop := ∀ vs H, RpAll X.K (Im μ H) vs xs → MuOk X.K μ H → ∀ Q, KP X.K μ H Φ Q → wCall X f vs H Q
def dIx (X : Cx) (x y : D) (μ : Mu) (Φ : DK) : Prop := ∀ v u H, Rp X.K (Im μ H) v x → Rp X.K (Im μ H) u y → MuOk X.K μ H → ∀ Q, KP X.K μ H Φ Q → wIx X v u H Q

section
variable {X : Cx} {G0 : Hp} {e a b : Expr} {δ : List (Option D)} {μ : Mu} {Φ : DK} {pos : Pos} {K : PySem.W.Frag} {H H1 : Hp} {Q : VK}
theorem KP.val (k : KP K μ H Φ Q) {v : V} {d : D} (m : MuOk K μ H) (q : Φ d μ) (r : Rp K (Im μ H) v d) : Q v H := k v H d μ q m (Sub.refl _) r
theorem KP.after {μ1 : Mu} (k : KP K μ H Φ Q) (s : Sub (Im μ H) (Im μ1 H1)) : KP K μ1 H1 Φ Q := fun v H2 d μ2 q m e r => k v H2 d μ2 q m (s.trans e) r
theorem Bd.now {σ : L2.St} {μ1 : Mu} (B : Bd K G0 δ μ σ H) (m : MuOk K μ1 H1) (e : Sub (Im μ H) (Im μ1 H1)) : Bd K (Im μ1 H1) δ μ1 σ H1 := (B.step m e).rebase
theorem dE.go (h : dE X G0 e δ μ Φ) {σ : L2.St} (B : Bd X.K G0 δ μ σ H) (k : KP X.K μ H Φ Q) : wE X e σ H Q := h σ H B Q k
theorem dE.imp {Ψ : DK} (h : dE X G0 e δ μ Φ) (i : ∀ d μ, Φ d μ → Ψ d μ) : dE X G0 e δ μ Ψ := fun σ H B Q k => h σ H B Q fun v H2 d μ2 q m e r => k v H2 d μ2 (i d μ2 q) m e r
theorem dT.imp {Φ Ψ : Bool → Mu → Prop} (h : dT X G0 e δ μ Φ) (i : ∀ d μ, Φ d μ → Ψ d μ) : dT X G0 e δ μ Ψ := fun σ H B Q k => h σ H B Q fun b H2 μ2 q m e => k b H2 μ2 (i b μ2 q) m e

theorem d_int {i j} (q : Φ (.int i) μ) : dE X G0 (.Constant (.int i) j pos) δ μ Φ := fun σ H B Q k => wE_of pe_int (k.val B.mu q (.int i))
theorem d_bl {i j} (q : Φ (.bl i) μ) : dE X G0 (.Constant (.bool i) j pos) δ μ Φ := fun σ H B Q k => wE_of pe_bl (k.val B.mu q (.bl i))
theorem d_non {j} (q : Φ .non μ) : dE X G0 (.Constant .none j pos) δ μ Φ := fun σ H B Q k => wE_of pe_non (k.val B.mu q .non)
theorem d_str {i j} (q : Φ (.str i) μ) : dE X G0 (.Constant (.str i) j pos) δ μ Φ := fun σ H B Q k => wE_of pe_str (k.val B.mu q (.str i))
theorem d_var (i : Nat) {x : Str} {d : D} (hd : δ[i]? = some (some d)) (q : Φ d μ) (hN : X.N[i]? = some x := by rfl) (hv : Vis X.env.scope x := by first | exact Or.inl rfl | exact Or.inr (Or.inl rfl) | exact Or.inr (Or.inr rfl)) (hb : (x == ("__debug__" : Str)) = false := by decide)
    (hcd : (x == ("__classdict__" : Str)) = false := by decide) : dE X G0 (.Name x pos) δ μ Φ := fun σ H B Q k => by
  obtain ⟨v, h1, r⟩ := B.sl i d hd
  exact wE_of (pe_var hN hv hb hcd) ⟨v, h1, k.val B.mu q r⟩
theorem d_op {op : Operator} (h : dE X G0 a δ μ fun x μ1 => dE X G0 b δ μ1 fun y μ2 => dOp X (binaryOp op) x y μ2 Φ) : dE X G0 (.BinOp a op b pos) δ μ Φ := fun σ H B Q k => by
  refine wE_of (pe_op op_w pe_w pe_w) ?_
  refine h σ H B _ fun v H1 x μ1 hx m1 e1 r1 => ?_
  refine hx σ H1 (B.step m1 e1) _ fun u H2 y μ2 hy m2 e2 r2 => ?_
  exact hy v u H2 (r1.mono e2) r2 m2 Q (k.after (e1.trans e2))
theorem d_un {op : UnaryOp} (h : dE X G0 a δ μ fun x μ1 => dUn X (unaryOp op) x μ1 Φ) : dE X G0 (.UnaryOp op a pos) δ μ Φ := fun σ H B Q k => by
  refine wE_of (pe_un un_w pe_w) ?_
  refine h σ H B _ fun v H1 x μ1 hx m1 e1 r1 => ?_
  exact hx v H1 r1 m1 Q (k.after e1)
theorem d_cmp {op : CmpOp} (h : dE X G0 a δ μ fun x μ1 => dE X G0 b δ μ1 fun y μ2 => dOp X (compareOp op) x y μ2 Φ) (hm : behindInMarks op b = false := by first | exact nomark _ | rfl) : dE X G0 (.Compare a [op] [b] pos) δ μ Φ := fun σ H B Q k => by
  refine wE_of (pe_cmpR op_w pe_w pe_w hm) ?_
  refine h σ H B _ fun v H1 x μ1 hx m1 e1 r1 => ?_
  refine hx σ H1 (B.step m1 e1) _ fun u H2 y μ2 hy m2 e2 r2 => ?_
  exact hy v u H2 (r1.mono e2) r2 m2 Q (k.after (e1.trans e2))
theorem d_ix (h : dE X G0 a δ μ fun x μ1 => dE X G0 b δ μ1 fun y μ2 => dIx X x y μ2 Φ) (hs : PlainIx b := by exact fun _ _ => rfl) : dE X G0 (.Subscript a b pos) δ μ Φ := fun σ H B Q k => by
  refine wE_of (pe_ix ix_w pe_w pe_w hs) ?_
  refine h σ H B _ fun v H1 x μ1 hx m1 e1 r1 => ?_
  refine hx σ H1 (B.step m1 e1) _ fun u H2 y μ2 hy m2 e2 r2 => ?_
  exact hy v u H2 (r1.mono e2) r2 m2 Q (k.after (e1.trans e2))
theorem da_nil {Φ : DKs} (q : Φ [] μ) : dA X G0 [] δ μ Φ := fun σ H B Q k => wA_of pa_nil (k [] H [] μ q B.mu (Sub.refl _) .nil)
theorem da_cons {es : List Expr} {Φ : DKs} (h : dE X G0 e δ μ fun x μ1 => dA X G0 es δ μ1 fun xs μ2 => Φ (x :: xs) μ2) (hs : starEach (e :: es) X.env = (false, eval e X.env) :: starEach es X.env := by rfl) : dA X G0 (e :: es) δ μ Φ := fun σ H B Q k => by
  refine wA_of (pa_cons pe_w pa_w hs) ?_
  refine h σ H B _ fun v H1 x μ1 hx m1 e1 r1 => ?_
  refine hx σ H1 (B.step m1 e1) _ fun vs H2 xs μ2 hy m2 e2 r2 => ?_
  exact k _ H2 _ μ2 hy m2 (e1.trans e2) (.cons (r1.mono e2) r2)
theorem dk_nil {Φ : DKs} (q : Φ [] μ) : dKw X G0 [] δ μ Φ := fun σ H B Q k => wK_of pk_nil (k [] H [] μ q B.mu (Sub.refl _) .nil)
theorem dk_cons {nm : Option Str} {kpos : Pos} {es : List Keyword} {Φ : DKs} (h : dE X G0 e δ μ fun x μ1 => dKw X G0 es δ μ1 fun xs μ2 => Φ (x :: xs) μ2) : dKw X G0 (⟨nm, e, kpos⟩ :: es) δ μ Φ := fun σ H B Q k => by
  refine wK_of (pk_cons pe_w pk_w) ?_
  refine h σ H B _ fun v H1 x μ1 hx m1 e1 r1 => ?_
  refine hx σ H1 (B.step m1 e1) _ fun vs H2 xs μ2 hy m2 e2 r2 => ?_
  exact k _ H2 _ μ2 hy m2 (e1.trans e2) (.cons (r1.mono e2) r2)
theorem mu_sub {p : Addr} {o : HO} (h : H p = none) : Sub (Im μ H) (Im μ (upd H p o)) := im_sub (sub_new h)
theorem KP.new (k : KP K μ H Φ Q) (m : MuOk K μ H) {p : Addr} (hp : H p = none) {o : HO} {d : D} (q : Φ d μ) (r : Rp K (Im μ (upd H p o)) (.ref p) d) : Q (.ref p) (upd H p o) :=
  k _ _ d μ q (m.ext (sub_new hp)) (mu_sub hp) r
theorem im_at {p : Addr} {o : HO} (m : MuOk K μ H) (hp : H p = none) : Im μ (upd H p o) p = some o := by
  unfold Im
  rw [mu_free m hp, upd_same]
  rfl
theorem rp_lst {p : Addr} {xs : List V} {ds : List D} (m : MuOk K μ H) (hp : H p = none) (r : RpAll K (Im μ H) xs ds) : Rp K (Im μ (upd H p (.lst xs))) (.ref p) (.lst ds) := .lst (im_at m hp) (r.mono (mu_sub hp))
theorem rp_tup {p : Addr} {xs : List V} {ds : List D} (m : MuOk K μ H) (hp : H p = none) (r : RpAll K (Im μ H) xs ds) : Rp K (Im μ (upd H p (.tup xs))) (.ref p) (.tup ds) := .tup (im_at m hp) (r.mono (mu_sub hp))
/-- a display -/
theorem d_lst {es : List Expr} (h : dA X G0 es δ μ fun xs μ1 => xs.length ≤ sizeLine ∧ Φ (.lst xs) μ1) : dE X G0 (.List es pos) δ μ Φ := fun σ H B Q k => by
  refine wE_of (pe_lst pa_w) ?_
  refine h σ H B _ fun vs H1 xs μ1 ⟨hl, q⟩ m1 e1 r1 => ?_
  exact ⟨by rw [r1.length]; exact hl, fun p hp => (k.after e1).new m1 hp q (rp_lst m1 hp r1)⟩
theorem d_tup {x1} {es : List Expr} (h : dA X G0 es δ μ fun xs μ1 => xs.length ≤ sizeLine ∧ Φ (.tup xs) μ1) : dE X G0 (.Tuple es x1 pos) δ μ Φ := fun σ H B Q k => by
  refine wE_of (pe_tup pa_w) ?_
  refine h σ H B _ fun vs H1 xs μ1 ⟨hl, q⟩ m1 e1 r1 => ?_
  exact ⟨by rw [r1.length]; exact hl, fun p hp => (k.after e1).new m1 hp q (rp_tup m1 hp r1)⟩
/-- a new list that may change -/
theorem KP.newM (k : KP K μ H Φ Q) (m : MuOk K μ H) {p : Addr} (hp : H p = none) {xs : List V} {ds : List D} (r : RpAll K (Im μ H) xs ds) (q : ∀ p, μ p = none → Φ (.ref p) (updM μ p (.lst ds))) : Q (.ref p) (upd H p (.lst xs)) := by
  have e : Im (updM μ p (.lst ds)) (upd H p (.lst xs)) = Im μ H := im_new hp
  exact k _ _ _ _ (q p (mu_free m hp)) (m.upd e r) (by rw [e]; exact Sub.refl _) (.ref p)
theorem d_lstM {es : List Expr} (h : dA X G0 es δ μ fun xs μ1 => xs.length ≤ sizeLine ∧ ∀ p, μ1 p = none → Φ (.ref p) (updM μ1 p (.lst xs))) : dE X G0 (.List es pos) δ μ Φ := fun σ H B Q k => by
  refine wE_of (pe_lst pa_w) ?_
  refine h σ H B _ fun vs H1 xs μ1 ⟨hl, q⟩ m1 e1 r1 => ?_
  exact ⟨by rw [r1.length]; exact hl, fun p hp => (k.after e1).newM m1 hp r1 q⟩

/-! ### operations on data -/
section
variable {i j : Int} {xs ys : List D} {x y : Str} {p : Addr}
theorem rp_int {v : V} {G : Hp} (r : Rp K G v (.int i)) : v = .int i := by cases r; rfl
theorem rp_str {v : V} {G : Hp} (r : Rp K G v (.str x)) : v = .str x := by cases r; rfl
theorem rp_bl {v : V} {G : Hp} {c : Bool} (r : Rp K G v (.bl c)) : v = .bl c := by cases r; rfl
theorem rp_non {v : V} {G : Hp} (r : Rp K G v .non) : v = .non := by cases r; rfl
theorem op_int {f : Value → Value → Sem Value} {C : Int → Int → Prop} {g : Int → Int → Int} (h : OpR X f (rI C fun i j => .int (g i j))) (c : C i j) (q : Φ (.int (g i j)) μ) : dOp X f (.int i) (.int j) μ Φ := fun v u H r1 r2 m Q k => by
  rw [rp_int r1, rp_int r2]
  exact wOp_of h ⟨i, j, rfl, rfl, c, k.val m q (.int _)⟩
theorem op_int0 {f : Value → Value → Sem Value} {g : Int → Int → Int} (h : OpR X f (rI0 fun i j => .int (g i j))) (q : Φ (.int (g i j)) μ) : dOp X f (.int i) (.int j) μ Φ := fun v u H r1 r2 m Q k => by
  rw [rp_int r1, rp_int r2]
  exact wOp_of h ⟨i, j, rfl, rfl, k.val m q (.int _)⟩
theorem op_intB {f : Value → Value → Sem Value} {g : Int → Int → Bool} (h : OpR X f (rI0 fun i j => .bl (g i j))) (q : Φ (.bl (g i j)) μ) : dOp X f (.int i) (.int j) μ Φ := fun v u H r1 r2 m Q k => by
  rw [rp_int r1, rp_int r2]
  exact wOp_of h ⟨i, j, rfl, rfl, k.val m q (.bl _)⟩
theorem o_add (q : Φ (.int (i + j)) μ) : dOp X (binaryOp .Add) (.int i) (.int j) μ Φ := op_int0 op_add q
theorem o_sub (q : Φ (.int (i - j)) μ) : dOp X (binaryOp .Sub) (.int i) (.int j) μ Φ := op_int0 op_sub q
theorem o_mul (q : CMulW i j ∧ Φ (.int (i * j)) μ) : dOp X (binaryOp .Mult) (.int i) (.int j) μ Φ := op_int op_mulW q.1 q.2
theorem o_mod (q : j ≠ 0 ∧ Φ (.int (i.fmod j)) μ) : dOp X (binaryOp .Mod) (.int i) (.int j) μ Φ := op_int op_modN q.1 q.2
theorem o_pow (q : CPow i j ∧ Φ (.int (i ^ j.toNat)) μ) : dOp X (binaryOp .Pow) (.int i) (.int j) μ Φ := op_int op_pow q.1 q.2
def CDivX (_ j : Int) : Prop := j ≠ 0 ∧ j.natAbs.log2 < 9000
theorem op_fdivX : OpR X (binaryOp .FloorDiv) (rI CDivX fun i j => .int (i.fdiv j)) := opI fun i j _ _ _ _ _ hc q => floordiv_int hc.1 q (.inl (PyProof.noPylong_of_log2 hc.2))
theorem o_div (q : CDivX i j ∧ Φ (.int (i.fdiv j)) μ) : dOp X (binaryOp .FloorDiv) (.int i) (.int j) μ Φ := op_int op_fdivX q.1 q.2
theorem o_lt (q : Φ (.bl (decide (i < j))) μ) : dOp X (compareOp .Lt) (.int i) (.int j) μ Φ := op_intB op_lt q
theorem o_le (q : Φ (.bl (decide (i ≤ j))) μ) : dOp X (compareOp .LtE) (.int i) (.int j) μ Φ := op_intB op_le q
theorem o_gt (q : Φ (.bl (decide (j < i))) μ) : dOp X (compareOp .Gt) (.int i) (.int j) μ Φ := op_intB op_gt q
theorem o_ge (q : Φ (.bl (decide (j ≤ i))) μ) : dOp X (compareOp .GtE) (.int i) (.int j) μ Φ := op_intB op_ge q
theorem o_eq (q : Φ (.bl (decide (i = j))) μ) : dOp X (compareOp .Eq) (.int i) (.int j) μ Φ := fun v u H r1 r2 m Q k => by
  rw [rp_int r1, rp_int r2]
  refine wOp_of op_eq ⟨rfl, k.val m q ?_⟩
  rw [show decide (V.int i = V.int j) = decide (i = j) from decide_eq_decide.mpr ⟨V.int.inj, congrArg _⟩]
  exact .bl _
theorem o_ne (q : Φ (.bl (!decide (i = j))) μ) : dOp X (compareOp .NotEq) (.int i) (.int j) μ Φ := fun v u H r1 r2 m Q k => by
  rw [rp_int r1, rp_int r2]
  refine wOp_of op_ne ⟨rfl, k.val m q ?_⟩
  rw [show decide (V.int i = V.int j) = decide (i = j) from decide_eq_decide.mpr ⟨V.int.inj, congrArg _⟩]
  exact .bl _
theorem o_eqS (q : Φ (.bl (decide (x = y))) μ) : dOp X (compareOp .Eq) (.str x) (.str y) μ Φ := fun v u H r1 r2 m Q k => by
  rw [rp_str r1, rp_str r2]
  refine wOp_of op_eq ⟨rfl, k.val m q ?_⟩
  rw [show decide (V.str x = V.str y) = decide (x = y) from decide_eq_decide.mpr ⟨V.str.inj, congrArg _⟩]
  exact .bl _
theorem o_neS (q : Φ (.bl (!decide (x = y))) μ) : dOp X (compareOp .NotEq) (.str x) (.str y) μ Φ := fun v u H r1 r2 m Q k => by
  rw [rp_str r1, rp_str r2]
  refine wOp_of op_ne ⟨rfl, k.val m q ?_⟩
  rw [show decide (V.str x = V.str y) = decide (x = y) from decide_eq_decide.mpr ⟨V.str.inj, congrArg _⟩]
  exact .bl _
theorem o_addS (q : x.length + y.length ≤ sizeLine ∧ Φ (.str (x ++ y)) μ) : dOp X (binaryOp .Add) (.str x) (.str y) μ Φ := fun v u H r1 r2 m Q k => by
  rw [rp_str r1, rp_str r2]
  exact wOp_of op_add_str ⟨x, y, rfl, rfl, q.1, k.val m q.2 (.str _)⟩
theorem o_neg (q : Φ (.int (-i)) μ) : dUn X (unaryOp .USub) (.int i) μ Φ := fun v H r m Q k => by
  rw [rp_int r]
  exact wUn_of un_neg ⟨i, rfl, k.val m q (.int _)⟩
theorem rp_lst_at {v : V} (r : Rp K (Im μ H) v (.lst xs)) : ∃ a vs, v = .ref a ∧ H a = some (.lst vs) ∧ RpAll K (Im μ H) vs xs := by
  cases r with
  | lst h r => exact ⟨_, _, rfl, im_all _ _ h, r⟩
theorem rp_tup_at {v : V} (r : Rp K (Im μ H) v (.tup xs)) : ∃ a vs, v = .ref a ∧ H a = some (.tup vs) ∧ RpAll K (Im μ H) vs xs := by
  cases r with
  | tup h r => exact ⟨_, _, rfl, im_all _ _ h, r⟩
theorem rp_ref {v : V} {G : Hp} (r : Rp K G v (.ref p)) : v = .ref p := by cases r; rfl
theorem o_cat (q : xs.length + ys.length ≤ sizeLine ∧ Φ (.lst (xs ++ ys)) μ) : dOp X (binaryOp .Add) (.lst xs) (.lst ys) μ Φ := fun v u H r1 r2 m Q k => by
  obtain ⟨a, vs, rfl, ha, ra⟩ := rp_lst_at r1
  obtain ⟨b, ws, rfl, hb, rb⟩ := rp_lst_at r2
  exact wOp_of op_cat ⟨a, b, vs, ws, rfl, rfl, ha, hb, by rw [ra.length, rb.length]; exact q.1, fun p hp => k.new m hp q.2 (rp_lst m hp (ra.append rb))⟩
/-- a list that may change, and one that stays -/
theorem o_catM (h : μ p = some (.lst xs)) (q : xs.length + ys.length ≤ sizeLine ∧ Φ (.lst (xs ++ ys)) μ) : dOp X (binaryOp .Add) (.ref p) (.lst ys) μ Φ := fun v u H r1 r2 m Q k => by
  cases rp_ref r1
  obtain ⟨vs, ha, ra⟩ := m.lst h
  obtain ⟨b, ws, rfl, hb, rb⟩ := rp_lst_at r2
  exact wOp_of op_cat ⟨p, b, vs, ws, rfl, rfl, ha, hb, by rw [ra.length, rb.length]; exact q.1, fun p hp => k.new m hp q.2 (rp_lst m hp (ra.append rb))⟩
theorem o_rep (q : -(2 ^ 63) ≤ j ∧ j < 2 ^ 63 ∧ xs.length * j.toNat ≤ sizeLine ∧ Φ (.lst (List.replicate j.toNat xs).flatten) μ) : dOp X (binaryOp .Mult) (.lst xs) (.int j) μ Φ := fun v u H r1 r2 m Q k => by
  obtain ⟨a, vs, rfl, ha, ra⟩ := rp_lst_at r1
  rw [rp_int r2]
  exact wOp_of op_rep ⟨a, j, vs, rfl, rfl, ha, q.1, q.2.1, by rw [ra.length]; exact q.2.2.1, fun p hp => k.new m hp q.2.2.2 (rp_lst m hp (ra.rep _))⟩
theorem atI_rp {G : Hp} {vs : List V} {d : D} (r : RpAll K G vs xs) (h : atI xs i = some d) : ∃ v, atI vs i = some v ∧ Rp K G v d := by
  unfold atI at h ⊢
  rw [r.length]
  cases e : ixN xs.length i with
  | none => rw [e] at h; cases h
  | some j =>
    rw [e] at h
    exact r.get h
theorem x_lst {d : D} (h : atI xs i = some d) (q : Φ d μ) : dIx X (.lst xs) (.int i) μ Φ := fun v u H r1 r2 m Q k => by
  obtain ⟨a, vs, rfl, ha, ra⟩ := rp_lst_at r1
  rw [rp_int r2]
  obtain ⟨v, hv, rv⟩ := atI_rp ra h
  exact wIx_of ix_list ⟨a, vs, i, v, rfl, rfl, SqL.of ha, hv, k.val m q rv⟩
theorem x_tup {d : D} (h : atI xs i = some d) (q : Φ d μ) : dIx X (.tup xs) (.int i) μ Φ := fun v u H r1 r2 m Q k => by
  obtain ⟨a, vs, rfl, ha, ra⟩ := rp_tup_at r1
  rw [rp_int r2]
  obtain ⟨v, hv, rv⟩ := atI_rp ra h
  exact wIx_of ix_tup ⟨a, vs, i, v, rfl, rfl, SqT.of ha, hv, k.val m q rv⟩
theorem x_mut {d : D} (hp : μ p = some (.lst xs)) (h : atI xs i = some d) (q : Φ d μ) : dIx X (.ref p) (.int i) μ Φ := fun v u H r1 r2 m Q k => by
  cases rp_ref r1
  obtain ⟨vs, ha, ra⟩ := m.lst hp
  rw [rp_int r2]
  obtain ⟨v, hv, rv⟩ := atI_rp ra h
  exact wIx_of ix_list ⟨p, vs, i, v, rfl, rfl, SqL.of ha, hv, k.val m q rv⟩
end
end
end DL

namespace DL
open PySem PySem.Spec PyProof.Rows L2

/-! ### truth, tests -/
/-- a datum's truth -/
def Tr : D → Mu → Bool → Prop
  | .non, _, b => b = false
  | .bl c, _, b => b = c
  | .int i, _, b => b = (i != 0)
  | .str x, _, b => x.length ≤ sizeLine ∧ b = ((x.length : Int) != 0)
  | .lst ds, _, b => b = !ds.isEmpty
  | .tup ds, _, b => b = !ds.isEmpty
  | .ref p, μ, b => ∃ ds, μ p = some (.lst ds) ∧ b = !ds.isEmpty
  | _, _, _ => False
section
variable {X : Cx} {G0 : Hp} {e a b c : Expr} {es rest : List Expr} {δ : List (Option D)} {μ : Mu} {Φ : DK} {pos : Pos} {K : PySem.W.Frag} {H : Hp} {Q : VK} {Θ : Bool → Mu → Prop}
theorem RpAll.isEmpty {G : Hp} {vs : List V} {ds : List D} (r : RpAll K G vs ds) : vs.isEmpty = ds.isEmpty := by cases r <;> rfl
theorem tr_ok {v : V} {d : D} {k : Bool} (r : Rp K (Im μ H) v d) (m : MuOk K μ H) (h : Tr d μ k) : TruV K v H k := by
  cases r with
  | non => exact h
  | bl b => exact h
  | int i => exact h
  | str x => exact h
  | ref p =>
    obtain ⟨ds, hp, e⟩ := h
    obtain ⟨vs, ha, ra⟩ := m.lst hp
    exact .inl ⟨vs, SqL.of ha, by rw [ra.isEmpty]; exact e⟩
  | scr h1 => exact h.elim
  | ty n => exact h.elim
  | exc h1 _ => exact h.elim
  | exv h1 _ _ => exact h.elim
  | exb h1 => exact h.elim
  | lst h1 r => exact .inl ⟨_, SqL.of (im_all _ _ h1), by rw [r.isEmpty]; exact h⟩
  | tup h1 r => exact .inr (.inl ⟨_, SqT.of (im_all _ _ h1), by rw [r.isEmpty]; exact h⟩)
  | dct h1 r => exact h.elim
  | obj h1 r => exact h.elim
theorem t_val (h : dE X G0 e δ μ fun d μ1 => ∃ k, Tr d μ1 k ∧ Θ k μ1) (he : ∀ whole, isTrue e X.env whole = (do let v ← whole; standAt e.pos; holding [v] (truthy v)) := by intro _; rfl) : dT X G0 e δ μ Θ := fun σ H B Q k => by
  refine wT_of (pt_truth pe_w he) ?_
  refine h σ H B _ fun v H1 d μ1 ⟨c, t, q⟩ m1 e1 r1 => ?_
  exact ⟨c, tr_ok r1 m1 t, k c H1 μ1 q m1 e1⟩
theorem t_not (h : dT X G0 e δ μ fun k μ1 => Θ (!k) μ1) : dT X G0 (.UnaryOp .Not e pos) δ μ Θ := fun σ H B Q k => by
  refine wT_of (pt_not pt_w) ?_
  exact h σ H B _ fun c H1 μ1 q m1 e1 => k _ H1 μ1 q m1 e1
theorem tw_and1 (h : dT X G0 e δ μ Θ) : dW X G0 (.BoolOp .And [e] pos) δ μ Θ := fun σ H B Q k => wW_of (pw_and1 pt_w) (h σ H B Q k)
theorem tw_or1 (h : dT X G0 e δ μ Θ) : dW X G0 (.BoolOp .Or [e] pos) δ μ Θ := fun σ H B Q k => wW_of (pw_or1 pt_w) (h σ H B Q k)
theorem tw_and (h : dT X G0 a δ μ fun k μ1 => (k = true → dW X G0 (.BoolOp .And (b :: rest) pos) δ μ1 Θ) ∧ (k = false → Θ false μ1)) : dW X G0 (.BoolOp .And (a :: b :: rest) pos) δ μ Θ := fun σ H B Q k => by
  refine wW_of (pw_and pt_w pw_w) ?_
  refine h σ H B _ fun c H1 μ1 ⟨q1, q2⟩ m1 e1 => ?_
  cases c with
  | true => exact iteT (q1 rfl σ H1 (B.step m1 e1) Q fun c H2 μ2 q m2 e2 => k c H2 μ2 q m2 (e1.trans e2))
  | false => exact iteF (k _ H1 μ1 (q2 rfl) m1 e1)
theorem tw_or (h : dT X G0 a δ μ fun k μ1 => (k = false → dW X G0 (.BoolOp .Or (b :: rest) pos) δ μ1 Θ) ∧ (k = true → Θ true μ1)) : dW X G0 (.BoolOp .Or (a :: b :: rest) pos) δ μ Θ := fun σ H B Q k => by
  refine wW_of (pw_or pt_w pw_w) ?_
  refine h σ H B _ fun c H1 μ1 ⟨q1, q2⟩ m1 e1 => ?_
  cases c with
  | true => exact iteT (k _ H1 μ1 (q2 rfl) m1 e1)
  | false => exact iteF (q1 rfl σ H1 (B.step m1 e1) Q fun c H2 μ2 q m2 e2 => k c H2 μ2 q m2 (e1.trans e2))
theorem t_bool {op : BoolOp} (h : dW X G0 (.BoolOp op es pos) δ μ Θ) : dT X G0 (.BoolOp op es pos) δ μ Θ := fun σ H B Q k => wT_of (PW.pt pw_w) (h σ H B Q k)
/-- and, or, not as values -/
theorem d_not (h : dE X G0 e δ μ fun d μ1 => ∃ k, d = .bl k ∧ Φ (.bl (!k)) μ1) : dE X G0 (.UnaryOp .Not e pos) δ μ Φ := fun σ H B Q k => by
  refine wE_of (pe_not pe_w) ?_
  refine h σ H B _ fun v H1 d μ1 ⟨c, e, q⟩ m1 e1 r1 => ?_
  subst e
  exact ⟨c, rp_bl r1, (k.after e1).val m1 q (.bl _)⟩
theorem d_one {op} (h : dE X G0 e δ μ Φ) : dE X G0 (.BoolOp op [e] pos) δ μ Φ := fun σ H B Q k => wE_of (pe_one pe_w) (h σ H B Q k)
theorem d_and (h : dE X G0 a δ μ fun d μ1 => ∃ k, d = .bl k ∧ (k = true → dE X G0 (.BoolOp .And (b :: rest) pos) δ μ1 Φ) ∧ (k = false → Φ (.bl false) μ1)) : dE X G0 (.BoolOp .And (a :: b :: rest) pos) δ μ Φ := fun σ H B Q k => by
  refine wE_of (pe_and pe_w pe_w) ?_
  refine h σ H B _ fun v H1 d μ1 ⟨c, e, q1, q2⟩ m1 e1 r1 => ?_
  subst e
  refine ⟨c, rp_bl r1, ?_⟩
  cases c with
  | true => exact iteT (q1 rfl σ H1 (B.step m1 e1) Q (k.after e1))
  | false => exact iteF ((k.after e1).val m1 (q2 rfl) (.bl _))
theorem d_or (h : dE X G0 a δ μ fun d μ1 => ∃ k, d = .bl k ∧ (k = false → dE X G0 (.BoolOp .Or (b :: rest) pos) δ μ1 Φ) ∧ (k = true → Φ (.bl true) μ1)) : dE X G0 (.BoolOp .Or (a :: b :: rest) pos) δ μ Φ := fun σ H B Q k => by
  refine wE_of (pe_or pe_w pe_w) ?_
  refine h σ H B _ fun v H1 d μ1 ⟨c, e, q1, q2⟩ m1 e1 r1 => ?_
  subst e
  refine ⟨c, rp_bl r1, ?_⟩
  cases c with
  | true => exact iteT ((k.after e1).val m1 (q2 rfl) (.bl _))
  | false => exact iteF (q1 rfl σ H1 (B.step m1 e1) Q (k.after e1))
theorem d_if (h : dT X G0 c δ μ fun k μ1 => (k = true → dE X G0 a δ μ1 Φ) ∧ (k = false → dE X G0 b δ μ1 Φ)) : dE X G0 (.IfExp c a b pos) δ μ Φ := fun σ H B Q k => by
  refine wE_of (pe_ifExp pt_w pe_w pe_w) ?_
  refine h σ H B _ fun c H1 μ1 ⟨q1, q2⟩ m1 e1 => ?_
  cases c with
  | true => exact iteT (q1 rfl σ H1 (B.step m1 e1) Q (k.after e1))
  | false => exact iteF (q2 rfl σ H1 (B.step m1 e1) Q (k.after e1))

/-! ### calls of built-ins -/
theorem d_callB {x : Str} {id : String} {p : Pos} (ha : dA X G0 (e :: es) δ μ fun xs μ1 => dCall X (.builtin id) xs μ1 Φ) (hm : X.mg x = none := by assumption) (hv : bootBuiltins x = some (.builtin id) := by exact (by decide +kernel)) (hg : Gl X x := by rfl) (hn : x ≠ "__name__" := by decide) (hdb : (x == ("__debug__" : Str)) = false := by decide)
    (he : starEach (e :: es) X.env = (false, eval e X.env) :: starEach es X.env := by rfl) (hpl : (backTo pos (starEach es X.env)).any (·.1) = false := by rfl) : dE X G0 (.Call (.Name x p) (e :: es) [] pos) δ μ Φ := fun σ H B Q k => by
  refine wE_of (pe_callB call_w hg hm hv pa_w hn hdb he hpl) ?_
  refine ha σ H B _ fun vs H1 xs μ1 q m1 e1 r1 => ?_
  exact q vs H1 r1 m1 Q (k.after e1)
theorem d_callTy {x : Str} {T : String} {p : Pos} (ha : dA X G0 (e :: es) δ μ fun xs μ1 => dCall X (.type T) xs μ1 Φ) (hm : X.mg x = none := by assumption) (hv : bootBuiltins x = some (.type T) := by exact (by decide +kernel)) (hg : Gl X x := by rfl) (hn : x ≠ "__name__" := by decide) (hdb : (x == ("__debug__" : Str)) = false := by decide)
    (he : starEach (e :: es) X.env = (false, eval e X.env) :: starEach es X.env := by rfl) (hpl : (backTo pos (starEach es X.env)).any (·.1) = false := by rfl) : dE X G0 (.Call (.Name x p) (e :: es) [] pos) δ μ Φ := fun σ H B Q k => by
  refine wE_of (pe_callTy call_w hg hm hv pa_w hn hdb he hpl) ?_
  refine ha σ H B _ fun vs H1 xs μ1 q m1 e1 r1 => ?_
  exact q vs H1 r1 m1 Q (k.after e1)
section
variable {i j : Int} {xs ys : List D} {x y : Str} {p : Addr} {d : D}
theorem rp1 {G : Hp} {vs : List V} (r : RpAll K G vs [d]) : ∃ v, vs = [v] ∧ Rp K G v d := by
  cases r with
  | cons a t => cases t; exact ⟨_, rfl, a⟩
theorem rp2 {G : Hp} {vs : List V} {d' : D} (r : RpAll K G vs [d, d']) : ∃ v u, vs = [v, u] ∧ Rp K G v d ∧ Rp K G u d' := by
  cases r with
  | cons a t =>
    obtain ⟨u, rfl, b⟩ := rp1 t
    exact ⟨_, _, rfl, a, b⟩
theorem c_abs (q : Φ (.int (if i < 0 then -i else i)) μ) : dCall X (.builtin "abs") [.int i] μ Φ := fun vs H r m Q k => by
  obtain ⟨v, rfl, a⟩ := rp1 r
  cases rp_int a
  exact wCall_of call_abs ⟨i, rfl, k.val m q (.int _)⟩
theorem c_max2 (q : Φ (.int (if j > i then j else i)) μ) (hc : X.calm = true := by rfl) : dCall X (.builtin "max") [.int i, .int j] μ Φ := fun vs H r m Q k => by
  obtain ⟨v, u, rfl, a, b⟩ := rp2 r
  cases rp_int a
  cases rp_int b
  exact wCall_of (call_max2 hc) ⟨i, j, rfl, k.val m q (.int _)⟩
theorem c_min2 (q : Φ (.int (if j < i then j else i)) μ) (hc : X.calm = true := by rfl) : dCall X (.builtin "min") [.int i, .int j] μ Φ := fun vs H r m Q k => by
  obtain ⟨v, u, rfl, a, b⟩ := rp2 r
  cases rp_int a
  cases rp_int b
  exact wCall_of (call_min2 hc) ⟨i, j, rfl, k.val m q (.int _)⟩
theorem c_int (q : Φ (.int i) μ) : dCall X (.type "int") [.int i] μ Φ := fun vs H r m Q k => by
  obtain ⟨v, rfl, a⟩ := rp1 r
  cases rp_int a
  exact wCall_of call_int1 (.inl ⟨i, rfl, k.val m q (.int _)⟩)
theorem c_intB {c : Bool} (q : Φ (.int (if c then 1 else 0)) μ) : dCall X (.type "int") [.bl c] μ Φ := fun vs H r m Q k => by
  obtain ⟨v, rfl, a⟩ := rp1 r
  cases rp_bl a
  exact wCall_of call_int1 (.inr ⟨c, rfl, k.val m q (.int _)⟩)
theorem c_lenL (q : Φ (.int xs.length) μ) : dCall X (.builtin "len") [.lst xs] μ Φ := fun vs H r m Q k => by
  obtain ⟨v, rfl, a⟩ := rp1 r
  obtain ⟨c, ws, rfl, ha, ra⟩ := rp_lst_at a
  exact wCall_of call_len_seq ⟨c, ws, rfl, .inl (SqL.of ha), by rw [ra.length]; exact k.val m q (.int _)⟩
theorem c_lenT (q : Φ (.int xs.length) μ) : dCall X (.builtin "len") [.tup xs] μ Φ := fun vs H r m Q k => by
  obtain ⟨v, rfl, a⟩ := rp1 r
  obtain ⟨c, ws, rfl, ha, ra⟩ := rp_tup_at a
  exact wCall_of call_len_seq ⟨c, ws, rfl, .inr (SqT.of ha), by rw [ra.length]; exact k.val m q (.int _)⟩
theorem c_lenM (h : μ p = some (.lst xs)) (q : Φ (.int xs.length) μ) : dCall X (.builtin "len") [.ref p] μ Φ := fun vs H r m Q k => by
  obtain ⟨v, rfl, a⟩ := rp1 r
  cases rp_ref a
  obtain ⟨ws, ha, ra⟩ := m.lst h
  exact wCall_of call_len_seq ⟨p, ws, rfl, .inl (SqL.of ha), by rw [ra.length]; exact k.val m q (.int _)⟩
theorem c_lenS (h : x.length ≤ sizeLine) (q : Φ (.int x.length) μ) : dCall X (.builtin "len") [.str x] μ Φ := fun vs H r m Q k => by
  obtain ⟨v, rfl, a⟩ := rp1 r
  cases rp_str a
  exact wCall_of call_len_str ⟨x, rfl, h, k.val m q (.int _)⟩
/-- list(..): a copy that stays; one that may change -/
theorem c_listS {ns : List Int} (q : Φ (.lst (ns.map .int)) μ) : dCall X (.type "list") [.scr ns] μ Φ := fun vs H r m Q k => by
  obtain ⟨v, rfl, a⟩ := rp1 r
  cases a with
  | scr h => exact wCall_of call_list_of ⟨_, _, rfl, .inl (seq_sub im_all h), fun l hl => k.new m hl q (rp_lst m hl .of_ints)⟩
theorem c_listL (q : Φ (.lst xs) μ) : dCall X (.type "list") [.lst xs] μ Φ := fun vs H r m Q k => by
  obtain ⟨v, rfl, a⟩ := rp1 r
  obtain ⟨a, ws, rfl, ha, ra⟩ := rp_lst_at a
  exact wCall_of call_list_of ⟨_, _, rfl, .inl (SqL.of ha), fun l hl => k.new m hl q (rp_lst m hl ra)⟩
theorem c_listT (q : Φ (.lst xs) μ) : dCall X (.type "list") [.tup xs] μ Φ := fun vs H r m Q k => by
  obtain ⟨v, rfl, a⟩ := rp1 r
  obtain ⟨a, ws, rfl, ha, ra⟩ := rp_tup_at a
  exact wCall_of call_list_of ⟨_, _, rfl, .inr (SqT.of ha), fun l hl => k.new m hl q (rp_lst m hl ra)⟩
theorem c_listM (h : μ p = some (.lst xs)) (q : Φ (.lst xs) μ) : dCall X (.type "list") [.ref p] μ Φ := fun vs H r m Q k => by
  obtain ⟨v, rfl, a⟩ := rp1 r
  cases rp_ref a
  obtain ⟨ws, ha, ra⟩ := m.lst h
  exact wCall_of call_list_of ⟨_, _, rfl, .inl (SqL.of ha), fun l hl => k.new m hl q (rp_lst m hl ra)⟩
theorem c_listLN (q : ∀ l, μ l = none → Φ (.ref l) (updM μ l (.lst xs))) : dCall X (.type "list") [.lst xs] μ Φ := fun vs H r m Q k => by
  obtain ⟨v, rfl, a⟩ := rp1 r
  obtain ⟨a, ws, rfl, ha, ra⟩ := rp_lst_at a
  exact wCall_of call_list_of ⟨_, _, rfl, .inl (SqL.of ha), fun l hl => k.newM m hl ra q⟩
theorem c_listTN (q : ∀ l, μ l = none → Φ (.ref l) (updM μ l (.lst xs))) : dCall X (.type "list") [.tup xs] μ Φ := fun vs H r m Q k => by
  obtain ⟨v, rfl, a⟩ := rp1 r
  obtain ⟨a, ws, rfl, ha, ra⟩ := rp_tup_at a
  exact wCall_of call_list_of ⟨_, _, rfl, .inr (SqT.of ha), fun l hl => k.newM m hl ra q⟩
theorem c_tupL (q : Φ (.tup xs) μ) : dCall X (.type "tuple") [.lst xs] μ Φ := fun vs H r m Q k => by
  obtain ⟨v, rfl, a⟩ := rp1 r
  obtain ⟨a, ws, rfl, ha, ra⟩ := rp_lst_at a
  exact wCall_of call_tuple_of ⟨_, _, rfl, .inl ⟨SqL.of ha, fun l hl => k.new m hl q (rp_tup m hl ra)⟩⟩
theorem c_tupT (q : Φ (.tup xs) μ) : dCall X (.type "tuple") [.tup xs] μ Φ := fun vs H r m Q k => by
  obtain ⟨v, rfl, a⟩ := rp1 r
  obtain ⟨b, ws, e, ha, ra⟩ := rp_tup_at a
  subst e
  exact wCall_of call_tuple_of ⟨_, _, rfl, .inr ⟨SqT.of ha, k.val m q a⟩⟩
end
end

/-! ### == at any depth -/
mutual
inductive Py (μ : Mu) : D → PyData → Prop
  | non : Py μ .non .none
  | bl (b : Bool) : Py μ (.bl b) (.bool b)
  | int (i : Int) : Py μ (.int i) (.int i)
  | str (x : Str) : Py μ (.str x) (.str x)
  | lst {ds : List D} {ps : List PyData} : PyAll μ ds ps → Py μ (.lst ds) (.list ps)
  | tup {ds : List D} {ps : List PyData} : PyAll μ ds ps → Py μ (.tup ds) (.tuple ps)
  | ref {p : Addr} {ds : List D} {ps : List PyData} : μ p = some (.lst ds) → PyAll μ ds ps → Py μ (.ref p) (.list ps)
inductive PyAll (μ : Mu) : List D → List PyData → Prop
  | nil : PyAll μ [] []
  | cons {d : D} {ds : List D} {p : PyData} {ps : List PyData} : Py μ d p → PyAll μ ds ps → PyAll μ (d :: ds) (p :: ps)
end
theorem PyAll.ints {μ : Mu} : ∀ {ns : List Int}, PyAll μ (ns.map D.int) (ns.map PyData.int)
  | [] => .nil
  | n :: _ => .cons (.int n) PyAll.ints
section
variable {X : Cx} {G0 : Hp} {μ : Mu} {Φ : DK} {K : PySem.W.Frag} {H : Hp}
mutual
theorem Py.dp (m : MuOk K μ H) : ∀ {d : D} {p : PyData}, Py μ d p → ∀ {v : V}, Rp K (Im μ H) v d → Dp K H v p
  | _, _, .non, _, .non => .non
  | _, _, .bl b, _, .bl _ => .bl b
  | _, _, .int i, _, .int _ => .int i
  | _, _, .str x, _, .str _ => .str x
  | _, _, .lst h, _, .lst a r => .lst (SqL.of (im_all _ _ a)) (PyAll.dp m h r)
  | _, _, .tup h, _, .tup a r => .tup (SqT.of (im_all _ _ a)) (PyAll.dp m h r)
  | _, _, .ref (p := p) e h, v, r => by
    obtain ⟨vs, ha, ra⟩ := m.lst e
    have q := rp_ref r
    subst q
    exact .lst (SqL.of ha) (PyAll.dp m h ra)
theorem PyAll.dp (m : MuOk K μ H) : ∀ {ds : List D} {ps : List PyData}, PyAll μ ds ps → ∀ {vs : List V}, RpAll K (Im μ H) vs ds → DpAll K H vs ps
  | _, _, .nil, _, .nil => .nil
  | _, _, .cons h t, _, .cons a r => .cons (Py.dp m h a) (PyAll.dp m t r)
end
theorem o_eqD {x y : D} {p q : PyData} (hu : X.A.units + 64 < cLine) (hx : Py μ x p) (hy : Py μ y q) (sp : SeqAt.shaped p = true) (sq : SeqAt.shaped q = true) (k : Φ (.bl (PyData.eqv p q)) μ) : dOp X (compareOp .Eq) x y μ Φ := fun v u H r1 r2 m Q kk =>
  wOp_of (op_eqD hu) ⟨p, q, hx.dp m r1, hy.dp m r2, sp, sq, kk.val m k (.bl _)⟩
theorem o_neD {x y : D} {p q : PyData} (hu : X.A.units + 64 < cLine) (hx : Py μ x p) (hy : Py μ y q) (sp : SeqAt.shaped p = true) (sq : SeqAt.shaped q = true) (k : Φ (.bl (!PyData.eqv p q)) μ) : dOp X (compareOp .NotEq) x y μ Φ := fun v u H r1 r2 m Q kk =>
  wOp_of (op_neD hu) ⟨p, q, hx.dp m r1, hy.dp m r2, sp, sq, kk.val m k (.bl _)⟩
/-- is None, is not None -/
theorem o_isN {x : D} {b : Bool} (hb : b = (match x with | .non => true | _ => false)) (k : Φ (.bl b) μ) : dOp X (compareOp .Is) x .non μ Φ := fun v u H r1 r2 m Q kk => by
  cases rp_non r2
  refine wOp_of op_isN ⟨rfl, kk.val m k ?_⟩
  have e : decide (v = V.non) = b := by
    subst hb
    cases r1 <;> rfl
  rw [e]
  exact .bl _
theorem o_notN {x : D} {b : Bool} (hb : b = (match x with | .non => false | _ => true)) (k : Φ (.bl b) μ) : dOp X (compareOp .IsNot) x .non μ Φ := fun v u H r1 r2 m Q kk => by
  cases rp_non r2
  refine wOp_of op_notN ⟨rfl, kk.val m k ?_⟩
  have e : (!decide (v = V.non)) = b := by
    subst hb
    cases r1 <;> rfl
  rw [e]
  exact .bl _
end

/-! ### statements -/
structure DEnds where
  nx : List (Option D) → Mu → Prop
  rt : DK
  bk : List (Option D) → Mu → Prop := fun _ _ => False
  ct : List (Option D) → Mu → Prop := fun _ _ => False
def dEn (K : PySem.W.Frag) (G0 : Hp) (E : DEnds) : Ends where
  nx := fun σ H => ∃ δ μ, E.nx δ μ ∧ Bd K G0 δ μ σ H
  rt := fun v H => ∃ d μ, E.rt d μ ∧ MuOk K μ H ∧ Sub G0 (Im μ H) ∧ Rp K (Im μ H) v d
  bk := fun σ H => ∃ δ μ, E.bk δ μ ∧ Bd K G0 δ μ σ H
  ct := fun σ H => ∃ δ μ, E.ct δ μ ∧ Bd K G0 δ μ σ H
def dS (X : Cx) (G0 : Hp) (st : Stmt) (δ : List (Option D)) (μ : Mu) (E : DEnds) : Prop := ∀ σ H, Bd X.K G0 δ μ σ H → wS X st (dEn X.K G0 E) σ H
def dSs (X : Cx) (G0 : Hp) (st : List Stmt) (δ : List (Option D)) (μ : Mu) (E : DEnds) : Prop := ∀ σ H, Bd X.K G0 δ μ σ H → wSs X st (dEn X.K G0 E) σ H
/-- D's ends are D' 's -/
structure Ends.Le (D D' : Ends) : Prop where
  nx : ∀ σ H, D.nx σ H → D'.nx σ H
  rt : ∀ v H, D.rt v H → D'.rt v H
  bk : ∀ σ H, D.bk σ H → D'.bk σ H
  ct : ∀ σ H, D.ct σ H → D'.ct σ H
section
variable {X : Cx} {G0 G1 : Hp} {st : Stmt} {sts rest : List Stmt} {δ : List (Option D)} {μ : Mu} {E E' : DEnds} {e a b c : Expr} {pos : Pos} {σ : L2.St} {H : Hp}
theorem SP.le {D D' : Ends} {pins : List (Addr × Obj)} (l : Ends.Le D D') {f : Flow} {s : Shared} (h : SP X pins D f s) : SP X pins D' f s := by
  cases f with
  | next => obtain ⟨σ, H, I, q⟩ := h; exact ⟨σ, H, I, l.nx _ _ q⟩
  | brk => obtain ⟨σ, H, I, q⟩ := h; exact ⟨σ, H, I, l.bk _ _ q⟩
  | cont => obtain ⟨σ, H, I, q⟩ := h; exact ⟨σ, H, I, l.ct _ _ q⟩
  | ret u => obtain ⟨v, σ, H, I, r, q⟩ := h; exact ⟨v, σ, H, I, r, l.rt _ _ q⟩
theorem wS_mono {D D' : Ends} (l : Ends.Le D D') (h : wS X st D σ H) : wS X st D' σ H := fun pins s I => thn (h pins s I) fun _ _ q => SP.le l q
theorem wSs_mono {D D' : Ends} (l : Ends.Le D D') (h : wSs X sts D σ H) : wSs X sts D' σ H := fun pins s I => thn (h pins s I) fun _ _ q => SP.le l q
theorem dEn_rt {K : PySem.W.Frag} {v : V} {d : D} {μ : Mu} (q : E.rt d μ) (m : MuOk K μ H) (e : Sub G0 (Im μ H)) (r : Rp K (Im μ H) v d) : (dEn K G0 E).rt v H := ⟨d, μ, q, m, e, r⟩
theorem s_nil (q : E.nx δ μ) : dSs X G0 [] δ μ E := fun σ H B => wSs_of pss_nil ⟨δ, μ, q, B⟩
theorem s_cons (h : dS X G0 st δ μ { E with nx := fun δ' μ' => dSs X G0 rest δ' μ' E }) : dSs X G0 (st :: rest) δ μ E := fun σ H B => by
  refine wSs_of (pss_cons ps_w pss_w) ?_
  refine wS_mono (D := dEn X.K G0 { E with nx := fun δ' μ' => dSs X G0 rest δ' μ' E }) ⟨fun σ' H' q => ?_, fun _ _ q => q, fun _ _ q => q, fun _ _ q => q⟩ (h σ H B)
  obtain ⟨δ', μ', q, B'⟩ := q
  exact q σ' H' B'
theorem s_one (h : dS X G0 st δ μ E) : dSs X G0 [st] δ μ E := fun σ H B => wSs_of (pss_one ps_w) (h σ H B)
theorem s_set {i : Nat} {x : Str} {pos' : Pos} (h : dE X G0 e δ μ fun d μ' => E.nx (δ.set i (some d)) μ') (hN : X.N.Nodup := by assumption) (hi : X.N[i]? = some x := by rfl) (hx : Loc X.env.scope x := by first | exact Or.inl rfl | exact Or.inr rfl) (hs : swapsWith e (some (.Name x pos')) pos.line X.env = pure false := by rfl)
    (hf : X.fn x = true ∨ X.env.scope.names.lookup x = some .local := by first | exact .inl rfl | exact .inr rfl) : dS X G0 (.Assign [.Name x pos'] e pos) δ μ E := fun σ H B => by
  refine wS_of (ps_set (i := i) hN hi hx pe_w hs hf) ?_
  refine h.go B fun v H1 d μ1 q m1 e1 r1 => ?_
  exact ⟨_, μ1, q, (B.step m1 e1).set r1⟩
theorem s_expr (h : dE X G0 e δ μ fun _ μ' => E.nx δ μ') (hs : swapsWith e none pos.line X.env = pure false := by rfl) : dS X G0 (.Expr e pos) δ μ E := fun σ H B => by
  refine wS_of (ps_expr pe_w hs) ?_
  refine h.go B fun v H1 d μ1 q m1 e1 r1 => ?_
  exact ⟨δ, μ1, q, B.step m1 e1⟩
theorem s_ret (h : dE X G0 e δ μ E.rt) : dS X G0 (.Return (some e) pos) δ μ E := fun σ H B => by
  refine wS_of (ps_ret pe_w) ?_
  refine h.go B fun v H1 d μ1 q m1 e1 r1 => ?_
  exact ⟨d, μ1, q, m1, B.base.trans e1, r1⟩
theorem s_retN (q : E.rt .non μ) : dS X G0 (.Return none pos) δ μ E := fun σ H B => wS_of ps_retN ⟨.non, μ, q, B.mu, B.base, .non⟩
theorem s_pass (q : E.nx δ μ) : dS X G0 (.Pass pos) δ μ E := fun σ H B => wS_of ps_pass ⟨δ, μ, q, B⟩
theorem s_break (q : E.bk δ μ) : dS X G0 (.Break pos) δ μ E := fun σ H B => wS_of ps_break ⟨δ, μ, q, B⟩
theorem s_cont (q : E.ct δ μ) : dS X G0 (.Continue pos) δ μ E := fun σ H B => wS_of ps_continue ⟨δ, μ, q, B⟩
theorem s_if {x y : List Stmt} (h : dT X G0 c δ μ fun k μ1 => (k = true → dSs X G0 x δ μ1 E) ∧ (k = false → dSs X G0 y δ μ1 E)) : dS X G0 (.If c x y pos) δ μ E := fun σ H B => by
  refine wS_of (ps_if pt_w pss_w pss_w) ?_
  refine h σ H B _ fun c H1 μ1 ⟨q1, q2⟩ m1 e1 => ?_
  cases c with
  | true => exact iteT (q1 rfl σ H1 (B.step m1 e1))
  | false => exact iteF (q2 rfl σ H1 (B.step m1 e1))
theorem s_aug {i : Nat} {x : Str} {op : Operator} {pos' : Pos} {d0 : D} (hd : δ[i]? = some (some d0)) (h : dE X G0 e δ μ fun d μ' => dOp X (inplaceOp op) d0 d μ' fun r μ2 => E.nx (δ.set i (some r)) μ2) (hN : X.N.Nodup := by assumption) (hi : X.N[i]? = some x := by rfl) (hx : Loc X.env.scope x := by first | exact Or.inl rfl | exact Or.inr rfl)
    (hf : X.fn x = true ∨ X.env.scope.names.lookup x = some .local := by first | exact .inl rfl | exact .inr rfl) : dS X G0 (.AugAssign (.Name x pos') op e pos) δ μ E := fun σ H B => by
  obtain ⟨v0, h0, r0⟩ := B.sl i d0 hd
  refine wS_of (ps_aug (i := i) (ti := wOp X (inplaceOp op)) hN hi hx pe_w (fun pins s σ H x y v u Q I rx ry q => op_w pins s σ H x y v u Q I rx ry q) hf) ⟨v0, h0, ?_⟩
  refine h.go B fun v H1 d μ1 q m1 e1 r1 => ?_
  refine q v0 v H1 (r0.mono e1) r1 m1 _ fun w H2 d2 μ2 q2 m2 e2 r2 => ?_
  exact ⟨_, μ2, q2, (B.step m2 (e1.trans e2)).set r2⟩
/-- x, y = e1, e2 -/
theorem s_par {i j : Nat} {x y : Str} {px py pt : Pos} {kt k2 pt2} (h : dA X G0 [a, b] δ μ fun ds μ' => ∃ d1 d2, ds = [d1, d2] ∧ E.nx ((δ.set i (some d1)).set j (some d2)) μ') (hN : X.N.Nodup := by assumption) (hc : X.calm = true := by rfl) (hi : X.N[i]? = some x := by rfl) (hj : X.N[j]? = some y := by rfl) (hij : i ≠ j := by decide)
    (hx : X.env.scope.names.lookup x = some .local := by rfl) (hy : X.env.scope.names.lookup y = some .local := by rfl)
    (hw : swappedStores [.Tuple [.Name x px, .Name y py] kt pt] (.Tuple [a, b] k2 pt2) X.env = pure (some [x, y]) := by rfl)
    (hs : swapsWithSole [.Tuple [.Name x px, .Name y py] kt pt] (.Tuple [a, b] k2 pt2) pos.line X.env = pure false := by rfl) :
    dS X G0 (.Assign [.Tuple [.Name x px, .Name y py] kt pt] (.Tuple [a, b] k2 pt2) pos) δ μ E := fun σ H B => by
  refine wS_of (ps_par hc hN hi hj hij hx hy pa_w hw hs) ?_
  refine h σ H B _ fun vs H1 ds μ1 ⟨d1, d2, ed, q⟩ m1 e1 r1 => ?_
  subst ed
  obtain ⟨v, w, rfl, r1, r2⟩ := rp2 r1
  exact ⟨v, w, rfl, _, μ1, q, ((B.step m1 e1).set r1).set r2⟩
/-- p[i] = e, p a list that may change -/
theorem s_item {o ix : Expr} {tpos : Pos} (h : dE X G0 e δ μ fun d μ1 => dE X G0 o δ μ1 fun dd μ2 => dE X G0 ix δ μ2 fun di μ3 => ∃ p k ds j, dd = .ref p ∧ di = .int k ∧ μ3 p = some (.lst ds) ∧ ixN ds.length k = some j ∧ E.nx δ (updM μ3 p (.lst (ds.set j d))))
    (ha : ∀ v, assign (.Subscript o ix tpos) X.env v = (do
      let ov ← holding [v] (eval o X.env)
      let iv ← holding [v, ov] (eval ix X.env)
      standAt tpos
      holding [v, ov, iv] (setItem ov iv v)
      release [v, ov, iv] []) := by intro _; rfl)
    (hs : swapsWithSole [.Subscript o ix tpos] e pos.line X.env = pure false := by rfl) (hw : swappedStores [.Subscript o ix tpos] e X.env = pure none := by rfl) (h1 : (assignEach [.Subscript o ix tpos] X.env).map (·.2) = [assign (.Subscript o ix tpos) X.env] := by rfl) :
    dS X G0 (.Assign [.Subscript o ix tpos] e pos) δ μ E := fun σ H B => by
  refine wS_of (ps_asg pe_w (pg_sub pe_w pe_w set_list ha) hs hw h1) ?_
  refine h.go B fun v H1 d μ1 q1 m1 e1 r1 => ?_
  refine q1.go (B.step m1 e1) fun vo H2 dd μ2 q2 m2 e2 r2 => ?_
  refine q2.go (B.step m2 (e1.trans e2)) fun vi H3 di μ3 q3 m3 e3 r3 => ?_
  obtain ⟨p, k, ds, j, rfl, rfl, hp, hj, q⟩ := q3
  cases rp_ref r2
  cases rp_int r3
  obtain ⟨vs, ha, ra⟩ := m3.lst hp
  have hi : Im (updM μ3 p (.lst (ds.set j d))) (upd H3 p (.lst (vs.set j v))) = Im μ3 H3 := im_upd (by rw [hp]; rfl)
  refine ⟨p, vs, k, j, rfl, rfl, ha, by rw [ra.length]; exact hj, δ, _, q, B.step (m3.upd hi (RpAll.set (r1.mono (e2.trans e3)) j ra)) ?_⟩
  rw [hi]
  exact e1.trans (e2.trans e3)
/-- xs.append(e) -/
theorem d_append {o : Expr} {apos : Pos} {Φ : DK} (h : dE X G0 o δ μ fun dd μ1 => ∃ p, dd = .ref p ∧ (∃ ds, μ1 p = some (.lst ds)) ∧ dE X G0 e δ μ1 fun d μ2 => ∃ ds, μ2 p = some (.lst ds) ∧ ds.length < sizeLine ∧ Φ .non (updM μ2 p (.lst (ds ++ [d]))))
    (hbase : attributeBase o "append" X.env (eval o X.env) = eval o X.env := by rfl)
    (hfew : ((backTo pos (starEach [e] X.env)).all (fun x => !x.1) && (backToKw pos (keywordEach [] X.env)).all (fun x => x.1.isSome)
      && decide ([e].length + ([] : List Keyword).length + (if ([] : List Keyword).isEmpty then 0 else 1) < 30)) = true := by rfl) (hline : (apos.endLine == pos.line) = true := by rfl) (hst : starEach [e] X.env = (false, eval e X.env) :: starEach [] X.env := by rfl) : dE X G0 (.Call (.Attribute o "append" apos) [e] [] pos) δ μ Φ := fun σ H B Q k => by
  refine wE_of (pe_bm PySem.F.plainAttrs_list PySem.F.slot_list_append PySem.F.type_list_append mt_append pe_w (pa_cons pe_w pa_nil hst) (hbase := hbase) (hfew := hfew) (hline := hline) (hs := hst)) ?_
  refine h σ H B _ fun vo H1 dd μ1 q1 m1 e1 r1 => ?_
  obtain ⟨p, rfl, ⟨ds, hp⟩, q1⟩ := q1
  cases rp_ref r1
  obtain ⟨vs, ha, ra⟩ := m1.lst hp
  refine ⟨.inl ⟨rfl, vs, SqL.of ha⟩, ?_⟩
  refine q1.go (B.step m1 e1) fun v H2 d μ2 q2 m2 e2 r2 => ?_
  obtain ⟨ds, hp, hl, q⟩ := q2
  obtain ⟨vs, ha, ra⟩ := m2.lst hp
  have hi : Im (updM μ2 p (.lst (ds ++ [d]))) (upd H2 p (.lst (vs ++ [v]))) = Im μ2 H2 := im_upd (by rw [hp]; rfl)
  refine ⟨p, vs, v, rfl, rfl, ha, by rw [ra.length]; exact hl, k _ _ _ _ q (m2.upd hi (ra.append (.cons r2 .nil))) ?_ .non⟩
  rw [hi]
  exact e1.trans e2
end
end DL

namespace DL
open PySem PySem.Spec PyProof.Rows L2

/-! ### loops -/
section
variable {X : Cx} {G0 G1 : Hp} {st : Stmt} {sts body : List Stmt} {δ : List (Option D)} {μ : Mu} {E E' : DEnds} {e a b c it tg : Expr} {pos : Pos} {σ : L2.St} {H : Hp}
/-- what stores an item into the target -/
def dG (X : Cx) (tg : Expr) (d : D) (δ : List (Option D)) (μ : Mu) (Ψ : List (Option D) → Prop) : Prop := ∀ (K : PySem.W.Frag), K = X.K → ∀ G0 σ H v, Bd X.K G0 δ μ σ H → Rp X.K (Im μ H) v d → ∀ Q : L2.St → Hp → Prop, (∀ δ' σ', Ψ δ' → Bd X.K G0 δ' μ σ' H → Q σ' H) →
  ∀ pins s u, Inv X pins σ H s → RelV v u → wpAny (model X.prog X.w) X.A (assign tg X.env u) (fun _ s' => ∃ σ' H', Inv X pins σ' H' s' ∧ Q σ' H') X.xe s
def gW (X : Cx) (tg : Expr) : TG := fun v σ H Q => ∀ pins s u, Inv X pins σ H s → RelV v u → wpAny (model X.prog X.w) X.A (assign tg X.env u) (fun _ s' => ∃ σ' H', Inv X pins σ' H' s' ∧ Q σ' H') X.xe s
theorem pg_w : PG X tg (gW X tg) := ⟨fun pins s σ H v u Q I r h => h pins s u I r⟩
theorem gW_of {t : TG} {v : V} {Q : L2.St → Hp → Prop} (h : PG X tg t) (q : t v σ H Q) : gW X tg v σ H Q := fun pins s u I r => h.run pins s σ H v u Q I r q
/-- the target's store, on data -/
def dTg (X : Cx) (tg : Expr) (d : D) (δ : List (Option D)) (Ψ : List (Option D) → Prop) : Prop := ∀ G0 μ σ H v, Bd X.K G0 δ μ σ H → Rp X.K (Im μ H) v d → ∀ Q : L2.St → Hp → Prop, (∀ δ' σ', Ψ δ' → Bd X.K G0 δ' μ σ' H → Q σ' H) → gW X tg v σ H Q
theorem g_name {i : Nat} {x : Str} {d : D} {Ψ : List (Option D) → Prop} (h : Ψ (δ.set i (some d))) (hN : X.N.Nodup := by assumption) (hi : X.N[i]? = some x := by rfl) (hx : Loc X.env.scope x := by first | exact Or.inl rfl | exact Or.inr rfl) (hf : X.fn x = true ∨ X.env.scope.names.lookup x = some .local := by first | exact .inl rfl | exact .inr rfl) : dTg X (.Name x pos) d δ Ψ := fun G0 μ σ H v B r Q k =>
  gW_of (pg_name (i := i) hN hi hx hf) (k _ _ h (B.set r))
/-- a, b = a tuple of two -/
theorem g_pair {i j : Nat} {x y : Str} {px py : Pos} {kk : Nat} {d1 d2 : D} {Ψ : List (Option D) → Prop} (h : Ψ ((δ.set i (some d1)).set j (some d2))) (hN : X.N.Nodup := by assumption) (hc : X.calm = true := by rfl) (hi : X.N[i]? = some x := by rfl) (hj : X.N[j]? = some y := by rfl) (hx : Loc X.env.scope x := by first | exact Or.inl rfl | exact Or.inr rfl) (hy : Loc X.env.scope y := by first | exact Or.inl rfl | exact Or.inr rfl)
    (hf : X.fn x = true ∨ X.env.scope.names.lookup x = some .local := by first | exact .inl rfl | exact .inr rfl) (hf2 : X.fn y = true ∨ X.env.scope.names.lookup y = some .local := by first | exact .inl rfl | exact .inr rfl)
    (hs1 : (assignEach [.Name x px, .Name y py] X.env).map (·.2) = assign (.Name x px) X.env :: (assignEach [.Name y py] X.env).map (·.2) := by rfl) (hs2 : (assignEach [.Name y py] X.env).map (·.2) = assign (.Name y py) X.env :: (assignEach [] X.env).map (·.2) := by rfl)
    (hn : (assignEach [.Name x px, .Name y py] X.env).length = 2 := by rfl) (hst : (assignEach [.Name x px, .Name y py] X.env).findIdx? (·.1) = none := by rfl) : dTg X (.Tuple [.Name x px, .Name y py] kk pos) (.tup [d1, d2]) δ Ψ := fun G0 μ σ H v B r Q k => by
  refine gW_of (pg_tup (n := 2) hc (pgs_cons (pg_name (i := i) hN hi hx hf) (pgs_cons (pg_name (i := j) hN hj hy hf2) pgs_nil hs2) hs1) hn hst) ?_
  obtain ⟨p, vs, rfl, ha, ra⟩ := rp_tup_at r
  obtain ⟨v1, v2, rfl, r1, r2⟩ := rp2 ra
  exact ⟨p, [v1, v2], rfl, SqT.of ha, rfl, v1, [v2], rfl, v2, [], rfl, rfl, k _ _ h ((B.set r1).set r2)⟩
/-- what a for walks: a list that stays -/
theorem s_forL {ds : List D} (h : dE X G0 it δ μ fun d μ1 => d = .lst ds ∧ ∃ Pv : Nat → List (Option D) → Mu → Prop, Pv 0 δ μ1 ∧
      (∀ (i : Nat) d δ' μ', ds[i]? = some d → Pv i δ' μ' → dTg X tg d δ' fun δ2 => ∀ G1, Sub G0 G1 → dSs X G1 body δ2 μ' { E with nx := Pv (i + 1), ct := Pv (i + 1), bk := E.nx }) ∧ ∀ δ' μ', Pv ds.length δ' μ' → E.nx δ' μ')
    (hp : PassesOwn (model X.prog X.w) X.A X.env X.xe := by assumption) (hc : X.calm = true := by rfl) (hs : ∀ x, foldedSetIterable it X.env x = pure x := by intro _; rfl) : dS X G0 (.For tg it body [] pos) δ μ E := fun σ H B => by
  refine wS_of (ps_for hp hc (pi_list pe_w) pg_w pss_w hs) ?_
  refine h.go B fun v H1 d μ1 ⟨ed, Pv, p0, turn, fin⟩ m1 e1 r1 => ?_
  subst ed
  obtain ⟨a, vs, rfl, hG, ra⟩ : ∃ a vs, v = .ref a ∧ Im μ1 H1 a = some (.lst vs) ∧ RpAll X.K (Im μ1 H1) vs ds := by
    cases r1 with
    | lst h r => exact ⟨_, _, rfl, h, r⟩
  have B1 := B.step m1 e1
  refine ⟨a, rfl, ⟨vs, SqL.of (im_all _ _ hG)⟩, for_list (xs := vs) (fun i σ' H' => ∃ δ' μ', Pv i δ' μ' ∧ Bd X.K (Im μ1 H1) δ' μ' σ' H') ⟨δ, μ1, p0, B1.rebase⟩ (fun i σ' H' _ ⟨δ', μ', _, B'⟩ => SqL.of (im_all _ _ (B'.base _ _ hG))) (fun i x σ' H' hx ⟨δ', μ', hP, B'⟩ => ?_) (fun σ' H' ⟨δ', μ', hP, B'⟩ => ?_)⟩
  · have hi : i < ds.length := by rw [← ra.length]; exact (List.getElem?_eq_some_iff.mp hx).1
    obtain ⟨w', hw, rw'⟩ := ra.get (List.getElem?_eq_getElem hi)
    rw [hw] at hx
    cases hx
    refine turn i _ δ' μ' (List.getElem?_eq_getElem hi) hP (Im μ1 H1) μ' σ' H' x B' (rw'.mono B'.base) _ fun δ2 σ2 q B2 => ?_
    refine wSs_mono ?_ (q (Im μ1 H1) B1.base σ2 H' B2)
    exact ⟨fun _ _ q => q, fun v H ⟨d, μ, q, m, e, r⟩ => ⟨d, μ, q, m, B1.base.trans e, r⟩, fun _ _ ⟨δ, μ, q, B⟩ => ⟨δ, μ, q, B.weaken B1.base⟩, fun _ _ q => q⟩
  · rw [ra.length] at hP
    exact ⟨δ', μ', fin δ' μ' hP, B'.weaken B1.base⟩
/-- a tuple -/
theorem s_forT {ds : List D} (h : dE X G0 it δ μ fun d μ1 => d = .tup ds ∧ ∃ Pv : Nat → List (Option D) → Mu → Prop, Pv 0 δ μ1 ∧
      (∀ (i : Nat) d δ' μ', ds[i]? = some d → Pv i δ' μ' → dTg X tg d δ' fun δ2 => ∀ G1, Sub G0 G1 → dSs X G1 body δ2 μ' { E with nx := Pv (i + 1), ct := Pv (i + 1), bk := E.nx }) ∧ ∀ δ' μ', Pv ds.length δ' μ' → E.nx δ' μ')
    (hp : PassesOwn (model X.prog X.w) X.A X.env X.xe := by assumption) (hc : X.calm = true := by rfl) (hs : ∀ x, foldedSetIterable it X.env x = pure x := by intro _; rfl) : dS X G0 (.For tg it body [] pos) δ μ E := fun σ H B => by
  refine wS_of (ps_for hp hc (pi_tup pe_w) pg_w pss_w hs) ?_
  refine h.go B fun v H1 d μ1 ⟨ed, Pv, p0, turn, fin⟩ m1 e1 r1 => ?_
  subst ed
  obtain ⟨a, vs, rfl, hG, ra⟩ : ∃ a vs, v = .ref a ∧ Im μ1 H1 a = some (.tup vs) ∧ RpAll X.K (Im μ1 H1) vs ds := by
    cases r1 with
    | tup h r => exact ⟨_, _, rfl, h, r⟩
  have B1 := B.step m1 e1
  refine ⟨a, rfl, ⟨vs, SqT.of (im_all _ _ hG)⟩, for_tup (xs := vs) (fun i σ' H' => ∃ δ' μ', Pv i δ' μ' ∧ Bd X.K (Im μ1 H1) δ' μ' σ' H') ⟨δ, μ1, p0, B1.rebase⟩ (fun i σ' H' _ ⟨δ', μ', _, B'⟩ => SqT.of (im_all _ _ (B'.base _ _ hG))) (fun i x σ' H' hx ⟨δ', μ', hP, B'⟩ => ?_) (fun σ' H' ⟨δ', μ', hP, B'⟩ => ?_)⟩
  · have hi : i < ds.length := by rw [← ra.length]; exact (List.getElem?_eq_some_iff.mp hx).1
    obtain ⟨w', hw, rw'⟩ := ra.get (List.getElem?_eq_getElem hi)
    rw [hw] at hx
    cases hx
    refine turn i _ δ' μ' (List.getElem?_eq_getElem hi) hP (Im μ1 H1) μ' σ' H' x B' (rw'.mono B'.base) _ fun δ2 σ2 q B2 => ?_
    refine wSs_mono ?_ (q (Im μ1 H1) B1.base σ2 H' B2)
    exact ⟨fun _ _ q => q, fun v H ⟨d, μ, q, m, e, r⟩ => ⟨d, μ, q, m, B1.base.trans e, r⟩, fun _ _ ⟨δ, μ, q, B⟩ => ⟨δ, μ, q, B.weaken B1.base⟩, fun _ _ q => q⟩
  · rw [ra.length] at hP
    exact ⟨δ', μ', fin δ' μ' hP, B'.weaken B1.base⟩
/-- for x in range(n) -/
theorem s_forR {a : Expr} {p : Pos} (h : dA X G0 [a] δ μ fun ds μ1 => ∃ n : Int, ds = [.int n] ∧ n < 2 ^ 62 ∧ -(2 ^ 62) ≤ n ∧ ∃ Pv : Nat → List (Option D) → Mu → Prop, Pv 0 δ μ1 ∧
      (∀ (i : Nat) δ' μ', i < n.toNat → Pv i δ' μ' → dTg X tg (.int i) δ' fun δ2 => ∀ G1, Sub G0 G1 → dSs X G1 body δ2 μ' { E with nx := Pv (i + 1), ct := Pv (i + 1), bk := E.nx }) ∧ ∀ δ' μ', Pv n.toNat δ' μ' → E.nx δ' μ')
    (hp : PassesOwn (model X.prog X.w) X.A X.env X.xe := by assumption) (hm : X.mg "range" = none := by assumption) (hc : X.calm = true := by rfl) (hg : Gl X "range" := by rfl) (hs : starEach [a] X.env = [(false, eval a X.env)] := by rfl) (hs2 : ∀ x, foldedSetIterable (.Call (.Name "range" p) [a] [] pos) X.env x = pure x := by intro _; rfl) {pos2 : Pos} :
    dS X G0 (.For tg (.Call (.Name "range" p) [a] [] pos) body [] pos2) δ μ E := fun σ H B => by
  refine wS_of (ps_for hp hc (pi_range1 hg hm pa_w hs) pg_w pss_w hs2) ?_
  refine h σ H B _ fun vs H1 ds μ1 ⟨n, ed, b1, b2, Pv, p0, turn, fin⟩ m1 e1 r1 => ?_
  subst ed
  obtain ⟨v, rfl, r2⟩ := rp1 r1
  cases rp_int r2
  have B1 := B.step m1 e1
  refine ⟨n, rfl, b2, b1, for_range (lo := 0) (n := n.toNat) (fun i σ' H' => ∃ δ' μ', Pv i δ' μ' ∧ Bd X.K (Im μ1 H1) δ' μ' σ' H') ⟨δ, μ1, p0, B1.rebase⟩ (fun i σ' H' hi ⟨δ', μ', hP, B'⟩ => ?_) (fun σ' H' ⟨δ', μ', hP, B'⟩ => ?_)⟩
  · have e0 : (0 : Int) + (i : Int) = (i : Int) := Int.zero_add _
    rw [e0]
    refine turn i δ' μ' hi hP (Im μ1 H1) μ' σ' H' _ B' (.int _) _ fun δ2 σ2 q B2 => ?_
    refine wSs_mono ?_ (q (Im μ1 H1) B1.base σ2 H' B2)
    exact ⟨fun _ _ q => q, fun v H ⟨d, μ, q, m, e, r⟩ => ⟨d, μ, q, m, B1.base.trans e, r⟩, fun _ _ ⟨δ, μ, q, B⟩ => ⟨δ, μ, q, B.weaken B1.base⟩, fun _ _ q => q⟩
  · exact ⟨δ', μ', fin δ' μ' hP, B'.weaken B1.base⟩
/-- while, by a word and a number that falls -/
theorem s_while (Pv : List (Option D) → Mu → Prop) (ms : List (Option D) → Mu → Nat) (h0 : Pv δ μ)
    (hs : ∀ δ' μ', Pv δ' μ' → dT X G0 c δ' μ' fun k μ2 => (k = true → dSs X G0 body δ' μ2 { E with nx := fun δ3 μ3 => Pv δ3 μ3 ∧ ms δ3 μ3 < ms δ' μ', ct := fun δ3 μ3 => Pv δ3 μ3 ∧ ms δ3 μ3 < ms δ' μ', bk := E.nx }) ∧ (k = false → E.nx δ' μ2))
    (hp : PassesOwn (model X.prog X.w) X.A X.env X.xe := by assumption) : dS X G0 (.While c body [] pos) δ μ E := fun σ H B => by
  refine wS_of (ps_while hp pt_w pss_w) ?_
  refine ⟨fun m σ' H' => ∃ δ' μ', m = ms δ' μ' ∧ Pv δ' μ' ∧ Bd X.K G0 δ' μ' σ' H', ⟨_, δ, μ, rfl, h0, B⟩, fun m σ' H' ⟨δ', μ', em, hP, B'⟩ => ?_⟩
  subst em
  refine hs δ' μ' hP σ' H' B' _ fun k H1 μ2 ⟨q1, q2⟩ m1 e1 => ?_
  have B2 := B'.step m1 e1
  cases k with
  | true =>
    rw [if_pos rfl]
    refine ⟨fun σ3 H3 => ∃ δ3 μ3, (Pv δ3 μ3 ∧ ms δ3 μ3 < ms δ' μ') ∧ Bd X.K G0 δ3 μ3 σ3 H3, fun σ3 H3 ⟨δ3, μ3, ⟨p3, l3⟩, B3⟩ => ⟨_, l3, δ3, μ3, rfl, p3, B3⟩, q1 rfl σ' H1 B2⟩
  | false =>
    rw [if_neg Bool.false_ne_true]
    exact ⟨δ', μ2, q2 rfl, B2⟩
end

/-! ### defs -/
/-- an error that leaves: its class, what its own dict holds -/
abbrev DX := Addr → List (Str × D) → Mu → Prop
/-- a def's promise: arguments, what may change, what is wanted of its value, of its error -/
abbrev DSp := List D → Mu → DK → DX → Prop
/-- an error as it stands: its class, its dict, what this holds -/
def ErrAt (K : PySem.W.Frag) (μ : Mu) (H : Hp) (C d : Addr) (gs : List (Str × D)) : Prop := ∀ a, Rp K (Im μ H) (.ref a) (.exc a C d gs)
/-- an error that carries nothing: no own dict -/
def bareG : List (Str × D) := [("", .non)]
def KX (K : PySem.W.Frag) (μ : Mu) (H : Hp) (Ψ : DX) (E : XK) : Prop :=
  (∀ (C d : Addr) H2 gs μ2, Ψ C gs μ2 → MuOk K μ2 H2 → Sub (Im μ H) (Im μ2 H2) → ErrAt K μ2 H2 C d gs → E (.ref C) (some d) H2) ∧
  ∀ (C : Addr) H2 μ2, Ψ C bareG μ2 → MuOk K μ2 H2 → Sub (Im μ H) (Im μ2 H2) → E (.ref C) none H2
def liftSp (K : PySem.W.Frag) (sp : DSp) : Sp := fun vs H Q E => ∃ ds μ Φ Ψ, RpAll K (Im μ H) vs ds ∧ MuOk K μ H ∧ sp ds μ Φ Ψ ∧ KP K μ H Φ Q ∧ KX K μ H Ψ E
abbrev NoX : DX := fun _ _ _ => False
/-- a def that stands, and may be called -/
structure Cal (P : Program) (w : World) (K : PySem.W.Frag) (mg : Str → Option Value) (base : Heap) (k : Nat) (x : Str) (sp : DSp) : Prop where
  ex : ∃ (f : Addr) (fd : FuncData) (ps : List Str), FnOk P w K mg base (L2N.CX P w) k f fd ps (liftSp K sp) ∧ mg x = some (.ref f) ∧ PySem.W.keepIn K (.ref f) = true ∧ Binds K fd ps []
theorem passN {X : Cx} : Passes (L2N.CX X.prog X.w) X E0 := fun _ _ _ _ _ _ _ h => by
  obtain ⟨_, _, _, _, _, _, _, _, _, _, _, _, z⟩ := h
  exact z.elim
/-- errors are taken: what Ψ says of one, at the slots as they stand, is what is wanted -/
def dTk (X : Cx) (G0 : Hp) (Ψ : List (Option D) → DX) : Prop := ∃ W, L2N.Takes X W ∧ (∀ (C d : Addr) δ σ H2 gs μ2, Ψ δ C gs μ2 → Bd X.K G0 δ μ2 σ H2 → ErrAt X.K μ2 H2 C d gs → W (.ref C) (some d) σ H2) ∧
  ∀ (C : Addr) δ σ H2 μ2, Ψ δ C bareG μ2 → Bd X.K G0 δ μ2 σ H2 → W (.ref C) none σ H2
theorem dTk.mono {X : Cx} {G0 G1 : Hp} {Ψ : List (Option D) → DX} (t : dTk X G0 Ψ) (e : Sub G0 G1) : dTk X G1 Ψ := by
  obtain ⟨W, tk, h, h0⟩ := t
  exact ⟨W, tk, fun C d δ σ H2 gs μ2 q B => h C d δ σ H2 gs μ2 q (B.weaken e), fun C δ σ H2 μ2 q B => h0 C δ σ H2 μ2 q (B.weaken e)⟩
section
variable {X : Cx} {G0 : Hp} {δ : List (Option D)} {μ : Mu} {Φ : DK} {pos : Pos} {e : Expr} {es : List Expr}
theorem noX {K : PySem.W.Frag} {μ : Mu} {H : Hp} {E : XK} : KX K μ H NoX E := ⟨fun _ _ _ _ _ h => h.elim, fun _ _ _ h => h.elim⟩
theorem d_call {j k : Nat} {x : Str} {sp : DSp} {p : Pos} (C : Cal X.prog X.w X.K X.mg X.base j x sp) (ha : dA X G0 (e :: es) δ μ fun xs μ1 => sp xs μ1 Φ NoX) (hr : Room k X.A := by assumption) (hj : j ≤ k := by decide) (hg : Gl X x := by rfl) (hdb : (x == ("__debug__" : Str)) = false := by decide)
    (he : starEach (e :: es) X.env = (false, eval e X.env) :: starEach es X.env := by rfl) (hpl : (backTo pos (starEach es X.env)).any (·.1) = false := by rfl) : dE X G0 (.Call (.Name x p) (e :: es) [] pos) δ μ Φ := fun σ H B Q kk => by
  obtain ⟨f, fd, ps, F, hm, hk, hb⟩ := C.ex
  refine wE_of (pe_call F (hr.mono hj) hg hm hk hb .nil passN pa_w hdb he hpl) ?_
  refine ha σ H B _ fun vs H1 xs μ1 q m1 e1 r1 => ?_
  rw [List.append_nil]
  exact ⟨xs, μ1, Φ, NoX, r1, m1, q, kk.after e1, noX⟩
/-- the same where an error is taken -/
theorem d_callX {j k : Nat} {x : Str} {sp : DSp} {p : Pos} {Ψ : List (Option D) → DX} (C : Cal X.prog X.w X.K X.mg X.base j x sp) (tk : dTk X G0 Ψ) (ha : dA X G0 (e :: es) δ μ fun xs μ1 => sp xs μ1 Φ (Ψ δ)) (hr : Room k X.A := by assumption) (hj : j ≤ k := by decide) (hg : Gl X x := by rfl) (hdb : (x == ("__debug__" : Str)) = false := by decide)
    (he : starEach (e :: es) X.env = (false, eval e X.env) :: starEach es X.env := by rfl) (hpl : (backTo pos (starEach es X.env)).any (·.1) = false := by rfl) : dE X G0 (.Call (.Name x p) (e :: es) [] pos) δ μ Φ := fun σ H B Q kk => by
  obtain ⟨f, fd, ps, F, hm, hk, hb⟩ := C.ex
  obtain ⟨W, tw, tq⟩ := tk
  refine wE_of (pe_callS F (hr.mono hj) hg hm hk hb (fun σ => L2N.passAt tw σ) pa_w hdb he hpl) ?_
  refine ha σ H B _ fun vs H1 xs μ1 q m1 e1 r1 => ?_
  exact ⟨xs, μ1, Φ, Ψ δ, r1, m1, q, kk.after e1, fun C d H2 gs μ2 q2 m2 e2 er => tq.1 C d δ σ H2 gs μ2 q2 (B.step m2 (e1.trans e2)) er, fun C H2 μ2 q2 m2 e2 => tq.2 C δ σ H2 μ2 q2 (B.step m2 (e1.trans e2))⟩
end
/-- the slots at a def's start -/
def dst (N : List Str) (ds : List D) : List (Option D) := ds.map some ++ List.replicate (N.length - ds.length) none
theorem rp_slots {K : PySem.W.Frag} {G : Hp} : ∀ {vs : List V} {ds : List D} {n : Nat} (i : Nat) (d : D), RpAll K G vs ds → (ds.map some ++ List.replicate n none)[i]? = some (some d) → ∃ v, (vs.map some ++ List.replicate n none)[i]? = some (some v) ∧ Rp K G v d
  | _, _, n, i, d, .nil, h => by
    simp [List.getElem?_replicate] at h
  | _, _, n, 0, d, .cons (v := v) r t, h => by
    have e : _ = d := Option.some.inj (Option.some.inj h)
    subst e
    exact ⟨v, rfl, r⟩
  | _, _, n, i + 1, d, .cons r t, h => rp_slots i d t h
theorem bd_start {K : PySem.W.Frag} {μ : Mu} {H : Hp} {N : List Str} {vs : List V} {ds : List D} (r : RpAll K (Im μ H) vs ds) (m : MuOk K μ H) : Bd K (Im μ H) (dst N ds) μ (L2.start N vs) H := by
  refine ⟨?_, fun i d h => ?_, m, Sub.refl _⟩
  · unfold dst L2.start
    simp [r.length]
  · unfold dst at h
    unfold L2.start
    rw [r.length]
    exact rp_slots i d r h
section
variable {P : Program} {w : World} {K : PySem.W.Frag} {mg : Str → Option Value} {base : Heap}
/-- the context of a def's body -/
abbrev cxD (P : Program) (w : World) (K : PySem.W.Frag) (mg : Str → Option Value) (base : Heap) (N : List Str) (qual : Str) (st : Stmt) (f : Addr) (cd : Value) (A : Around) (outer : List Env) (s : Shared) (H : Hp) (E : XK) : Cx :=
  cxOf (L2N.CX P w) P w K mg base N qual (defScope st) f cd A outer s H E
/-- a def's body, on data -/
structure Body (P : Program) (w : World) (K : PySem.W.Frag) (mg : Str → Option Value) (base : Heap) (k : Nat) (N : List Str) (qual : Str) (st : Stmt) (ds : List D) (μ : Mu) (Φ : DK) (Ψ : DX) : Prop where
  go : ∀ (f : Addr) (cd : Value) (A : Around) (outer : List Env) (s : Shared) (H : Hp) (E : XK) (G0 : Hp), Room k (cxD P w K mg base N qual st f cd A outer s H E).A → PassesOwn (model P w) (cxD P w K mg base N qual st f cd A outer s H E).A (cxD P w K mg base N qual st f cd A outer s H E).env (cxD P w K mg base N qual st f cd A outer s H E).xe →
    dTk (cxD P w K mg base N qual st f cd A outer s H E) G0 (fun _ => Ψ) → dSs (cxD P w K mg base N qual st f cd A outer s H E) G0 (defBody st) (dst N ds) μ { nx := fun _ μ' => Φ .non μ', rt := Φ }
theorem cal_fn {x qual : Str} {st : Stmt} {f : Addr} {N ps : List Str} {k : Nat} {sp : DSp} {oc : Value} {od : Option Addr} {dV kV doc pm : Value} {an : Option Addr} {cdv ct : Value} {osl : Array (Option Value)}
    (lk : K.lookup f = some ⟨oc, od, .func (PySem.W.fnOf x qual (defArgs st) (defBody st) (defScope st) dV kV doc pm an cdv ct), osl⟩) (hcd : PySem.W.codeIn K cdv qual = true) (S : FnScope N ps (defScope st)) (len : ∀ ds μ Φ Ψ, sp ds μ Φ Ψ → ds.length = ps.length)
    (h : ∀ ds μ Φ Ψ, sp ds μ Φ Ψ → Body P w K mg base k N qual st ds μ Φ Ψ) : FnOk P w K mg base (L2N.CX P w) (k + 1) f (PySem.W.fnOf x qual (defArgs st) (defBody st) (defScope st) dV kV doc pm an cdv ct) ps (liftSp K sp) := by
  refine fn_of lk hcd S (fun vs H Q E hs => ?_) (fun A outer s H vs Q E hr hs => ?_)
  · obtain ⟨ds, μ, Φ, Ψ, r, _, q, _⟩ := hs
    rw [r.length]
    exact len ds μ Φ Ψ q
  · obtain ⟨ds, μ, Φ, Ψ, r, m, q, kk, kx⟩ := hs
    refine ⟨_, pss_w, ?_⟩
    have B := bd_start (N := N) r m
    refine wSs_mono (D := dEn K (Im μ H) { nx := fun _ μ' => Φ .non μ', rt := Φ }) ⟨fun σ' H' ⟨δ', μ', q', B'⟩ => ?_, fun v H' ⟨d, μ', q', m', e', r'⟩ => kk v H' d μ' q' m' e' r', fun _ _ ⟨_, _, q', _⟩ => q'.elim, fun _ _ ⟨_, _, q', _⟩ => q'.elim⟩
      ((h ds μ Φ Ψ q).go f cdv A outer s H E (Im μ H) hr (passes_of rfl) ⟨_, L2N.takes_of rfl rfl rfl rfl, fun C d δ σ H2 gs μ2 q2 B2 er => kx.1 C d H2 gs μ2 q2 B2.mu B2.base er, fun C δ σ H2 μ2 q2 B2 => kx.2 C H2 μ2 q2 B2.mu B2.base⟩ _ H B)
    exact kk .non H' .non μ' q' B'.mu B'.base .non
theorem cal_of {x qual : Str} {st : Stmt} {f : Addr} {fd : FuncData} {N ps : List Str} {k : Nat} {sp : DSp} (F : Fun K x qual st f fd) (hm : mg x = some (.ref f)) (hb : Binds K fd ps []) (S : FnScope N ps (defScope st)) (len : ∀ ds μ Φ Ψ, sp ds μ Φ Ψ → ds.length = ps.length)
    (h : ∀ ds μ Φ Ψ, sp ds μ Φ Ψ → Body P w K mg base k N qual st ds μ Φ Ψ) : Cal P w K mg base (k + 1) x sp := by
  obtain ⟨oc, od, kV, doc, pm, an, cdv, ct, osl, rfl, lk, hcd⟩ := F.ex
  exact ⟨f, _, ps, cal_fn lk hcd S len h, hm, F.kp, hb⟩
end
end DL

namespace DL
open PySem PySem.Spec PyProof.Rows L2
/-- a def of the text, as it stands behind the top -/
structure DefT (K : PySem.W.Frag) (mg : Str → Option Value) (x : Str) (st : Stmt) (ps : List Str) : Prop where
  ex : ∃ (f : Addr) (fd : FuncData), Fun K x x st f fd ∧ mg x = some (.ref f) ∧ Binds K fd ps []
section
variable {P : Program} {w : World} {K : PySem.W.Frag} {mg : Str → Option Value} {base : Heap}
theorem DefT.cal {x : Str} {st : Stmt} {N ps : List Str} {k : Nat} {sp : DSp} (D : DefT K mg x st ps) (S : FnScope N ps (defScope st)) (len : ∀ ds μ Φ Ψ, sp ds μ Φ Ψ → ds.length = ps.length)
    (h : ∀ ds μ Φ Ψ, sp ds μ Φ Ψ → Body P w K mg base k N x st ds μ Φ Ψ) : Cal P w K mg base (k + 1) x sp := by
  obtain ⟨f, fd, F, hm, hb⟩ := D.ex
  exact cal_of F hm hb S len h
theorem Cal.mono {x : Str} {j k : Nat} {sp : DSp} (C : Cal P w K mg base j x sp) (h : j ≤ k) : Cal P w K mg base k x sp := by
  obtain ⟨f, fd, ps, F, r⟩ := C.ex
  exact ⟨f, fd, ps, F.mono h, r⟩
end
section
variable {X : Cx} {G0 : Hp} {e a b c : Expr} {es rest : List Expr} {δ : List (Option D)} {μ : Mu} {Φ : DK} {pos : Pos} {K : PySem.W.Frag} {H : Hp} {Q : VK} {Θ : Bool → Mu → Prop}
theorem d_v {i : Nat} {x : Str} {d : D} (hN : X.N[i]? = some x ∧ (x == ("__debug__" : Str)) = false ∧ (x == ("__classdict__" : Str)) = false) (hd : δ[i]? = some (some d)) (hv : Vis X.env.scope x) (q : Φ d μ) : dE X G0 (.Name x pos) δ μ Φ := d_var i hd q hN.1 hv hN.2.1 hN.2.2
theorem t_cmp {op : CmpOp} (h : dE X G0 a δ μ fun x μ1 => dE X G0 b δ μ1 fun y μ2 => dOp X (compareOp op) x y μ2 fun d μ3 => ∃ k, d = .bl k ∧ Θ k μ3) (hm : behindInMarks op b = false := by first | exact nomark _ | rfl) : dT X G0 (.Compare a [op] [b] pos) δ μ Θ := fun σ H B Q k => by
  refine wT_of (pt_cmpR op_w pe_w pe_w hm) ?_
  refine h σ H B _ fun v H1 x μ1 hx m1 e1 r1 => ?_
  refine hx σ H1 (B.step m1 e1) _ fun u H2 y μ2 hy m2 e2 r2 => ?_
  refine hy v u H2 (r1.mono e2) r2 m2 _ fun w H3 d μ3 ⟨c, ed, q⟩ m3 e3 r3 => ?_
  subst ed
  exact ⟨c, rp_bl r3, k c H3 μ3 q m3 ((e1.trans e2).trans e3)⟩
theorem tr_bl {k : Bool} {P : Bool → Prop} (q : P k) : ∃ c, Tr (.bl k) μ c ∧ P c := ⟨k, rfl, q⟩
theorem tr_int {i : Int} (q : Θ (i != 0) μ) : ∃ c, Tr (.int i) μ c ∧ Θ c μ := ⟨_, rfl, q⟩
theorem tr_lst {xs : List D} (q : Θ (!xs.isEmpty) μ) : ∃ c, Tr (.lst xs) μ c ∧ Θ c μ := ⟨_, rfl, q⟩
theorem bl_ex {k : Bool} {P : Bool → Prop} (q : P k) : ∃ c, D.bl k = .bl c ∧ P c := ⟨k, rfl, q⟩
/-- a test on what is known: each way with its fact -/
theorem way {p : Prop} [Decidable p] {A B : Prop} (h1 : p → A) (h2 : ¬ p → B) : (decide p = true → A) ∧ (decide p = false → B) := ⟨fun h => h1 (of_decide_eq_true h), fun h => h2 (of_decide_eq_false h)⟩
theorem wayN {p : Prop} [Decidable p] {A B : Prop} (h1 : ¬ p → A) (h2 : p → B) : ((!decide p) = true → A) ∧ ((!decide p) = false → B) :=
  ⟨fun h => h1 (fun z => by rw [decide_eq_true z] at h; cases h), fun h => h2 (by cases e : decide p with | true => exact of_decide_eq_true e | false => rw [e] at h; cases h)⟩
theorem way2 {k : Bool} {A B : Prop} (h1 : k = true → A) (h2 : k = false → B) : (k = true → A) ∧ (k = false → B) := ⟨h1, h2⟩
theorem wayT {A B : Prop} (h : A) : (true = true → A) ∧ (true = false → B) := ⟨fun _ => h, fun h => (nomatch h)⟩
theorem wayF {A B : Prop} (h : B) : (false = true → A) ∧ (false = false → B) := ⟨fun h => (nomatch h), fun _ => h⟩
theorem wayT' {A B : Prop} (h : A) : (true = false → B) ∧ (true = true → A) := ⟨fun h => (nomatch h), fun _ => h⟩
/-- names of built-in classes as values -/
theorem hu64 {k : Nat} (hr : Room k X.A) : X.A.units + 64 < cLine := hr.units
end
end DL

namespace DL
open PySem PySem.Spec PyProof.Rows L2
/-! ### isinstance -/
def tyD : D → Option String
  | .non => some "NoneType"
  | .bl _ => some "bool"
  | .int _ => some "int"
  | .str _ => some "str"
  | .lst _ => some "list"
  | .tup _ => some "tuple"
  | _ => none
section
variable {X : Cx} {G0 : Hp} {e a b c : Expr} {es rest : List Expr} {δ : List (Option D)} {μ : Mu} {Φ : DK} {pos : Pos} {K : PySem.W.Frag} {H : Hp} {Q : VK} {Θ : Bool → Mu → Prop}
theorem d_ty {x : Str} {n : String} (q : Φ (.ty n) μ) (hm : X.mg x = none := by assumption) (hv : bootBuiltins x = some (.type n) := by exact (by decide +kernel)) (hg : Gl X x := by rfl) (hn : x ≠ "__name__" := by decide) (hd : (x == ("__debug__" : Str)) = false := by decide) : dE X G0 (.Name x pos) δ μ Φ := fun σ H B Q k =>
  wE_of (pe_bltn (v := .ty n) hg hm hv rfl hn hd) (k.val B.mu q (.ty n))
theorem ty_rp {v : V} {d : D} {t : String} (r : Rp K (Im μ H) v d) (h : tyD d = some t) : TyX K H v (.type t) := by
  cases r with
  | non => cases h; exact .base .non
  | bl b => cases h; exact .base (.bl b)
  | int i => cases h; exact .base (.int i)
  | str x => cases h; exact .base (.str x)
  | ref p => cases h
  | ty n => cases h
  | exc h1 _ => cases h
  | exv h1 _ _ => cases h
  | exb h1 => cases h
  | scr h1 => cases h
  | lst h1 _ => cases h; exact .base (.lst (im_all _ _ h1))
  | tup h1 _ => cases h; exact .base (.tup (im_all _ _ h1))
  | dct h1 _ => cases h
  | obj h1 _ => cases h
theorem c_isi {d : D} {t n : String} {k : Bool} (q : Φ (.bl k) μ) (ht : tyD d = some t := by rfl) (hk : kitB t n = some k := by exact (by decide +kernel)) : dCall X (.builtin "isinstance") [d, .ty n] μ Φ := fun vs H r m Q kk => by
  obtain ⟨v, u, rfl, a, b⟩ := rp2 r
  cases b
  exact wCall_of call_isi ⟨v, .ty n, .type t, .type n, k, rfl, .ty n, ty_rp a ht, kit_ty hk, kk.val m q (.bl _)⟩
theorem c_isiM {p : Addr} {ds : List D} {n : String} {k : Bool} (hp : μ p = some (.lst ds)) (q : Φ (.bl k) μ) (hk : kitB "list" n = some k := by exact (by decide +kernel)) : dCall X (.builtin "isinstance") [.ref p, .ty n] μ Φ := fun vs H r m Q kk => by
  obtain ⟨v, u, rfl, a, b⟩ := rp2 r
  cases b
  cases rp_ref a
  obtain ⟨ws, ha, _⟩ := m.lst hp
  exact wCall_of call_isi ⟨_, .ty n, .type "list", .type n, k, rfl, .ty n, .base (.lst ha), kit_ty hk, kk.val m q (.bl _)⟩
end

/-! ### what may change, and stays from now on -/
section
variable {X : Cx} {G0 : Hp} {e a b c it elt : Expr} {es rest : List Expr} {δ : List (Option D)} {μ : Mu} {Φ : DK} {pos : Pos} {K : PySem.W.Frag} {H : Hp} {Q : VK}
theorem im_drop {μ : Mu} {p : Addr} {c : D} {H : Hp} : Sub (Im (updM μ p c) H) (Im μ H) := fun a o h => by
  unfold Im at h ⊢
  by_cases q : (μ a).isSome = true
  · have z : (updM μ p c a).isSome = true := by
      unfold updM
      split
      · rfl
      · exact q
    rw [if_pos z] at h
    cases h
  · rw [if_neg q]
    split at h
    · cases h
    · exact h
theorem MuOk.drop {p : Addr} {c : D} (m : MuOk K (updM μ p c) H) (h : μ p = none) : MuOk K μ H := fun q c' hq => by
  have ne : q ≠ p := fun e => by
    rw [e, h] at hq
    cases hq
  exact (m q c' ((updM_ne ne).trans hq)).mono im_drop
theorem frz_rp {p : Addr} {ds : List D} (m : MuOk K (updM μ p (.lst ds)) H) (h : μ p = none) : Rp K (Im μ H) (.ref p) (.lst ds) := by
  obtain ⟨vs, ha, ra⟩ := m.lst updM_same
  refine .lst (xs := vs) ?_ (ra.mono im_drop)
  unfold Im
  rw [h]
  exact ha
/-- a value, or a new list that stays from now on -/
def Fz (Φ : DK) : DK := fun d μ => Φ d μ ∨ ∃ p ds μ2, d = .ref p ∧ μ = updM μ2 p (.lst ds) ∧ μ2 p = none ∧ Φ (.lst ds) μ2
theorem KP.fz (k : KP K μ H Φ Q) : KP K μ H (Fz Φ) Q := fun v H2 d μ2 q m e r => by
  rcases q with q | ⟨p, ds, μ3, rfl, rfl, hp, q⟩
  · exact k v H2 d μ2 q m e r
  · cases rp_ref r
    exact k _ H2 _ μ3 q (m.drop hp) (e.trans im_drop) (frz_rp m hp)
theorem d_fz (h : dE X G0 e δ μ (Fz Φ)) : dE X G0 e δ μ Φ := fun σ H B Q k => h σ H B Q k.fz
theorem fz_ref {p : Addr} {ds : List D} (hp : μ p = none) (q : Φ (.lst ds) μ) : Fz Φ (.ref p) (updM μ p (.lst ds)) := .inr ⟨p, ds, μ, rfl, rfl, hp, q⟩
theorem updM_upd {μ : Mu} {p : Addr} {c d : D} : updM (updM μ p c) p d = updM μ p d := by
  funext a
  unfold updM
  split <;> rfl
theorem updM_comm {μ : Mu} {p q : Addr} {c d : D} (h : p ≠ q) : updM (updM μ p c) q d = updM (updM μ q d) p c := by
  funext a
  unfold updM
  by_cases e1 : a = p
  · subst e1
    rw [if_neg h, if_pos rfl, if_pos rfl]
  · rw [if_neg e1, if_neg e1]
/-! ### comprehensions -/
def wipeD (δ : List (Option D)) : List Nat → List (Option D)
  | [] => δ
  | v :: vs => (wipeD δ vs).set v none
theorem wipe_at {α : Type} {σ : List (Option α)} : ∀ {vs : List Nat} {f : List Nat → List (Option α)}, (f [] = σ) → (∀ v vs, f (v :: vs) = (f vs).set v none) → ∀ i, (f vs)[i]? = if i ∈ vs then (σ[i]?).map (fun _ => none) else σ[i]?
  | [], f, h0, _, i => by rw [h0, if_neg (List.not_mem_nil)]
  | v :: vs, f, h0, hs, i => by
    have ih := wipe_at (vs := vs) h0 hs i
    rw [hs, List.getElem?_set]
    by_cases e : v = i
    · subst e
      rw [if_pos rfl, if_pos (show v ∈ v :: vs from List.mem_cons_self)]
      have l : (f vs).length = σ.length := by
        clear ih
        induction vs with
        | nil => rw [h0]
        | cons u us ih2 => rw [hs, List.length_set, ih2]
      by_cases hl : v < (f vs).length
      · rw [if_pos hl, List.getElem?_eq_getElem (by rw [← l]; exact hl)]
        rfl
      · rw [if_neg hl, List.getElem?_eq_none (by rw [← l]; omega)]
        rfl
    · rw [if_neg e, ih]
      by_cases q : i ∈ vs
      · rw [if_pos q, if_pos (List.mem_cons_of_mem _ q)]
      · rw [if_neg q, if_neg (by intro z; rcases List.mem_cons.mp z with z | z; exact e z.symm; exact q z)]
theorem wipe_get (σ : L2.St) (vs : List Nat) (i : Nat) : (wipe σ vs)[i]? = if i ∈ vs then (σ[i]?).map (fun _ => none) else σ[i]? := wipe_at (f := wipe σ) rfl (fun _ _ => rfl) i
theorem wipeD_get (δ : List (Option D)) (vs : List Nat) (i : Nat) : (wipeD δ vs)[i]? = if i ∈ vs then (δ[i]?).map (fun _ => none) else δ[i]? := wipe_at (f := wipeD δ) rfl (fun _ _ => rfl) i
theorem wipeD_length (δ : List (Option D)) : ∀ vs : List Nat, (wipeD δ vs).length = δ.length
  | [] => rfl
  | v :: vs => by
    show ((wipeD δ vs).set v none).length = δ.length
    rw [List.length_set, wipeD_length δ vs]
theorem wipe_set {σ : L2.St} {vs : List Nat} {j : Nat} {o : Option V} (h : j ∈ vs) : wipe (σ.set j o) vs = wipe σ vs := by
  refine List.ext_getElem? fun i => ?_
  rw [wipe_get, wipe_get]
  by_cases q : i ∈ vs
  · rw [if_pos q, if_pos q, List.getElem?_set]
    by_cases e : j = i
    · subst e
      rw [if_pos rfl]
      by_cases l : j < σ.length
      · rw [if_pos l, List.getElem?_eq_getElem l]
        rfl
      · rw [if_neg l, List.getElem?_eq_none (by omega)]
    · rw [if_neg e]
  · rw [if_neg q, if_neg q, List.getElem?_set_ne]
    intro e
    exact q (e ▸ h)
theorem wipe_wipe {σ : L2.St} {vs : List Nat} : wipe (wipe σ vs) vs = wipe σ vs := by
  refine List.ext_getElem? fun i => ?_
  rw [wipe_get, wipe_get]
  by_cases q : i ∈ vs
  · rw [if_pos q, if_pos q]
    cases σ[i]? <;> rfl
  · rw [if_neg q, if_neg q]
theorem Bd.wipe {G0 : Hp} {σ : L2.St} (B : Bd K G0 δ μ σ H) (vs : List Nat) : Bd K G0 (wipeD δ vs) μ (L2.wipe σ vs) H := by
  refine ⟨by rw [wipe_length, wipeD_length, B.len], fun i d h => ?_, B.mu, B.base⟩
  rw [wipeD_get] at h
  by_cases q : i ∈ vs
  · rw [if_pos q] at h
    cases e : δ[i]? with
    | none => rw [e] at h; cases h
    | some o => rw [e] at h; cases h
  · rw [if_neg q] at h
    obtain ⟨v, h1, h2⟩ := B.sl i d h
    exact ⟨v, by rw [wipe_get, if_neg q]; exact h1, h2⟩
/-- a block's context -/
abbrev BX (X : Cx) (scope : Scope) (s : Shared) (H : Hp) (C : Addr) (cl : List (Str × Addr)) (fp : List Addr) : Cx := X.blk s H scope (compEnvC scope cl C X.env) fp
def wEs (X : Cx) (scope : Scope) (e : Expr) : TE := fun σ H Q => ∀ s H0 C cl fp, wE (BX X scope s H0 C cl fp) e σ H Q
def wTs (X : Cx) (scope : Scope) (e : Expr) : TT := fun σ H Q => ∀ s H0 C cl fp, wT (BX X scope s H0 C cl fp) e σ H Q
/-- an element, whatever the block -/
def dEs (X : Cx) (scope : Scope) (e : Expr) (δ : List (Option D)) (μ : Mu) (Φ : DK) : Prop := ∀ G1 s H0 C cl fp, dE (BX X scope s H0 C cl fp) G1 e δ μ Φ
def dTs (X : Cx) (scope : Scope) (e : Expr) (δ : List (Option D)) (μ : Mu) (Θ : Bool → Mu → Prop) : Prop := ∀ G1 s H0 C cl fp, dT (BX X scope s H0 C cl fp) G1 e δ μ Θ
/-- a turn of a comprehension without a test: the list so far stands at p -/
def LcTurn (X : Cx) (scope : Scope) (elt : Expr) (p : Addr) (acc : List D) (δ2 : List (Option D)) (μ : Mu) (N : List D → Mu → Prop) : Prop :=
  acc.length < sizeLine ∧ dEs X scope elt δ2 (updM μ p (.lst acc)) fun r μ3 => ∃ μ4, μ3 = updM μ4 p (.lst acc) ∧ μ4 p = none ∧ N (acc ++ [r]) μ4
theorem lc_turn {scope : Scope} {p : Addr} {acc : List D} {δ0 δ2 : List (Option D)} {σ0 σ2 : L2.St} {G1 : Hp} {Nx : List D → Mu → Prop} (B : Bd X.K G1 δ2 (updM μ p (.lst acc)) σ2 H) (B0 : Bd X.K G1 δ0 (updM μ p (.lst acc)) σ0 H) (h : LcTurn X scope elt p acc δ2 μ Nx) :
    tYes σ2 H fun b H3 => if b = true then wEs X scope elt σ2 H3 fun y H4 => ∃ ws, H4 p = some (.lst ws) ∧ ws.length < sizeLine ∧ ∃ acc' μ', Nx acc' μ' ∧ μ' p = none ∧ Bd X.K G1 δ0 (updM μ' p (.lst acc')) σ0 (upd H4 p (.lst (ws ++ [y]))) else ∃ acc' μ', Nx acc' μ' ∧ μ' p = none ∧ Bd X.K G1 δ0 (updM μ' p (.lst acc')) σ0 H3 := by
  unfold tYes
  dsimp only
  rw [if_pos rfl]
  intro s H0 C cl fp
  refine h.2 G1 s H0 C cl fp σ2 H B _ fun y H4 r μ3 q m4 e4 r4 => ?_
  obtain ⟨μ4, rfl, hp, hN⟩ := q
  obtain ⟨ws, ha, ra⟩ := m4.lst updM_same
  have hi : Im (updM μ4 p (.lst (acc ++ [r]))) (upd H4 p (.lst (ws ++ [y]))) = Im (updM μ4 p (.lst acc)) H4 := by
    rw [← updM_upd (c := .lst acc)]
    exact im_upd (by rw [updM_same]; rfl)
  have m5 : MuOk X.K (updM μ4 p (.lst (acc ++ [r]))) (upd H4 p (.lst (ws ++ [y]))) := by
    rw [← updM_upd (c := .lst acc)]
    refine m4.upd ?_ (ra.append (.cons r4 .nil))
    rw [updM_upd]
    exact hi
  exact ⟨ws, ha, by rw [ra.length]; exact h.1, _, _, hN, hp, B0.step m5 (by rw [hi]; exact e4)⟩
theorem lc_end {p : Addr} {acc : List D} {δ0 : List (Option D)} {σ0 : L2.St} {H' : Hp} {μ' : Mu} (k : KP X.K μ H Φ Q) (hp : μ' p = none) (q : Φ (.ref p) (updM μ' p (.lst acc))) (B : Bd X.K (Im μ H) δ0 (updM μ' p (.lst acc)) σ0 H') : Q (.ref p) H' :=
  k _ H' _ _ q B.mu B.base (.ref p)
/-- [e for x in a list] -/
theorem d_lcL {x : Str} {scope : Scope} {tp cp : Pos} {own : List (Str × Nat)} {vs : List Nat} (j : Nat)
    (h : dE X G0 it δ μ fun d μ1 => ∃ ds, d = .lst ds ∧ ∃ Pv : Nat → List D → Mu → Prop, Pv 0 [] μ1 ∧ (∀ (i : Nat) d acc μ2 p, ds[i]? = some d → Pv i acc μ2 → μ2 p = none → LcTurn X scope elt p acc ((wipeD δ vs).set j (some d)) μ2 (Pv (i + 1))) ∧ ∀ acc μ2 p, Pv ds.length acc μ2 → μ2 p = none → Φ (.ref p) (updM μ2 p (.lst acc)))
    (hb : blkC X.N X.env.scope scope own = true := by kernel_rfl) (hj : j ∈ vs := by decide) (hv : own.map (·.2) = vs := by rfl) (hN : X.N.Nodup := by assumption) (hc : X.calm = true := by rfl)
    (hi : X.N[j]? = some x := by rfl) (hx : ∀ s H C cl fp, Loc (BX X scope s H C cl fp).env.scope x := by first | exact fun _ _ _ _ _ => Or.inl rfl | exact fun _ _ _ _ _ => Or.inr rfl) (hf : ∀ s H C cl fp, (BX X scope s H C cl fp).fn x = true ∨ (BX X scope s H C cl fp).env.scope.names.lookup x = some .local := by first | exact fun _ _ _ _ _ => .inr rfl | exact fun _ _ _ _ _ => .inl rfl)
    (hs : ∀ x, foldedSetIterable it X.env x = pure x := by intro _; rfl) : dE X G0 (.ListComp elt [⟨.Name x tp, it, [], 0⟩] scope cp) δ μ Φ := fun σ H B Q k => by
  refine wE_of (pe_lc hc hN (pi_list pe_w) (blkOk_by hb) (fun s H C cl fp => pg_name (i := j) hN hi (hx s H C cl fp) (hf s H C cl fp)) (fun _ _ _ _ _ => pts_nil) (fun s H C cl fp => (⟨fun pins s' σ' H' Q' I q => q s H C cl fp pins s' I⟩ : PE _ _ (wEs X scope elt))) hs) ?_
  rw [hv]
  refine h σ H B _ fun v H1 d μ1 q m1 e1 r1 => ?_
  obtain ⟨ds, rfl, Pv, p0, turn, fin⟩ := q
  obtain ⟨a, ws, rfl, hG, ra⟩ : ∃ a ws, v = .ref a ∧ Im μ1 H1 a = some (.lst ws) ∧ RpAll X.K (Im μ1 H1) ws ds := by
    cases r1 with
    | lst h r => exact ⟨_, _, rfl, h, r⟩
  have B1 := (B.step m1 e1).wipe vs
  refine ⟨a, rfl, ⟨ws, SqL.of (im_all _ _ hG)⟩, fun p hp => ?_⟩
  have hi0 : Im (updM μ1 p (.lst [])) (upd H1 p (.lst [])) = Im μ1 H1 := im_new hp
  have B2 : Bd X.K (Im μ1 H1) (wipeD δ vs) (updM μ1 p (.lst [])) (L2.wipe σ vs) (upd H1 p (.lst [])) := B1.rebase.step (m1.upd hi0 .nil) (by rw [hi0]; exact Sub.refl _)
  refine lc_list (xs := ws) (fun i H' => ∃ acc μ2, Pv i acc μ2 ∧ μ2 p = none ∧ Bd X.K (Im μ1 H1) (wipeD δ vs) (updM μ2 p (.lst acc)) (L2.wipe σ vs) H') ⟨[], μ1, p0, mu_free m1 hp, B2⟩ (fun i H' _ ⟨acc, μ2, _, _, B'⟩ => SqL.of (im_all _ _ (B'.base _ _ hG))) (fun i y H' hy ⟨acc, μ2, hP, hp2, B'⟩ => ?_) (fun H' ⟨acc, μ2, hP, hp2, B'⟩ => ?_)
  · have hl : i < ds.length := by rw [← ra.length]; exact (List.getElem?_eq_some_iff.mp hy).1
    obtain ⟨w', hw, rw'⟩ := ra.get (List.getElem?_eq_getElem hl)
    rw [hw] at hy
    cases hy
    refine ⟨by rw [wipe_set hj, wipe_wipe], ?_⟩
    exact lc_turn (B'.set (rw'.mono B'.base)) B' (turn i _ acc μ2 p (List.getElem?_eq_getElem hl) hP hp2)
  · rw [ra.length] at hP
    exact lc_end (k.after e1) hp2 (fin acc μ2 p hP hp2) B'
/-- [e for x in a tuple] -/
theorem d_lcT {x : Str} {scope : Scope} {tp cp : Pos} {own : List (Str × Nat)} {vs : List Nat} (j : Nat)
    (h : dE X G0 it δ μ fun d μ1 => ∃ ds, d = .tup ds ∧ ∃ Pv : Nat → List D → Mu → Prop, Pv 0 [] μ1 ∧ (∀ (i : Nat) d acc μ2 p, ds[i]? = some d → Pv i acc μ2 → μ2 p = none → LcTurn X scope elt p acc ((wipeD δ vs).set j (some d)) μ2 (Pv (i + 1))) ∧ ∀ acc μ2 p, Pv ds.length acc μ2 → μ2 p = none → Φ (.ref p) (updM μ2 p (.lst acc)))
    (hb : blkC X.N X.env.scope scope own = true := by kernel_rfl) (hj : j ∈ vs := by decide) (hv : own.map (·.2) = vs := by rfl) (hN : X.N.Nodup := by assumption) (hc : X.calm = true := by rfl)
    (hi : X.N[j]? = some x := by rfl) (hx : ∀ s H C cl fp, Loc (BX X scope s H C cl fp).env.scope x := by first | exact fun _ _ _ _ _ => Or.inl rfl | exact fun _ _ _ _ _ => Or.inr rfl) (hf : ∀ s H C cl fp, (BX X scope s H C cl fp).fn x = true ∨ (BX X scope s H C cl fp).env.scope.names.lookup x = some .local := by first | exact fun _ _ _ _ _ => .inr rfl | exact fun _ _ _ _ _ => .inl rfl)
    (hs : ∀ x, foldedSetIterable it X.env x = pure x := by intro _; rfl) : dE X G0 (.ListComp elt [⟨.Name x tp, it, [], 0⟩] scope cp) δ μ Φ := fun σ H B Q k => by
  refine wE_of (pe_lc hc hN (pi_tup pe_w) (blkOk_by hb) (fun s H C cl fp => pg_name (i := j) hN hi (hx s H C cl fp) (hf s H C cl fp)) (fun _ _ _ _ _ => pts_nil) (fun s H C cl fp => (⟨fun pins s' σ' H' Q' I q => q s H C cl fp pins s' I⟩ : PE _ _ (wEs X scope elt))) hs) ?_
  rw [hv]
  refine h σ H B _ fun v H1 d μ1 q m1 e1 r1 => ?_
  obtain ⟨ds, rfl, Pv, p0, turn, fin⟩ := q
  obtain ⟨a, ws, rfl, hG, ra⟩ : ∃ a ws, v = .ref a ∧ Im μ1 H1 a = some (.tup ws) ∧ RpAll X.K (Im μ1 H1) ws ds := by
    cases r1 with
    | tup h r => exact ⟨_, _, rfl, h, r⟩
  have B1 := (B.step m1 e1).wipe vs
  refine ⟨a, rfl, ⟨ws, SqT.of (im_all _ _ hG)⟩, fun p hp => ?_⟩
  have hi0 : Im (updM μ1 p (.lst [])) (upd H1 p (.lst [])) = Im μ1 H1 := im_new hp
  have B2 : Bd X.K (Im μ1 H1) (wipeD δ vs) (updM μ1 p (.lst [])) (L2.wipe σ vs) (upd H1 p (.lst [])) := B1.rebase.step (m1.upd hi0 .nil) (by rw [hi0]; exact Sub.refl _)
  refine lc_tup (xs := ws) (fun i H' => ∃ acc μ2, Pv i acc μ2 ∧ μ2 p = none ∧ Bd X.K (Im μ1 H1) (wipeD δ vs) (updM μ2 p (.lst acc)) (L2.wipe σ vs) H') ⟨[], μ1, p0, mu_free m1 hp, B2⟩ (fun i H' _ ⟨acc, μ2, _, _, B'⟩ => SqT.of (im_all _ _ (B'.base _ _ hG))) (fun i y H' hy ⟨acc, μ2, hP, hp2, B'⟩ => ?_) (fun H' ⟨acc, μ2, hP, hp2, B'⟩ => ?_)
  · have hl : i < ds.length := by rw [← ra.length]; exact (List.getElem?_eq_some_iff.mp hy).1
    obtain ⟨w', hw, rw'⟩ := ra.get (List.getElem?_eq_getElem hl)
    rw [hw] at hy
    cases hy
    refine ⟨by rw [wipe_set hj, wipe_wipe], ?_⟩
    exact lc_turn (B'.set (rw'.mono B'.base)) B' (turn i _ acc μ2 p (List.getElem?_eq_getElem hl) hP hp2)
  · rw [ra.length] at hP
    exact lc_end (k.after e1) hp2 (fin acc μ2 p hP hp2) B'
/-- [e for x in range(n)] -/
theorem d_lcR {x : Str} {scope : Scope} {rp ip tp cp : Pos} {own : List (Str × Nat)} {vs : List Nat} (j : Nat)
    (h : dA X G0 [a] δ μ fun ns μ1 => ∃ n : Int, ns = [.int n] ∧ n < 2 ^ 62 ∧ -(2 ^ 62) ≤ n ∧ ∃ Pv : Nat → List D → Mu → Prop, Pv 0 [] μ1 ∧ (∀ (i : Nat) acc μ2 p, i < n.toNat → Pv i acc μ2 → μ2 p = none → LcTurn X scope elt p acc ((wipeD δ vs).set j (some (.int i))) μ2 (Pv (i + 1))) ∧ ∀ acc μ2 p, Pv n.toNat acc μ2 → μ2 p = none → Φ (.ref p) (updM μ2 p (.lst acc)))
    (hb : blkC X.N X.env.scope scope own = true := by kernel_rfl) (hj : j ∈ vs := by decide) (hv : own.map (·.2) = vs := by rfl) (hN : X.N.Nodup := by assumption) (hc : X.calm = true := by rfl)
    (hi : X.N[j]? = some x := by rfl) (hx : ∀ s H C cl fp, Loc (BX X scope s H C cl fp).env.scope x := by first | exact fun _ _ _ _ _ => Or.inl rfl | exact fun _ _ _ _ _ => Or.inr rfl) (hf : ∀ s H C cl fp, (BX X scope s H C cl fp).fn x = true ∨ (BX X scope s H C cl fp).env.scope.names.lookup x = some .local := by first | exact fun _ _ _ _ _ => .inr rfl | exact fun _ _ _ _ _ => .inl rfl)
    (hm : X.mg "range" = none := by assumption) (hg : Gl X "range" := by rfl) (hst : starEach [a] X.env = [(false, eval a X.env)] := by rfl)
    (hs : ∀ x, foldedSetIterable (.Call (.Name "range" rp) [a] [] ip) X.env x = pure x := by intro _; rfl) : dE X G0 (.ListComp elt [⟨.Name x tp, .Call (.Name "range" rp) [a] [] ip, [], 0⟩] scope cp) δ μ Φ := fun σ H B Q k => by
  refine wE_of (pe_lc hc hN (pi_range1 hg hm pa_w hst) (blkOk_by hb) (fun s H C cl fp => pg_name (i := j) hN hi (hx s H C cl fp) (hf s H C cl fp)) (fun _ _ _ _ _ => pts_nil) (fun s H C cl fp => (⟨fun pins s' σ' H' Q' I q => q s H C cl fp pins s' I⟩ : PE _ _ (wEs X scope elt))) hs) ?_
  rw [hv]
  refine h σ H B _ fun vs' H1 ds μ1 q m1 e1 r1 => ?_
  obtain ⟨n, rfl, b1, b2, Pv, p0, turn, fin⟩ := q
  obtain ⟨v, rfl, r2⟩ := rp1 r1
  cases rp_int r2
  have B1 := (B.step m1 e1).wipe vs
  refine ⟨n, rfl, b2, b1, fun p hp => ?_⟩
  have hi0 : Im (updM μ1 p (.lst [])) (upd H1 p (.lst [])) = Im μ1 H1 := im_new hp
  have B2 : Bd X.K (Im μ1 H1) (wipeD δ vs) (updM μ1 p (.lst [])) (L2.wipe σ vs) (upd H1 p (.lst [])) := B1.rebase.step (m1.upd hi0 .nil) (by rw [hi0]; exact Sub.refl _)
  refine lc_range (lo := 0) (n := n.toNat) (fun i H' => ∃ acc μ2, Pv i acc μ2 ∧ μ2 p = none ∧ Bd X.K (Im μ1 H1) (wipeD δ vs) (updM μ2 p (.lst acc)) (L2.wipe σ vs) H') ⟨[], μ1, p0, mu_free m1 hp, B2⟩ (fun i H' hl ⟨acc, μ2, hP, hp2, B'⟩ => ?_) (fun H' ⟨acc, μ2, hP, hp2, B'⟩ => ?_)
  · refine ⟨by rw [wipe_set hj, wipe_wipe], ?_⟩
    have e0 : (0 : Int) + (i : Int) = (i : Int) := Int.zero_add _
    rw [e0]
    exact lc_turn (B'.set (.int _)) B' (turn i acc μ2 p hl hP hp2)
  · exact lc_end (k.after e1) hp2 (fin acc μ2 p hP hp2) B'
end

/-! ### built-ins by name -/
section
variable {X : Cx} {G0 : Hp} {e : Expr} {es : List Expr} {δ : List (Option D)} {μ : Mu} {Φ : DK} {pos p : Pos}
theorem bb_abs : bootBuiltins "abs" = some (.builtin "abs") := by decide +kernel
theorem db_abs (ha : dA X G0 (e :: es) δ μ fun xs μ1 => dCall X (.builtin "abs") xs μ1 Φ) (hm : X.mg "abs" = none := by assumption) (hg : Gl X "abs" := by rfl) (he : starEach (e :: es) X.env = (false, eval e X.env) :: starEach es X.env := by rfl) (hpl : (backTo pos (starEach es X.env)).any (·.1) = false := by rfl) :
    dE X G0 (.Call (.Name "abs" p) (e :: es) [] pos) δ μ Φ := d_callB ha hm bb_abs hg (by decide) (by decide) he hpl
theorem bb_len : bootBuiltins "len" = some (.builtin "len") := by decide +kernel
theorem db_len (ha : dA X G0 (e :: es) δ μ fun xs μ1 => dCall X (.builtin "len") xs μ1 Φ) (hm : X.mg "len" = none := by assumption) (hg : Gl X "len" := by rfl) (he : starEach (e :: es) X.env = (false, eval e X.env) :: starEach es X.env := by rfl) (hpl : (backTo pos (starEach es X.env)).any (·.1) = false := by rfl) :
    dE X G0 (.Call (.Name "len" p) (e :: es) [] pos) δ μ Φ := d_callB ha hm bb_len hg (by decide) (by decide) he hpl
theorem bb_max : bootBuiltins "max" = some (.builtin "max") := by decide +kernel
theorem db_max (ha : dA X G0 (e :: es) δ μ fun xs μ1 => dCall X (.builtin "max") xs μ1 Φ) (hm : X.mg "max" = none := by assumption) (hg : Gl X "max" := by rfl) (he : starEach (e :: es) X.env = (false, eval e X.env) :: starEach es X.env := by rfl) (hpl : (backTo pos (starEach es X.env)).any (·.1) = false := by rfl) :
    dE X G0 (.Call (.Name "max" p) (e :: es) [] pos) δ μ Φ := d_callB ha hm bb_max hg (by decide) (by decide) he hpl
theorem bb_isinstance : bootBuiltins "isinstance" = some (.builtin "isinstance") := by decide +kernel
theorem db_isinstance (ha : dA X G0 (e :: es) δ μ fun xs μ1 => dCall X (.builtin "isinstance") xs μ1 Φ) (hm : X.mg "isinstance" = none := by assumption) (hg : Gl X "isinstance" := by rfl) (he : starEach (e :: es) X.env = (false, eval e X.env) :: starEach es X.env := by rfl) (hpl : (backTo pos (starEach es X.env)).any (·.1) = false := by rfl) :
    dE X G0 (.Call (.Name "isinstance" p) (e :: es) [] pos) δ μ Φ := d_callB ha hm bb_isinstance hg (by decide) (by decide) he hpl
theorem bb_int : bootBuiltins "int" = some (.type "int") := by decide +kernel
theorem db_int (ha : dA X G0 (e :: es) δ μ fun xs μ1 => dCall X (.type "int") xs μ1 Φ) (hm : X.mg "int" = none := by assumption) (hg : Gl X "int" := by rfl) (he : starEach (e :: es) X.env = (false, eval e X.env) :: starEach es X.env := by rfl) (hpl : (backTo pos (starEach es X.env)).any (·.1) = false := by rfl) :
    dE X G0 (.Call (.Name "int" p) (e :: es) [] pos) δ μ Φ := d_callTy ha hm bb_int hg (by decide) (by decide) he hpl
theorem dt_int (q : Φ (.ty "int") μ) (hm : X.mg "int" = none := by assumption) (hg : Gl X "int" := by rfl) : dE X G0 (.Name "int" pos) δ μ Φ := d_ty q hm bb_int hg (by decide) (by decide)
theorem bb_bool : bootBuiltins "bool" = some (.type "bool") := by decide +kernel
theorem db_bool (ha : dA X G0 (e :: es) δ μ fun xs μ1 => dCall X (.type "bool") xs μ1 Φ) (hm : X.mg "bool" = none := by assumption) (hg : Gl X "bool" := by rfl) (he : starEach (e :: es) X.env = (false, eval e X.env) :: starEach es X.env := by rfl) (hpl : (backTo pos (starEach es X.env)).any (·.1) = false := by rfl) :
    dE X G0 (.Call (.Name "bool" p) (e :: es) [] pos) δ μ Φ := d_callTy ha hm bb_bool hg (by decide) (by decide) he hpl
theorem dt_bool (q : Φ (.ty "bool") μ) (hm : X.mg "bool" = none := by assumption) (hg : Gl X "bool" := by rfl) : dE X G0 (.Name "bool" pos) δ μ Φ := d_ty q hm bb_bool hg (by decide) (by decide)
theorem bb_list : bootBuiltins "list" = some (.type "list") := by decide +kernel
theorem db_list (ha : dA X G0 (e :: es) δ μ fun xs μ1 => dCall X (.type "list") xs μ1 Φ) (hm : X.mg "list" = none := by assumption) (hg : Gl X "list" := by rfl) (he : starEach (e :: es) X.env = (false, eval e X.env) :: starEach es X.env := by rfl) (hpl : (backTo pos (starEach es X.env)).any (·.1) = false := by rfl) :
    dE X G0 (.Call (.Name "list" p) (e :: es) [] pos) δ μ Φ := d_callTy ha hm bb_list hg (by decide) (by decide) he hpl
theorem dt_list (q : Φ (.ty "list") μ) (hm : X.mg "list" = none := by assumption) (hg : Gl X "list" := by rfl) : dE X G0 (.Name "list" pos) δ μ Φ := d_ty q hm bb_list hg (by decide) (by decide)
theorem bb_tuple : bootBuiltins "tuple" = some (.type "tuple") := by decide +kernel
theorem db_tuple (ha : dA X G0 (e :: es) δ μ fun xs μ1 => dCall X (.type "tuple") xs μ1 Φ) (hm : X.mg "tuple" = none := by assumption) (hg : Gl X "tuple" := by rfl) (he : starEach (e :: es) X.env = (false, eval e X.env) :: starEach es X.env := by rfl) (hpl : (backTo pos (starEach es X.env)).any (·.1) = false := by rfl) :
    dE X G0 (.Call (.Name "tuple" p) (e :: es) [] pos) δ μ Φ := d_callTy ha hm bb_tuple hg (by decide) (by decide) he hpl
theorem dt_tuple (q : Φ (.ty "tuple") μ) (hm : X.mg "tuple" = none := by assumption) (hg : Gl X "tuple" := by rfl) : dE X G0 (.Name "tuple" pos) δ μ Φ := d_ty q hm bb_tuple hg (by decide) (by decide)
end
end DL

namespace DL
open PySem PySem.Spec PyProof.Rows L2
/-! ### errors of the text's own classes that carry one thing -/
/-- what __init__ does: the thing goes to the error's own dict -/
def spInit (K : PySem.W.Frag) (C : Addr) (f : Str) : Sp := fun vs H Q _ => ∃ (a : Addr) (v : V), vs = [.ref a, v] ∧ H a = some (exo a C none) ∧
  ∀ dx, H dx = none → dx ≠ a → Q .non (upd (upd H dx (exd dx [(f, v)])) a (exo a C (some dx)))
structure ExcT (P : Program) (w : World) (K : PySem.W.Frag) (mg : Str → Option Value) (base : Heap) (x f : Str) (C : Addr) : Prop where
  gC : mg x = some (.ref C)
  oex : OexC K C
  noF : PySem.W.findIn K (.ref C) f = some none
  xf : XfC K C
  exm : PySem.W.exmOne K (.ref C) (.ref C) = some true
  init : ∃ (fI : Addr) (fd : FuncData), PySem.W.findIn K (.ref C) "__init__" = some (some (.ref fI)) ∧ PySem.W.typeIn K (.ref fI) = some (.type "function") ∧
    FnOk P w K mg base (L2N.CX P w) 1 fI fd ["self", f] (spInit K C f) ∧ Binds K fd ["self", f] []
section
variable {X : Cx} {CX : CXT} {x : Str} {e : Expr} {es : List Expr} {ta : TA} {p pos : Pos} {C fI : Addr} {k : Nat} {fd : FuncData} {ps : List Str} {sp : Sp}
/-- the making of such an error, where nothing is handled: its context is None -/
theorem made_err (T : OexC X.K C) (jC : PySem.W.findIn X.K (.ref C) "__init__" = some (some (.ref fI))) (jI : PySem.W.typeIn X.K (.ref fI) = some (.type "function"))
    (F1 : FnOk X.prog X.w X.K X.mg X.base CX k fI fd ps sp) (hr : Room (k + 1) X.A) (hb : Binds X.K fd ps []) (hx : Passes CX X (fun _ _ _ => False)) (hg : Gl X x) (hm : X.mg x = some (.ref C)) (ha : PA X (e :: es) ta)
    (hdb : (x == ("__debug__" : Str)) = false) (he : starEach (e :: es) X.env = (false, eval e X.env) :: starEach es X.env) (hpl : (backTo pos (starEach es X.env)).any (·.1) = false) :
    L2N.PMk X (.Call (.Name x p) (e :: es) [] pos) (tMkO C sp [] ta) := by
  intro pins st0 σ0 Ha Q0 Ia hta
  obtain ⟨c1, c2, c3, c4, bmr, c6, c7, c8, c9, c10, c11, c12, c13, c14, c15, hcls, hbm⟩ := T.cls
  refine wpAny_Call_Name_kw (ld_glob Ia hg hm ?_ hdb)
  refine PySem.W.callWith_K (h₀ := X.base) Ia.ok.mod.kin T.kC (thn (ha.run pos pins st0 σ0 Ha _ Ia hta) fun us st1 ⟨vs, Hb, Ib, rvs, hz, qb⟩ => ⟨Ib.kIn, ?_⟩) he hpl
  obtain ⟨hp, gg, dw, tk, oo⟩ := st1
  have kept : ∀ b o, hp.get? b = some o → ((hp.push (PySem.W.kdv_tup us)).push (PySem.HandSPX.excO C hp.objs.size)).get? b = some o := fun b o z => Heap.get?_push_of_some _ (Heap.get?_push_of_some _ z)
  have here : ((hp.push (PySem.W.kdv_tup us)).push (PySem.HandSPX.excO C hp.objs.size)).get? (hp.objs.size + 1) = some (PySem.HandSPX.excO C hp.objs.size) := by heap_get
  have free1 : Hb (hp.objs.size + 1) = none := Ib.hok.fresh (Nat.le_succ _)
  have prom := qb (hp.objs.size + 1) free1
  rw [List.append_nil] at prom
  have Ic : Inv X pins σ0 (upd Hb (hp.objs.size + 1) (exo (hp.objs.size + 1) C none)) ⟨(hp.push (PySem.W.kdv_tup us)).push (PySem.HandSPX.excO C hp.objs.size), gg, dw, tk, oo⟩ :=
    Ib.laid (t' := tk) kept (Nat.le_succ _) (exo_ok here)
  have rel : Vals (V.ref (hp.objs.size + 1) :: vs) (Value.ref (hp.objs.size + 1) :: us) := .cons rfl rvs
  have hlen : (Value.ref (hp.objs.size + 1) :: us).length = ps.length := by
    have z := rel.length
    rw [F1.len _ _ _ _ prom] at z
    exact z.symm
  have hsz : us.length ≤ sizeLine := by
    rw [← Paired.length rvs, sizeLine_eq]
    omega
  have bnd := hb _ (Value.ref (hp.objs.size + 1) :: us) Ic.kIn (by rw [List.append_nil]; exact hlen)
  rw [List.append_nil] at bnd
  refine wpAny_call (PySem.HandSPX.call_own F.excBase_ValueError (fun Y => PySem.HandSPX.refsVE_contains Y bmr hbm) (Ib.kIn _ _ hcls) (PySem.W.looks_findIn Ib.kIn jC) (fun self => PySem.W.bind_fn Ib.kIn self jI) hsz
    (codeAny_mono (F1.run _ X.stack _ _ ⟨Value.ref (hp.objs.size + 1) :: us, []⟩ _ _ _ (fun _ _ _ => False) (hr.make C us []) (Ic.env0.make C us []) bnd rel prom) fun r st2 back => ?_))
  cases r with
  | error er => exact hx pins σ0 _ _ er st2 Ic back
  | ok fl =>
    cases fl with
    | ret u =>
      obtain ⟨v, Hc, os2, bare2, un2, hok2, rv, ev, d, fs, ea, ed, hd1, q2⟩ := back
      subst ev
      obtain ⟨h2, g2, d2, t2, os'⟩ := st2
      obtain ⟨t0, G, J, kG, ge, hoe, na⟩ := mk_end0 (d2 := d2) (t2 := t2) Ib (Nat.le_succ _) kept un2 hok2 os2 bare2 ea ed hd1
      exact ⟨rv, hp.objs.size + 1, _, _, ⟨G, g2, d2, t2, os'⟩, _, .ref C, some d, rfl, J, kG, ge, hoe, ⟨rfl, rfl, fun w hw => by cases hw; rfl⟩, rfl, rfl, na, rfl, bare2, raises_own T.exC T.tyC, q2⟩
    | next => exact False.elim back
    | brk => exact False.elim back
    | cont => exact False.elim back
end
section
variable {X : Cx} {G0 : Hp} {e : Expr} {δ : List (Option D)} {μ : Mu} {pos p pos2 : Pos} {E : DEnds} {Ψ : List (Option D) → DX} {x f : Str} {C : Addr}
/-- raise X(e) -/
theorem s_raise (T : ExcT X.prog X.w X.K X.mg X.base x f C) (tk : dTk X G0 Ψ) (h : dE X G0 e δ μ fun d μ1 => Ψ δ C [(f, d)] μ1) {k : Nat} (hr : Room k X.A := by assumption) (hk : 2 ≤ k := by decide) (hc : X.calm = true := by rfl) (hg : Gl X x := by rfl) (hdb : (x == ("__debug__" : Str)) = false := by decide)
    (he : starEach (e :: []) X.env = (false, eval e X.env) :: starEach [] X.env := by rfl) (hpl : (backTo pos (starEach [] X.env)).any (·.1) = false := by rfl) : dS X G0 (.Raise (some (.Call (.Name x p) [e] [] pos)) none pos2) δ μ E := fun σ H B => by
  obtain ⟨fI, fd, i1, i2, i3, i4⟩ := T.init
  obtain ⟨W, tw, tq⟩ := tk
  refine wS_of (L2N.ps_raise hc tw (made_err T.oex i1 i2 i3 (hr.mono hk) i4 passN hg T.gC (pa_cons pe_w pa_nil he) hdb he hpl)) ?_
  refine h.go B fun v H1 d μ1 q m1 e1 r1 => ?_
  refine ⟨by show 1 ≤ 1000; decide, fun a ha => ⟨a, v, rfl, upd_same, fun dx hdx hne => ⟨rfl, dx, [(f, v)], upd_same, ?_, ?_, ?_⟩⟩⟩
  · rw [upd_ne hne, upd_same]
  · rw [upd_ne hne] at hdx
    exact hdx
  · have hdx1 : H1 dx = none := by
      rw [upd_ne hne] at hdx
      exact hdx
    have eH : upd (del (upd (upd (upd H1 a (exo a C none)) dx (exd dx [(f, v)])) a (exo a C (some dx))) a) dx (.xd [(f, v)]) = upd H1 dx (.xd [(f, v)]) := by
      funext b
      by_cases b1 : b = dx
      · rw [b1, upd_same, upd_same]
      · rw [upd_ne b1, upd_ne b1]
        by_cases b2 : b = a
        · rw [b2, del_same, ha]
        · rw [del_ne b2, upd_ne b2, upd_ne b1, upd_ne b2]
    rw [eH]
    have B1 := (B.step m1 e1).ext (sub_new (o := .xd [(f, v)]) hdx1)
    refine tq.1 C dx δ σ _ [(f, d)] μ1 q B1 fun b => .exc (fs := [(f, v)]) ?_ (.cons (r1.mono (mu_sub hdx1)) .nil)
    unfold Im
    rw [mu_free m1 hdx1, upd_same]
    rfl
/-! ### try .. except X as n -/
/-- e.f, e the error that the suite holds -/
theorem d_errf {a d : Addr} {oe : Obj} {pn : List (Addr × Obj)} {gs : List (Str × D)} {v : D} {Φ : DK} (hz : L2N.Zn (.ref C) (some d) oe) (hf : ∃ vs, oe.data = .fields vs) (xf : XfC X.K C) (no : PySem.W.findIn X.K (.ref C) f = some none)
    (he : dE (X.suite a ((a, oe) :: pn)) G0 e δ μ fun x μ1 => x = .exc a C d gs ∧ gs.lookup f = some v ∧ Φ v μ1) (hb : attributeBase e f X.env (eval e X.env) = eval e X.env := by rfl) : dE (X.suite a ((a, oe) :: pn)) G0 (.Attribute e f pos) δ μ Φ := fun σ H B Q k => by
  refine wE_of (pe_xf (cls := .ref C) (d := some d) xf no hz.zc hf pe_w hb) ?_
  refine he σ H B _ fun u H1 x μ1 q m1 e1 r1 => ?_
  obtain ⟨ex, hl, q⟩ := q
  subst ex
  cases r1 with
  | exc h r =>
    obtain ⟨w, hw, rw'⟩ := r.lookup hl
    exact ⟨rfl, rfl, d, _, w, rfl, im_all _ _ h, hw, (k.after e1).val m1 q rw'⟩
theorem hot_suite {a : Addr} {cls : Value} {d : Option Addr} {oe : Obj} {pn : List (Addr × Obj)} (hz : L2N.Zn cls d oe) (hf : ∃ vs, oe.data = .fields vs) : L2H.HotC (X.suite a ((a, oe) :: pn)) := by
  obtain ⟨vs, hd⟩ := hf
  exact ⟨(a, oe), ⟨rfl, vs, hd, hz.2.2 vs hd⟩, List.mem_cons_self⟩
/-- what the body's errors come to -/
def TryX (X : Cx) (G0 : Hp) (C : Addr) (i : Nat) (ss : List Stmt) (E : DEnds) (Ψ : List (Option D) → DX) : List (Option D) → DX := fun δ' C' gs μ' => ∃ b, PySem.W.exmOne X.K (.ref C') (.ref C) = some b ∧
  (b = true → ∀ (a d : Addr) (oe : Obj) (pn : List (Addr × Obj)), L2N.Zn (.ref C') (some d) oe → (∃ vs, oe.data = .fields vs) →
    dSs (X.suite a ((a, oe) :: pn)) G0 ss (δ'.set i (some (.exc a C' d gs))) μ' { nx := fun δ μ => E.nx (δ.set i none) μ, rt := E.rt, bk := fun δ μ => E.bk (δ.set i none) μ, ct := fun δ μ => E.ct (δ.set i none) μ }) ∧ (b = false → Ψ δ' C' gs μ') ∧
  (b = true → gs = bareG → ∀ (a : Addr) (oe : Obj) (pn : List (Addr × Obj)), L2N.Zn (.ref C') none oe → (∃ vs, oe.data = .fields vs) →
    dSs (X.suite a ((a, oe) :: pn)) G0 ss (δ'.set i (some (.ref a))) μ' { nx := fun δ μ => E.nx (δ.set i none) μ, rt := E.rt, bk := fun δ μ => E.bk (δ.set i none) μ, ct := fun δ μ => E.ct (δ.set i none) μ })
theorem Bd.none {K : PySem.W.Frag} {H : Hp} {σ : L2.St} (B : Bd K G0 δ μ σ H) (i : Nat) : Bd K G0 (δ.set i Option.none) μ (σ.set i Option.none) H := by
  refine ⟨by rw [List.length_set, List.length_set, B.len], fun j d h => ?_, B.mu, B.base⟩
  by_cases q : i = j
  · subst q
    rw [List.getElem?_set, if_pos rfl] at h
    split at h
    · cases h
    · cases h
  · rw [List.getElem?_set_ne q] at h
    obtain ⟨v, h1, h2⟩ := B.sl j d h
    exact ⟨v, by rw [List.getElem?_set_ne q]; exact h1, h2⟩
theorem s_try (i : Nat) {n : Str} {body : List Stmt} {b0 : Stmt} {suite : List Stmt} {np pos' : Pos} (hm : X.mg x = some (.ref C)) (tk : dTk X G0 Ψ)
    (hb : ∀ (pn : List (Addr × Obj)) (xe : Value → Shared → Prop), PassesOwn (model X.prog X.w) X.A X.env xe → dTk (X.tr pn xe) G0 (TryX X G0 C i (b0 :: suite) E Ψ) → dSs (X.tr pn xe) G0 body δ μ E)
    (hN : X.N.Nodup := by assumption) (hi : X.N[i]? = some n := by rfl) (hln : X.env.kindOf n = some .local := by rfl) (hg : Gl X x := by rfl) (hdb : (x == ("__debug__" : Str)) = false := by decide)
    (hs : X.stack = X.env :: X.outer := by rfl) (hf : X.env.frame = some X.env.locals := by rfl) : dS X G0 (.Try body [.ExceptHandler (some (.Name x np)) (some n) (b0 :: suite) pos'] [] [] pos) δ μ E := fun σ H B => by
  obtain ⟨Wo, tw, tq⟩ := tk
  refine wS_of (L2N.ps_try_as (i := i) (tb := fun W D σ H => ∀ pn xe, L2N.Takes (X.tr pn xe) W → PassesOwn (model X.prog X.w) X.A X.env xe → wSs (X.tr pn xe) body D σ H)
    (ts := fun a cls d D σ H => ∀ oe pn, L2N.Zn cls d oe → (∃ vs, oe.data = .fields vs) → wSs (X.suite a ((a, oe) :: pn)) (b0 :: suite) D σ H) hs hf hN hi hln ⟨hg, hdb, .inl hm⟩ tw
    (fun W pn xe tk' hp => ⟨fun pins s σ' H' D I q => q pn xe tk' hp pins s I⟩) (fun a oe cls d pn hz hv => ⟨fun pins s σ' H' D I q => q oe pn hz hv pins s I⟩)) ?_
  intro pn xe tk' hp
  refine hb pn xe hp ⟨_, tk', fun C' d δ' σ' H2 gs μ2 q B2 er => ?_, fun C' δ' σ' H2 μ2 q B2 => ?_⟩ σ H B
  · obtain ⟨b, hx, h1, h2, _⟩ := q
    refine ⟨b, hx, fun eb a ha oe pn' hz hv => ?_, fun eb => tq.1 C' d δ' σ' H2 gs μ2 (h2 eb) B2 er⟩
    refine wSs_mono ?_ (h1 eb a d oe pn' hz hv _ H2 (B2.set (er a)))
    exact ⟨fun σ3 H3 ⟨δ3, μ3, q3, B3⟩ => ⟨_, μ3, q3, B3.none i⟩, fun _ _ q => q, fun σ3 H3 ⟨δ3, μ3, q3, B3⟩ => ⟨_, μ3, q3, B3.none i⟩, fun σ3 H3 ⟨δ3, μ3, q3, B3⟩ => ⟨_, μ3, q3, B3.none i⟩⟩
  · obtain ⟨b, hx, _, h2, h3⟩ := q
    refine ⟨b, hx, fun eb a ha oe pn' hz hv => ?_, fun eb => tq.2 C' δ' σ' H2 μ2 (h2 eb) B2⟩
    refine wSs_mono ?_ (h3 eb rfl a oe pn' hz hv _ H2 (B2.set (.ref a)))
    exact ⟨fun σ3 H3 ⟨δ3, μ3, q3, B3⟩ => ⟨_, μ3, q3, B3.none i⟩, fun _ _ q => q, fun σ3 H3 ⟨δ3, μ3, q3, B3⟩ => ⟨_, μ3, q3, B3.none i⟩, fun σ3 H3 ⟨δ3, μ3, q3, B3⟩ => ⟨_, μ3, q3, B3.none i⟩⟩
/-! ### errors that carry nothing -/
structure BareT (K : PySem.W.Frag) (mg : Str → Option Value) (x : Str) (C : Addr) : Prop where
  gC : mg x = some (.ref C)
  exB : ∃ bmB B newId initId, PySem.ExcBaseFacts B newId initId bmB ∧ PySem.W.excIn K C bmB newId = true
  kC : PySem.W.keepIn K (.ref C) = true
  exC : PySem.W.subIn K (.ref C) (.type "BaseException") = some true
  tyC : PySem.W.typeIn K (.ref C) = some (.type "type")
  exm : PySem.W.exmOne K (.ref C) (.ref C) = some true
theorem bare_err (T : BareT X.K X.mg x C) (hg : Gl X x) (hdb : (x == ("__debug__" : Str)) = false) : L2N.PMk X (.Call (.Name x p) [] [] pos) (fun _ H Q => Q (.ref C) none H) := by
  obtain ⟨bmB, Bn, newId, initId, F, qx⟩ := T.exB
  intro pins s σ H Q I h
  refine wpAny_Call_Name_kw (ld_glob I hg T.gC ?_ hdb)
  refine PySem.W.callWith_K0 I.kIn T.kC ?_
  show wpAny _ _ (call (.ref C) []) _ _ _
  obtain ⟨bm, N, nm, qn, bs, hdct, sn, sub, ab, col, dd, k0, k1, k2, k3, k5, mN, hC, hN, hni, TT⟩ := exc_obj I.kIn qx
  refine wpAny_call_exc_subT F TT hC hN hni (fun h' e hm => ?_) (by show 0 ≤ sizeLine; rw [sizeLine_eq]; omega)
  exact L2N.mk_of I hm (raises_own T.exC T.tyC) h (I.hok.gone hm.new)
/-- raise X() -/
theorem s_raise0 (T : BareT X.K X.mg x C) (tk : dTk X G0 Ψ) (h : Ψ δ C bareG μ) (hc : X.calm = true := by rfl) (hg : Gl X x := by rfl) (hdb : (x == ("__debug__" : Str)) = false := by decide) : dS X G0 (.Raise (some (.Call (.Name x p) [] [] pos)) none pos2) δ μ E := fun σ H B => by
  obtain ⟨W, tw, tq⟩ := tk
  refine wS_of (L2N.ps_raise hc tw (bare_err T hg hdb)) ?_
  exact tq.2 C δ σ H μ h B
/-- try .. except X: .. (no name) -/
def TryN (X : Cx) (G0 : Hp) (C : Addr) (ss : List Stmt) (E : DEnds) (Ψ : List (Option D) → DX) : List (Option D) → DX := fun δ' C' gs μ' => ∃ b, PySem.W.exmOne X.K (.ref C') (.ref C) = some b ∧
  (b = true → ∀ (a : Addr) (d : Option Addr) (oe : Obj) (pn : List (Addr × Obj)), L2N.Zn (.ref C') d oe → (∃ vs, oe.data = .fields vs) → dSs (X.suite a ((a, oe) :: pn)) G0 ss δ' μ' E) ∧ (b = false → Ψ δ' C' gs μ')
theorem s_tryN {body : List Stmt} {b0 : Stmt} {suite : List Stmt} {np pos' : Pos} (hm : X.mg x = some (.ref C)) (tk : dTk X G0 Ψ)
    (hb : ∀ (pn : List (Addr × Obj)) (xe : Value → Shared → Prop), PassesOwn (model X.prog X.w) X.A X.env xe → dTk (X.tr pn xe) G0 (TryN X G0 C (b0 :: suite) E Ψ) → dSs (X.tr pn xe) G0 body δ μ E)
    (hg : Gl X x := by rfl) (hdb : (x == ("__debug__" : Str)) = false := by decide)
    (hs : X.stack = X.env :: X.outer := by rfl) (hf : X.env.frame = some X.env.locals := by rfl) : dS X G0 (.Try body [.ExceptHandler (some (.Name x np)) none (b0 :: suite) pos'] [] [] pos) δ μ E := fun σ H B => by
  obtain ⟨Wo, tw, tq⟩ := tk
  refine wS_of (L2N.ps_try_many (tb := fun W D σ H => ∀ pn xe, L2N.Takes (X.tr pn xe) W → PassesOwn (model X.prog X.w) X.A X.env xe → wSs (X.tr pn xe) body D σ H) hs hf tw
    (fun W pn xe tk' hp => ⟨fun pins s σ' H' D I q => q pn xe tk' hp pins s I⟩)
    (.cons (ts := fun a cls d D σ H => ∀ oe pn, L2N.Zn cls d oe → (∃ vs, oe.data = .fields vs) → wSs (X.suite a ((a, oe) :: pn)) (b0 :: suite) D σ H) ⟨hg, hdb, .inl hm⟩ (fun a oe cls d pn hz hv => ⟨fun pins s σ' H' D I q => q oe pn hz hv pins s I⟩) .nil)) ?_
  intro pn xe tk' hp
  refine hb pn xe hp ⟨_, tk', fun C' d δ' σ' H2 gs μ2 q B2 er => ?_, fun C' δ' σ' H2 μ2 q B2 => ?_⟩ σ H B
  · obtain ⟨b, hx, h1, h2⟩ := q
    exact ⟨b, hx, fun eb a ha oe pn' hz hv => h1 eb a _ oe pn' hz hv σ' H2 B2, fun eb => tq.1 C' d δ' σ' H2 gs μ2 (h2 eb) B2 er⟩
  · obtain ⟨b, hx, h1, h2⟩ := q
    exact ⟨b, hx, fun eb a ha oe pn' hz hv => h1 eb a _ oe pn' hz hv σ' H2 B2, fun eb => tq.2 C' δ' σ' H2 μ2 (h2 eb) B2⟩
end
/-! ### a def called while an error is handled -/
structure CalH (P : Program) (w : World) (K : PySem.W.Frag) (mg : Str → Option Value) (base : Heap) (k : Nat) (x : Str) (sp : DSp) : Prop where
  ex : ∃ (f : Addr) (fd : FuncData) (ps : List Str), L2H.FnH P w K mg base (L2N.CX P w) k f fd ps (liftSp K sp) ∧ mg x = some (.ref f) ∧ PySem.W.keepIn K (.ref f) = true ∧ Binds K fd ps []
section
variable {P : Program} {w : World} {K : PySem.W.Frag} {mg : Str → Option Value} {base : Heap}
abbrev cxDH (P : Program) (w : World) (K : PySem.W.Frag) (mg : Str → Option Value) (base : Heap) (N : List Str) (qual : Str) (st : Stmt) (f : Addr) (cd : Value) (A : Around) (outer : List Env) (s : Shared) (H : Hp) (E : XK) (p : Addr × Obj) : Cx :=
  L2H.cxH (L2N.CX P w) P w K mg base N qual (defScope st) f cd A outer s H E p
theorem DefT.calH {x : Str} {st : Stmt} {N ps : List Str} {k : Nat} {sp : DSp} (D : DefT K mg x st ps) (S : FnScope N ps (defScope st)) (len : ∀ ds μ Φ Ψ, sp ds μ Φ Ψ → ds.length = ps.length)
    (h : ∀ ds μ Φ Ψ, sp ds μ Φ Ψ → ∀ (f : Addr) (cd : Value) (A : Around) (outer : List Env) (s : Shared) (H : Hp) (E : XK) (p : Addr × Obj) (G0 : Hp), L2H.RoomH k (cxDH P w K mg base N x st f cd A outer s H E p).A → dSs (cxDH P w K mg base N x st f cd A outer s H E p) G0 (defBody st) (dst N ds) μ { nx := fun _ μ' => Φ .non μ', rt := Φ }) : CalH P w K mg base (k + 1) x sp := by
  obtain ⟨f, fd, F, hm, hb⟩ := D.ex
  obtain ⟨oc, od, kV, doc, pm, an, cdv, ct, osl, rfl, lk, hcd⟩ := F.ex
  refine ⟨f, _, ps, L2H.fn_ofH lk hcd S (fun vs H Q E hs => ?_) (fun A outer s H vs Q E p _ hr hs => ?_), hm, F.kp, hb⟩
  · obtain ⟨ds, μ, Φ, Ψ, r, _, q, _⟩ := hs
    rw [r.length]
    exact len ds μ Φ Ψ q
  · obtain ⟨ds, μ, Φ, Ψ, r, m, q, kk, kx⟩ := hs
    refine ⟨_, pss_w, ?_⟩
    have B := bd_start (N := N) r m
    refine wSs_mono (D := dEn K (Im μ H) { nx := fun _ μ' => Φ .non μ', rt := Φ }) ⟨fun σ' H' ⟨δ', μ', q', B'⟩ => ?_, fun v H' ⟨d, μ', q', m', e', r'⟩ => kk v H' d μ' q' m' e' r', fun _ _ ⟨_, _, q', _⟩ => q'.elim, fun _ _ ⟨_, _, q', _⟩ => q'.elim⟩
      (h ds μ Φ Ψ q f cdv A outer s H E p (Im μ H) hr _ H B)
    exact kk .non H' .non μ' q' B'.mu B'.base .non
end
section
variable {X : Cx} {G0 : Hp} {e : Expr} {es : List Expr} {δ : List (Option D)} {μ : Mu} {pos : Pos} {Φ : DK}
theorem d_callH {j k : Nat} {x : Str} {sp : DSp} {p : Pos} (C : CalH X.prog X.w X.K X.mg X.base j x sp) (hot : L2H.HotC X) (ha : dA X G0 (e :: es) δ μ fun xs μ1 => sp xs μ1 Φ NoX) (hr : L2H.RoomH k X.A := by assumption) (hj : j ≤ k := by decide) (hg : Gl X x := by rfl) (hdb : (x == ("__debug__" : Str)) = false := by decide)
    (he : starEach (e :: es) X.env = (false, eval e X.env) :: starEach es X.env := by rfl) (hpl : (backTo pos (starEach es X.env)).any (·.1) = false := by rfl) : dE X G0 (.Call (.Name x p) (e :: es) [] pos) δ μ Φ := fun σ H B Q kk => by
  obtain ⟨f, fd, ps, F, hm, hk, hb⟩ := C.ex
  refine wE_of (L2H.pe_callH (E := fun _ => E0) F (hr.mono hj) hot hg hm hk hb (fun σ pins H s e s' _ c => by obtain ⟨_, _, _, _, _, _, _, _, _, _, _, _, z⟩ := c; exact z.elim) pa_w hdb he hpl) ?_
  refine ha σ H B _ fun vs H1 xs μ1 q m1 e1 r1 => ?_
  exact ⟨xs, μ1, Φ, NoX, r1, m1, q, kk.after e1, noX⟩
end
end DL

namespace DL
open PySem PySem.Spec PyProof.Rows L2
/-! ### defaults, keywords -/
/-- a def with defaults: the call without the last ones (values ds behind what is written) -/
structure CalD (P : Program) (w : World) (K : PySem.W.Frag) (mg : Str → Option Value) (base : Heap) (k : Nat) (x : Str) (dds : List D) (sp : DSp) : Prop where
  ex : ∃ (f : Addr) (fd : FuncData) (ps : List Str) (dvs : List V) (ds : List Value), FnOk P w K mg base (L2N.CX P w) k f fd ps (liftSp K sp) ∧ mg x = some (.ref f) ∧ PySem.W.keepIn K (.ref f) = true ∧ Binds K fd ps ds ∧ Vals dvs ds ∧ ∀ G, RpAll K G dvs dds
/-- a call by keywords alone, ks in their order; gD puts the values in the parameters' order -/
structure CalK (P : Program) (w : World) (K : PySem.W.Frag) (mg : Str → Option Value) (base : Heap) (k : Nat) (x : Str) (ks : List Str) (gD : List D → List D) (sp : DSp) : Prop where
  ex : ∃ (f : Addr) (fd : FuncData) (ps : List Str) (g : List Value → List Value → List Value) (gV : List V → List V → List V), FnOk P w K mg base (L2N.CX P w) k f fd ps (liftSp K sp) ∧ mg x = some (.ref f) ∧ PySem.W.keepIn K (.ref f) = true ∧ KBn K fd ps 0 ks g gV ∧
    ∀ G vs ds, RpAll K G vs ds → ds.length = ks.length → RpAll K G (gV [] vs) (gD ds)
section
variable {X : Cx} {G0 : Hp} {e : Expr} {es : List Expr} {kws : List Keyword} {δ : List (Option D)} {μ : Mu} {pos p : Pos} {Φ : DK} {x : Str} {sp : DSp} {j k : Nat}
theorem d_callD {dds : List D} (C : CalD X.prog X.w X.K X.mg X.base j x dds sp) (ha : dA X G0 (e :: es) δ μ fun xs μ1 => sp (xs ++ dds) μ1 Φ NoX) (hr : Room k X.A := by assumption) (hj : j ≤ k := by decide) (hg : Gl X x := by rfl) (hdb : (x == ("__debug__" : Str)) = false := by decide)
    (he : starEach (e :: es) X.env = (false, eval e X.env) :: starEach es X.env := by rfl) (hpl : (backTo pos (starEach es X.env)).any (·.1) = false := by rfl) : dE X G0 (.Call (.Name x p) (e :: es) [] pos) δ μ Φ := fun σ H B Q kk => by
  obtain ⟨f, fd, ps, dvs, ds, F, hm, hk, hb, hv, hd⟩ := C.ex
  refine wE_of (pe_call F (hr.mono hj) hg hm hk hb hv passN pa_w hdb he hpl) ?_
  refine ha σ H B _ fun vs H1 xs μ1 q m1 e1 r1 => ?_
  exact ⟨xs ++ dds, μ1, Φ, NoX, r1.append (hd _), m1, q, kk.after e1, noX⟩
/-- f(k = v, ..) -/
theorem d_callK {ks : List Str} {gD : List D → List D} (C : CalK X.prog X.w X.K X.mg X.base j x ks gD sp) (ha : dKw X G0 kws δ μ fun xs μ1 => xs.length = ks.length ∧ sp (gD xs) μ1 Φ NoX) (hr : Room k X.A := by assumption) (hj : j ≤ k := by decide) (hg : Gl X x := by rfl) (hdb : (x == ("__debug__" : Str)) = false := by decide)
    (hall : (backToKw pos (keywordEach kws X.env)).all (·.1.isSome) = true := by rfl) (hks : (backToKw pos (keywordEach kws X.env)).filterMap (·.1) = ks := by rfl)
    (hpl : ((backTo pos (starEach [] X.env)).any (·.1) || (backToKw pos (keywordEach kws X.env)).any (·.1.isNone)) = false := by rfl) : dE X G0 (.Call (.Name x p) [] kws pos) δ μ Φ := fun σ H B Q kk => by
  obtain ⟨f, fd, ps, g, gV, F, hm, hk, hb, hv⟩ := C.ex
  intro pins s I
  refine wpAny_Call_Name_kw (ld_glob I hg hm ?_ hdb)
  refine PySem.W.callWith_KW0 (h₀ := X.base) I.ok.mod.kin hk hall ?_ hpl
  refine thn (pk_w.run pos pins s σ H _ I (ha σ H B (fun vs H1 => vs.length = ks.length ∧ liftSp X.K sp (gV [] vs) H1 Q E0) fun vs H1 xs μ1 ⟨hl, q⟩ m1 e1 r1 => ?_)) fun ws s2 ⟨zs, H2, I2, rz, hl, q2⟩ => ⟨I2.kIn, ?_⟩
  · exact ⟨by rw [r1.length]; exact hl, gD xs, μ1, Φ, NoX, hv _ vs xs r1 hl, m1, q, kk.after e1, noX⟩
  · rw [hks]
    exact run_fnN (us := []) (vs := []) F (hr.mono hj) hb passN I2 .nil rz rfl hl q2
end
/-- a def of the text with one default -/
structure DefD (K : PySem.W.Frag) (mg : Str → Option Value) (x : Str) (st : Stmt) (ps : List Str) (dv : V) : Prop where
  ex : ∃ (f : Addr) (fd : FuncData), FunD K x x (defArgs st) (defBody st) (defScope st) [dv] [] f fd ∧ mg x = some (.ref f)
section
variable {P : Program} {w : World} {K : PySem.W.Frag} {mg : Str → Option Value} {base : Heap}
theorem cal_fnD {x : Str} {st : Stmt} {f : Addr} {fd : FuncData} {N ps : List Str} {k : Nat} {sp : DSp} {dvs : List V} (F : FunD K x x (defArgs st) (defBody st) (defScope st) dvs [] f fd) (S : FnScope N ps (defScope st)) (len : ∀ ds μ Φ Ψ, sp ds μ Φ Ψ → ds.length = ps.length)
    (h : ∀ ds μ Φ Ψ, sp ds μ Φ Ψ → Body P w K mg base k N x st ds μ Φ Ψ) : FnOk P w K mg base (L2N.CX P w) (k + 1) f fd ps (liftSp K sp) := by
  obtain ⟨oc, od, dV, kV, doc, pm, an, cdv, ct, osl, rfl, lk, hcd, _, _⟩ := F.ex
  exact cal_fn lk hcd S len h
end
end DL
namespace DL
open PySem PySem.Spec PyProof.Rows L2
section
variable {X : Cx} {G0 : Hp} {st : Stmt} {rest : List Stmt} {δ : List (Option D)} {μ : Mu} {E : DEnds}
/-- a statement, and what holds behind it on every way -/
theorem s_cut (M : List (Option D) → Mu → Prop) (h1 : dS X G0 st δ μ { E with nx := M }) (h2 : ∀ δ' μ', M δ' μ' → dSs X G0 rest δ' μ' E) : dSs X G0 (st :: rest) δ μ E := s_cons fun σ H B => by
  refine wS_mono (D := dEn X.K G0 { E with nx := M }) ⟨fun σ' H' q => ?_, fun _ _ q => q, fun _ _ q => q, fun _ _ q => q⟩ (h1 σ H B)
  obtain ⟨δ', μ', q, B'⟩ := q
  exact ⟨δ', μ', h2 δ' μ' q, B'⟩
end
/-! ### numbers -/
theorem na_lt {i : Int} {n : Nat} (h0 : -(2 : Int) ^ n < i) (h : i < (2 : Int) ^ n) : i.natAbs < 2 ^ n := by
  have e : ((2 ^ n : Nat) : Int) = (2 : Int) ^ n := by simp
  omega
theorem na_up {i : Int} {n m : Nat} (h : i.natAbs < 2 ^ n) (hm : n ≤ m) : i.natAbs < 2 ^ m := Nat.lt_of_lt_of_le h (Nat.pow_le_pow_right (by decide) hm)
theorem na_mul {i j : Int} {a b : Nat} (ha : i.natAbs < 2 ^ a) (hb : j.natAbs < 2 ^ b) : (i * j).natAbs < 2 ^ (a + b) := wide_lt ha hb
theorem na_add {i j : Int} {a : Nat} (ha : i.natAbs < 2 ^ a) (hb : j.natAbs < 2 ^ a) : (i + j).natAbs < 2 ^ (a + 1) := by
  rw [Nat.pow_succ]
  omega
theorem na_sub {i j : Int} {a : Nat} (ha : i.natAbs < 2 ^ a) (hb : j.natAbs < 2 ^ a) : (i - j).natAbs < 2 ^ (a + 1) := by
  rw [Nat.pow_succ]
  omega
theorem mulOk {i j : Int} {a b : Nat} (ha : i.natAbs < 2 ^ a) (hb : j.natAbs < 2 ^ b) (h : a + b ≤ 900000) : CMulW i j :=
  wide_mul (na_up ha (Nat.le_add_right a 1)) (na_up hb (Nat.le_add_right b 1)) (by omega) (by omega) (by omega)
theorem divOk {i j : Int} {a : Nat} (h : j ≠ 0) (ha : j.natAbs < 2 ^ a) (hl : a ≤ 8000) : CDivX i j :=
  ⟨h, Nat.lt_of_lt_of_le (PySem.Flt.log2_lt_of (by omega) (na_up ha (Nat.le_add_right a 1))) (by omega)⟩
theorem fmod_range {i j : Int} (h : 0 < j) : 0 ≤ i.fmod j ∧ i.fmod j < j := ⟨Int.fmod_nonneg_of_pos i h, Int.fmod_lt_of_pos i h⟩
/-! ### the draws -/
/-- what a pool holds: at most n draws so far -/
def Pool (n : Nat) (c : D) : Prop := ∃ (i cur : Int) (ns : List Int), c = .lst [.int i, .int cur, .lst (ns.map .int)] ∧ 0 ≤ i ∧ i ≤ n ∧ 0 ≤ cur ∧ ns.length ≤ 63
def spPool : DSp := fun ds μ Φ _ => ∃ ns : List Int, ds = [.scr ns] ∧ ns.length ≤ 63 ∧ ∀ p c, μ p = none → Pool 0 c → Φ (.ref p) (updM μ p c)
def spTake : DSp := fun ds μ Φ _ => ∃ (p : Addr) (m : Int) (c : D) (n : Nat), ds = [.ref p, .int m] ∧ 0 < m ∧ m < 2 ^ 200 ∧ μ p = some c ∧ Pool n c ∧ n < 2 ^ 30 ∧
  ∀ d c', 0 ≤ d → d < m → Pool (n + 1) c' → Φ (.int d) (updM μ p c')
end DL

namespace DL
open PySem PySem.Spec PyProof.Rows L2
section
variable {X : Cx} {G0 : Hp} {e a b c it elt : Expr} {es rest : List Expr} {sts : List Stmt} {δ : List (Option D)} {μ : Mu} {Φ : DK} {pos : Pos} {K : PySem.W.Frag} {H : Hp} {Q : VK} {E : DEnds}
/-- [e for x, y in a list] -/
theorem d_lcL2 {x y : Str} {scope : Scope} {tp tp2 tq cp : Pos} {kk : Nat} {own : List (Str × Nat)} {vs : List Nat} (j j2 : Nat)
    (h : dE X G0 it δ μ fun d μ1 => ∃ ds, d = .lst ds ∧ ∃ Pv : Nat → List D → Mu → Prop, Pv 0 [] μ1 ∧ (∀ (i : Nat) d acc μ2 p, ds[i]? = some d → Pv i acc μ2 → μ2 p = none → ∃ d1 d2, d = .tup [d1, d2] ∧ LcTurn X scope elt p acc (((wipeD δ vs).set j (some d1)).set j2 (some d2)) μ2 (Pv (i + 1))) ∧ ∀ acc μ2 p, Pv ds.length acc μ2 → μ2 p = none → Φ (.ref p) (updM μ2 p (.lst acc)))
    (hb : blkC X.N X.env.scope scope own = true := by kernel_rfl) (hj : j ∈ vs := by decide) (hj2 : j2 ∈ vs := by decide) (hv : own.map (·.2) = vs := by rfl) (hN : X.N.Nodup := by assumption) (hc : X.calm = true := by rfl)
    (hi : X.N[j]? = some x := by rfl) (hi2 : X.N[j2]? = some y := by rfl) (hx : ∀ s H C cl fp, Loc (BX X scope s H C cl fp).env.scope x := by first | exact fun _ _ _ _ _ => Or.inl rfl | exact fun _ _ _ _ _ => Or.inr rfl) (hf : ∀ s H C cl fp, (BX X scope s H C cl fp).fn x = true ∨ (BX X scope s H C cl fp).env.scope.names.lookup x = some .local := by first | exact fun _ _ _ _ _ => .inr rfl | exact fun _ _ _ _ _ => .inl rfl)
    (hx2 : ∀ s H C cl fp, Loc (BX X scope s H C cl fp).env.scope y := by first | exact fun _ _ _ _ _ => Or.inl rfl | exact fun _ _ _ _ _ => Or.inr rfl) (hf2 : ∀ s H C cl fp, (BX X scope s H C cl fp).fn y = true ∨ (BX X scope s H C cl fp).env.scope.names.lookup y = some .local := by first | exact fun _ _ _ _ _ => .inr rfl | exact fun _ _ _ _ _ => .inl rfl)
    (hs1 : ∀ s H C cl fp, (assignEach [.Name x tp, .Name y tp2] (BX X scope s H C cl fp).env).map (·.2) = assign (.Name x tp) (BX X scope s H C cl fp).env :: (assignEach [.Name y tp2] (BX X scope s H C cl fp).env).map (·.2) := by exact fun _ _ _ _ _ => rfl) (hs2 : ∀ s H C cl fp, (assignEach [.Name y tp2] (BX X scope s H C cl fp).env).map (·.2) = assign (.Name y tp2) (BX X scope s H C cl fp).env :: (assignEach [] (BX X scope s H C cl fp).env).map (·.2) := by exact fun _ _ _ _ _ => rfl)
    (hn : ∀ s H C cl fp, (assignEach [.Name x tp, .Name y tp2] (BX X scope s H C cl fp).env).length = 2 := by exact fun _ _ _ _ _ => rfl) (hst : ∀ s H C cl fp, (assignEach [.Name x tp, .Name y tp2] (BX X scope s H C cl fp).env).findIdx? (·.1) = none := by exact fun _ _ _ _ _ => rfl)
    (hs : ∀ x, foldedSetIterable it X.env x = pure x := by intro _; rfl) : dE X G0 (.ListComp elt [⟨.Tuple [.Name x tp, .Name y tp2] kk tq, it, [], 0⟩] scope cp) δ μ Φ := fun σ H B Q k => by
  refine wE_of (pe_lc (g := gTup X.K 2 (gCons (gName j) (gCons (gName j2) gNil))) hc hN (pi_list pe_w) (blkOk_by hb) (fun s H C cl fp => pg_tup (X := BX X scope s H C cl fp) (n := 2) hc (pgs_cons (pg_name (i := j) hN hi (hx s H C cl fp) (hf s H C cl fp)) (pgs_cons (pg_name (i := j2) hN hi2 (hx2 s H C cl fp) (hf2 s H C cl fp)) pgs_nil (hs2 s H C cl fp)) (hs1 s H C cl fp)) (hn s H C cl fp) (hst s H C cl fp)) (fun _ _ _ _ _ => pts_nil) (fun s H C cl fp => (⟨fun pins s' σ' H' Q' I q => q s H C cl fp pins s' I⟩ : PE _ _ (wEs X scope elt))) hs) ?_
  rw [hv]
  refine h σ H B _ fun v H1 d μ1 q m1 e1 r1 => ?_
  obtain ⟨ds, rfl, Pv, p0, turn, fin⟩ := q
  obtain ⟨a, ws, rfl, hG, ra⟩ : ∃ a ws, v = .ref a ∧ Im μ1 H1 a = some (.lst ws) ∧ RpAll X.K (Im μ1 H1) ws ds := by
    cases r1 with
    | lst h r => exact ⟨_, _, rfl, h, r⟩
  have B1 := (B.step m1 e1).wipe vs
  refine ⟨a, rfl, ⟨ws, SqL.of (im_all _ _ hG)⟩, fun p hp => ?_⟩
  have hi0 : Im (updM μ1 p (.lst [])) (upd H1 p (.lst [])) = Im μ1 H1 := im_new hp
  have B2 : Bd X.K (Im μ1 H1) (wipeD δ vs) (updM μ1 p (.lst [])) (L2.wipe σ vs) (upd H1 p (.lst [])) := B1.rebase.step (m1.upd hi0 .nil) (by rw [hi0]; exact Sub.refl _)
  refine lc_list (xs := ws) (fun i H' => ∃ acc μ2, Pv i acc μ2 ∧ μ2 p = none ∧ Bd X.K (Im μ1 H1) (wipeD δ vs) (updM μ2 p (.lst acc)) (L2.wipe σ vs) H') ⟨[], μ1, p0, mu_free m1 hp, B2⟩ (fun i H' _ ⟨acc, μ2, _, _, B'⟩ => SqL.of (im_all _ _ (B'.base _ _ hG))) (fun i y H' hy ⟨acc, μ2, hP, hp2, B'⟩ => ?_) (fun H' ⟨acc, μ2, hP, hp2, B'⟩ => ?_)
  · have hl : i < ds.length := by rw [← ra.length]; exact (List.getElem?_eq_some_iff.mp hy).1
    obtain ⟨w', hw, rw'⟩ := ra.get (List.getElem?_eq_getElem hl)
    rw [hw] at hy
    cases hy
    obtain ⟨d1, d2, ed, tn⟩ := turn i _ acc μ2 p (List.getElem?_eq_getElem hl) hP hp2
    rw [ed] at rw'
    obtain ⟨b, us, rfl, hb2, rb⟩ := rp_tup_at (rw'.mono B'.base)
    obtain ⟨v1, v2, rfl, r1, r2⟩ := rp2 rb
    refine ⟨b, [v1, v2], rfl, SqT.of hb2, rfl, v1, [v2], rfl, v2, [], rfl, rfl, ?_, ?_⟩
    · rw [wipe_set hj2, wipe_set hj, wipe_wipe]
    · exact lc_turn ((B'.set r1).set r2) B' tn
  · rw [ra.length] at hP
    exact lc_end (k.after e1) hp2 (fin acc μ2 p hP hp2) B'
/-- [e for x, y in a tuple] -/
theorem d_lcT2 {x y : Str} {scope : Scope} {tp tp2 tq cp : Pos} {kk : Nat} {own : List (Str × Nat)} {vs : List Nat} (j j2 : Nat)
    (h : dE X G0 it δ μ fun d μ1 => ∃ ds, d = .tup ds ∧ ∃ Pv : Nat → List D → Mu → Prop, Pv 0 [] μ1 ∧ (∀ (i : Nat) d acc μ2 p, ds[i]? = some d → Pv i acc μ2 → μ2 p = none → ∃ d1 d2, d = .tup [d1, d2] ∧ LcTurn X scope elt p acc (((wipeD δ vs).set j (some d1)).set j2 (some d2)) μ2 (Pv (i + 1))) ∧ ∀ acc μ2 p, Pv ds.length acc μ2 → μ2 p = none → Φ (.ref p) (updM μ2 p (.lst acc)))
    (hb : blkC X.N X.env.scope scope own = true := by kernel_rfl) (hj : j ∈ vs := by decide) (hj2 : j2 ∈ vs := by decide) (hv : own.map (·.2) = vs := by rfl) (hN : X.N.Nodup := by assumption) (hc : X.calm = true := by rfl)
    (hi : X.N[j]? = some x := by rfl) (hi2 : X.N[j2]? = some y := by rfl) (hx : ∀ s H C cl fp, Loc (BX X scope s H C cl fp).env.scope x := by first | exact fun _ _ _ _ _ => Or.inl rfl | exact fun _ _ _ _ _ => Or.inr rfl) (hf : ∀ s H C cl fp, (BX X scope s H C cl fp).fn x = true ∨ (BX X scope s H C cl fp).env.scope.names.lookup x = some .local := by first | exact fun _ _ _ _ _ => .inr rfl | exact fun _ _ _ _ _ => .inl rfl)
    (hx2 : ∀ s H C cl fp, Loc (BX X scope s H C cl fp).env.scope y := by first | exact fun _ _ _ _ _ => Or.inl rfl | exact fun _ _ _ _ _ => Or.inr rfl) (hf2 : ∀ s H C cl fp, (BX X scope s H C cl fp).fn y = true ∨ (BX X scope s H C cl fp).env.scope.names.lookup y = some .local := by first | exact fun _ _ _ _ _ => .inr rfl | exact fun _ _ _ _ _ => .inl rfl)
    (hs1 : ∀ s H C cl fp, (assignEach [.Name x tp, .Name y tp2] (BX X scope s H C cl fp).env).map (·.2) = assign (.Name x tp) (BX X scope s H C cl fp).env :: (assignEach [.Name y tp2] (BX X scope s H C cl fp).env).map (·.2) := by exact fun _ _ _ _ _ => rfl) (hs2 : ∀ s H C cl fp, (assignEach [.Name y tp2] (BX X scope s H C cl fp).env).map (·.2) = assign (.Name y tp2) (BX X scope s H C cl fp).env :: (assignEach [] (BX X scope s H C cl fp).env).map (·.2) := by exact fun _ _ _ _ _ => rfl)
    (hn : ∀ s H C cl fp, (assignEach [.Name x tp, .Name y tp2] (BX X scope s H C cl fp).env).length = 2 := by exact fun _ _ _ _ _ => rfl) (hst : ∀ s H C cl fp, (assignEach [.Name x tp, .Name y tp2] (BX X scope s H C cl fp).env).findIdx? (·.1) = none := by exact fun _ _ _ _ _ => rfl)
    (hs : ∀ x, foldedSetIterable it X.env x = pure x := by intro _; rfl) : dE X G0 (.ListComp elt [⟨.Tuple [.Name x tp, .Name y tp2] kk tq, it, [], 0⟩] scope cp) δ μ Φ := fun σ H B Q k => by
  refine wE_of (pe_lc (g := gTup X.K 2 (gCons (gName j) (gCons (gName j2) gNil))) hc hN (pi_tup pe_w) (blkOk_by hb) (fun s H C cl fp => pg_tup (X := BX X scope s H C cl fp) (n := 2) hc (pgs_cons (pg_name (i := j) hN hi (hx s H C cl fp) (hf s H C cl fp)) (pgs_cons (pg_name (i := j2) hN hi2 (hx2 s H C cl fp) (hf2 s H C cl fp)) pgs_nil (hs2 s H C cl fp)) (hs1 s H C cl fp)) (hn s H C cl fp) (hst s H C cl fp)) (fun _ _ _ _ _ => pts_nil) (fun s H C cl fp => (⟨fun pins s' σ' H' Q' I q => q s H C cl fp pins s' I⟩ : PE _ _ (wEs X scope elt))) hs) ?_
  rw [hv]
  refine h σ H B _ fun v H1 d μ1 q m1 e1 r1 => ?_
  obtain ⟨ds, rfl, Pv, p0, turn, fin⟩ := q
  obtain ⟨a, ws, rfl, hG, ra⟩ : ∃ a ws, v = .ref a ∧ Im μ1 H1 a = some (.tup ws) ∧ RpAll X.K (Im μ1 H1) ws ds := by
    cases r1 with
    | tup h r => exact ⟨_, _, rfl, h, r⟩
  have B1 := (B.step m1 e1).wipe vs
  refine ⟨a, rfl, ⟨ws, SqT.of (im_all _ _ hG)⟩, fun p hp => ?_⟩
  have hi0 : Im (updM μ1 p (.lst [])) (upd H1 p (.lst [])) = Im μ1 H1 := im_new hp
  have B2 : Bd X.K (Im μ1 H1) (wipeD δ vs) (updM μ1 p (.lst [])) (L2.wipe σ vs) (upd H1 p (.lst [])) := B1.rebase.step (m1.upd hi0 .nil) (by rw [hi0]; exact Sub.refl _)
  refine lc_tup (xs := ws) (fun i H' => ∃ acc μ2, Pv i acc μ2 ∧ μ2 p = none ∧ Bd X.K (Im μ1 H1) (wipeD δ vs) (updM μ2 p (.lst acc)) (L2.wipe σ vs) H') ⟨[], μ1, p0, mu_free m1 hp, B2⟩ (fun i H' _ ⟨acc, μ2, _, _, B'⟩ => SqT.of (im_all _ _ (B'.base _ _ hG))) (fun i y H' hy ⟨acc, μ2, hP, hp2, B'⟩ => ?_) (fun H' ⟨acc, μ2, hP, hp2, B'⟩ => ?_)
  · have hl : i < ds.length := by rw [← ra.length]; exact (List.getElem?_eq_some_iff.mp hy).1
    obtain ⟨w', hw, rw'⟩ := ra.get (List.getElem?_eq_getElem hl)
    rw [hw] at hy
    cases hy
    obtain ⟨d1, d2, ed, tn⟩ := turn i _ acc μ2 p (List.getElem?_eq_getElem hl) hP hp2
    rw [ed] at rw'
    obtain ⟨b, us, rfl, hb2, rb⟩ := rp_tup_at (rw'.mono B'.base)
    obtain ⟨v1, v2, rfl, r1, r2⟩ := rp2 rb
    refine ⟨b, [v1, v2], rfl, SqT.of hb2, rfl, v1, [v2], rfl, v2, [], rfl, rfl, ?_, ?_⟩
    · rw [wipe_set hj2, wipe_set hj, wipe_wipe]
    · exact lc_turn ((B'.set r1).set r2) B' tn
  · rw [ra.length] at hP
    exact lc_end (k.after e1) hp2 (fin acc μ2 p hP hp2) B'

/-- what may change stays from now on: slot i held it -/
theorem s_frz {i : Nat} {p : Addr} {ds : List D} (hi : δ[i]? = some (some (.ref p))) (hp : μ p = none) (h : dSs X G0 sts (δ.set i (some (.lst ds))) μ E) : dSs X G0 sts δ (updM μ p (.lst ds)) E := fun σ H B => by
  obtain ⟨v, h1, r⟩ := B.sl i _ hi
  cases rp_ref r
  have B' : Bd X.K G0 δ μ σ H := B.step (B.mu.drop hp) im_drop
  have z := B'.set (i := i) (frz_rp B.mu hp)
  have e : σ.set i (some (.ref p)) = σ := by
    refine List.ext_getElem? fun j => ?_
    by_cases q : i = j
    · subst q
      rw [List.getElem?_set, if_pos rfl, h1, if_pos (List.getElem?_eq_some_iff.mp h1).1]
    · rw [List.getElem?_set_ne q]
  rw [e] at z
  exact h σ H z
/-- .. is not needed any more -/
theorem s_drop {p : Addr} {c : D} (hp : μ p = none) (h : dSs X G0 sts δ μ E) : dSs X G0 sts δ (updM μ p c) E := fun σ H B => h σ H (B.step (B.mu.drop hp) im_drop)
/-- behind a value: what may change is dropped -/
def Dr (Φ : DK) : DK := fun d μ => Φ d μ ∨ ∃ p c μ2, μ = updM μ2 p c ∧ μ2 p = none ∧ Φ d μ2
theorem KP.dr (k : KP K μ H Φ Q) : KP K μ H (Dr Φ) Q := fun v H2 d μ2 q m e r => by
  rcases q with q | ⟨p, c, μ3, rfl, hp, q⟩
  · exact k v H2 d μ2 q m e r
  · exact k v H2 d μ3 q (m.drop hp) (e.trans im_drop) (r.mono im_drop)
theorem d_dr (h : dE X G0 e δ μ (Dr Φ)) : dE X G0 e δ μ Φ := fun σ H B Q k => h σ H B Q k.dr
end
end DL
namespace DL
theorem yes {k : Bool} {A B : Prop} (hk : k = true) (h : A) : (k = true → A) ∧ (k = false → B) := ⟨fun _ => h, fun z => by rw [hk] at z; cases z⟩
theorem no {k : Bool} {A B : Prop} (hk : k = false) (h : B) : (k = true → A) ∧ (k = false → B) := ⟨fun z => (by rw [hk] at z; cases z), fun _ => h⟩
theorem orN {k : Bool} {A B : Prop} (hk : k = false) (h : A) : (k = false → A) ∧ (k = true → B) := ⟨fun _ => h, fun z => by rw [hk] at z; cases z⟩
theorem orY {k : Bool} {A B : Prop} (hk : k = true) (h : B) : (k = false → A) ∧ (k = true → B) := ⟨fun z => (by rw [hk] at z; cases z), fun _ => h⟩
end DL
namespace DL
open PySem PySem.Spec PyProof.Rows L2
def delM (μ : Mu) (p : Addr) : Mu := fun b => if b = p then none else μ b
theorem delM_same {μ : Mu} {p : Addr} : delM μ p p = none := if_pos rfl
theorem delM_ne {μ : Mu} {p q : Addr} (h : q ≠ p) : delM μ p q = μ q := if_neg h
theorem upd_del {μ : Mu} {p : Addr} {c : D} (h : μ p = some c) : updM (delM μ p) p c = μ := by
  funext b
  unfold updM delM
  by_cases e : b = p
  · rw [if_pos e, e, h]
  · rw [if_neg e, if_neg e]
section
variable {X : Cx} {G0 : Hp} {sts : List Stmt} {δ : List (Option D)} {μ : Mu} {E : DEnds}
theorem s_frzD {i : Nat} {p : Addr} {ds : List D} (hi : δ[i]? = some (some (.ref p))) (hp : μ p = some (.lst ds)) (h : dSs X G0 sts (δ.set i (some (.lst ds))) (delM μ p) E) : dSs X G0 sts δ μ E := by
  rw [← upd_del hp]
  exact s_frz hi delM_same h
end
end DL
namespace DL
open PySem PySem.Spec PyProof.Rows L2
section
variable {X : Cx} {G0 : Hp} {e a b c it elt : Expr} {es rest : List Expr} {sts : List Stmt} {δ : List (Option D)} {μ : Mu} {Φ : DK} {pos : Pos} {K : PySem.W.Frag} {H : Hp} {Q : VK} {E : DEnds}
/-- y = [e for x in range(n)]; what comes out is as it will stay, or may change -/
theorem s_setR {x y : Str} {scope : Scope} {rp ip tp cp py spos : Pos} {own : List (Str × Nat)} {vs : List Nat} (i0 j : Nat)
    (h : dA X G0 [a] δ μ fun ns μ1 => ∃ n : Int, ns = [.int n] ∧ n < 2 ^ 62 ∧ -(2 ^ 62) ≤ n ∧ ∃ Pv : Nat → List D → Mu → Prop, Pv 0 [] μ1 ∧ (∀ (i : Nat) acc μ2 p, i < n.toNat → Pv i acc μ2 → μ2 p = none → LcTurn X scope elt p acc ((wipeD δ vs).set j (some (.int i))) μ2 (Pv (i + 1))) ∧ ∀ acc μ2 p, Pv n.toNat acc μ2 → μ2 p = none → Fz (fun d μ' => E.nx (δ.set i0 (some d)) μ') (.ref p) (updM μ2 p (.lst acc)))
    (hy : X.N[i0]? = some y := by rfl) (hyl : X.env.scope.names.lookup y = some .local := by rfl) (hsw : swapsWith (.ListComp elt [⟨.Name x tp, .Call (.Name "range" rp) [a] [] ip, [], 0⟩] scope cp) (some (.Name y py)) spos.line X.env = pure true := by exact sw_true rfl rfl rfl (by decide +kernel))
    (hb : blkC X.N X.env.scope scope own = true := by kernel_rfl) (hj : j ∈ vs := by decide) (hv : own.map (·.2) = vs := by rfl) (hN : X.N.Nodup := by assumption) (hc : X.calm = true := by rfl)
    (hi : X.N[j]? = some x := by rfl) (hx : ∀ s H C cl fp, Loc (BX X scope s H C cl fp).env.scope x := by first | exact fun _ _ _ _ _ => Or.inl rfl | exact fun _ _ _ _ _ => Or.inr rfl) (hf : ∀ s H C cl fp, (BX X scope s H C cl fp).fn x = true ∨ (BX X scope s H C cl fp).env.scope.names.lookup x = some .local := by first | exact fun _ _ _ _ _ => .inr rfl | exact fun _ _ _ _ _ => .inl rfl)
    (hm : X.mg "range" = none := by assumption) (hg : Gl X "range" := by rfl) (hst : starEach [a] X.env = [(false, eval a X.env)] := by rfl)
    (hs : ∀ x, foldedSetIterable (.Call (.Name "range" rp) [a] [] ip) X.env x = pure x := by intro _; rfl) : dS X G0 (.Assign [.Name y py] (.ListComp elt [⟨.Name x tp, .Call (.Name "range" rp) [a] [] ip, [], 0⟩] scope cp) spos) δ μ E := fun σ H B => by
  refine wS_of (ps_setLc (i := i0) hc hN hy hyl hsw (pi_range1 hg hm pa_w hst) (blkOk_by hb) (fun s H C cl fp => pg_name (i := j) hN hi (hx s H C cl fp) (hf s H C cl fp)) (fun _ _ _ _ _ => pts_nil) (fun s H C cl fp => (⟨fun pins s' σ' H' Q' I q => q s H C cl fp pins s' I⟩ : PE _ _ (wEs X scope elt))) hs) ?_
  rw [hv]
  have k : KP X.K μ H (fun d μ' => E.nx (δ.set i0 (some d)) μ') (fun v H1 => gName i0 v σ H1 (dEn X.K G0 E).nx) := fun v H1 d μ1 q m1 e1 r1 => ⟨_, μ1, q, (B.step m1 e1).set r1⟩
  refine h σ H B _ fun vs' H1 ds μ1 q m1 e1 r1 => ?_
  obtain ⟨n, rfl, b1, b2, Pv, p0, turn, fin⟩ := q
  obtain ⟨v, rfl, r2⟩ := rp1 r1
  cases rp_int r2
  have B1 := (B.step m1 e1).wipe vs
  refine ⟨n, rfl, b2, b1, fun p hp => ?_⟩
  have hi0 : Im (updM μ1 p (.lst [])) (upd H1 p (.lst [])) = Im μ1 H1 := im_new hp
  have B2 : Bd X.K (Im μ1 H1) (wipeD δ vs) (updM μ1 p (.lst [])) (L2.wipe σ vs) (upd H1 p (.lst [])) := B1.rebase.step (m1.upd hi0 .nil) (by rw [hi0]; exact Sub.refl _)
  refine lc_range (lo := 0) (n := n.toNat) (fun i H' => ∃ acc μ2, Pv i acc μ2 ∧ μ2 p = none ∧ Bd X.K (Im μ1 H1) (wipeD δ vs) (updM μ2 p (.lst acc)) (L2.wipe σ vs) H') ⟨[], μ1, p0, mu_free m1 hp, B2⟩ (fun i H' hl ⟨acc, μ2, hP, hp2, B'⟩ => ?_) (fun H' ⟨acc, μ2, hP, hp2, B'⟩ => ?_)
  · refine ⟨by rw [wipe_set hj, wipe_wipe], ?_⟩
    have e0 : (0 : Int) + (i : Int) = (i : Int) := Int.zero_add _
    rw [e0]
    exact lc_turn (B'.set (.int _)) B' (turn i acc μ2 p hl hP hp2)
  · exact lc_end (k.fz.after e1) hp2 (fin acc μ2 p hP hp2) B'
end
end DL

namespace DL
open PySem PySem.Spec PyProof.Rows L2
/-! ### the end: what the top has written -/
section
variable {P : Program} {w : World} {K : PySem.W.Frag} {mg : Str → Option Value} {base h : Heap}
theorem deft {x : Str} {st : Stmt} {ps : List Str} {f : Addr} {oc : Value} {od an : Option Addr} {osl : Array (Option Value)} {kV doc pm cdv ct : Value} (KI : K.In h) (G : h.Ns mainGlobals mg)
    (a : PySem.W.nsIn K mainGlobals x = some (some (.ref f))) (l : K.lookup f = some ⟨oc, od, .func (PySem.W.fnOf x x (defArgs st) (defBody st) (defScope st) .none kV doc pm an cdv ct), osl⟩) (c : PySem.W.codeIn K cdv x = true) (k : PySem.W.keepIn K (.ref f) = true)
    (b : ∀ (kV doc pm : Value) (an : Option Addr) (cdv ct : Value) (us : List Value), us.length = ps.length → bindArgs (PySem.W.fnOf x x (defArgs st) (defBody st) (defScope st) .none kV doc pm an cdv ct) ⟨us, []⟩ = pure (ps.zip us)) : DefT K mg x st ps :=
  ⟨f, _, fun_mk l c k, PySem.W.mg_of KI G a, (fun_mk l c k).binds b⟩
/-- an error of the class at S is what «except S» names -/
theorem exm_own {S : Addr} (h1 : PySem.W.subIn K (.ref S) (.type "BaseException") = some true) (h2 : PySem.W.isClsIn K S = true) (h3 : PySem.W.typeIn K (.ref S) = some (.type "type")) (h4 : PySem.W.subIn K (.ref S) (.ref S) = some true) : PySem.W.exmOne K (.ref S) (.ref S) = some true := by
  have e1 : (PySem.W.subIn K (.ref S) (.type "BaseException") == some true) = true := by rw [h1] <;> rfl
  have h2' : (PySem.W.clsIn K S).isSome = true := h2
  have e2 : ((PySem.W.clsIn K S).isSome && PySem.W.typeIn K (.ref S) == some (.type "type")) = true := by rw [h2', h3] <;> rfl
  unfold PySem.W.exmOne
  first
    | (rw [if_pos e1, if_pos e2]; exact h4)
    | (show (if (PySem.W.subIn K (.ref S) (.type "BaseException") == some true) = true then (if ((PySem.W.clsIn K S).isSome && PySem.W.typeIn K (.ref S) == some (.type "type")) = true then PySem.W.subIn K (.ref S) (.ref S) else none) else none) = some true
       rw [if_pos e1, if_pos e2]
       exact h4)
/-- the law's own call, at nothing but the script -/
theorem lift_law {sp : DSp} {a : Addr} {H : Hp} {ns : List Int} (hS : SqL K H a (ns.map V.int)) (h : sp [.scr ns] (fun _ => none) (fun d _ => d = .bl true) NoX) : liftSp K sp [.ref a] H (fun v _ => v = .bl true) fun _ _ _ => False := by
  refine ⟨[.scr ns], fun _ => none, fun d _ => d = .bl true, NoX, .cons (.scr ?_) .nil, fun p c e => (by cases e), h, fun v H2 d μ2 q _ _ r => ?_, noX⟩
  · have e : Im (fun _ => none) H = H := by
      funext b
      rfl
    rw [e]
    exact hS
  · subst q
    exact rp_bl r
theorem cx_none {P : Program} {w : World} (H : Hp) (s : Shared) (e : Value) (s' : Shared) (h : L2N.CX P w [] H s (fun _ _ _ => False) e s') : False := by
  obtain ⟨_, _, _, _, _, _, _, _, _, _, _, _, z⟩ := h
  exact z.elim
/-- a call by two keywords, the second parameter first -/
theorem kbn_swap {x : Str} {st : Stmt} {f : Addr} {fd : FuncData} {p q : Str} {dv : V} (F : FunD K x x (defArgs st) (defBody st) (defScope st) [dv] [] f fd)
    (h : ∀ (T : Addr) (kV doc pm : Value) (an : Option Addr) (cdv ct a b d : Value), ∃ k, bindArgs (PySem.W.fnOf x x (defArgs st) (defBody st) (defScope st) (.ref T) kV doc pm an cdv ct) ⟨[], [(q, b), (p, a)]⟩ = seqItems? (.ref T) >>= k ∧ k (some [d].toArray) = pure [(p, a), (q, b)]) :
    KBn K fd [p, q] 0 [q, p] (fun _ ws => ws.drop 1 ++ ws.take 1) (fun _ vs => vs.drop 1 ++ vs.take 1) := by
  obtain ⟨oc, od, dV, kV, doc, pm, an, cdv, ct, osl, rfl, lk, hcd, hD, hK⟩ := F.ex
  rcases hD with ⟨e, _⟩ | ⟨_, T, o, its, m, rfl, lT, oT, rT⟩
  · cases e
  · refine ⟨fun s us ws X l1 l2 => ?_, fun r1 r2 => (r2.drop 1).append (r2.take 1)⟩
    obtain ⟨d, rfl, _⟩ := rT.one
    match us, ws, l1, l2 with
    | [], [b, a], _, _ =>
      obtain ⟨k, e1, e2⟩ := h T kV doc pm an cdv ct a b d
      refine BindsTo.of_looks fun M => ?_
      show PySem.W.Looks M s.heap (bindArgs _ ⟨[], [(q, b), (p, a)]⟩) [(p, a), (q, b)]
      rw [e1]
      exact looks_items X lT oT (.of_pure e2)
end
end DL

open PySem PySem.Spec PyProof.Rows L2 DL
namespace K11
open PySem PySem.Spec PyProof.Rows L2 DL
/-! ### the text -/
def topS (i : Nat) : Stmt := PySem.Challenge.pw_leastcomplaint_k11_ratios.main.body.getD i (.Pass ⟨0, 0, 0, 0⟩)
abbrev s_common_divisor : Stmt := topS 4
theorem sc_common_divisor : FnScope ["one", "other"] ["one", "other"] (defScope s_common_divisor) := ⟨rfl, rfl, rfl, by decide +kernel, rfl, by decide +kernel, by decide +kernel⟩
abbrev s_ratio : Stmt := topS 5
theorem sc_ratio : FnScope ["top", "bottom", "divisor"] ["top", "bottom"] (defScope s_ratio) := ⟨rfl, rfl, rfl, by decide +kernel, rfl, by decide +kernel, by decide +kernel⟩
abbrev s_plus : Stmt := topS 6
theorem sc_plus : FnScope ["one", "other"] ["one", "other"] (defScope s_plus) := ⟨rfl, rfl, rfl, by decide +kernel, rfl, by decide +kernel, by decide +kernel⟩
abbrev s_minus : Stmt := topS 7
theorem sc_minus : FnScope ["one", "other"] ["one", "other"] (defScope s_minus) := ⟨rfl, rfl, rfl, by decide +kernel, rfl, by decide +kernel, by decide +kernel⟩
abbrev s_times : Stmt := topS 8
theorem sc_times : FnScope ["one", "other"] ["one", "other"] (defScope s_times) := ⟨rfl, rfl, rfl, by decide +kernel, rfl, by decide +kernel, by decide +kernel⟩
abbrev s_compare : Stmt := topS 9
theorem sc_compare : FnScope ["one", "other", "left", "right"] ["one", "other"] (defScope s_compare) := ⟨rfl, rfl, rfl, by decide +kernel, rfl, by decide +kernel, by decide +kernel⟩
abbrev s_lowest : Stmt := topS 10
theorem sc_lowest : FnScope ["numbers", "divisor", "number"] ["numbers"] (defScope s_lowest) := ⟨rfl, rfl, rfl, by decide +kernel, rfl, by decide +kernel, by decide +kernel⟩
abbrev s_scaled : Stmt := topS 11
theorem sc_scaled : FnScope ["ratios", "unit", "top", "bottom"] ["ratios", "unit"] (defScope s_scaled) := ⟨rfl, rfl, rfl, by decide +kernel, rfl, by decide +kernel, by decide +kernel⟩
abbrev s_together : Stmt := topS 12
theorem sc_together : FnScope ["ratios", "unit", "top", "bottom"] ["ratios"] (defScope s_together) := ⟨rfl, rfl, rfl, by decide +kernel, rfl, by decide +kernel, by decide +kernel⟩
abbrev s_law_pool : Stmt := topS 14
theorem sc_law_pool : FnScope ["_law_script"] ["_law_script"] (defScope s_law_pool) := ⟨rfl, rfl, rfl, by decide +kernel, rfl, by decide +kernel, by decide +kernel⟩
abbrev s_law_take : Stmt := topS 15
theorem sc_law_take : FnScope ["_law_pool_here", "_law_many", "_law_at", "_law_drawn", "_law_mixed", "_law_digit"] ["_law_pool_here", "_law_many"] (defScope s_law_take) := ⟨rfl, rfl, rfl, by decide +kernel, rfl, by decide +kernel, by decide +kernel⟩
abbrev s_law_is_number : Stmt := topS 16
theorem sc_law_is_number : FnScope ["_law_thing"] ["_law_thing"] (defScope s_law_is_number) := ⟨rfl, rfl, rfl, by decide +kernel, rfl, by decide +kernel, by decide +kernel⟩
abbrev s_law_divisor : Stmt := topS 17
theorem sc_law_divisor : FnScope ["_law_numbers", "_law_found", "_law_number", "_law_one", "_law_other"] ["_law_numbers"] (defScope s_law_divisor) := ⟨rfl, rfl, rfl, by decide +kernel, rfl, by decide +kernel, by decide +kernel⟩
abbrev s_law_ratio : Stmt := topS 18
theorem sc_law_ratio : FnScope ["_law_up", "_law_down", "_law_piece"] ["_law_up", "_law_down"] (defScope s_law_ratio) := ⟨rfl, rfl, rfl, by decide +kernel, rfl, by decide +kernel, by decide +kernel⟩
abbrev s_law_integer : Stmt := topS 19
theorem sc_law_integer : FnScope ["_law_pool_here", "_law_size"] ["_law_pool_here"] (defScope s_law_integer) := ⟨rfl, rfl, rfl, by decide +kernel, rfl, by decide +kernel, by decide +kernel⟩
abbrev s_law_refused : Stmt := topS 20
theorem sc_law_refused : FnScope ["_law_up", "e"] ["_law_up"] (defScope s_law_refused) := ⟨rfl, rfl, rfl, by decide +kernel, rfl, by decide +kernel, by decide +kernel⟩
abbrev s_law_in_terms : Stmt := topS 21
theorem sc_law_in_terms : FnScope ["_law_one", "_law_up", "_law_down"] ["_law_one", "_law_up", "_law_down"] (defScope s_law_in_terms) := ⟨rfl, rfl, rfl, by decide +kernel, rfl, by decide +kernel, by decide +kernel⟩
abbrev s_law_two_right : Stmt := topS 22
theorem sc_law_two_right : FnScope ["_law_one", "_law_other", "_law_across", "_law_back", "_law_down", "_law_says"] ["_law_one", "_law_other"] (defScope s_law_two_right) := ⟨rfl, rfl, rfl, by decide +kernel, rfl, by decide +kernel, by decide +kernel⟩
abbrev s_law_near_right : Stmt := topS 23
theorem sc_law_near_right : FnScope ["_law_one", "_law_far", "_law_near"] ["_law_one"] (defScope s_law_near_right) := ⟨rfl, rfl, rfl, by decide +kernel, rfl, by decide +kernel, by decide +kernel⟩
abbrev s_law_lowest_right : Stmt := topS 24
theorem sc_law_lowest_right : FnScope ["_law_pool_here", "_law_factor", "_law_many", "_law_numbers", "_law_saved", "_law_says", "_law_k"] ["_law_pool_here"] (defScope s_law_lowest_right) := ⟨rfl, rfl, rfl, by decide +kernel, rfl, by decide +kernel, by decide +kernel⟩
abbrev s_law_low : Stmt := topS 25
theorem sc_law_low : FnScope ["_law_numbers", "_law_piece", "_law_number"] ["_law_numbers"] (defScope s_law_low) := ⟨rfl, rfl, rfl, by decide +kernel, rfl, by decide +kernel, by decide +kernel⟩
abbrev s_law_together_right : Stmt := topS 26
theorem sc_law_together_right : FnScope ["_law_ratios", "_law_unit", "_law_one", "_law_given", "_law_answer", "_law_due"] ["_law_ratios"] (defScope s_law_together_right) := ⟨rfl, rfl, rfl, by decide +kernel, rfl, by decide +kernel, by decide +kernel⟩
abbrev s_law : Stmt := topS 27
theorem sc_law : FnScope ["_law_script", "_law_pool_here", "_law_made", "_law_k", "_law_pair", "_law_one", "_law_other"] ["_law_script"] (defScope s_law) := ⟨rfl, rfl, rfl, by decide +kernel, rfl, by decide +kernel, by decide +kernel⟩
abbrev c_DivisionError : Stmt := topS 1
abbrev c_BadRatio : Stmt := topS 2
abbrev s_BadRatio_init : Stmt := inClass c_BadRatio 0
theorem sc_BadRatio_init : FnScope ["self", "bottom"] ["self", "bottom"] (defScope s_BadRatio_init) := ⟨rfl, rfl, rfl, by decide +kernel, rfl, by decide +kernel, by decide +kernel⟩

end K11

open PySem PySem.Spec PyProof.Rows L2 DL
local macro_rules | `(tactic| walk_at "dv") => `(tactic| ((with_reducible refine' d_v ?hN ?hd ?hv ?_); (case hN => with_reducible assumption); (case hd => rfl); (case hv => first | exact Or.inl rfl | exact Or.inr (Or.inl rfl) | exact Or.inr (Or.inr rfl))))
local macro_rules | `(tactic| walk_at "o1") => `(tactic| first | with_reducible refine o_add ?_ | with_reducible refine o_sub ?_ | with_reducible refine o_lt ?_ | with_reducible refine o_le ?_ | with_reducible refine o_gt ?_ | with_reducible refine o_ge ?_ | with_reducible refine o_eq ?_ | with_reducible refine o_ne ?_ | with_reducible refine o_neg ?_ | with_reducible refine o_eqS ?_ | with_reducible refine o_neS ?_ | ((with_reducible refine' x_tup ?h ?_); (case h => rfl)) | ((with_reducible refine' x_lst ?h ?_); (case h => rfl)) | with_reducible refine c_int ?_ | with_reducible refine c_intB ?_ | with_reducible refine c_abs ?_ | with_reducible refine c_lenL ?_ | with_reducible refine c_lenT ?_ | ((with_reducible refine c_max2 ?_ ?hc); (case hc => rfl)) | with_reducible refine tr_bl ?_ | with_reducible refine bl_ex ?_)
local macro_rules | `(tactic| walk_at "db") => `(tactic| first | ((with_reducible refine db_abs ?_ ?hm ?hg ?he ?hpl); (case hm => with_reducible assumption); (case hg => rfl); (case he => rfl); (case hpl => rfl)) | ((with_reducible refine db_len ?_ ?hm ?hg ?he ?hpl); (case hm => with_reducible assumption); (case hg => rfl); (case he => rfl); (case hpl => rfl)) | ((with_reducible refine db_max ?_ ?hm ?hg ?he ?hpl); (case hm => with_reducible assumption); (case hg => rfl); (case he => rfl); (case hpl => rfl)) | ((with_reducible refine db_int ?_ ?hm ?hg ?he ?hpl); (case hm => with_reducible assumption); (case hg => rfl); (case he => rfl); (case hpl => rfl)) | ((with_reducible refine db_isinstance ?_ ?hm ?hg ?he ?hpl); (case hm => with_reducible assumption); (case hg => rfl); (case he => rfl); (case hpl => rfl)) | ((with_reducible refine db_list ?_ ?hm ?hg ?he ?hpl); (case hm => with_reducible assumption); (case hg => rfl); (case he => rfl); (case hpl => rfl)) | ((with_reducible refine db_tuple ?_ ?hm ?hg ?he ?hpl); (case hm => with_reducible assumption); (case hg => rfl); (case he => rfl); (case hpl => rfl)) | ((with_reducible refine dt_int ?_ ?hm ?hg); (case hm => with_reducible assumption); (case hg => rfl)) | ((with_reducible refine dt_bool ?_ ?hm ?hg); (case hm => with_reducible assumption); (case hg => rfl)) | ((with_reducible refine dt_tuple ?_ ?hm ?hg); (case hm => with_reducible assumption); (case hg => rfl)) | ((with_reducible refine db_all ?_ ?hm ?hg ?he ?hpl); (case hm => with_reducible assumption); (case hg => rfl); (case he => rfl); (case hpl => rfl)) | ((with_reducible refine db_any ?_ ?hm ?hg ?he ?hpl); (case hm => with_reducible assumption); (case hg => rfl); (case he => rfl); (case hpl => rfl)) | ((with_reducible refine db_sum ?_ ?hm ?hg ?he ?hpl); (case hm => with_reducible assumption); (case hg => rfl); (case he => rfl); (case hpl => rfl)) | ((with_reducible refine db_sorted ?_ ?hm ?hg ?he ?hpl); (case hm => with_reducible assumption); (case hg => rfl); (case he => rfl); (case hpl => rfl)) | ((with_reducible refine db_min ?_ ?hm ?hg ?he ?hpl); (case hm => with_reducible assumption); (case hg => rfl); (case he => rfl); (case hpl => rfl)) | ((with_reducible refine db_dict ?_ ?hm ?hg ?he ?hpl); (case hm => with_reducible assumption); (case hg => rfl); (case he => rfl); (case hpl => rfl)) | ((with_reducible refine dt_list ?_ ?hm ?hg); (case hm => with_reducible assumption); (case hg => rfl)) | ((with_reducible refine dt_dict ?_ ?hm ?hg); (case hm => with_reducible assumption); (case hg => rfl)) | ((with_reducible refine dt_str ?_ ?hm ?hg); (case hm => with_reducible assumption); (case hg => rfl)))
local macro_rules | `(tactic| walk_at "d1") => `(tactic| first | walk_at "dv" | with_reducible refine d_int ?_ | with_reducible refine d_str ?_ | with_reducible refine d_bl ?_ | with_reducible refine d_non ?_ | with_reducible refine d_op ?_ | with_reducible refine d_un ?_ | ((with_reducible refine d_ix ?_ ?hs); (case hs => exact fun _ _ => rfl)) | walk_at "o1" | ((with_reducible refine d_cmp ?_ ?hm); (case hm => first | exact nomark _ | rfl)) | ((with_reducible refine t_cmp ?_ ?hm); (case hm => first | exact nomark _ | rfl)) | with_reducible refine d_tup ?_ | with_reducible refine t_not ?_ | ((with_reducible refine t_val ?_ ?he); (case he => intro _; rfl)) | ((with_reducible refine da_cons ?_ ?hs); (case hs => rfl)) | with_reducible refine da_nil ?_ | walk_at "db")
local macro_rules | `(tactic| walk_at "dd") => `(tactic| repeat walk_at "d1")
namespace K11
section
variable {P : Program} {w : World} {K : PySem.W.Frag} {mg : Str → Option Value} {base : Heap}
theorem fmod_natAbs (a b : Int) (h : b ≠ 0) : (a.fmod b).natAbs < b.natAbs := by
  rcases Int.lt_trichotomy b 0 with hb | hb | hb
  · have e : a.fmod b = -((-a).fmod (-b)) := by rw [Int.neg_fmod_neg]; omega
    have h1 := Int.fmod_nonneg_of_pos (-a) (b := -b) (by omega)
    have h2 := Int.fmod_lt_of_pos (-a) (b := -b) (by omega)
    omega
  · exact absurd hb h
  · have h1 := Int.fmod_nonneg_of_pos a hb
    have h2 := Int.fmod_lt_of_pos a hb
    omega
theorem gcd_fmod (x y : Int) : Int.gcd y (x.fmod y) = Int.gcd x y := by
  rw [Int.fmod_def, Int.mul_comm, Int.gcd_sub_mul_right_right, Int.gcd_comm]
theorem abs_gcd (x : Int) : (if x < 0 then -x else x) = (Int.gcd x 0 : Int) := by
  rw [Int.gcd_zero_right]
  split <;> omega
def spGcd : DSp := fun ds μ Φ _ => ∃ a b : Int, ds = [.int a, .int b] ∧ Φ (.int (Int.gcd a b)) μ
theorem ok_gcd (D : DefT K mg "common_divisor" s_common_divisor ["one", "other"]) (m_abs : mg "abs" = none) : Cal P w K mg base 1 "common_divisor" spGcd := by
  refine D.cal (k := 0) sc_common_divisor (fun ds μ Φ Ψ ⟨a, b, e, _⟩ => by rw [e]; rfl) (fun ds μ Φ Ψ h => ⟨fun f cd A outer s H E G0 hr hp tk => ?_⟩)
  have hnd := sc_common_divisor.nd
  have nm0 : (cxD P w K mg base ["one", "other"] "common_divisor" s_common_divisor f cd A outer s H E).N[0]? = some ("one" : Str) ∧ (("one" : Str) == ("__debug__" : Str)) = false ∧ (("one" : Str) == ("__classdict__" : Str)) = false := ⟨rfl, by decide, by decide⟩
  have nm1 : (cxD P w K mg base ["one", "other"] "common_divisor" s_common_divisor f cd A outer s H E).N[1]? = some ("other" : Str) ∧ (("other" : Str) == ("__debug__" : Str)) = false ∧ (("other" : Str) == ("__classdict__" : Str)) = false := ⟨rfl, by decide, by decide⟩
  have bn_abs : (cxD P w K mg base ["one", "other"] "common_divisor" s_common_divisor f cd A outer s H E).mg "abs" = none := m_abs
  obtain ⟨a, b, rfl, q⟩ := h
  refine s_cons (s_while (fun δ μ' => ∃ x y : Int, δ = [some (.int x), some (.int y)] ∧ μ' = μ ∧ Int.gcd x y = Int.gcd a b) (fun δ _ => match δ with | [_, some (.int y)] => y.natAbs | _ => 0) ⟨a, b, rfl, rfl, rfl⟩ ?_)
  rintro δ' μ' ⟨x, y, rfl, rfl, hg⟩
  walk_at "dd"
  refine wayN (fun hy => ?_) (fun hy => ?_)
  · refine s_one (s_par (i := 0) (j := 1) ?_)
    walk_at "dd"
    refine o_mod ⟨hy, ?_⟩
    walk_at "dd"
    exact ⟨_, _, rfl, ⟨y, x.fmod y, rfl, rfl, (gcd_fmod x y).trans hg⟩, fmod_natAbs x y hy⟩
  · subst hy
    refine s_one (s_ret ?_)
    walk_at "dd"
    rw [abs_gcd, hg]
    exact q
/-! ratios -/
/-- the divisor with the bottom's sign; top and bottom in lowest terms -/
def rG (a b : Int) : Int := if b < 0 then -(Int.gcd a b : Int) else (Int.gcd a b : Int)
def rT (a b : Int) : Int := a.fdiv (rG a b)
def rB (a b : Int) : Int := b.fdiv (rG a b)
def rat (a b : Int) : D := .tup [.int (rT a b), .int (rB a b)]
theorem rG_ne {a b : Int} (h : b ≠ 0) : rG a b ≠ 0 := by
  have h1 : (Int.gcd a b : Int) ≠ 0 := by
    intro z
    have z' : Int.gcd a b = 0 := by omega
    exact h (Int.gcd_eq_zero_iff.mp z').2
  unfold rG
  split <;> omega
theorem log2_le {i : Int} {n : Nat} (h : i.natAbs < 2 ^ n) (h0 : 0 < n) : i.natAbs.log2 < n := PySem.Flt.log2_lt_of h0 h
theorem rG_abs (a b : Int) : (rG a b).natAbs = Int.gcd a b := by
  unfold rG
  split <;> omega
theorem gcd_le {a b : Int} (h : b ≠ 0) : Int.gcd a b ≤ b.natAbs := Nat.le_of_dvd (by omega) (Int.gcd_dvd_natAbs_right a b)
theorem rG_div {a b : Int} (h : b ≠ 0) {n : Nat} (hb : b.natAbs < 2 ^ n) (hn : n ≤ 9000) (h0 : 0 < n) (x : Int) : CDivX x (rG a b) := by
  refine ⟨rG_ne h, ?_⟩
  rw [rG_abs]
  have h1 : Int.gcd a b < 2 ^ n := Nat.lt_of_le_of_lt (gcd_le h) hb
  exact Nat.lt_of_lt_of_le (PySem.Flt.log2_lt_of h0 h1) hn
/-- ratio, where the bottom is not 0 -/
def spRatio (CB : Addr) : DSp := fun ds μ Φ Ψ => ∃ a b : Int, ds = [.int a, .int b] ∧ (b = 0 → Ψ CB [("bottom", .int 0)] μ) ∧ (b ≠ 0 → b.natAbs < 2 ^ 8000 ∧ Φ (rat a b) μ)
theorem fn_ratio {CB : Addr} {f : Addr} {fd : FuncData} (F : FunD K "ratio" "ratio" (defArgs s_ratio) (defBody s_ratio) (defScope s_ratio) [.int 1] [] f fd) (Cg : Cal P w K mg base 1 "common_divisor" spGcd) (TE : ExcT P w K mg base "BadRatio" "bottom" CB) :
    FnOk P w K mg base (L2N.CX P w) 3 f fd ["top", "bottom"] (liftSp K (spRatio CB)) := by
  refine cal_fnD (k := 2) F sc_ratio (fun ds μ Φ Ψ ⟨a, b, e, _⟩ => by rw [e]; rfl) (fun ds μ Φ Ψ h => ⟨fun f cd A outer s H E G0 hr hp tk => ?_⟩)
  have hnd := sc_ratio.nd
  have nm0 : (cxD P w K mg base ["top", "bottom", "divisor"] "ratio" s_ratio f cd A outer s H E).N[0]? = some ("top" : Str) ∧ (("top" : Str) == ("__debug__" : Str)) = false ∧ (("top" : Str) == ("__classdict__" : Str)) = false := ⟨rfl, by decide, by decide⟩
  have nm1 : (cxD P w K mg base ["top", "bottom", "divisor"] "ratio" s_ratio f cd A outer s H E).N[1]? = some ("bottom" : Str) ∧ (("bottom" : Str) == ("__debug__" : Str)) = false ∧ (("bottom" : Str) == ("__classdict__" : Str)) = false := ⟨rfl, by decide, by decide⟩
  have nm2 : (cxD P w K mg base ["top", "bottom", "divisor"] "ratio" s_ratio f cd A outer s H E).N[2]? = some ("divisor" : Str) ∧ (("divisor" : Str) == ("__debug__" : Str)) = false ∧ (("divisor" : Str) == ("__classdict__" : Str)) = false := ⟨rfl, by decide, by decide⟩
  obtain ⟨a, b, rfl, q0, q1⟩ := h
  refine s_cons (s_if ?_)
  walk_at "dd"
  refine way (fun h0 => ?_) (fun h0 => ?_)
  · subst h0
    refine s_one (s_raise TE tk ?_)
    walk_at "dd"
    exact q0 rfl
  · obtain ⟨hb, q⟩ := q1 h0
    refine s_nil (s_cons (s_set (i := 2) (d_call Cg ?_)))
    walk_at "dd"
    refine ⟨a, b, rfl, ?_⟩
    refine s_cut (fun δ μ' => δ = [some (.int a), some (.int b), some (.int (rG a b))] ∧ μ' = μ) ?_ ?_
    · refine s_if ?_
      walk_at "dd"
      refine way (fun h1 => ?_) (fun h1 => ?_)
      · refine s_one (s_set (i := 2) ?_)
        walk_at "dd"
        refine ⟨?_, rfl⟩
        unfold rG
        rw [if_pos h1]
        rfl
      · refine s_nil ⟨?_, rfl⟩
        unfold rG
        rw [if_neg h1]
        rfl
    · rintro δ μ' ⟨rfl, rfl⟩
      refine s_one (s_ret ?_)
      walk_at "dd"
      refine o_div ⟨rG_div h0 hb (by decide) (by decide) _, ?_⟩
      walk_at "dd"
      refine o_div ⟨rG_div h0 hb (by decide) (by decide) _, ?_⟩
      walk_at "dd"
      exact ⟨(show 2 ≤ sizeLine by decide), q⟩
/-- two ratios, of bounded numbers, bottoms not 0 -/
def Two (ds : List D) (a b c d : Int) : Prop := ds = [.tup [.int a, .int b], .tup [.int c, .int d]] ∧ b ≠ 0 ∧ d ≠ 0 ∧ a.natAbs < 2 ^ 2000 ∧ b.natAbs < 2 ^ 2000 ∧ c.natAbs < 2 ^ 2000 ∧ d.natAbs < 2 ^ 2000
def spPlus : DSp := fun ds μ Φ _ => ∃ a b c d : Int, Two ds a b c d ∧ Φ (rat (a * d + c * b) (b * d)) μ
def spMinus : DSp := fun ds μ Φ _ => ∃ a b c d : Int, Two ds a b c d ∧ Φ (rat (a * d - c * b) (b * d)) μ
def spTimes : DSp := fun ds μ Φ _ => ∃ a b c d : Int, Two ds a b c d ∧ Φ (rat (a * c) (b * d)) μ
theorem ok_plus {CB : Addr} (Df : DefT K mg "plus" s_plus ["one", "other"]) (Cr : Cal P w K mg base 3 "ratio" (spRatio CB)) : Cal P w K mg base 4 "plus" spPlus := by
  refine Df.cal (k := 3) sc_plus (fun ds μ Φ Ψ ⟨a, b, c, d, ⟨e, _⟩, _⟩ => by rw [e]; rfl) (fun ds μ Φ Ψ h => ⟨fun f cd A outer s H E G0 hr hp tk => ?_⟩)
  have hnd := sc_plus.nd
  have nm0 : (cxD P w K mg base ["one", "other"] "plus" s_plus f cd A outer s H E).N[0]? = some ("one" : Str) ∧ (("one" : Str) == ("__debug__" : Str)) = false ∧ (("one" : Str) == ("__classdict__" : Str)) = false := ⟨rfl, by decide, by decide⟩
  have nm1 : (cxD P w K mg base ["one", "other"] "plus" s_plus f cd A outer s H E).N[1]? = some ("other" : Str) ∧ (("other" : Str) == ("__debug__" : Str)) = false ∧ (("other" : Str) == ("__classdict__" : Str)) = false := ⟨rfl, by decide, by decide⟩
  obtain ⟨a, b, c, d, ⟨rfl, hb0, hd0, ha, hb, hc, hd⟩, q⟩ := h
  refine s_one (s_ret (d_call Cr ?_))
  walk_at "dd"
  refine o_mul ⟨mulOk ha hd (by decide), ?_⟩
  walk_at "dd"
  refine o_mul ⟨mulOk hc hb (by decide), ?_⟩
  walk_at "dd"
  refine o_mul ⟨mulOk hb hd (by decide), ?_⟩
  walk_at "dd"
  exact ⟨_, _, rfl, fun z => absurd z (Int.mul_ne_zero hb0 hd0), fun _ => ⟨na_up (na_mul hb hd) (by decide), q⟩⟩
theorem ok_minus {CB : Addr} (Df : DefT K mg "minus" s_minus ["one", "other"]) (Cr : Cal P w K mg base 3 "ratio" (spRatio CB)) : Cal P w K mg base 4 "minus" spMinus := by
  refine Df.cal (k := 3) sc_minus (fun ds μ Φ Ψ ⟨a, b, c, d, ⟨e, _⟩, _⟩ => by rw [e]; rfl) (fun ds μ Φ Ψ h => ⟨fun f cd A outer s H E G0 hr hp tk => ?_⟩)
  have hnd := sc_minus.nd
  have nm0 : (cxD P w K mg base ["one", "other"] "minus" s_minus f cd A outer s H E).N[0]? = some ("one" : Str) ∧ (("one" : Str) == ("__debug__" : Str)) = false ∧ (("one" : Str) == ("__classdict__" : Str)) = false := ⟨rfl, by decide, by decide⟩
  have nm1 : (cxD P w K mg base ["one", "other"] "minus" s_minus f cd A outer s H E).N[1]? = some ("other" : Str) ∧ (("other" : Str) == ("__debug__" : Str)) = false ∧ (("other" : Str) == ("__classdict__" : Str)) = false := ⟨rfl, by decide, by decide⟩
  obtain ⟨a, b, c, d, ⟨rfl, hb0, hd0, ha, hb, hc, hd⟩, q⟩ := h
  refine s_one (s_ret (d_call Cr ?_))
  walk_at "dd"
  refine o_mul ⟨mulOk ha hd (by decide), ?_⟩
  walk_at "dd"
  refine o_mul ⟨mulOk hc hb (by decide), ?_⟩
  walk_at "dd"
  refine o_mul ⟨mulOk hb hd (by decide), ?_⟩
  walk_at "dd"
  exact ⟨_, _, rfl, fun z => absurd z (Int.mul_ne_zero hb0 hd0), fun _ => ⟨na_up (na_mul hb hd) (by decide), q⟩⟩
theorem ok_times {CB : Addr} (Df : DefT K mg "times" s_times ["one", "other"]) (Cr : Cal P w K mg base 3 "ratio" (spRatio CB)) : Cal P w K mg base 4 "times" spTimes := by
  refine Df.cal (k := 3) sc_times (fun ds μ Φ Ψ ⟨a, b, c, d, ⟨e, _⟩, _⟩ => by rw [e]; rfl) (fun ds μ Φ Ψ h => ⟨fun f cd A outer s H E G0 hr hp tk => ?_⟩)
  have hnd := sc_times.nd
  have nm0 : (cxD P w K mg base ["one", "other"] "times" s_times f cd A outer s H E).N[0]? = some ("one" : Str) ∧ (("one" : Str) == ("__debug__" : Str)) = false ∧ (("one" : Str) == ("__classdict__" : Str)) = false := ⟨rfl, by decide, by decide⟩
  have nm1 : (cxD P w K mg base ["one", "other"] "times" s_times f cd A outer s H E).N[1]? = some ("other" : Str) ∧ (("other" : Str) == ("__debug__" : Str)) = false ∧ (("other" : Str) == ("__classdict__" : Str)) = false := ⟨rfl, by decide, by decide⟩
  obtain ⟨a, b, c, d, ⟨rfl, hb0, hd0, ha, hb, hc, hd⟩, q⟩ := h
  refine s_one (s_ret (d_call Cr ?_))
  walk_at "dd"
  refine o_mul ⟨mulOk ha hc (by decide), ?_⟩
  walk_at "dd"
  refine o_mul ⟨mulOk hb hd (by decide), ?_⟩
  walk_at "dd"
  exact ⟨_, _, rfl, fun z => absurd z (Int.mul_ne_zero hb0 hd0), fun _ => ⟨na_up (na_mul hb hd) (by decide), q⟩⟩
def spCompare : DSp := fun ds μ Φ _ => ∃ a b c d : Int, ds = [.tup [.int a, .int b], .tup [.int c, .int d]] ∧ a.natAbs < 2 ^ 2000 ∧ b.natAbs < 2 ^ 2000 ∧ c.natAbs < 2 ^ 2000 ∧ d.natAbs < 2 ^ 2000 ∧
  Φ (.int (if a * d > c * b then 1 else if a * d < c * b then -1 else 0)) μ
theorem ok_compare (D : DefT K mg "compare" s_compare ["one", "other"]) : Cal P w K mg base 1 "compare" spCompare := by
  refine D.cal (k := 0) sc_compare (fun ds μ Φ Ψ ⟨a, b, c, d, e, _⟩ => by rw [e]; rfl) (fun ds μ Φ Ψ h => ⟨fun f cd A outer s H E G0 hr hp tk => ?_⟩)
  have hnd := sc_compare.nd
  have nm0 : (cxD P w K mg base ["one", "other", "left", "right"] "compare" s_compare f cd A outer s H E).N[0]? = some ("one" : Str) ∧ (("one" : Str) == ("__debug__" : Str)) = false ∧ (("one" : Str) == ("__classdict__" : Str)) = false := ⟨rfl, by decide, by decide⟩
  have nm1 : (cxD P w K mg base ["one", "other", "left", "right"] "compare" s_compare f cd A outer s H E).N[1]? = some ("other" : Str) ∧ (("other" : Str) == ("__debug__" : Str)) = false ∧ (("other" : Str) == ("__classdict__" : Str)) = false := ⟨rfl, by decide, by decide⟩
  have nm2 : (cxD P w K mg base ["one", "other", "left", "right"] "compare" s_compare f cd A outer s H E).N[2]? = some ("left" : Str) ∧ (("left" : Str) == ("__debug__" : Str)) = false ∧ (("left" : Str) == ("__classdict__" : Str)) = false := ⟨rfl, by decide, by decide⟩
  have nm3 : (cxD P w K mg base ["one", "other", "left", "right"] "compare" s_compare f cd A outer s H E).N[3]? = some ("right" : Str) ∧ (("right" : Str) == ("__debug__" : Str)) = false ∧ (("right" : Str) == ("__classdict__" : Str)) = false := ⟨rfl, by decide, by decide⟩
  obtain ⟨a, b, c, d, rfl, ha, hb, hc, hd, q⟩ := h
  refine s_cons (s_set (i := 2) ?_)
  walk_at "dd"
  refine o_mul ⟨wide_mul ha hd (by decide) (by decide) (by decide), ?_⟩
  refine s_cons (s_set (i := 3) ?_)
  walk_at "dd"
  refine o_mul ⟨wide_mul hc hb (by decide) (by decide) (by decide), ?_⟩
  refine s_cons (s_if ?_)
  walk_at "dd"
  refine way (fun h1 => ?_) (fun h1 => ?_)
  · refine s_one (s_ret ?_)
    walk_at "dd"
    rw [if_pos h1] at q
    exact q
  · refine s_nil (s_cons (s_if ?_))
    walk_at "dd"
    refine way (fun h2 => ?_) (fun h2 => ?_)
    · refine s_one (s_ret ?_)
      walk_at "dd"
      rw [if_neg h1, if_pos h2] at q
      exact q
    · refine s_nil (s_one (s_ret ?_))
      walk_at "dd"
      rw [if_neg h1, if_neg h2] at q
      exact q
end
end K11

open PySem PySem.Spec PyProof.Rows L2 DL
namespace K11
section
variable {P : Program} {w : World} {K : PySem.W.Frag} {mg : Str → Option Value} {base : Heap}
theorem ok_pool (Df : DefT K mg "_law_pool" s_law_pool ["_law_script"]) (m_list : mg "list" = none) : Cal P w K mg base 1 "_law_pool" spPool := by
  refine Df.cal (k := 0) sc_law_pool (fun ds μ Φ Ψ ⟨ns, e, _⟩ => by rw [e]; rfl) (fun ds μ Φ Ψ h => ⟨fun f cd A outer s H E G0 hr hp tk => ?_⟩)
  have hnd := sc_law_pool.nd
  have nm0 : (cxD P w K mg base ["_law_script"] "_law_pool" s_law_pool f cd A outer s H E).N[0]? = some ("_law_script" : Str) ∧ (("_law_script" : Str) == ("__debug__" : Str)) = false ∧ (("_law_script" : Str) == ("__classdict__" : Str)) = false := ⟨rfl, by decide, by decide⟩
  have bn_list : (cxD P w K mg base ["_law_script"] "_law_pool" s_law_pool f cd A outer s H E).mg "list" = none := m_list
  obtain ⟨ns, rfl, hl, q⟩ := h
  refine s_one (s_ret (d_lstM ?_))
  walk_at "dd"
  refine c_listS ?_
  walk_at "dd"
  exact ⟨(show 3 ≤ sizeLine by decide), fun p hp => q p _ hp ⟨0, 0, ns, rfl, by omega, by omega, by omega, hl⟩⟩
theorem drawn_at {ns : List Int} {i : Int} (h : 0 ≤ i) : ∃ v : Int, atI (ns.map D.int ++ [.int 0]) (i.fmod (if ((ns.map D.int).length : Int) > 1 then ((ns.map D.int).length : Int) else 1)) = some (.int v) := by
  have hM : 0 < (if ((ns.map D.int).length : Int) > 1 then ((ns.map D.int).length : Int) else 1) := by split <;> omega
  obtain ⟨h1, h2⟩ := fmod_range (i := i) hM
  generalize hr : i.fmod (if ((ns.map D.int).length : Int) > 1 then ((ns.map D.int).length : Int) else 1) = r at h1 h2
  have h3 : r.toNat < (ns ++ [0]).length := by
    rw [List.length_append, List.length_singleton]
    rw [List.length_map] at h2
    split at h2 <;> omega
  have e : ns.map D.int ++ [.int 0] = (ns ++ [0]).map D.int := by rw [List.map_append]; rfl
  obtain ⟨j, rfl⟩ : ∃ j : Nat, r = (j : Int) := ⟨r.toNat, by omega⟩
  rw [Int.toNat_natCast] at h3
  refine ⟨(ns ++ [0])[j], ?_⟩
  rw [e]
  refine atI_nat ?_
  rw [List.getElem?_map, List.getElem?_eq_getElem h3]
  rfl
theorem ok_take (Df : DefT K mg "_law_take" s_law_take ["_law_pool_here", "_law_many"]) (m_int : mg "int" = none) (m_max : mg "max" = none) (m_len : mg "len" = none) : Cal P w K mg base 1 "_law_take" spTake := by
  refine Df.cal (k := 0) sc_law_take (fun ds μ Φ Ψ ⟨p, m, c, n, e, _⟩ => by rw [e]; rfl) (fun ds μ Φ Ψ h => ⟨fun f cd A outer s H E G0 hr hp tk => ?_⟩)
  have hnd := sc_law_take.nd
  have nm0 : (cxD P w K mg base ["_law_pool_here", "_law_many", "_law_at", "_law_drawn", "_law_mixed", "_law_digit"] "_law_take" s_law_take f cd A outer s H E).N[0]? = some ("_law_pool_here" : Str) ∧ (("_law_pool_here" : Str) == ("__debug__" : Str)) = false ∧ (("_law_pool_here" : Str) == ("__classdict__" : Str)) = false := ⟨rfl, by decide, by decide⟩
  have nm1 : (cxD P w K mg base ["_law_pool_here", "_law_many", "_law_at", "_law_drawn", "_law_mixed", "_law_digit"] "_law_take" s_law_take f cd A outer s H E).N[1]? = some ("_law_many" : Str) ∧ (("_law_many" : Str) == ("__debug__" : Str)) = false ∧ (("_law_many" : Str) == ("__classdict__" : Str)) = false := ⟨rfl, by decide, by decide⟩
  have nm2 : (cxD P w K mg base ["_law_pool_here", "_law_many", "_law_at", "_law_drawn", "_law_mixed", "_law_digit"] "_law_take" s_law_take f cd A outer s H E).N[2]? = some ("_law_at" : Str) ∧ (("_law_at" : Str) == ("__debug__" : Str)) = false ∧ (("_law_at" : Str) == ("__classdict__" : Str)) = false := ⟨rfl, by decide, by decide⟩
  have nm3 : (cxD P w K mg base ["_law_pool_here", "_law_many", "_law_at", "_law_drawn", "_law_mixed", "_law_digit"] "_law_take" s_law_take f cd A outer s H E).N[3]? = some ("_law_drawn" : Str) ∧ (("_law_drawn" : Str) == ("__debug__" : Str)) = false ∧ (("_law_drawn" : Str) == ("__classdict__" : Str)) = false := ⟨rfl, by decide, by decide⟩
  have nm4 : (cxD P w K mg base ["_law_pool_here", "_law_many", "_law_at", "_law_drawn", "_law_mixed", "_law_digit"] "_law_take" s_law_take f cd A outer s H E).N[4]? = some ("_law_mixed" : Str) ∧ (("_law_mixed" : Str) == ("__debug__" : Str)) = false ∧ (("_law_mixed" : Str) == ("__classdict__" : Str)) = false := ⟨rfl, by decide, by decide⟩
  have nm5 : (cxD P w K mg base ["_law_pool_here", "_law_many", "_law_at", "_law_drawn", "_law_mixed", "_law_digit"] "_law_take" s_law_take f cd A outer s H E).N[5]? = some ("_law_digit" : Str) ∧ (("_law_digit" : Str) == ("__debug__" : Str)) = false ∧ (("_law_digit" : Str) == ("__classdict__" : Str)) = false := ⟨rfl, by decide, by decide⟩
  have bn_int : (cxD P w K mg base ["_law_pool_here", "_law_many", "_law_at", "_law_drawn", "_law_mixed", "_law_digit"] "_law_take" s_law_take f cd A outer s H E).mg "int" = none := m_int
  have bn_max : (cxD P w K mg base ["_law_pool_here", "_law_many", "_law_at", "_law_drawn", "_law_mixed", "_law_digit"] "_law_take" s_law_take f cd A outer s H E).mg "max" = none := m_max
  have bn_len : (cxD P w K mg base ["_law_pool_here", "_law_many", "_law_at", "_law_drawn", "_law_mixed", "_law_digit"] "_law_take" s_law_take f cd A outer s H E).mg "len" = none := m_len
  obtain ⟨p, m, c, n, rfl, hm0, hm1, hμ, ⟨i, cur, ns, rfl, hi0, hin, hc0, hns⟩, hn, q⟩ := h
  have hm2 : m.natAbs < 2 ^ 200 := na_lt (by omega) hm1
  have hi1 : i.natAbs < 2 ^ 31 := by omega
  refine s_cut (fun δ' μ' => ∃ v2 v3 v4 v5 i' cur', δ' = [some (.ref p), some (.int m), v2, v3, v4, v5] ∧ μ' = updM μ p (.lst [.int i', .int cur', .lst (ns.map .int)]) ∧ 0 ≤ i' ∧ i' ≤ n + 1 ∧ 0 ≤ cur') ?_ ?_
  · refine s_if ?_
    walk_at "dd"
    refine x_mut hμ rfl ?_
    walk_at "dd"
    refine way (fun h0 => ?_) (fun h0 => ?_)
    · refine s_cons (s_set (i := 2) ?_)
      walk_at "dd"
      refine x_mut hμ rfl ?_
      refine s_cons (s_item ?_)
      walk_at "dd"
      refine ⟨p, 0, _, 0, rfl, rfl, hμ, rfl, ?_⟩
      refine s_cons (s_set (i := 3) ?_)
      walk_at "dd"
      refine x_mut updM_same rfl ?_
      refine d_lst ?_
      walk_at "dd"
      refine ⟨by decide, o_cat ⟨by rw [List.length_map]; show ns.length + 1 ≤ sizeLine; rw [sizeLine_eq]; omega, ?_⟩⟩
      walk_at "dd"
      refine x_mut updM_same rfl ?_
      walk_at "dd"
      refine o_mod ⟨?_, ?_⟩
      · split <;> omega
      obtain ⟨v, hv⟩ := drawn_at (ns := ns) hi0
      refine x_lst hv ?_
      refine s_cons (s_set (i := 4) ?_)
      walk_at "dd"
      refine o_mod ⟨by decide, ?_⟩
      walk_at "dd"
      refine o_mul ⟨mulOk (a := 13) (b := 31) (by decide) hi1 (by decide), ?_⟩
      walk_at "dd"
      have r1 := fmod_range (i := v) (j := 2147483647) (by decide)
      refine o_pow ⟨⟨by decide, by decide, by omega⟩, ?_⟩
      walk_at "dd"
      refine o_mod ⟨by decide, ?_⟩
      have r2 := fmod_range (i := (v.fmod 2147483647 + 7919 * i + 13) ^ (5 : Int).toNat) (j := 2147483647) (by decide)
      generalize (v.fmod 2147483647 + 7919 * i + 13) ^ (5 : Int).toNat = y at r2 ⊢
      refine s_cons (s_set (i := 4) ?_)
      walk_at "dd"
      refine o_mul ⟨mulOk (a := 17) (b := 31) (by decide) hi1 (by decide), ?_⟩
      walk_at "dd"
      refine o_pow ⟨⟨by decide, by decide, by omega⟩, ?_⟩
      walk_at "dd"
      refine o_mod ⟨by decide, ?_⟩
      generalize (y.fmod 2147483647 + 104729 * i + 29) ^ (3 : Int).toNat = z
      refine s_cons (s_if ?_)
      walk_at "dd"
      refine o_pow ⟨⟨by decide, by decide, by decide⟩, ?_⟩
      walk_at "dd"
      refine way (fun h1 => ?_) (fun h1 => ?_)
      · refine s_one (s_ret ?_)
        walk_at "dd"
        refine o_div ⟨⟨by decide, by decide⟩, ?_⟩
        walk_at "dd"
        refine o_mod ⟨by omega, ?_⟩
        have r3 := fmod_range (i := (z.fmod 2147483629).fdiv 11) hm0
        exact q _ _ r3.1 r3.2 ⟨i + 1, cur, ns, rfl, by omega, by omega, hc0, hns⟩
      · refine s_nil (s_one (s_item ?_))
        walk_at "dd"
        refine ⟨p, 1, _, 1, rfl, rfl, updM_same, rfl, ⟨_, _, _, _, i + 1, v, rfl, ?_, by omega, by omega, ?_⟩⟩
        · rw [updM_upd]
          rfl
        · have e18 : (10 : Int) ^ (18 : Int).toNat = 1000000000000000000 := by decide
          rw [e18] at h1
          omega
    · refine s_nil ⟨none, none, none, none, i, cur, rfl, ?_, hi0, by omega, hc0⟩
      funext a
      unfold updM
      split
      · rename_i e
        rw [e, hμ]
      · rfl
  · rintro δ' μ' ⟨v2, v3, v4, v5, i', cur', rfl, rfl, g1, g2, g3⟩
    refine s_cons (s_set (i := 5) ?_)
    walk_at "dd"
    refine x_mut updM_same rfl ?_
    walk_at "dd"
    refine o_mod ⟨by omega, ?_⟩
    have r3 := fmod_range (i := cur') hm0
    refine s_cons (s_item ?_)
    walk_at "dd"
    refine x_mut updM_same rfl ?_
    walk_at "dd"
    refine o_div ⟨divOk (by omega) hm2 (by decide), ?_⟩
    walk_at "dd"
    refine ⟨p, 1, _, 1, rfl, rfl, updM_same, rfl, ?_⟩
    refine s_one (s_ret ?_)
    walk_at "dd"
    rw [updM_upd]
    refine q _ _ r3.1 r3.2 ⟨i', cur'.fdiv m, ns, rfl, g1, by omega, ?_, hns⟩
    rw [Int.fdiv_eq_ediv_of_nonneg _ (Int.le_of_lt hm0)]
    exact Int.ediv_nonneg g3 (Int.le_of_lt hm0)
end
end K11

open PySem PySem.Spec PyProof.Rows L2 DL
namespace K11
section
variable {P : Program} {w : World} {K : PySem.W.Frag} {mg : Str → Option Value} {base : Heap}
/-- the greatest common divisor of some integers; each divided by it -/
def gcdL (ns : List Int) : Int := ns.foldl (fun g n => (Int.gcd g n : Int)) 0
def low (ns : List Int) : List Int := if gcdL ns = 0 then ns else ns.map fun n => n.fdiv (gcdL ns)
theorem gcdL_snoc (ns : List Int) (n : Int) : gcdL (ns ++ [n]) = (Int.gcd (gcdL ns) n : Int) := by
  unfold gcdL
  rw [List.foldl_append]
  rfl
theorem gcdL_take {ns : List Int} {i : Nat} {n : Int} (h : ns[i]? = some n) : gcdL (ns.take (i + 1)) = (Int.gcd (gcdL (ns.take i)) n : Int) := by
  rw [List.take_add_one, h]
  exact gcdL_snoc _ _
theorem snoc_ind {α : Type} {p : List α → Prop} (h0 : p []) (hs : ∀ l x, p l → p (l ++ [x])) : ∀ l, p l := fun l => by
  have : ∀ n (l : List α), l.length = n → p l := by
    intro n
    induction n with
    | zero =>
      intro l hl
      rw [List.length_eq_zero_iff.mp hl]
      exact h0
    | succ n ih =>
      intro l hl
      have hne : l ≠ [] := by
        intro z
        rw [z] at hl
        cases hl
      rw [← List.dropLast_concat_getLast hne]
      refine hs _ _ (ih _ ?_)
      rw [List.length_dropLast, hl]
      rfl
  exact this _ l rfl
theorem gcdL_nn (ns : List Int) : 0 ≤ gcdL ns := by
  refine snoc_ind (p := fun ns => 0 ≤ gcdL ns) (by decide) (fun l x _ => ?_) ns
  rw [gcdL_snoc]
  omega
theorem gcdL_dvd (ns : List Int) : ∀ n ∈ ns, gcdL ns ∣ n := by
  refine snoc_ind (p := fun ns => ∀ n ∈ ns, gcdL ns ∣ n) (fun n h => by cases h) (fun l x ih n hn => ?_) ns
  rw [gcdL_snoc]
  rcases List.mem_append.mp hn with h | h
  · exact Int.dvd_trans (Int.gcd_dvd_left _ _) (ih n h)
  · rw [List.mem_singleton.mp h]
    exact Int.gcd_dvd_right _ _
theorem gcdL_zero (ns : List Int) : (∀ n ∈ ns, n = 0) → gcdL ns = 0 := by
  refine snoc_ind (p := fun ns => (∀ n ∈ ns, n = 0) → gcdL ns = 0) (fun _ => rfl) (fun l x ih h => ?_) ns
  rw [gcdL_snoc, ih fun n hn => h n (List.mem_append_left _ hn), h x (by simp)]
  rfl
theorem gcdL_small {ns : List Int} (h : gcdL ns ≠ 0) {b : Nat} (hb : ∀ n ∈ ns, n.natAbs < 2 ^ b) : (gcdL ns).natAbs < 2 ^ b := by
  have : ∃ n ∈ ns, n ≠ 0 := by
    refine Classical.byContradiction fun z => h (gcdL_zero ns fun n hn => ?_)
    exact Classical.byContradiction fun q => z ⟨n, hn, q⟩
  obtain ⟨n, hn, hn0⟩ := this
  refine Nat.lt_of_le_of_lt ?_ (hb n hn)
  exact Nat.le_of_dvd (by omega) (Int.natAbs_dvd_natAbs.mpr (gcdL_dvd ns n hn))
theorem at_ints {ns : List Int} {i : Nat} {d : D} (h : (ns.map D.int)[i]? = some d) : ∃ n, ns[i]? = some n ∧ d = .int n := by
  rw [List.getElem?_map] at h
  cases e : ns[i]? with
  | none => rw [e] at h; cases h
  | some n => rw [e] at h; cases h; exact ⟨n, rfl, rfl⟩
def spLowest : DSp := fun ds μ Φ _ => ∃ ns : List Int, (ds = [.lst (ns.map .int)] ∨ ds = [.tup (ns.map .int)]) ∧ (∀ n ∈ ns, n.natAbs < 2 ^ 8000) ∧ ns.length ≤ 1000 ∧ ∀ p, μ p = none → Φ (.ref p) (updM μ p (.lst ((low ns).map .int)))
theorem ok_lowest (Df : DefT K mg "lowest" s_lowest ["numbers"]) (Cg : Cal P w K mg base 1 "common_divisor" spGcd) (m_list : mg "list" = none) : Cal P w K mg base 2 "lowest" spLowest := by
  refine Df.cal (k := 1) sc_lowest (fun ds μ Φ Ψ ⟨ns, e, _⟩ => by rcases e with e | e <;> rw [e] <;> rfl) (fun ds μ Φ Ψ h => ⟨fun f cd A outer s H E G0 hr hp tk => ?_⟩)
  have hnd := sc_lowest.nd
  have nm0 : (cxD P w K mg base ["numbers", "divisor", "number"] "lowest" s_lowest f cd A outer s H E).N[0]? = some ("numbers" : Str) ∧ (("numbers" : Str) == ("__debug__" : Str)) = false ∧ (("numbers" : Str) == ("__classdict__" : Str)) = false := ⟨rfl, by decide, by decide⟩
  have nm1 : (cxD P w K mg base ["numbers", "divisor", "number"] "lowest" s_lowest f cd A outer s H E).N[1]? = some ("divisor" : Str) ∧ (("divisor" : Str) == ("__debug__" : Str)) = false ∧ (("divisor" : Str) == ("__classdict__" : Str)) = false := ⟨rfl, by decide, by decide⟩
  have nm2 : (cxD P w K mg base ["numbers", "divisor", "number"] "lowest" s_lowest f cd A outer s H E).N[2]? = some ("number" : Str) ∧ (("number" : Str) == ("__debug__" : Str)) = false ∧ (("number" : Str) == ("__classdict__" : Str)) = false := ⟨rfl, by decide, by decide⟩
  have bn_list : (cxD P w K mg base ["numbers", "divisor", "number"] "lowest" s_lowest f cd A outer s H E).mg "list" = none := m_list
  obtain ⟨ns, e, hb, hl, q⟩ := h
  rcases e with rfl | rfl
  · refine s_cons (s_set (i := 1) ?_)
    walk_at "dd"
    refine s_cut (fun δ μ' => ∃ v, δ = [some (.lst (ns.map .int)), some (.int (gcdL ns)), v] ∧ μ' = μ) ?_ ?_
    · refine s_forL (ds := ns.map .int) ?_
      walk_at "dd"
      refine ⟨rfl, fun i δ μ' => ∃ v, δ = [some (.lst (ns.map .int)), some (.int (gcdL (ns.take i))), v] ∧ μ' = μ, ⟨none, rfl, rfl⟩, ?_, ?_⟩
      · rintro i d δ' μ' hd ⟨v, rfl, rfl⟩
        obtain ⟨n, hn, rfl⟩ := at_ints hd
        refine g_name (i := 2) fun G1 e1 => s_one (s_set (i := 1) (d_call Cg ?_))
        walk_at "dd"
        refine ⟨_, _, rfl, some (.int n), ?_, rfl⟩
        rw [gcdL_take hn]
        rfl
      · rintro δ' μ' ⟨v, rfl, rfl⟩
        refine ⟨v, ?_, rfl⟩
        rw [List.length_map, List.take_length]
    · rintro δ' μ' ⟨v, rfl, rfl⟩
      refine s_cons (s_if ?_)
      walk_at "dd"
      refine way (fun h0 => ?_) (fun h0 => ?_)
      · refine s_one (s_ret ?_)
        walk_at "dd"
        refine c_listLN fun p hp => ?_
        have z := q p hp
        unfold low at z
        rw [if_pos h0] at z
        exact z
      · refine s_nil (s_one (s_ret (d_lcL (own := [("number", 2)]) (vs := [2]) 2 ?_)))
        walk_at "dd"
        refine ⟨_, rfl, fun i acc μ2 => acc = ((ns.take i).map fun n => n.fdiv (gcdL ns)).map .int ∧ μ2 = μ', ⟨rfl, rfl⟩, ?_, ?_⟩
        · rintro i d acc μ2 p hd ⟨rfl, rfl⟩ hp
          obtain ⟨n, hn, rfl⟩ := at_ints hd
          refine ⟨?_, fun G1 s H0 C cl fp => ?_⟩
          · rw [List.length_map, List.length_map, List.length_take, sizeLine_eq]
            omega
          · walk_at "dd"
            refine o_div ⟨divOk h0 (gcdL_small h0 hb) (by decide), ?_⟩
            refine ⟨μ2, rfl, hp, ?_, rfl⟩
            rw [List.take_add_one, hn, List.map_append, List.map_append]
            rfl
        · rintro acc μ2 p ⟨rfl, rfl⟩ hp
          rw [List.length_map, List.take_length]
          have z := q p hp
          unfold low at z
          rw [if_neg h0] at z
          exact z
  · refine s_cons (s_set (i := 1) ?_)
    walk_at "dd"
    refine s_cut (fun δ μ' => ∃ v, δ = [some (.tup (ns.map .int)), some (.int (gcdL ns)), v] ∧ μ' = μ) ?_ ?_
    · refine s_forT (ds := ns.map .int) ?_
      walk_at "dd"
      refine ⟨rfl, fun i δ μ' => ∃ v, δ = [some (.tup (ns.map .int)), some (.int (gcdL (ns.take i))), v] ∧ μ' = μ, ⟨none, rfl, rfl⟩, ?_, ?_⟩
      · rintro i d δ' μ' hd ⟨v, rfl, rfl⟩
        obtain ⟨n, hn, rfl⟩ := at_ints hd
        refine g_name (i := 2) fun G1 e1 => s_one (s_set (i := 1) (d_call Cg ?_))
        walk_at "dd"
        refine ⟨_, _, rfl, some (.int n), ?_, rfl⟩
        rw [gcdL_take hn]
        rfl
      · rintro δ' μ' ⟨v, rfl, rfl⟩
        refine ⟨v, ?_, rfl⟩
        rw [List.length_map, List.take_length]
    · rintro δ' μ' ⟨v, rfl, rfl⟩
      refine s_cons (s_if ?_)
      walk_at "dd"
      refine way (fun h0 => ?_) (fun h0 => ?_)
      · refine s_one (s_ret ?_)
        walk_at "dd"
        refine c_listTN fun p hp => ?_
        have z := q p hp
        unfold low at z
        rw [if_pos h0] at z
        exact z
      · refine s_nil (s_one (s_ret (d_lcT (own := [("number", 2)]) (vs := [2]) 2 ?_)))
        walk_at "dd"
        refine ⟨_, rfl, fun i acc μ2 => acc = ((ns.take i).map fun n => n.fdiv (gcdL ns)).map .int ∧ μ2 = μ', ⟨rfl, rfl⟩, ?_, ?_⟩
        · rintro i d acc μ2 p hd ⟨rfl, rfl⟩ hp
          obtain ⟨n, hn, rfl⟩ := at_ints hd
          refine ⟨?_, fun G1 s H0 C cl fp => ?_⟩
          · rw [List.length_map, List.length_map, List.length_take, sizeLine_eq]
            omega
          · walk_at "dd"
            refine o_div ⟨divOk h0 (gcdL_small h0 hb) (by decide), ?_⟩
            refine ⟨μ2, rfl, hp, ?_, rfl⟩
            rw [List.take_add_one, hn, List.map_append, List.map_append]
            rfl
        · rintro acc μ2 p ⟨rfl, rfl⟩ hp
          rw [List.length_map, List.take_length]
          have z := q p hp
          unfold low at z
          rw [if_neg h0] at z
          exact z
end
end K11

open PySem PySem.Spec PyProof.Rows L2 DL
namespace K11
section
variable {P : Program} {w : World} {K : PySem.W.Frag} {mg : Str → Option Value} {base : Heap}
def spDiv : DSp := fun ds μ Φ _ => ∃ ns : List Int, ds = [.lst (ns.map .int)] ∧ Φ (.int (gcdL ns)) μ
theorem ok_divisor (Df : DefT K mg "_law_divisor" s_law_divisor ["_law_numbers"]) (m_int : mg "int" = none) (m_abs : mg "abs" = none) : Cal P w K mg base 1 "_law_divisor" spDiv := by
  refine Df.cal (k := 0) sc_law_divisor (fun ds μ Φ Ψ ⟨ns, e, _⟩ => by rw [e]; rfl) (fun ds μ Φ Ψ h => ⟨fun f cd A outer s H E G0 hr hp tk => ?_⟩)
  have hnd := sc_law_divisor.nd
  have nm0 : (cxD P w K mg base ["_law_numbers", "_law_found", "_law_number", "_law_one", "_law_other"] "_law_divisor" s_law_divisor f cd A outer s H E).N[0]? = some ("_law_numbers" : Str) ∧ (("_law_numbers" : Str) == ("__debug__" : Str)) = false ∧ (("_law_numbers" : Str) == ("__classdict__" : Str)) = false := ⟨rfl, by decide, by decide⟩
  have nm1 : (cxD P w K mg base ["_law_numbers", "_law_found", "_law_number", "_law_one", "_law_other"] "_law_divisor" s_law_divisor f cd A outer s H E).N[1]? = some ("_law_found" : Str) ∧ (("_law_found" : Str) == ("__debug__" : Str)) = false ∧ (("_law_found" : Str) == ("__classdict__" : Str)) = false := ⟨rfl, by decide, by decide⟩
  have nm2 : (cxD P w K mg base ["_law_numbers", "_law_found", "_law_number", "_law_one", "_law_other"] "_law_divisor" s_law_divisor f cd A outer s H E).N[2]? = some ("_law_number" : Str) ∧ (("_law_number" : Str) == ("__debug__" : Str)) = false ∧ (("_law_number" : Str) == ("__classdict__" : Str)) = false := ⟨rfl, by decide, by decide⟩
  have nm3 : (cxD P w K mg base ["_law_numbers", "_law_found", "_law_number", "_law_one", "_law_other"] "_law_divisor" s_law_divisor f cd A outer s H E).N[3]? = some ("_law_one" : Str) ∧ (("_law_one" : Str) == ("__debug__" : Str)) = false ∧ (("_law_one" : Str) == ("__classdict__" : Str)) = false := ⟨rfl, by decide, by decide⟩
  have nm4 : (cxD P w K mg base ["_law_numbers", "_law_found", "_law_number", "_law_one", "_law_other"] "_law_divisor" s_law_divisor f cd A outer s H E).N[4]? = some ("_law_other" : Str) ∧ (("_law_other" : Str) == ("__debug__" : Str)) = false ∧ (("_law_other" : Str) == ("__classdict__" : Str)) = false := ⟨rfl, by decide, by decide⟩
  have bn_abs : (cxD P w K mg base ["_law_numbers", "_law_found", "_law_number", "_law_one", "_law_other"] "_law_divisor" s_law_divisor f cd A outer s H E).mg "abs" = none := m_abs
  have bn_int : (cxD P w K mg base ["_law_numbers", "_law_found", "_law_number", "_law_one", "_law_other"] "_law_divisor" s_law_divisor f cd A outer s H E).mg "int" = none := m_int
  obtain ⟨ns, rfl, q⟩ := h
  refine s_cons (s_set (i := 1) ?_)
  walk_at "dd"
  refine s_cut (fun δ μ' => ∃ v2 v3 v4, δ = [some (.lst (ns.map .int)), some (.int (gcdL ns)), v2, v3, v4] ∧ μ' = μ) ?_ ?_
  · refine s_forL (ds := ns.map .int) ?_
    walk_at "dd"
    refine ⟨rfl, fun i δ μ' => ∃ v2 v3 v4, δ = [some (.lst (ns.map .int)), some (.int (gcdL (ns.take i))), v2, v3, v4] ∧ μ' = μ, ⟨none, none, none, rfl, rfl⟩, ?_, ?_⟩
    · rintro i d δ' μ' hd ⟨v2, v3, v4, rfl, rfl⟩
      obtain ⟨n, hn, rfl⟩ := at_ints hd
      refine g_name (i := 2) fun G1 e1 => s_cons (s_set (i := 3) ?_)
      walk_at "dd"
      refine s_cons (s_set (i := 4) ?_)
      walk_at "dd"
      have hg0 := gcdL_nn (ns.take i)
      generalize hg : gcdL (ns.take i) = g at hg0 ⊢
      refine s_cut (fun δ μ2 => δ = [some (.lst (ns.map .int)), some (.int g), some (.int n), some (.int (Int.gcd g n : Int)), some (.int 0)] ∧ μ2 = μ') ?_ ?_
      · refine s_while (fun δ μ2 => ∃ x y : Int, δ = [some (.lst (ns.map .int)), some (.int g), some (.int n), some (.int x), some (.int y)] ∧ μ2 = μ' ∧ 0 ≤ x ∧ 0 ≤ y ∧ Int.gcd x y = Int.gcd g n)
          (fun δ _ => match δ with | [_, _, _, _, some (.int y)] => y.natAbs | _ => 0) ⟨_, g, rfl, rfl, ?_, hg0, ?_⟩ ?_
        · split <;> omega
        · have e : Int.gcd (if n < 0 then -n else n) g = Int.gcd n g := by
            split
            · rw [Int.neg_gcd]
            · rfl
          rw [e, Int.gcd_comm]
        · rintro δ' μ2 ⟨x, y, rfl, rfl, hx, hy, hxy⟩
          walk_at "dd"
          refine wayN (fun h0 => ?_) (fun h0 => ?_)
          · refine s_one (s_par (i := 3) (j := 4) ?_)
            walk_at "dd"
            refine o_mod ⟨h0, ?_⟩
            walk_at "dd"
            have r := fmod_range (i := x) (j := y) (by omega)
            exact ⟨_, _, rfl, ⟨y, x.fmod y, rfl, rfl, hy, r.1, (gcd_fmod x y).trans hxy⟩, fmod_natAbs x y h0⟩
          · subst h0
            refine ⟨?_, rfl⟩
            have e : (Int.gcd g n : Int) = x := by
              rw [← hxy, Int.gcd_zero_right]
              omega
            rw [e]
      · rintro δ' μ2 ⟨rfl, rfl⟩
        refine s_one (s_set (i := 1) ?_)
        walk_at "dd"
        refine ⟨some (.int n), some (.int (Int.gcd g n : Int)), some (.int 0), ?_, rfl⟩
        rw [gcdL_take hn, hg]
        rfl
    · rintro δ' μ' ⟨v2, v3, v4, rfl, rfl⟩
      refine ⟨v2, v3, v4, ?_, rfl⟩
      rw [List.length_map, List.take_length]
  · rintro δ' μ' ⟨v2, v3, v4, rfl, rfl⟩
    refine s_one (s_ret ?_)
    walk_at "dd"
    exact q
theorem gcdL_two (a b : Int) : gcdL [a, b] = (Int.gcd a b : Int) := by
  show (Int.gcd (Int.gcd 0 a : Int) b : Int) = _
  rw [Int.gcd_zero_left]
  have e : Int.gcd ((a.natAbs : Nat) : Int) b = Int.gcd a b := by
    rcases Int.natAbs_eq a with h | h
    · rw [← h]
    · rw [h, Int.natAbs_neg, Int.natAbs_natCast, Int.neg_gcd]
  rw [e]
def spLRatio : DSp := fun ds μ Φ _ => ∃ a b : Int, ds = [.int a, .int b] ∧ b ≠ 0 ∧ b.natAbs < 2 ^ 8000 ∧ Φ (rat a b) μ
theorem ok_lratio (Df : DefT K mg "_law_ratio" s_law_ratio ["_law_up", "_law_down"]) (Cd : Cal P w K mg base 1 "_law_divisor" spDiv) : Cal P w K mg base 2 "_law_ratio" spLRatio := by
  refine Df.cal (k := 1) sc_law_ratio (fun ds μ Φ Ψ ⟨a, b, e, _⟩ => by rw [e]; rfl) (fun ds μ Φ Ψ h => ⟨fun f cd A outer s H E G0 hr hp tk => ?_⟩)
  have hnd := sc_law_ratio.nd
  have nm0 : (cxD P w K mg base ["_law_up", "_law_down", "_law_piece"] "_law_ratio" s_law_ratio f cd A outer s H E).N[0]? = some ("_law_up" : Str) ∧ (("_law_up" : Str) == ("__debug__" : Str)) = false ∧ (("_law_up" : Str) == ("__classdict__" : Str)) = false := ⟨rfl, by decide, by decide⟩
  have nm1 : (cxD P w K mg base ["_law_up", "_law_down", "_law_piece"] "_law_ratio" s_law_ratio f cd A outer s H E).N[1]? = some ("_law_down" : Str) ∧ (("_law_down" : Str) == ("__debug__" : Str)) = false ∧ (("_law_down" : Str) == ("__classdict__" : Str)) = false := ⟨rfl, by decide, by decide⟩
  have nm2 : (cxD P w K mg base ["_law_up", "_law_down", "_law_piece"] "_law_ratio" s_law_ratio f cd A outer s H E).N[2]? = some ("_law_piece" : Str) ∧ (("_law_piece" : Str) == ("__debug__" : Str)) = false ∧ (("_law_piece" : Str) == ("__classdict__" : Str)) = false := ⟨rfl, by decide, by decide⟩
  obtain ⟨a, b, rfl, hb0, hb, q⟩ := h
  refine s_cons (s_set (i := 2) (d_call Cd ?_))
  walk_at "dd"
  refine d_lst ?_
  walk_at "dd"
  refine ⟨(show 2 ≤ sizeLine by decide), ?_⟩
  walk_at "dd"
  refine ⟨[a, b], rfl, ?_⟩
  rw [gcdL_two]
  refine s_cut (fun δ μ' => δ = [some (.int a), some (.int b), some (.int (rG a b))] ∧ μ' = μ) ?_ ?_
  · refine s_if ?_
    walk_at "dd"
    refine way (fun h1 => ?_) (fun h1 => ?_)
    · refine s_one (s_set (i := 2) ?_)
      walk_at "dd"
      refine ⟨?_, rfl⟩
      unfold rG
      rw [if_pos h1]
      rfl
    · refine s_nil ⟨?_, rfl⟩
      unfold rG
      rw [if_neg h1]
      rfl
  · rintro δ μ' ⟨rfl, rfl⟩
    refine s_one (s_ret ?_)
    walk_at "dd"
    refine o_div ⟨rG_div hb0 hb (by decide) (by decide) _, ?_⟩
    walk_at "dd"
    refine o_div ⟨rG_div hb0 hb (by decide) (by decide) _, ?_⟩
    walk_at "dd"
    exact ⟨(show 2 ≤ sizeLine by decide), q⟩
def spNum : DSp := fun ds μ Φ _ => ∃ a : Int, ds = [.int a] ∧ Φ (.bl true) μ
theorem ok_num (Df : DefT K mg "_law_is_number" s_law_is_number ["_law_thing"]) (m_isinstance : mg "isinstance" = none) (m_int : mg "int" = none) (m_bool : mg "bool" = none) : Cal P w K mg base 1 "_law_is_number" spNum := by
  refine Df.cal (k := 0) sc_law_is_number (fun ds μ Φ Ψ ⟨a, e, _⟩ => by rw [e]; rfl) (fun ds μ Φ Ψ h => ⟨fun f cd A outer s H E G0 hr hp tk => ?_⟩)
  have hnd := sc_law_is_number.nd
  have nm0 : (cxD P w K mg base ["_law_thing"] "_law_is_number" s_law_is_number f cd A outer s H E).N[0]? = some ("_law_thing" : Str) ∧ (("_law_thing" : Str) == ("__debug__" : Str)) = false ∧ (("_law_thing" : Str) == ("__classdict__" : Str)) = false := ⟨rfl, by decide, by decide⟩
  have bn_isinstance : (cxD P w K mg base ["_law_thing"] "_law_is_number" s_law_is_number f cd A outer s H E).mg "isinstance" = none := m_isinstance
  have bn_int : (cxD P w K mg base ["_law_thing"] "_law_is_number" s_law_is_number f cd A outer s H E).mg "int" = none := m_int
  have bn_bool : (cxD P w K mg base ["_law_thing"] "_law_is_number" s_law_is_number f cd A outer s H E).mg "bool" = none := m_bool
  obtain ⟨a, rfl, q⟩ := h
  refine s_one (s_ret (d_and ?_))
  walk_at "dd"
  refine c_isi (k := true) (bl_ex (wayT (d_one (d_not ?_))))
  walk_at "dd"
  refine c_isi (k := false) (bl_ex ?_)
  exact q
theorem ok_numH (Df : DefT K mg "_law_is_number" s_law_is_number ["_law_thing"]) (m_isinstance : mg "isinstance" = none) (m_int : mg "int" = none) (m_bool : mg "bool" = none) : CalH P w K mg base 1 "_law_is_number" spNum := by
  refine Df.calH (k := 0) sc_law_is_number (fun ds μ Φ Ψ ⟨a, e, _⟩ => by rw [e]; rfl) (fun ds μ Φ Ψ h f cd A outer s H E hot G0 hr => ?_)
  have hnd := sc_law_is_number.nd
  have nm0 : (cxDH P w K mg base ["_law_thing"] "_law_is_number" s_law_is_number f cd A outer s H E hot).N[0]? = some ("_law_thing" : Str) ∧ (("_law_thing" : Str) == ("__debug__" : Str)) = false ∧ (("_law_thing" : Str) == ("__classdict__" : Str)) = false := ⟨rfl, by decide, by decide⟩
  have bn_isinstance : (cxDH P w K mg base ["_law_thing"] "_law_is_number" s_law_is_number f cd A outer s H E hot).mg "isinstance" = none := m_isinstance
  have bn_int : (cxDH P w K mg base ["_law_thing"] "_law_is_number" s_law_is_number f cd A outer s H E hot).mg "int" = none := m_int
  have bn_bool : (cxDH P w K mg base ["_law_thing"] "_law_is_number" s_law_is_number f cd A outer s H E hot).mg "bool" = none := m_bool
  obtain ⟨a, rfl, q⟩ := h
  refine s_one (s_ret (d_and ?_))
  walk_at "dd"
  refine c_isi (k := true) (bl_ex (wayT (d_one (d_not ?_))))
  walk_at "dd"
  refine c_isi (k := false) (bl_ex ?_)
  exact q
end
end K11

open PySem PySem.Spec PyProof.Rows L2 DL
namespace K11
section
variable {P : Program} {w : World} {K : PySem.W.Frag} {mg : Str → Option Value} {base : Heap}
/-! lowest terms -/
theorem rG_dvdL (a b : Int) : rG a b ∣ a := by
  unfold rG
  split
  · exact Int.neg_dvd.mpr (Int.gcd_dvd_left a b)
  · exact Int.gcd_dvd_left a b
theorem rG_dvdR (a b : Int) : rG a b ∣ b := by
  unfold rG
  split
  · exact Int.neg_dvd.mpr (Int.gcd_dvd_right a b)
  · exact Int.gcd_dvd_right a b
theorem rT_mul (a b : Int) : rT a b * rG a b = a := by
  unfold rT
  rw [Int.fdiv_eq_ediv_of_dvd (rG_dvdL a b)]
  exact Int.ediv_mul_cancel (rG_dvdL a b)
theorem rB_mul (a b : Int) : rB a b * rG a b = b := by
  unfold rB
  rw [Int.fdiv_eq_ediv_of_dvd (rG_dvdR a b)]
  exact Int.ediv_mul_cancel (rG_dvdR a b)
theorem rG_pos {a b : Int} (h : 0 < b) : 0 < rG a b := by
  have := rG_ne (a := a) (b := b) (by omega)
  unfold rG at this ⊢
  rw [if_neg (by omega)] at this ⊢
  omega
theorem rG_neg {a b : Int} (h : b < 0) : rG a b < 0 := by
  have := rG_ne (a := a) (b := b) (by omega)
  unfold rG at this ⊢
  rw [if_pos h] at this ⊢
  omega
theorem rB_pos {a b : Int} (h : b ≠ 0) : 0 < rB a b := by
  have e := rB_mul a b
  rcases Int.lt_or_gt_of_ne h with h | h
  · have g := rG_neg (a := a) h
    refine Classical.byContradiction fun z => ?_
    have := Int.mul_nonneg_of_nonpos_of_nonpos (show rB a b ≤ 0 by omega) (show rG a b ≤ 0 by omega)
    omega
  · have g := rG_pos (a := a) h
    refine Classical.byContradiction fun z => ?_
    have := Int.mul_nonpos_of_nonpos_of_nonneg (show rB a b ≤ 0 by omega) (show 0 ≤ rG a b by omega)
    omega
theorem abs_of_mul {x g y : Int} (e : x * g = y) (h : g ≠ 0) : x.natAbs ≤ y.natAbs := by
  rw [← e, Int.natAbs_mul]
  exact Nat.le_mul_of_pos_right _ (by omega)
theorem rT_abs {a b : Int} (h : b ≠ 0) : (rT a b).natAbs ≤ a.natAbs := abs_of_mul (rT_mul a b) (rG_ne h)
theorem rB_abs {a b : Int} (h : b ≠ 0) : (rB a b).natAbs ≤ b.natAbs := abs_of_mul (rB_mul a b) (rG_ne h)
/-- equal data -/
theorem o_same {X : Cx} {μ : Mu} {Φ : DK} {x y : D} {p : PyData} (hu : X.A.units + 64 < cLine) (hx : Py μ x p) (hy : Py μ y p) (c : p.canLay0 = true) (d : p.depth ≤ 64) (k : Φ (.bl true) μ) : dOp X (compareOp .Eq) x y μ Φ := by
  have s : SeqAt.shaped p = true := Bool.and_eq_true_iff.mpr ⟨c, decide_eq_true d⟩
  refine o_eqD hu hx hy s s ?_
  rw [SeqAt.eqv_refl p c]
  exact k
theorem o_sameN {X : Cx} {μ : Mu} {Φ : DK} {x y : D} {p : PyData} (hu : X.A.units + 64 < cLine) (hx : Py μ x p) (hy : Py μ y p) (c : p.canLay0 = true) (d : p.depth ≤ 64) (k : Φ (.bl false) μ) : dOp X (compareOp .NotEq) x y μ Φ := by
  have s : SeqAt.shaped p = true := Bool.and_eq_true_iff.mpr ⟨c, decide_eq_true d⟩
  refine o_neD hu hx hy s s ?_
  rw [SeqAt.eqv_refl p c]
  exact k
theorem py_two {μ : Mu} (a b : Int) : Py μ (.tup [.int a, .int b]) (.tuple [.int a, .int b]) := .tup (.cons (.int a) (.cons (.int b) .nil))
/-! the law's own defs -/
def spInt : DSp := fun ds μ Φ _ => ∃ (p : Addr) (c : D) (n : Nat), ds = [.ref p] ∧ μ p = some c ∧ Pool n c ∧ n + 2 < 2 ^ 30 ∧ ∀ z c', z.natAbs < 2 ^ 100 → Pool (n + 2) c' → Φ (.int z) (updM μ p c')
theorem ok_integer (Df : DefT K mg "_law_integer" s_law_integer ["_law_pool_here"]) (Ct : Cal P w K mg base 1 "_law_take" spTake) : Cal P w K mg base 2 "_law_integer" spInt := by
  refine Df.cal (k := 1) sc_law_integer (fun ds μ Φ Ψ ⟨p, c, n, e, _⟩ => by rw [e]; rfl) (fun ds μ Φ Ψ h => ⟨fun f cd A outer s H E G0 hr hp tk => ?_⟩)
  have hnd := sc_law_integer.nd
  have nm0 : (cxD P w K mg base ["_law_pool_here", "_law_size"] "_law_integer" s_law_integer f cd A outer s H E).N[0]? = some ("_law_pool_here" : Str) ∧ (("_law_pool_here" : Str) == ("__debug__" : Str)) = false ∧ (("_law_pool_here" : Str) == ("__classdict__" : Str)) = false := ⟨rfl, by decide, by decide⟩
  have nm1 : (cxD P w K mg base ["_law_pool_here", "_law_size"] "_law_integer" s_law_integer f cd A outer s H E).N[1]? = some ("_law_size" : Str) ∧ (("_law_size" : Str) == ("__debug__" : Str)) = false ∧ (("_law_size" : Str) == ("__classdict__" : Str)) = false := ⟨rfl, by decide, by decide⟩
  obtain ⟨p, c, n, rfl, hμ, hP, hn, q⟩ := h
  refine s_cut (fun δ μ' => ∃ z c', δ = [some (.ref p), some (.int z)] ∧ μ' = updM μ p c' ∧ 0 < z ∧ z < 2 ^ 97 ∧ Pool (n + 1) c') ?_ ?_
  · refine s_set (i := 1) ?_
    refine d_ix ?_
    refine d_lst ?_
    walk_at "dd"
    refine o_pow ⟨⟨by decide, by decide, by decide⟩, ?_⟩
    walk_at "dd"
    refine ⟨(show 4 ≤ sizeLine by decide), d_call Ct ?_⟩
    walk_at "dd"
    refine ⟨p, 4, c, n, rfl, by decide, by decide, hμ, hP, by omega, fun d c' h0 h1 hP' => ?_⟩
    have hd : d = 0 ∨ d = 1 ∨ d = 2 ∨ d = 3 := by omega
    rcases hd with rfl | rfl | rfl | rfl
    · refine x_lst rfl ⟨_, c', rfl, rfl, by decide, by decide, hP'⟩
    · refine x_lst rfl ⟨_, c', rfl, rfl, by decide, by decide, hP'⟩
    · refine x_lst rfl ⟨_, c', rfl, rfl, by decide, by decide, hP'⟩
    · refine x_lst rfl ⟨_, c', rfl, rfl, by decide, by decide, hP'⟩
  · rintro δ μ' ⟨z, c', rfl, rfl, hz0, hz1, hP'⟩
    refine s_one (s_ret (d_op (d_call Ct ?_)))
    walk_at "dd"
    refine o_mul ⟨mulOk (a := 2) (b := 97) (by decide) (na_lt (by omega) hz1) (by decide), ?_⟩
    walk_at "dd"
    refine ⟨p, 2 * z + 1, c', n + 1, rfl, by omega, by omega, updM_same, hP', by omega, fun d c2 h0 h1 hP2 => ?_⟩
    walk_at "dd"
    rw [updM_upd]
    exact q _ _ (by omega) hP2
def spTerms : DSp := fun ds μ Φ _ => ∃ u v : Int, ds = [rat u v, .int u, .int v] ∧ v ≠ 0 ∧ v.natAbs < 2 ^ 8000 ∧ Φ (.bl true) μ
theorem ok_terms (Df : DefT K mg "_law_in_terms" s_law_in_terms ["_law_one", "_law_up", "_law_down"]) (Cn : Cal P w K mg base 1 "_law_is_number" spNum) (Cl : Cal P w K mg base 2 "_law_ratio" spLRatio) (m_isinstance : mg "isinstance" = none) (m_tuple : mg "tuple" = none) (m_len : mg "len" = none) :
    Cal P w K mg base 3 "_law_in_terms" spTerms := by
  refine Df.cal (k := 2) sc_law_in_terms (fun ds μ Φ Ψ ⟨u, v, e, _⟩ => by rw [e]; rfl) (fun ds μ Φ Ψ h => ⟨fun f cd A outer s H E G0 hr hp tk => ?_⟩)
  have hnd := sc_law_in_terms.nd
  have nm0 : (cxD P w K mg base ["_law_one", "_law_up", "_law_down"] "_law_in_terms" s_law_in_terms f cd A outer s H E).N[0]? = some ("_law_one" : Str) ∧ (("_law_one" : Str) == ("__debug__" : Str)) = false ∧ (("_law_one" : Str) == ("__classdict__" : Str)) = false := ⟨rfl, by decide, by decide⟩
  have nm1 : (cxD P w K mg base ["_law_one", "_law_up", "_law_down"] "_law_in_terms" s_law_in_terms f cd A outer s H E).N[1]? = some ("_law_up" : Str) ∧ (("_law_up" : Str) == ("__debug__" : Str)) = false ∧ (("_law_up" : Str) == ("__classdict__" : Str)) = false := ⟨rfl, by decide, by decide⟩
  have nm2 : (cxD P w K mg base ["_law_one", "_law_up", "_law_down"] "_law_in_terms" s_law_in_terms f cd A outer s H E).N[2]? = some ("_law_down" : Str) ∧ (("_law_down" : Str) == ("__debug__" : Str)) = false ∧ (("_law_down" : Str) == ("__classdict__" : Str)) = false := ⟨rfl, by decide, by decide⟩
  have bn_isinstance : (cxD P w K mg base ["_law_one", "_law_up", "_law_down"] "_law_in_terms" s_law_in_terms f cd A outer s H E).mg "isinstance" = none := m_isinstance
  have bn_tuple : (cxD P w K mg base ["_law_one", "_law_up", "_law_down"] "_law_in_terms" s_law_in_terms f cd A outer s H E).mg "tuple" = none := m_tuple
  have bn_len : (cxD P w K mg base ["_law_one", "_law_up", "_law_down"] "_law_in_terms" s_law_in_terms f cd A outer s H E).mg "len" = none := m_len
  obtain ⟨u, v, rfl, h0, hv, q⟩ := h
  unfold rat
  refine s_cons (s_if (t_bool (tw_or ?_)))
  walk_at "dd"
  refine c_isi (k := true) ?_
  walk_at "dd"
  refine orN rfl (tw_or ?_)
  walk_at "dd"
  refine orN rfl (tw_or (t_not (t_val (d_call Cn ?_))))
  walk_at "dd"
  refine ⟨_, rfl, ?_⟩
  walk_at "dd"
  refine orN rfl (tw_or1 (t_not (t_val (d_call Cn ?_))))
  walk_at "dd"
  refine ⟨_, rfl, ?_⟩
  walk_at "dd"
  refine no rfl (s_nil ?_)
  refine s_one (s_ret ?_)
  walk_at "dd"
  refine d_call Cl ?_
  walk_at "dd"
  refine ⟨u, v, rfl, h0, hv, ?_⟩
  unfold rat
  exact o_same (hu64 hr) (py_two _ _) (py_two _ _) rfl (Nat.le_of_ble_eq_true rfl) q
def spTwo : DSp := fun ds μ Φ _ => ∃ a b c d : Int, Two ds a b c d ∧ Φ (.bl true) μ
theorem ok_two (Df : DefT K mg "_law_two_right" s_law_two_right ["_law_one", "_law_other"]) (Cp : Cal P w K mg base 4 "plus" spPlus) (Cm : Cal P w K mg base 4 "minus" spMinus) (Cx2 : Cal P w K mg base 4 "times" spTimes) (Cc : Cal P w K mg base 1 "compare" spCompare)
    (Ci : Cal P w K mg base 3 "_law_in_terms" spTerms) (Cn : Cal P w K mg base 1 "_law_is_number" spNum) (m_int : mg "int" = none) : Cal P w K mg base 5 "_law_two_right" spTwo := by
  refine Df.cal (k := 4) sc_law_two_right (fun ds μ Φ Ψ ⟨a, b, c, d, ⟨e, _⟩, _⟩ => by rw [e]; rfl) (fun ds μ Φ Ψ h => ⟨fun f cd A outer s H E G0 hr hp tk => ?_⟩)
  have hnd := sc_law_two_right.nd
  have nm0 : (cxD P w K mg base ["_law_one", "_law_other", "_law_across", "_law_back", "_law_down", "_law_says"] "_law_two_right" s_law_two_right f cd A outer s H E).N[0]? = some ("_law_one" : Str) ∧ (("_law_one" : Str) == ("__debug__" : Str)) = false ∧ (("_law_one" : Str) == ("__classdict__" : Str)) = false := ⟨rfl, by decide, by decide⟩
  have nm1 : (cxD P w K mg base ["_law_one", "_law_other", "_law_across", "_law_back", "_law_down", "_law_says"] "_law_two_right" s_law_two_right f cd A outer s H E).N[1]? = some ("_law_other" : Str) ∧ (("_law_other" : Str) == ("__debug__" : Str)) = false ∧ (("_law_other" : Str) == ("__classdict__" : Str)) = false := ⟨rfl, by decide, by decide⟩
  have nm2 : (cxD P w K mg base ["_law_one", "_law_other", "_law_across", "_law_back", "_law_down", "_law_says"] "_law_two_right" s_law_two_right f cd A outer s H E).N[2]? = some ("_law_across" : Str) ∧ (("_law_across" : Str) == ("__debug__" : Str)) = false ∧ (("_law_across" : Str) == ("__classdict__" : Str)) = false := ⟨rfl, by decide, by decide⟩
  have nm3 : (cxD P w K mg base ["_law_one", "_law_other", "_law_across", "_law_back", "_law_down", "_law_says"] "_law_two_right" s_law_two_right f cd A outer s H E).N[3]? = some ("_law_back" : Str) ∧ (("_law_back" : Str) == ("__debug__" : Str)) = false ∧ (("_law_back" : Str) == ("__classdict__" : Str)) = false := ⟨rfl, by decide, by decide⟩
  have nm4 : (cxD P w K mg base ["_law_one", "_law_other", "_law_across", "_law_back", "_law_down", "_law_says"] "_law_two_right" s_law_two_right f cd A outer s H E).N[4]? = some ("_law_down" : Str) ∧ (("_law_down" : Str) == ("__debug__" : Str)) = false ∧ (("_law_down" : Str) == ("__classdict__" : Str)) = false := ⟨rfl, by decide, by decide⟩
  have nm5 : (cxD P w K mg base ["_law_one", "_law_other", "_law_across", "_law_back", "_law_down", "_law_says"] "_law_two_right" s_law_two_right f cd A outer s H E).N[5]? = some ("_law_says" : Str) ∧ (("_law_says" : Str) == ("__debug__" : Str)) = false ∧ (("_law_says" : Str) == ("__classdict__" : Str)) = false := ⟨rfl, by decide, by decide⟩
  have bn_int : (cxD P w K mg base ["_law_one", "_law_other", "_law_across", "_law_back", "_law_down", "_law_says"] "_law_two_right" s_law_two_right f cd A outer s H E).mg "int" = none := m_int
  obtain ⟨a, b, c, d, ⟨rfl, hb0, hd0, ha, hb, hc, hd⟩, q⟩ := h
  have hbd0 : b * d ≠ 0 := Int.mul_ne_zero hb0 hd0
  have hbd : (b * d).natAbs < 2 ^ 8000 := na_up (na_mul hb hd) (by decide)
  refine s_cons (s_set (i := 2) ?_)
  walk_at "dd"
  refine o_mul ⟨mulOk ha hd (by decide), ?_⟩
  refine s_cons (s_set (i := 3) ?_)
  walk_at "dd"
  refine o_mul ⟨mulOk hc hb (by decide), ?_⟩
  refine s_cons (s_set (i := 4) ?_)
  walk_at "dd"
  refine o_mul ⟨mulOk hb hd (by decide), ?_⟩
  refine s_cons (s_if (t_not (t_val (d_call Ci (da_cons (d_call Cp ?_))))))
  walk_at "dd"
  refine ⟨a, b, c, d, ⟨rfl, hb0, hd0, ha, hb, hc, hd⟩, ?_⟩
  walk_at "dd"
  refine ⟨_, _, rfl, hbd0, hbd, ?_⟩
  walk_at "dd"
  refine no rfl (s_nil ?_)
  refine s_cons (s_if (t_not (t_val (d_call Ci (da_cons (d_call Cm ?_))))))
  walk_at "dd"
  refine ⟨a, b, c, d, ⟨rfl, hb0, hd0, ha, hb, hc, hd⟩, ?_⟩
  walk_at "dd"
  refine ⟨_, _, rfl, hbd0, hbd, ?_⟩
  walk_at "dd"
  refine no rfl (s_nil ?_)
  refine s_cons (s_if (t_not (t_val (d_call Ci (da_cons (d_call Cx2 ?_))))))
  walk_at "dd"
  refine ⟨a, b, c, d, ⟨rfl, hb0, hd0, ha, hb, hc, hd⟩, ?_⟩
  walk_at "dd"
  refine o_mul ⟨mulOk ha hc (by decide), ?_⟩
  walk_at "dd"
  refine ⟨_, _, rfl, hbd0, hbd, ?_⟩
  walk_at "dd"
  refine no rfl (s_nil ?_)
  refine s_cons (s_set (i := 5) (d_call Cc ?_))
  walk_at "dd"
  refine ⟨a, b, c, d, rfl, ha, hb, hc, hd, ?_⟩
  refine s_one (s_ret (d_and (d_call Cn ?_)))
  walk_at "dd"
  refine ⟨_, rfl, bl_ex (wayT (d_one ?_))⟩
  walk_at "dd"
  have e : (if a * d > c * b then (1 : Int) else if a * d < c * b then -1 else 0) = (if decide (c * b < a * d) = true then (1 : Int) else 0) - (if decide (a * d < c * b) = true then (1 : Int) else 0) := by
    rcases Int.lt_trichotomy (a * d) (c * b) with h | h | h
    · rw [if_neg (by omega), if_pos h, if_neg (by simp; omega), if_pos (by simpa using h)]
      rfl
    · rw [if_neg (by omega), if_neg (by omega), if_neg (by simp; omega), if_neg (by simp; omega)]
      rfl
    · rw [if_pos h, if_pos (by simpa using h), if_neg (by simp; omega)]
      rfl
  rw [decide_eq_true e]
  exact q
end
end K11

open PySem PySem.Spec PyProof.Rows L2 DL
namespace K11
section
variable {P : Program} {w : World} {K : PySem.W.Frag} {mg : Str → Option Value} {base : Heap}
theorem near_gt {a b F : Int} (hb : 0 < b) (hF : 0 < F) : a * rB (a * F + 1) (b * F) < rT (a * F + 1) (b * F) * b := by
  have hv : 0 < b * F := Int.mul_pos hb hF
  have hg := rG_pos (a := a * F + 1) hv
  have e1 := rT_mul (a * F + 1) (b * F)
  have e2 := rB_mul (a * F + 1) (b * F)
  generalize rT (a * F + 1) (b * F) = T at *
  generalize rB (a * F + 1) (b * F) = B at *
  generalize rG (a * F + 1) (b * F) = g at *
  refine Classical.byContradiction fun z => ?_
  have h1 : T * b * g ≤ a * B * g := Int.mul_le_mul_of_nonneg_right (by omega) (by omega)
  have h2 : T * b * g = (a * F + 1) * b := by rw [← e1, Int.mul_right_comm]
  have h3 : a * B * g = a * (b * F) := by rw [← e2, Int.mul_assoc]
  have h4 : (a * F + 1) * b = a * (b * F) + b := by
    rw [Int.add_mul, Int.one_mul, Int.mul_assoc, Int.mul_comm F b]
  omega
def spNear : DSp := fun ds μ Φ _ => ∃ a b : Int, ds = [.tup [.int a, .int b]] ∧ 0 < b ∧ a.natAbs < 2 ^ 1000 ∧ b.natAbs < 2 ^ 1000 ∧ Φ (.bl true) μ
theorem ok_near {CB : Addr} (Df : DefT K mg "_law_near_right" s_law_near_right ["_law_one"]) (Cr : Cal P w K mg base 3 "ratio" (spRatio CB)) (Cc : Cal P w K mg base 1 "compare" spCompare) (Ct : Cal P w K mg base 5 "_law_two_right" spTwo) (m_abs : mg "abs" = none) : Cal P w K mg base 6 "_law_near_right" spNear := by
  refine Df.cal (k := 5) sc_law_near_right (fun ds μ Φ Ψ ⟨a, b, e, _⟩ => by rw [e]; rfl) (fun ds μ Φ Ψ h => ⟨fun f cd A outer s H E G0 hr hp tk => ?_⟩)
  have hnd := sc_law_near_right.nd
  have nm0 : (cxD P w K mg base ["_law_one", "_law_far", "_law_near"] "_law_near_right" s_law_near_right f cd A outer s H E).N[0]? = some ("_law_one" : Str) ∧ (("_law_one" : Str) == ("__debug__" : Str)) = false ∧ (("_law_one" : Str) == ("__classdict__" : Str)) = false := ⟨rfl, by decide, by decide⟩
  have nm1 : (cxD P w K mg base ["_law_one", "_law_far", "_law_near"] "_law_near_right" s_law_near_right f cd A outer s H E).N[1]? = some ("_law_far" : Str) ∧ (("_law_far" : Str) == ("__debug__" : Str)) = false ∧ (("_law_far" : Str) == ("__classdict__" : Str)) = false := ⟨rfl, by decide, by decide⟩
  have nm2 : (cxD P w K mg base ["_law_one", "_law_far", "_law_near"] "_law_near_right" s_law_near_right f cd A outer s H E).N[2]? = some ("_law_near" : Str) ∧ (("_law_near" : Str) == ("__debug__" : Str)) = false ∧ (("_law_near" : Str) == ("__classdict__" : Str)) = false := ⟨rfl, by decide, by decide⟩
  have bn_abs : (cxD P w K mg base ["_law_one", "_law_far", "_law_near"] "_law_near_right" s_law_near_right f cd A outer s H E).mg "abs" = none := m_abs
  obtain ⟨a, b, rfl, hb0, ha, hb, q⟩ := h
  have hF0 : (0 : Int) < 10 ^ (20 : Int).toNat := by decide
  have hF : ((10 : Int) ^ (20 : Int).toNat).natAbs < 2 ^ 67 := by decide
  refine s_cons (s_set (i := 1) ?_)
  walk_at "dd"
  refine o_pow ⟨⟨by decide, by decide, by decide⟩, ?_⟩
  generalize (10 : Int) ^ (20 : Int).toNat = F at hF0 hF ⊢
  refine s_cons (s_if (t_bool (tw_or ?_)))
  walk_at "dd"
  refine o_pow ⟨⟨by decide, by decide, by decide⟩, ?_⟩
  walk_at "dd"
  refine ⟨fun h1 => tw_or1 ?_, fun h1 => ?_⟩
  · walk_at "dd"
    refine o_pow ⟨⟨by decide, by decide, by decide⟩, ?_⟩
    walk_at "dd"
    refine ⟨fun h2 => ?_, fun h2 => ?_⟩
    · refine s_one (s_ret ?_)
      walk_at "dd"
      exact q
    · have hv0 : b * F ≠ 0 := Int.mul_ne_zero (by omega) (by omega)
      have hu : (a * F + 1).natAbs < 2 ^ 1100 := na_up (na_add (na_up (na_mul ha hF) (show 1000 + 67 ≤ 1067 by decide)) (show (1 : Int).natAbs < 2 ^ 1067 from Nat.lt_of_lt_of_le (by decide : (1 : Int).natAbs < 2 ^ 1) (Nat.pow_le_pow_right (by decide) (by decide)))) (by decide)
      have hv : (b * F).natAbs < 2 ^ 1100 := na_up (na_mul hb hF) (by decide)
      have hT : (rT (a * F + 1) (b * F)).natAbs < 2 ^ 2000 := na_up (Nat.lt_of_le_of_lt (rT_abs hv0) hu) (by decide)
      have hB : (rB (a * F + 1) (b * F)).natAbs < 2 ^ 2000 := na_up (Nat.lt_of_le_of_lt (rB_abs hv0) hv) (by decide)
      have hB0 := rB_pos (a := a * F + 1) hv0
      have ha2 : a.natAbs < 2 ^ 2000 := na_up ha (by decide)
      have hb2 : b.natAbs < 2 ^ 2000 := na_up hb (by decide)
      have hgt := near_gt (a := a) hb0 hF0
      refine s_nil ?_
      refine s_cons (s_set (i := 2) (d_call Cr ?_))
      walk_at "dd"
      refine o_mul ⟨mulOk ha hF (by decide), ?_⟩
      walk_at "dd"
      refine o_mul ⟨mulOk hb hF (by decide), ?_⟩
      walk_at "dd"
      refine ⟨_, _, rfl, fun z => absurd z hv0, fun _ => ⟨na_up hv (by decide), ?_⟩⟩
      refine s_cons (s_if (t_bool (tw_or (t_cmp (d_call Cc ?_)))))
      walk_at "dd"
      refine ⟨_, _, a, b, rfl, hT, hB, ha2, hb2, ?_⟩
      rw [if_pos hgt]
      walk_at "dd"
      refine orN rfl (tw_or1 ?_)
      refine t_cmp (d_call Cc ?_)
      walk_at "dd"
      refine ⟨a, b, _, _, rfl, ha2, hb2, hT, hB, ?_⟩
      rw [if_neg (by omega), if_pos (by omega)]
      walk_at "dd"
      refine no rfl (s_nil ?_)
      refine s_one (s_ret (d_and (d_call Ct ?_)))
      walk_at "dd"
      refine ⟨a, b, _, _, ⟨rfl, by omega, by omega, ha2, hb2, hT, hB⟩, bl_ex (yes rfl ?_)⟩
      refine d_one (d_call Ct ?_)
      walk_at "dd"
      exact ⟨_, _, a, b, ⟨rfl, by omega, by omega, hT, hB, ha2, hb2⟩, q⟩
  · refine yes rfl ?_
    refine s_one (s_ret ?_)
    walk_at "dd"
    exact q
def spLow : DSp := fun ds μ Φ _ => ∃ ns : List Int, ds = [.lst (ns.map .int)] ∧ (∀ n ∈ ns, n.natAbs < 2 ^ 8000) ∧ ns.length ≤ 1000 ∧ Φ (.lst ((low ns).map .int)) μ
theorem ok_low (Df : DefT K mg "_law_low" s_law_low ["_law_numbers"]) (Cd : Cal P w K mg base 1 "_law_divisor" spDiv) (m_list : mg "list" = none) : Cal P w K mg base 2 "_law_low" spLow := by
  refine Df.cal (k := 1) sc_law_low (fun ds μ Φ Ψ ⟨ns, e, _⟩ => by rw [e]; rfl) (fun ds μ Φ Ψ h => ⟨fun f cd A outer s H E G0 hr hp tk => ?_⟩)
  have hnd := sc_law_low.nd
  have nm0 : (cxD P w K mg base ["_law_numbers", "_law_piece", "_law_number"] "_law_low" s_law_low f cd A outer s H E).N[0]? = some ("_law_numbers" : Str) ∧ (("_law_numbers" : Str) == ("__debug__" : Str)) = false ∧ (("_law_numbers" : Str) == ("__classdict__" : Str)) = false := ⟨rfl, by decide, by decide⟩
  have nm1 : (cxD P w K mg base ["_law_numbers", "_law_piece", "_law_number"] "_law_low" s_law_low f cd A outer s H E).N[1]? = some ("_law_piece" : Str) ∧ (("_law_piece" : Str) == ("__debug__" : Str)) = false ∧ (("_law_piece" : Str) == ("__classdict__" : Str)) = false := ⟨rfl, by decide, by decide⟩
  have nm2 : (cxD P w K mg base ["_law_numbers", "_law_piece", "_law_number"] "_law_low" s_law_low f cd A outer s H E).N[2]? = some ("_law_number" : Str) ∧ (("_law_number" : Str) == ("__debug__" : Str)) = false ∧ (("_law_number" : Str) == ("__classdict__" : Str)) = false := ⟨rfl, by decide, by decide⟩
  have bn_list : (cxD P w K mg base ["_law_numbers", "_law_piece", "_law_number"] "_law_low" s_law_low f cd A outer s H E).mg "list" = none := m_list
  obtain ⟨ns, rfl, hb, hl, q⟩ := h
  refine s_cons (s_set (i := 1) (d_call Cd ?_))
  walk_at "dd"
  refine ⟨ns, rfl, ?_⟩
  refine s_cons (s_if ?_)
  walk_at "dd"
  refine way (fun h0 => ?_) (fun h0 => ?_)
  · refine s_one (s_ret ?_)
    walk_at "dd"
    refine c_listL ?_
    unfold low at q
    rw [if_pos h0] at q
    exact q
  · refine s_nil (s_one (s_ret (d_fz (d_lcL (own := [("_law_number", 2)]) (vs := [2]) 2 ?_))))
    walk_at "dd"
    refine ⟨_, rfl, fun i acc μ2 => acc = ((ns.take i).map fun n => n.fdiv (gcdL ns)).map .int ∧ μ2 = μ, ⟨rfl, rfl⟩, ?_, ?_⟩
    · rintro i d acc μ2 p hd ⟨rfl, rfl⟩ hp
      obtain ⟨n, hn, rfl⟩ := at_ints hd
      refine ⟨?_, fun G1 s H0 C cl fp => ?_⟩
      · rw [List.length_map, List.length_map, List.length_take, sizeLine_eq]
        omega
      · walk_at "dd"
        refine o_div ⟨divOk h0 (gcdL_small h0 hb) (by decide), ?_⟩
        refine ⟨μ2, rfl, hp, ?_, rfl⟩
        rw [List.take_add_one, hn, List.map_append, List.map_append]
        rfl
    · rintro acc μ2 p ⟨rfl, rfl⟩ hp
      rw [List.length_map, List.take_length]
      refine fz_ref hp ?_
      unfold low at q
      rw [if_neg h0] at q
      exact q
/-! together -/
/-- a ratio of bounded numbers -/
def dR (r : Int × Int) : D := .tup [.int r.1, .int r.2]
def pR (r : Int × Int) : PyData := .tuple [.int r.1, .int r.2]
structure ROk (r : Int × Int) : Prop where
  pos : 0 < r.2
  top : r.1.natAbs < 2 ^ 120
  bot : r.2.natAbs < 2 ^ 120
def unitL (rs : List (Int × Int)) : Int := rs.foldl (fun u r => u.fdiv (Int.gcd u r.2 : Int) * r.2) 1
def tops (rs : List (Int × Int)) : List Int := rs.map fun r => r.1 * (unitL rs).fdiv r.2
theorem unitL_snoc (rs : List (Int × Int)) (r : Int × Int) : unitL (rs ++ [r]) = (unitL rs).fdiv (Int.gcd (unitL rs) r.2 : Int) * r.2 := by
  unfold unitL
  rw [List.foldl_append]
  rfl
theorem unitL_take {rs : List (Int × Int)} {i : Nat} {r : Int × Int} (h : rs[i]? = some r) : unitL (rs.take (i + 1)) = (unitL (rs.take i)).fdiv (Int.gcd (unitL (rs.take i)) r.2 : Int) * r.2 := by
  rw [List.take_add_one, h]
  exact unitL_snoc _ _
theorem gcd_ne {a b : Int} (h : a ≠ 0) : (Int.gcd a b : Int) ≠ 0 := by
  intro z
  have z' : Int.gcd a b = 0 := by omega
  exact h (Int.gcd_eq_zero_iff.mp z').1
theorem fdiv_gcd_mul (a b : Int) : a.fdiv (Int.gcd a b : Int) * (Int.gcd a b : Int) = a := by
  rw [Int.fdiv_eq_ediv_of_dvd (Int.gcd_dvd_left a b)]
  exact Int.ediv_mul_cancel (Int.gcd_dvd_left a b)
theorem fdiv_gcd_pos {a b : Int} (h : 0 < a) : 0 < a.fdiv (Int.gcd a b : Int) := by
  have e := fdiv_gcd_mul a b
  have g : 0 < (Int.gcd a b : Int) := by
    have := gcd_ne (a := a) (b := b) (by omega)
    omega
  refine Classical.byContradiction fun z => ?_
  have := Int.mul_nonpos_of_nonpos_of_nonneg (show a.fdiv (Int.gcd a b : Int) ≤ 0 by omega) (show 0 ≤ (Int.gcd a b : Int) by omega)
  omega
theorem unitL_ok : ∀ rs : List (Int × Int), (∀ r ∈ rs, ROk r) → 0 < unitL rs ∧ (unitL rs).natAbs < 2 ^ (120 * rs.length + 1) := fun rs => by
  refine snoc_ind (p := fun rs => (∀ r ∈ rs, ROk r) → 0 < unitL rs ∧ (unitL rs).natAbs < 2 ^ (120 * rs.length + 1)) (fun _ => ⟨by decide, by decide⟩) (fun l x ih h => ?_) rs
  obtain ⟨h1, h2⟩ := ih fun r hr => h r (List.mem_append_left _ hr)
  have hx := h x (by simp)
  rw [unitL_snoc, List.length_append, List.length_singleton]
  refine ⟨Int.mul_pos (fdiv_gcd_pos h1) hx.pos, ?_⟩
  have h3 : ((unitL l).fdiv (Int.gcd (unitL l) x.2 : Int)).natAbs < 2 ^ (120 * l.length + 1) := Nat.lt_of_le_of_lt (abs_of_mul (fdiv_gcd_mul _ _) (gcd_ne (by omega))) h2
  exact na_up (na_mul h3 hx.bot) (by omega)
theorem unit_same {u b : Int} (hu : u ≠ 0) : (u * b).fdiv (Int.gcd u b : Int) = u.fdiv (Int.gcd u b : Int) * b := by
  have e := fdiv_gcd_mul u b
  have g := gcd_ne (b := b) hu
  generalize hg : (Int.gcd u b : Int) = G at *
  have e2 : u * b = G * (u.fdiv G * b) := by
    conv => lhs; rw [← e]
    rw [Int.mul_comm (u.fdiv G) G, Int.mul_assoc]
  rw [e2]
  exact Int.mul_fdiv_cancel_left _ g
theorem at_rats {rs : List (Int × Int)} {i : Nat} {d : D} (h : (rs.map dR)[i]? = some d) : ∃ r, rs[i]? = some r ∧ d = dR r := by
  rw [List.getElem?_map] at h
  cases e : rs[i]? with
  | none => rw [e] at h; cases h
  | some n => rw [e] at h; cases h; exact ⟨n, rfl, rfl⟩
theorem mem_at {α : Type} {l : List α} {i : Nat} {x : α} (h : l[i]? = some x) : x ∈ l := List.mem_of_getElem? h
def spTogether : DSp := fun ds μ Φ _ => ∃ rs : List (Int × Int), (ds = [.lst (rs.map dR)] ∨ ds = [.tup (rs.map dR)]) ∧ (∀ r ∈ rs, ROk r) ∧ rs.length ≤ 8 ∧ ∀ p, μ p = none → Φ (.tup [.int (unitL rs), .ref p]) (updM μ p (.lst ((tops rs).map .int)))
/-- [top * (unit // bottom) ..] -/
def spScaled : DSp := fun ds μ Φ _ => ∃ rs : List (Int × Int), (ds = [.lst (rs.map dR), .int (unitL rs)] ∨ ds = [.tup (rs.map dR), .int (unitL rs)]) ∧ (∀ r ∈ rs, ROk r) ∧ rs.length ≤ 8 ∧ ∀ p, μ p = none → Φ (.ref p) (updM μ p (.lst ((tops rs).map .int)))
theorem ok_scaled (Df : DefT K mg "scaled" s_scaled ["ratios", "unit"]) : Cal P w K mg base 1 "scaled" spScaled := by
  refine Df.cal (k := 0) sc_scaled (fun ds μ Φ Ψ ⟨rs, e, _⟩ => by rcases e with e | e <;> rw [e] <;> rfl) (fun ds μ Φ Ψ h => ⟨fun f cd A outer s H E G0 hr hp tk => ?_⟩)
  have hnd := sc_scaled.nd
  have nm0 : (cxD P w K mg base ["ratios", "unit", "top", "bottom"] "scaled" s_scaled f cd A outer s H E).N[0]? = some ("ratios" : Str) ∧ (("ratios" : Str) == ("__debug__" : Str)) = false ∧ (("ratios" : Str) == ("__classdict__" : Str)) = false := ⟨rfl, by decide, by decide⟩
  have nm1 : (cxD P w K mg base ["ratios", "unit", "top", "bottom"] "scaled" s_scaled f cd A outer s H E).N[1]? = some ("unit" : Str) ∧ (("unit" : Str) == ("__debug__" : Str)) = false ∧ (("unit" : Str) == ("__classdict__" : Str)) = false := ⟨rfl, by decide, by decide⟩
  have nm2 : (cxD P w K mg base ["ratios", "unit", "top", "bottom"] "scaled" s_scaled f cd A outer s H E).N[2]? = some ("top" : Str) ∧ (("top" : Str) == ("__debug__" : Str)) = false ∧ (("top" : Str) == ("__classdict__" : Str)) = false := ⟨rfl, by decide, by decide⟩
  have nm3 : (cxD P w K mg base ["ratios", "unit", "top", "bottom"] "scaled" s_scaled f cd A outer s H E).N[3]? = some ("bottom" : Str) ∧ (("bottom" : Str) == ("__debug__" : Str)) = false ∧ (("bottom" : Str) == ("__classdict__" : Str)) = false := ⟨rfl, by decide, by decide⟩
  obtain ⟨rs, e, hok, hl, q⟩ := h
  have hU := unitL_ok rs hok
  rcases e with rfl | rfl
  · refine s_one (s_ret ?_)
    refine d_lcL2 (own := [("top", 2), ("bottom", 3)]) (vs := [2, 3]) 2 3 ?_
    walk_at "dd"
    refine ⟨_, rfl, fun i acc μ2 => acc = ((rs.take i).map fun r => r.1 * (unitL rs).fdiv r.2).map .int ∧ μ2 = μ, ⟨rfl, rfl⟩, ?_, ?_⟩
    · rintro i d acc μ2 p hd ⟨rfl, rfl⟩ hp
      obtain ⟨r, hr2, rfl⟩ := at_rats hd
      have hrk := hok r (mem_at hr2)
      refine ⟨_, _, rfl, ?_, fun G1 s H0 C cl fp => ?_⟩
      · rw [List.length_map, List.length_map, List.length_take, sizeLine_eq]
        omega
      · walk_at "dd"
        refine o_div ⟨divOk (by have := hrk.pos; omega) hrk.bot (by decide), ?_⟩
        refine o_mul ⟨mulOk (b := 961) hrk.top ?_ (by decide), ?_⟩
        · refine Nat.lt_of_le_of_lt ?_ (na_up hU.2 (show 120 * rs.length + 1 ≤ 961 by omega))
          rw [Int.fdiv_eq_ediv_of_nonneg _ (by have := hrk.pos; omega)]
          exact Int.natAbs_ediv_le_natAbs _ _
        · refine ⟨μ2, rfl, hp, ?_, rfl⟩
          rw [List.take_add_one, hr2, List.map_append, List.map_append]
          rfl
    · rintro acc μ2 p ⟨rfl, rfl⟩ hp
      rw [List.length_map, List.take_length]
      walk_at "dd"
      exact q p hp
  · refine s_one (s_ret ?_)
    refine d_lcT2 (own := [("top", 2), ("bottom", 3)]) (vs := [2, 3]) 2 3 ?_
    walk_at "dd"
    refine ⟨_, rfl, fun i acc μ2 => acc = ((rs.take i).map fun r => r.1 * (unitL rs).fdiv r.2).map .int ∧ μ2 = μ, ⟨rfl, rfl⟩, ?_, ?_⟩
    · rintro i d acc μ2 p hd ⟨rfl, rfl⟩ hp
      obtain ⟨r, hr2, rfl⟩ := at_rats hd
      have hrk := hok r (mem_at hr2)
      refine ⟨_, _, rfl, ?_, fun G1 s H0 C cl fp => ?_⟩
      · rw [List.length_map, List.length_map, List.length_take, sizeLine_eq]
        omega
      · walk_at "dd"
        refine o_div ⟨divOk (by have := hrk.pos; omega) hrk.bot (by decide), ?_⟩
        refine o_mul ⟨mulOk (b := 961) hrk.top ?_ (by decide), ?_⟩
        · refine Nat.lt_of_le_of_lt ?_ (na_up hU.2 (show 120 * rs.length + 1 ≤ 961 by omega))
          rw [Int.fdiv_eq_ediv_of_nonneg _ (by have := hrk.pos; omega)]
          exact Int.natAbs_ediv_le_natAbs _ _
        · refine ⟨μ2, rfl, hp, ?_, rfl⟩
          rw [List.take_add_one, hr2, List.map_append, List.map_append]
          rfl
    · rintro acc μ2 p ⟨rfl, rfl⟩ hp
      rw [List.length_map, List.take_length]
      walk_at "dd"
      exact q p hp
theorem ok_together (Df : DefT K mg "together" s_together ["ratios"]) (Cg : Cal P w K mg base 1 "common_divisor" spGcd) (Cs : Cal P w K mg base 1 "scaled" spScaled) : Cal P w K mg base 2 "together" spTogether := by
  refine Df.cal (k := 1) sc_together (fun ds μ Φ Ψ ⟨rs, e, _⟩ => by rcases e with e | e <;> rw [e] <;> rfl) (fun ds μ Φ Ψ h => ⟨fun f cd A outer s H E G0 hr hp tk => ?_⟩)
  have hnd := sc_together.nd
  have nm0 : (cxD P w K mg base ["ratios", "unit", "top", "bottom"] "together" s_together f cd A outer s H E).N[0]? = some ("ratios" : Str) ∧ (("ratios" : Str) == ("__debug__" : Str)) = false ∧ (("ratios" : Str) == ("__classdict__" : Str)) = false := ⟨rfl, by decide, by decide⟩
  have nm1 : (cxD P w K mg base ["ratios", "unit", "top", "bottom"] "together" s_together f cd A outer s H E).N[1]? = some ("unit" : Str) ∧ (("unit" : Str) == ("__debug__" : Str)) = false ∧ (("unit" : Str) == ("__classdict__" : Str)) = false := ⟨rfl, by decide, by decide⟩
  have nm2 : (cxD P w K mg base ["ratios", "unit", "top", "bottom"] "together" s_together f cd A outer s H E).N[2]? = some ("top" : Str) ∧ (("top" : Str) == ("__debug__" : Str)) = false ∧ (("top" : Str) == ("__classdict__" : Str)) = false := ⟨rfl, by decide, by decide⟩
  have nm3 : (cxD P w K mg base ["ratios", "unit", "top", "bottom"] "together" s_together f cd A outer s H E).N[3]? = some ("bottom" : Str) ∧ (("bottom" : Str) == ("__debug__" : Str)) = false ∧ (("bottom" : Str) == ("__classdict__" : Str)) = false := ⟨rfl, by decide, by decide⟩
  obtain ⟨rs, e, hok, hl, q⟩ := h
  have hU := unitL_ok rs hok
  rcases e with rfl | rfl
  · refine s_cons (s_set (i := 1) ?_)
    walk_at "dd"
    refine s_cut (fun δ μ' => ∃ v w, δ = [some (.lst (rs.map dR)), some (.int (unitL rs)), v, w] ∧ μ' = μ) ?_ ?_
    · refine s_forL (ds := rs.map dR) ?_
      walk_at "dd"
      refine ⟨rfl, fun i δ μ' => ∃ v w, δ = [some (.lst (rs.map dR)), some (.int (unitL (rs.take i))), v, w] ∧ μ' = μ, ⟨none, none, rfl, rfl⟩, ?_, ?_⟩
      · rintro i d δ' μ' hd ⟨v, w, rfl, rfl⟩
        obtain ⟨r, hr2, rfl⟩ := at_rats hd
        have hi := unitL_ok (rs.take i) fun r hr => hok r (List.mem_of_mem_take hr)
        have hlen : (rs.take i).length ≤ 8 := by
          rw [List.length_take]
          omega
        have hrk := hok r (mem_at hr2)
        have hub : (unitL (rs.take i)).natAbs < 2 ^ 961 := na_up hi.2 (by omega)
        have hgn := gcd_ne (a := unitL (rs.take i)) (b := r.2) (by omega)
        have hgs : ((Int.gcd (unitL (rs.take i)) r.2 : Nat) : Int).natAbs < 2 ^ 120 := Nat.lt_of_le_of_lt (by rw [Int.natAbs_natCast]; exact gcd_le (by have := hrk.pos; omega)) hrk.bot
        refine g_pair (i := 2) (j := 3) fun G1 e1 => s_one (s_set (i := 1) (d_op (d_op ?_)))
        walk_at "dd"
        refine d_call Cg ?_
        walk_at "dd"
        refine ⟨_, _, rfl, ?_⟩
        refine o_div ⟨divOk hgn hgs (by decide), ?_⟩
        walk_at "dd"
        refine o_mul ⟨mulOk (Nat.lt_of_le_of_lt (abs_of_mul (fdiv_gcd_mul _ _) hgn) hub) hrk.bot (by decide), ?_⟩
        refine ⟨some (.int r.1), some (.int r.2), ?_, rfl⟩
        rw [unitL_take hr2]
        rfl
      · rintro δ' μ' ⟨v, w, rfl, rfl⟩
        refine ⟨v, w, ?_, rfl⟩
        rw [List.length_map, List.take_length]
    · rintro δ' μ' ⟨v, w, rfl, rfl⟩
      refine s_one (s_ret (d_tup ?_))
      walk_at "dd"
      refine d_call Cs ?_
      walk_at "dd"
      refine ⟨rs, .inl rfl, hok, hl, fun p hp => ?_⟩
      walk_at "dd"
      exact ⟨(show 2 ≤ sizeLine by decide), q p hp⟩
  · refine s_cons (s_set (i := 1) ?_)
    walk_at "dd"
    refine s_cut (fun δ μ' => ∃ v w, δ = [some (.tup (rs.map dR)), some (.int (unitL rs)), v, w] ∧ μ' = μ) ?_ ?_
    · refine s_forT (ds := rs.map dR) ?_
      walk_at "dd"
      refine ⟨rfl, fun i δ μ' => ∃ v w, δ = [some (.tup (rs.map dR)), some (.int (unitL (rs.take i))), v, w] ∧ μ' = μ, ⟨none, none, rfl, rfl⟩, ?_, ?_⟩
      · rintro i d δ' μ' hd ⟨v, w, rfl, rfl⟩
        obtain ⟨r, hr2, rfl⟩ := at_rats hd
        have hi := unitL_ok (rs.take i) fun r hr => hok r (List.mem_of_mem_take hr)
        have hlen : (rs.take i).length ≤ 8 := by
          rw [List.length_take]
          omega
        have hrk := hok r (mem_at hr2)
        have hub : (unitL (rs.take i)).natAbs < 2 ^ 961 := na_up hi.2 (by omega)
        have hgn := gcd_ne (a := unitL (rs.take i)) (b := r.2) (by omega)
        have hgs : ((Int.gcd (unitL (rs.take i)) r.2 : Nat) : Int).natAbs < 2 ^ 120 := Nat.lt_of_le_of_lt (by rw [Int.natAbs_natCast]; exact gcd_le (by have := hrk.pos; omega)) hrk.bot
        refine g_pair (i := 2) (j := 3) fun G1 e1 => s_one (s_set (i := 1) (d_op (d_op ?_)))
        walk_at "dd"
        refine d_call Cg ?_
        walk_at "dd"
        refine ⟨_, _, rfl, ?_⟩
        refine o_div ⟨divOk hgn hgs (by decide), ?_⟩
        walk_at "dd"
        refine o_mul ⟨mulOk (Nat.lt_of_le_of_lt (abs_of_mul (fdiv_gcd_mul _ _) hgn) hub) hrk.bot (by decide), ?_⟩
        refine ⟨some (.int r.1), some (.int r.2), ?_, rfl⟩
        rw [unitL_take hr2]
        rfl
      · rintro δ' μ' ⟨v, w, rfl, rfl⟩
        refine ⟨v, w, ?_, rfl⟩
        rw [List.length_map, List.take_length]
    · rintro δ' μ' ⟨v, w, rfl, rfl⟩
      refine s_one (s_ret (d_tup ?_))
      walk_at "dd"
      refine d_call Cs ?_
      walk_at "dd"
      refine ⟨rs, .inr rfl, hok, hl, fun p hp => ?_⟩
      walk_at "dd"
      exact ⟨(show 2 ≤ sizeLine by decide), q p hp⟩

end
end K11

open PySem PySem.Spec PyProof.Rows L2 DL
namespace K11
section
variable {P : Program} {w : World} {K : PySem.W.Frag} {mg : Str → Option Value} {base : Heap}
theorem canLay_rats : ∀ rs : List (Int × Int), PyData.canLayAll0 (rs.map pR) = true
  | [] => rfl
  | r :: rs => by
    rw [List.map_cons, PyData.canLayAll0, canLay_rats rs]
    rfl
theorem depth_rats : ∀ rs : List (Int × Int), PyData.depthAll (rs.map pR) ≤ 2
  | [] => by
    rw [List.map_nil, PyData.depthAll]
    omega
  | r :: rs => by
    rw [List.map_cons, PyData.depthAll]
    have h1 := depth_rats rs
    have h2 : (pR r).depth ≤ 2 := Nat.le_of_ble_eq_true rfl
    omega
theorem canLay_ints : ∀ ns : List Int, PyData.canLayAll0 (ns.map PyData.int) = true
  | [] => rfl
  | r :: rs => by
    rw [List.map_cons, PyData.canLayAll0, canLay_ints rs]
    rfl
theorem depth_ints : ∀ ns : List Int, PyData.depthAll (ns.map PyData.int) ≤ 1
  | [] => by
    rw [List.map_nil, PyData.depthAll]
    omega
  | r :: rs => by
    rw [List.map_cons, PyData.depthAll]
    have h1 := depth_ints rs
    have h2 : (PyData.int r).depth ≤ 1 := Nat.le_of_ble_eq_true rfl
    omega
theorem py_rats {μ : Mu} : ∀ rs : List (Int × Int), PyAll μ (rs.map dR) (rs.map pR)
  | [] => .nil
  | r :: rs => .cons (py_two r.1 r.2) (py_rats rs)
/-- lists of ratios, lists of integers that are the same -/
theorem depth_list {ps : List PyData} {n : Nat} (h : PyData.depthAll ps ≤ n) : (PyData.list ps).depth ≤ n + 1 := by
  rw [PyData.depth]
  omega
theorem cl_list {ps : List PyData} (h : PyData.canLayAll0 ps = true) : (PyData.list ps).canLay0 = true := by
  rw [PyData.canLay0]
  exact h
/-- (u, [..]) -/
def pUT (u : Int) (ns : List Int) : PyData := .tuple [.int u, .list (ns.map .int)]
theorem pUT_lay (u : Int) (ns : List Int) : (pUT u ns).canLay0 = true := by
  unfold pUT
  rw [PyData.canLay0, PyData.canLayAll0, PyData.canLayAll0, cl_list (canLay_ints ns)]
  rfl
theorem pUT_depth (u : Int) (ns : List Int) : (pUT u ns).depth ≤ 64 := by
  unfold pUT
  have h := depth_list (depth_ints ns)
  rw [PyData.depth, PyData.depthAll, PyData.depthAll, PyData.depthAll]
  have h2 : (PyData.int u).depth ≤ 1 := Nat.le_of_ble_eq_true rfl
  omega
/-- what may change is there as before -/
def Ext (μ μ' : Mu) : Prop := ∀ q c, μ q = some c → μ' q = some c
theorem Ext.refl (μ : Mu) : Ext μ μ := fun _ _ h => h
theorem Ext.trans {a b c : Mu} (h : Ext a b) (g : Ext b c) : Ext a c := fun q x e => g q x (h q x e)
theorem Ext.new {μ μ' : Mu} {p : Addr} {c : D} (h : Ext μ μ') (hp : μ' p = none) : Ext μ (updM μ' p c) := fun q x e => by
  have z := h q x e
  rw [updM_ne (show q ≠ p from fun y => by rw [y, hp] at z; cases z)]
  exact z
theorem Ext.out {μ μ' : Mu} {p : Addr} {c : D} (h : Ext μ μ') (hp : μ p = none) : Ext μ (updM μ' p c) := fun q x e => by
  rw [updM_ne (show q ≠ p from fun y => by rw [y, hp] at e; cases e)]
  exact h q x e
def spTogR : DSp := fun ds μ Φ _ => ∃ rs : List (Int × Int), ds = [.lst (rs.map dR)] ∧ (∀ r ∈ rs, ROk r) ∧ rs.length ≤ 8 ∧ ∀ μ', Ext μ μ' → Φ (.bl true) μ'
theorem ok_togR (Df : DefT K mg "_law_together_right" s_law_together_right ["_law_ratios"]) (Ct : Cal P w K mg base 2 "together" spTogether) (Cd : Cal P w K mg base 1 "_law_divisor" spDiv) (m_list : mg "list" = none) (m_tuple : mg "tuple" = none) (m_len : mg "len" = none) (m_isinstance : mg "isinstance" = none) : Cal P w K mg base 3 "_law_together_right" spTogR := by
  refine Df.cal (k := 2) sc_law_together_right (fun ds μ Φ Ψ ⟨rs, e, _⟩ => by rw [e]; rfl) (fun ds μ Φ Ψ h => ⟨fun f cd A outer s H E G0 hr hp tk => ?_⟩)
  have hnd := sc_law_together_right.nd
  have nm0 : (cxD P w K mg base ["_law_ratios", "_law_unit", "_law_one", "_law_given", "_law_answer", "_law_due"] "_law_together_right" s_law_together_right f cd A outer s H E).N[0]? = some ("_law_ratios" : Str) ∧ (("_law_ratios" : Str) == ("__debug__" : Str)) = false ∧ (("_law_ratios" : Str) == ("__classdict__" : Str)) = false := ⟨rfl, by decide, by decide⟩
  have nm1 : (cxD P w K mg base ["_law_ratios", "_law_unit", "_law_one", "_law_given", "_law_answer", "_law_due"] "_law_together_right" s_law_together_right f cd A outer s H E).N[1]? = some ("_law_unit" : Str) ∧ (("_law_unit" : Str) == ("__debug__" : Str)) = false ∧ (("_law_unit" : Str) == ("__classdict__" : Str)) = false := ⟨rfl, by decide, by decide⟩
  have nm2 : (cxD P w K mg base ["_law_ratios", "_law_unit", "_law_one", "_law_given", "_law_answer", "_law_due"] "_law_together_right" s_law_together_right f cd A outer s H E).N[2]? = some ("_law_one" : Str) ∧ (("_law_one" : Str) == ("__debug__" : Str)) = false ∧ (("_law_one" : Str) == ("__classdict__" : Str)) = false := ⟨rfl, by decide, by decide⟩
  have nm3 : (cxD P w K mg base ["_law_ratios", "_law_unit", "_law_one", "_law_given", "_law_answer", "_law_due"] "_law_together_right" s_law_together_right f cd A outer s H E).N[3]? = some ("_law_given" : Str) ∧ (("_law_given" : Str) == ("__debug__" : Str)) = false ∧ (("_law_given" : Str) == ("__classdict__" : Str)) = false := ⟨rfl, by decide, by decide⟩
  have nm4 : (cxD P w K mg base ["_law_ratios", "_law_unit", "_law_one", "_law_given", "_law_answer", "_law_due"] "_law_together_right" s_law_together_right f cd A outer s H E).N[4]? = some ("_law_answer" : Str) ∧ (("_law_answer" : Str) == ("__debug__" : Str)) = false ∧ (("_law_answer" : Str) == ("__classdict__" : Str)) = false := ⟨rfl, by decide, by decide⟩
  have nm5 : (cxD P w K mg base ["_law_ratios", "_law_unit", "_law_one", "_law_given", "_law_answer", "_law_due"] "_law_together_right" s_law_together_right f cd A outer s H E).N[5]? = some ("_law_due" : Str) ∧ (("_law_due" : Str) == ("__debug__" : Str)) = false ∧ (("_law_due" : Str) == ("__classdict__" : Str)) = false := ⟨rfl, by decide, by decide⟩
  have bn_list : (cxD P w K mg base ["_law_ratios", "_law_unit", "_law_one", "_law_given", "_law_answer", "_law_due"] "_law_together_right" s_law_together_right f cd A outer s H E).mg "list" = none := m_list
  have bn_isinstance : (cxD P w K mg base ["_law_ratios", "_law_unit", "_law_one", "_law_given", "_law_answer", "_law_due"] "_law_together_right" s_law_together_right f cd A outer s H E).mg "isinstance" = none := m_isinstance
  have bn_tuple : (cxD P w K mg base ["_law_ratios", "_law_unit", "_law_one", "_law_given", "_law_answer", "_law_due"] "_law_together_right" s_law_together_right f cd A outer s H E).mg "tuple" = none := m_tuple
  have bn_len : (cxD P w K mg base ["_law_ratios", "_law_unit", "_law_one", "_law_given", "_law_answer", "_law_due"] "_law_together_right" s_law_together_right f cd A outer s H E).mg "len" = none := m_len
  obtain ⟨rs, rfl, hok, hl, q⟩ := h
  have hU := unitL_ok rs hok
  refine s_cons (s_set (i := 1) ?_)
  walk_at "dd"
  refine s_cut (fun δ μ' => ∃ v, δ = [some (.lst (rs.map dR)), some (.int (unitL rs)), v, none, none, none] ∧ μ' = μ) ?_ ?_
  · refine s_forL (ds := rs.map dR) ?_
    walk_at "dd"
    refine ⟨rfl, fun i δ μ' => ∃ v, δ = [some (.lst (rs.map dR)), some (.int (unitL (rs.take i))), v, none, none, none] ∧ μ' = μ, ⟨none, rfl, rfl⟩, ?_, ?_⟩
    · rintro i d δ' μ' hd ⟨v, rfl, rfl⟩
      obtain ⟨r, hr2, rfl⟩ := at_rats hd
      have hi := unitL_ok (rs.take i) fun r hr => hok r (List.mem_of_mem_take hr)
      have hlen : (rs.take i).length ≤ 8 := by
        rw [List.length_take]
        omega
      have hrk := hok r (mem_at hr2)
      have hub : (unitL (rs.take i)).natAbs < 2 ^ 961 := na_up hi.2 (by omega)
      have hgn := gcd_ne (a := unitL (rs.take i)) (b := r.2) (by omega)
      have hgs : ((Int.gcd (unitL (rs.take i)) r.2 : Nat) : Int).natAbs < 2 ^ 120 := Nat.lt_of_le_of_lt (by rw [Int.natAbs_natCast]; exact gcd_le (by have := hrk.pos; omega)) hrk.bot
      refine g_name (i := 2) fun G1 e1 => s_one (s_set (i := 1) ?_)
      unfold dR
      walk_at "dd"
      refine o_mul ⟨mulOk hub hrk.bot (by decide), ?_⟩
      refine d_call Cd ?_
      walk_at "dd"
      refine d_lst ?_
      walk_at "dd"
      refine ⟨(show 2 ≤ sizeLine by decide), ?_⟩
      walk_at "dd"
      refine ⟨[unitL (rs.take i), r.2], rfl, ?_⟩
      rw [gcdL_two]
      refine o_div ⟨divOk hgn hgs (by decide), ?_⟩
      refine ⟨some (.tup [.int r.1, .int r.2]), ?_, rfl⟩
      rw [unit_same (by omega), unitL_take hr2]
      rfl
    · rintro δ' μ' ⟨v, rfl, rfl⟩
      refine ⟨v, ?_, rfl⟩
      rw [List.length_map, List.take_length]
  · rintro δ' μ' ⟨v, rfl, rfl⟩
    refine s_cons (s_set (i := 3) ?_)
    walk_at "dd"
    refine c_listL ?_
    refine s_cons (s_set (i := 4) (d_call Ct ?_))
    walk_at "dd"
    refine ⟨rs, .inl rfl, hok, hl, fun p hp1 => ?_⟩
    have py1 : ∀ μ2 : Mu, Py μ2 (.lst (rs.map dR)) (.list (rs.map pR)) := fun _ => .lst (py_rats rs)
    have pyT : ∀ (μ2 : Mu) (p : Addr), μ2 p = some (.lst ((tops rs).map .int)) → Py μ2 (.tup [.int (unitL rs), .ref p]) (pUT (unitL rs) (tops rs)) := fun μ2 p hp => .tup (.cons (.int _) (.cons (.ref hp PyAll.ints) .nil))
    have pyD : ∀ (μ2 : Mu), Py μ2 (.tup [.int (unitL rs), .lst ((tops rs).map .int)]) (pUT (unitL rs) (tops rs)) := fun μ2 => .tup (.cons (.int _) (.cons (.lst PyAll.ints) .nil))
    refine s_cons (s_if (t_bool (tw_or ?_)))
    walk_at "dd"
    refine o_sameN (hu64 hr) (py1 _) (py1 _) (cl_list (canLay_rats rs)) (Nat.le_trans (depth_list (depth_rats rs)) (by decide)) ?_
    walk_at "dd"
    refine orN rfl (tw_or ?_)
    walk_at "dd"
    refine c_isi (k := true) ?_
    walk_at "dd"
    refine orN rfl (tw_or1 ?_)
    walk_at "dd"
    refine no rfl (s_nil ?_)
    refine s_cons (s_set (i := 5) (d_tup ?_))
    walk_at "dd"
    refine d_fz (d_lcL (own := [("_law_one", 2)]) (vs := [2]) 2 ?_)
    walk_at "dd"
    refine ⟨_, rfl, fun i acc μ2 => acc = ((rs.take i).map fun r => r.1 * (unitL rs).fdiv r.2).map .int ∧ μ2 = updM μ' p (.lst ((tops rs).map .int)), ⟨rfl, rfl⟩, ?_, ?_⟩
    · rintro i d acc μ2 p2 hd ⟨rfl, rfl⟩ hp2
      obtain ⟨r, hr2, rfl⟩ := at_rats hd
      have hrk := hok r (mem_at hr2)
      refine ⟨?_, fun G1 s H0 C cl fp => ?_⟩
      · rw [List.length_map, List.length_map, List.length_take, sizeLine_eq]
        omega
      · unfold dR
        walk_at "dd"
        refine o_div ⟨divOk (by have := hrk.pos; omega) hrk.bot (by decide), ?_⟩
        refine o_mul ⟨mulOk (b := 961) hrk.top ?_ (by decide), ?_⟩
        · refine Nat.lt_of_le_of_lt ?_ (na_up hU.2 (show 120 * rs.length + 1 ≤ 961 by omega))
          rw [Int.fdiv_eq_ediv_of_nonneg _ (by have := hrk.pos; omega)]
          exact Int.natAbs_ediv_le_natAbs _ _
        · refine ⟨_, rfl, hp2, ?_, rfl⟩
          rw [List.take_add_one, hr2, List.map_append, List.map_append]
          rfl
    · rintro acc μ2 p2 ⟨rfl, rfl⟩ hp2
      rw [List.length_map, List.take_length]
      refine fz_ref hp2 ?_
      walk_at "dd"
      refine ⟨(show 2 ≤ sizeLine by decide), ?_⟩
      show dSs _ _ _ (List.set _ 5 (some (.tup [.int (unitL rs), .lst ((tops rs).map .int)]))) _ _
      refine s_cons (s_if (t_bool (tw_or ?_)))
      walk_at "dd"
      refine o_sameN (hu64 hr) (pyT _ p updM_same) (pyD _) (pUT_lay _ _) (pUT_depth _ _) ?_
      walk_at "dd"
      refine orN rfl (tw_or1 (t_cmp (d_call Ct ?_)))
      walk_at "dd"
      refine c_tupL ?_
      walk_at "dd"
      refine ⟨rs, .inr rfl, hok, hl, fun p3 hp3 => ?_⟩
      walk_at "dd"
      refine o_sameN (hu64 hr) (pyT _ p3 updM_same) (pyD _) (pUT_lay _ _) (pUT_depth _ _) ?_
      walk_at "dd"
      refine no rfl (s_nil ?_)
      have hpp3 : p ≠ p3 := fun e => by
        rw [← e, updM_same] at hp3
        cases hp3
      refine s_cons (s_expr (d_append ?_))
      walk_at "dd"
      refine ⟨p, rfl, ⟨_, by rw [updM_ne hpp3, updM_same]⟩, ?_⟩
      walk_at "dd"
      refine ⟨_, by rw [updM_ne hpp3, updM_same], ?_, ?_⟩
      · unfold tops
        rw [List.length_map, List.length_map, sizeLine_eq]
        omega
      · refine s_one (s_ret (d_cmp (d_call Ct ?_)))
        walk_at "dd"
        refine ⟨rs, .inl rfl, hok, hl, fun p4 hp4 => ?_⟩
        walk_at "dd"
        refine o_same (hu64 hr) (pyT _ p4 updM_same) (pyD _) (pUT_lay _ _) (pUT_depth _ _) ?_
        refine q _ ?_
        have hp3' : μ' p3 = none := by
          rw [updM_ne (Ne.symm hpp3)] at hp3
          exact hp3
        refine Ext.new (Ext.out (Ext.out (Ext.out (Ext.refl _) hp1) hp3') hp1) hp4
end
end K11

open PySem PySem.Spec PyProof.Rows L2 DL
namespace K11
section
variable {P : Program} {w : World} {K : PySem.W.Frag} {mg : Str → Option Value} {base : Heap}
theorem upd_in {μ : Mu} {p q : Addr} {c d e : D} (hp : μ p = some e) (hq : μ q = none) : updM (updM (updM μ p c) q d) p e = updM (updM μ p e) q d := by
  have h : p ≠ q := fun z => by rw [z, hq] at hp; cases hp
  rw [updM_comm (Ne.symm h), updM_upd]
def spLowR : DSp := fun ds μ Φ _ => ∃ (p : Addr) (c : D) (n : Nat), ds = [.ref p] ∧ μ p = some c ∧ Pool n c ∧ n < 2 ^ 20 ∧ ∀ μ', Φ (.bl true) μ'
theorem ok_lowR (Df : DefT K mg "_law_lowest_right" s_law_lowest_right ["_law_pool_here"]) (Ct : Cal P w K mg base 1 "_law_take" spTake) (Cl : Cal P w K mg base 2 "lowest" spLowest) (Cw : Cal P w K mg base 2 "_law_low" spLow) (m_list : mg "list" = none) (m_int : mg "int" = none) (m_tuple : mg "tuple" = none) (m_range : mg "range" = none) : Cal P w K mg base 3 "_law_lowest_right" spLowR := by
  refine Df.cal (k := 2) sc_law_lowest_right (fun ds μ Φ Ψ ⟨p, c, n, e, _⟩ => by rw [e]; rfl) (fun ds μ Φ Ψ h => ⟨fun f cd A outer s H E G0 hr hp tk => ?_⟩)
  have hnd := sc_law_lowest_right.nd
  have nm0 : (cxD P w K mg base ["_law_pool_here", "_law_factor", "_law_many", "_law_numbers", "_law_saved", "_law_says", "_law_k"] "_law_lowest_right" s_law_lowest_right f cd A outer s H E).N[0]? = some ("_law_pool_here" : Str) ∧ (("_law_pool_here" : Str) == ("__debug__" : Str)) = false ∧ (("_law_pool_here" : Str) == ("__classdict__" : Str)) = false := ⟨rfl, by decide, by decide⟩
  have nm1 : (cxD P w K mg base ["_law_pool_here", "_law_factor", "_law_many", "_law_numbers", "_law_saved", "_law_says", "_law_k"] "_law_lowest_right" s_law_lowest_right f cd A outer s H E).N[1]? = some ("_law_factor" : Str) ∧ (("_law_factor" : Str) == ("__debug__" : Str)) = false ∧ (("_law_factor" : Str) == ("__classdict__" : Str)) = false := ⟨rfl, by decide, by decide⟩
  have nm2 : (cxD P w K mg base ["_law_pool_here", "_law_factor", "_law_many", "_law_numbers", "_law_saved", "_law_says", "_law_k"] "_law_lowest_right" s_law_lowest_right f cd A outer s H E).N[2]? = some ("_law_many" : Str) ∧ (("_law_many" : Str) == ("__debug__" : Str)) = false ∧ (("_law_many" : Str) == ("__classdict__" : Str)) = false := ⟨rfl, by decide, by decide⟩
  have nm3 : (cxD P w K mg base ["_law_pool_here", "_law_factor", "_law_many", "_law_numbers", "_law_saved", "_law_says", "_law_k"] "_law_lowest_right" s_law_lowest_right f cd A outer s H E).N[3]? = some ("_law_numbers" : Str) ∧ (("_law_numbers" : Str) == ("__debug__" : Str)) = false ∧ (("_law_numbers" : Str) == ("__classdict__" : Str)) = false := ⟨rfl, by decide, by decide⟩
  have nm4 : (cxD P w K mg base ["_law_pool_here", "_law_factor", "_law_many", "_law_numbers", "_law_saved", "_law_says", "_law_k"] "_law_lowest_right" s_law_lowest_right f cd A outer s H E).N[4]? = some ("_law_saved" : Str) ∧ (("_law_saved" : Str) == ("__debug__" : Str)) = false ∧ (("_law_saved" : Str) == ("__classdict__" : Str)) = false := ⟨rfl, by decide, by decide⟩
  have nm5 : (cxD P w K mg base ["_law_pool_here", "_law_factor", "_law_many", "_law_numbers", "_law_saved", "_law_says", "_law_k"] "_law_lowest_right" s_law_lowest_right f cd A outer s H E).N[5]? = some ("_law_says" : Str) ∧ (("_law_says" : Str) == ("__debug__" : Str)) = false ∧ (("_law_says" : Str) == ("__classdict__" : Str)) = false := ⟨rfl, by decide, by decide⟩
  have nm6 : (cxD P w K mg base ["_law_pool_here", "_law_factor", "_law_many", "_law_numbers", "_law_saved", "_law_says", "_law_k"] "_law_lowest_right" s_law_lowest_right f cd A outer s H E).N[6]? = some ("_law_k" : Str) ∧ (("_law_k" : Str) == ("__debug__" : Str)) = false ∧ (("_law_k" : Str) == ("__classdict__" : Str)) = false := ⟨rfl, by decide, by decide⟩
  have bn_int : (cxD P w K mg base ["_law_pool_here", "_law_factor", "_law_many", "_law_numbers", "_law_saved", "_law_says", "_law_k"] "_law_lowest_right" s_law_lowest_right f cd A outer s H E).mg "int" = none := m_int
  have bn_range : (cxD P w K mg base ["_law_pool_here", "_law_factor", "_law_many", "_law_numbers", "_law_saved", "_law_says", "_law_k"] "_law_lowest_right" s_law_lowest_right f cd A outer s H E).mg "range" = none := m_range
  have bn_list : (cxD P w K mg base ["_law_pool_here", "_law_factor", "_law_many", "_law_numbers", "_law_saved", "_law_says", "_law_k"] "_law_lowest_right" s_law_lowest_right f cd A outer s H E).mg "list" = none := m_list
  have bn_tuple : (cxD P w K mg base ["_law_pool_here", "_law_factor", "_law_many", "_law_numbers", "_law_saved", "_law_says", "_law_k"] "_law_lowest_right" s_law_lowest_right f cd A outer s H E).mg "tuple" = none := m_tuple
  obtain ⟨p, c, n, rfl, hμ, hP, hn, q⟩ := h
  -- the factor
  refine s_cut (fun δ μ' => ∃ z c', δ = [some (.ref p), some (.int z), none, none, none, none, none] ∧ μ' = updM μ p c' ∧ z.natAbs < 2 ^ 100 ∧ Pool (n + 2) c') ?_ ?_
  · refine s_set (i := 1) ?_
    walk_at "dd"
    refine d_call Ct ?_
    walk_at "dd"
    refine ⟨p, 1000, c, n, rfl, by decide, by decide, hμ, hP, by omega, fun d1 c1 h0 h1 hP1 => ?_⟩
    refine d_ix ?_
    refine d_lst ?_
    walk_at "dd"
    refine o_pow ⟨⟨by decide, by decide, by decide⟩, ?_⟩
    walk_at "dd"
    refine ⟨(show 2 ≤ sizeLine by decide), ?_⟩
    walk_at "dd"
    refine d_call Ct ?_
    walk_at "dd"
    refine ⟨p, 4, c1, n + 1, rfl, by decide, by decide, updM_same, hP1, by omega, fun d2 c2 g0 g1 hP2 => ?_⟩
    walk_at "dd"
    have hd1 : d1.natAbs < 2 ^ 10 := by omega
    by_cases e : d2 = 0
    · rw [decide_eq_true e]
      refine x_lst rfl (o_mul ⟨mulOk (b := 84) hd1 (by decide) (by decide), ⟨_, c2, rfl, updM_upd, na_up (na_mul (b := 84) hd1 (by decide)) (by decide), hP2⟩⟩)
    · rw [decide_eq_false e]
      refine x_lst rfl (o_mul ⟨mulOk (b := 84) hd1 (by decide) (by decide), ⟨_, c2, rfl, updM_upd, na_up (na_mul (b := 84) hd1 (by decide)) (by decide), hP2⟩⟩)
  · rintro δ μ' ⟨z, c', rfl, rfl, hz, hP'⟩
    -- how many
    refine s_cut (fun δ μ' => ∃ m c', δ = [some (.ref p), some (.int z), some (.int m), none, none, none, none] ∧ μ' = updM μ p c' ∧ 0 ≤ m ∧ m ≤ 40 ∧ Pool (n + 4) c') ?_ ?_
    · refine s_set (i := 2) ?_
      refine d_ix ?_
      refine d_lst ?_
      refine da_cons ?_
      refine d_call Ct ?_
      walk_at "dd"
      refine ⟨p, 7, c', n + 2, rfl, by decide, by decide, updM_same, hP', by omega, fun d1 c1 h0 h1 hP1 => ?_⟩
      walk_at "dd"
      refine ⟨(show 2 ≤ sizeLine by decide), ?_⟩
      walk_at "dd"
      refine d_call Ct ?_
      walk_at "dd"
      refine ⟨p, 8, c1, n + 3, rfl, by decide, by decide, updM_same, hP1, by omega, fun d2 c2 g0 g1 hP2 => ?_⟩
      walk_at "dd"
      by_cases e : d2 = 0
      · rw [decide_eq_true e]
        refine x_lst rfl ⟨_, c2, rfl, by rw [updM_upd, updM_upd], by decide, by decide, hP2⟩
      · rw [decide_eq_false e]
        refine x_lst rfl ⟨_, c2, rfl, by rw [updM_upd, updM_upd], h0, by omega, hP2⟩
    · rintro δ μ' ⟨m, c2, rfl, rfl, hm0, hm1, hP2⟩
      -- the numbers
      refine s_cut (fun δ μ' => ∃ (ns : List Int) (c' : D), δ = [some (.ref p), some (.int z), some (.int m), some (.lst (ns.map .int)), none, none, none] ∧ ns.length ≤ 40 ∧ (∀ n ∈ ns, n.natAbs < 2 ^ 8000) ∧ μ' = updM μ p c') ?_ ?_
      · refine s_setR (own := [("_law_k", 6)]) (vs := [6]) 3 6 ?_
        walk_at "dd"
        refine ⟨m, rfl, by omega, by omega, fun i acc μ2 => ∃ (ns : List Int) (c' : D), acc = ns.map .int ∧ ns.length = i ∧ (∀ n ∈ ns, n.natAbs < 2 ^ 8000) ∧ μ2 = updM μ p c' ∧ Pool (n + 4 + i) c', ⟨[], c2, rfl, rfl, (fun n h => by cases h), rfl, hP2⟩, ?_, ?_⟩
        · rintro i acc μ2 qq hi ⟨ns, c3, rfl, hl, hb, rfl, hP3⟩ hq
          have hpq : p ≠ qq := fun e => by rw [← e, updM_same] at hq; cases hq
          refine ⟨by rw [List.length_map, sizeLine_eq]; omega, fun G1 s H0 C cl fp => ?_⟩
          walk_at "dd"
          refine d_call Ct ?_
          walk_at "dd"
          refine ⟨p, 41, c3, n + 4 + i, rfl, by decide, by decide, by rw [updM_ne hpq, updM_same], hP3, by omega, fun d1 c4 h0 h1 hP4 => ?_⟩
          walk_at "dd"
          have hd : (d1 - 20).natAbs < 2 ^ 6 := by omega
          refine o_mul ⟨mulOk hz hd (by decide), ?_⟩
          refine ⟨updM μ p c4, ?_, ?_, ns ++ [z * (d1 - 20)], c4, ?_, ?_, ?_, rfl, hP4⟩
          · rw [updM_comm (Ne.symm hpq), updM_upd]
          · rw [updM_ne (Ne.symm hpq)]
            rw [updM_ne (Ne.symm hpq)] at hq
            exact hq
          · rw [List.map_append]
            rfl
          · rw [List.length_append, hl]
            rfl
          · intro x hx
            rcases List.mem_append.mp hx with h | h
            · exact hb x h
            · rw [List.mem_singleton.mp h]
              exact na_up (na_mul hz hd) (by decide)
        · rintro acc μ2 qq ⟨ns, c3, rfl, hl, hb, rfl, hP3⟩ hq
          exact fz_ref hq ⟨ns, c3, rfl, by omega, hb, rfl⟩
      · rintro δ μ' ⟨ns, c3, rfl, hl, hb, rfl⟩
        have hb2 : ns.length ≤ 1000 := by omega
        have hlow : (low ns).length ≤ 40 := by
          unfold low
          split
          · exact hl
          · rw [List.length_map]
            exact hl
        refine s_cons (s_set (i := 4) ?_)
        walk_at "dd"
        refine c_listL ?_
        refine s_cons (s_set (i := 5) ?_)
        refine d_call Cl ?_
        walk_at "dd"
        refine ⟨ns, .inl rfl, hb, hb2, fun p2 hp2 => ?_⟩
        have pyL : ∀ (μ2 : Mu) (ks : List Int), Py μ2 (.lst (ks.map .int)) (.list (ks.map .int)) := fun _ _ => .lst PyAll.ints
        have pyR : ∀ (μ2 : Mu) (ks : List Int) (p : Addr), μ2 p = some (.lst (ks.map .int)) → Py μ2 (.ref p) (.list (ks.map .int)) := fun _ _ _ h => .ref h PyAll.ints
        have dl : ∀ ks : List Int, (PyData.list (ks.map .int)).depth ≤ 64 := fun ks => Nat.le_trans (depth_list (depth_ints ks)) (by decide)
        refine s_cons (s_if (t_bool (tw_or (t_cmp ?_))))
        walk_at "dd"
        refine d_call Cw ?_
        walk_at "dd"
        refine ⟨ns, rfl, hb, hb2, ?_⟩
        refine o_sameN (hu64 hr) (pyR _ _ p2 updM_same) (pyL _ _) (cl_list (canLay_ints _)) (dl _) ?_
        walk_at "dd"
        refine orN rfl (tw_or1 (t_cmp ?_))
        walk_at "dd"
        refine o_sameN (hu64 hr) (pyL _ _) (pyL _ _) (cl_list (canLay_ints _)) (dl _) ?_
        walk_at "dd"
        refine no rfl (s_nil ?_)
        refine s_cons (s_expr (d_append ?_))
        walk_at "dd"
        refine ⟨p2, rfl, ⟨_, updM_same⟩, ?_⟩
        walk_at "dd"
        refine ⟨_, updM_same, by rw [List.length_map, sizeLine_eq]; omega, ?_⟩
        refine s_one (s_ret ?_)
        refine d_and ?_
        walk_at "dd"
        refine o_same (hu64 hr) (pyL _ _) (pyL _ _) (cl_list (canLay_ints _)) (dl _) ?_
        refine bl_ex (yes rfl (d_one ?_))
        walk_at "dd"
        refine d_call Cl ?_
        walk_at "dd"
        refine c_tupL ?_
        walk_at "dd"
        refine ⟨ns, .inr rfl, hb, hb2, fun p4 hp4 => ?_⟩
        refine d_call Cw ?_
        walk_at "dd"
        refine ⟨ns, rfl, hb, hb2, ?_⟩
        exact o_same (hu64 hr) (pyR _ _ p4 updM_same) (pyL _ _) (cl_list (canLay_ints _)) (dl _) (q _)
def spRefused : DSp := fun ds μ Φ _ => ∃ a : Int, ds = [.int a] ∧ Φ (.bl true) μ
theorem ok_refused {CB : Addr} (Df : DefT K mg "_law_refused" s_law_refused ["_law_up"]) (Cr : Cal P w K mg base 3 "ratio" (spRatio CB)) (TE : ExcT P w K mg base "BadRatio" "bottom" CB) (Cn : CalH P w K mg base 1 "_law_is_number" spNum) : Cal P w K mg base 4 "_law_refused" spRefused := by
  refine Df.cal (k := 3) sc_law_refused (fun ds μ Φ Ψ ⟨a, e, _⟩ => by rw [e]; rfl) (fun ds μ Φ Ψ h => ⟨fun f cd A outer s H E G0 hr hp tk => ?_⟩)
  have hnd := sc_law_refused.nd
  have nm0 : (cxD P w K mg base ["_law_up", "e"] "_law_refused" s_law_refused f cd A outer s H E).N[0]? = some ("_law_up" : Str) ∧ (("_law_up" : Str) == ("__debug__" : Str)) = false ∧ (("_law_up" : Str) == ("__classdict__" : Str)) = false := ⟨rfl, by decide, by decide⟩
  have nm1 : (cxD P w K mg base ["_law_up", "e"] "_law_refused" s_law_refused f cd A outer s H E).N[1]? = some ("e" : Str) ∧ (("e" : Str) == ("__debug__" : Str)) = false ∧ (("e" : Str) == ("__classdict__" : Str)) = false := ⟨rfl, by decide, by decide⟩
  obtain ⟨a, rfl, q⟩ := h
  refine s_cons (s_try 1 TE.gC tk (fun pn xe hp2 tk2 => s_one (s_expr (d_callX Cr tk2 ?_))))
  walk_at "dd"
  refine ⟨a, 0, rfl, fun _ => ?_, fun z => absurd rfl z⟩
  refine ⟨true, TE.exm, fun _ x d oe pn2 hz hv => ?_, (fun z => by cases z), fun _ z => by unfold bareG at z; injection z with z _; injection z with _ z; cases z⟩
  have hrh := L2H.roomH_mark hr (some (.ref x))
  refine s_one (s_ret (d_and (d_callH Cn (hot_suite hz hv) (da_cons (d_errf (v := .int 0) (gs := [("bottom", .int 0)]) hz hv TE.xf TE.noF ?_)))))
  walk_at "dd"
  refine ⟨rfl, by simp [List.lookup], ?_⟩
  walk_at "dd"
  refine ⟨_, rfl, bl_ex (yes rfl (d_one (d_cmp (d_errf (v := .int 0) (gs := [("bottom", .int 0)]) hz hv TE.xf TE.noF ?_))))⟩
  walk_at "dd"
  refine ⟨rfl, by simp [List.lookup], ?_⟩
  walk_at "dd"
  exact q
end
end K11

open PySem PySem.Spec PyProof.Rows L2 DL
namespace K11
section
variable {P : Program} {w : World} {K : PySem.W.Frag} {mg : Str → Option Value} {base : Heap}
def swapD (ds : List D) : List D := [ds.getD 1 .non, ds.getD 0 .non]
def spLaw : DSp := fun ds _ Φ _ => ∃ ns : List Int, ds = [.scr ns] ∧ ns.length ≤ 63 ∧ ∀ μ', Φ (.bl true) μ'
theorem rok_rat {u v : Int} (hv : v ≠ 0) (h1 : u.natAbs < 2 ^ 100) (h2 : v.natAbs < 2 ^ 100) : ROk (rT u v, rB u v) :=
  ⟨rB_pos hv, Nat.lt_of_le_of_lt (rT_abs hv) (Nat.lt_of_lt_of_le h1 (Nat.pow_le_pow_right (by decide) (by decide))), Nat.lt_of_le_of_lt (rB_abs hv) (Nat.lt_of_lt_of_le h2 (Nat.pow_le_pow_right (by decide) (by decide)))⟩
theorem body_law {CB : Addr} (Cp : Cal P w K mg base 1 "_law_pool" spPool) (Ct : Cal P w K mg base 1 "_law_take" spTake) (Ci : Cal P w K mg base 2 "_law_integer" spInt)
    (Cr : Cal P w K mg base 3 "ratio" (spRatio CB)) (Cd : CalD P w K mg base 3 "ratio" [.int 1] (spRatio CB)) (Ck : CalK P w K mg base 3 "ratio" ["bottom", "top"] swapD (spRatio CB)) (Cm : Cal P w K mg base 3 "_law_in_terms" spTerms)
    (Cf : Cal P w K mg base 4 "_law_refused" spRefused) (Cn : Cal P w K mg base 6 "_law_near_right" spNear) (Cw : Cal P w K mg base 5 "_law_two_right" spTwo) (Cg : Cal P w K mg base 3 "_law_together_right" spTogR) (Cl : Cal P w K mg base 3 "_law_lowest_right" spLowR)
    (m_range : mg "range" = none) : ∀ ds μ Φ Ψ, spLaw ds μ Φ Ψ → Body P w K mg base 6 ["_law_script", "_law_pool_here", "_law_made", "_law_k", "_law_pair", "_law_one", "_law_other"] "law" s_law ds μ Φ Ψ := by
  refine fun ds μ Φ Ψ h => ⟨fun f cd A outer s H E G0 hr hp tk => ?_⟩
  have hnd := sc_law.nd
  have nm0 : (cxD P w K mg base ["_law_script", "_law_pool_here", "_law_made", "_law_k", "_law_pair", "_law_one", "_law_other"] "law" s_law f cd A outer s H E).N[0]? = some ("_law_script" : Str) ∧ (("_law_script" : Str) == ("__debug__" : Str)) = false ∧ (("_law_script" : Str) == ("__classdict__" : Str)) = false := ⟨rfl, by decide, by decide⟩
  have nm1 : (cxD P w K mg base ["_law_script", "_law_pool_here", "_law_made", "_law_k", "_law_pair", "_law_one", "_law_other"] "law" s_law f cd A outer s H E).N[1]? = some ("_law_pool_here" : Str) ∧ (("_law_pool_here" : Str) == ("__debug__" : Str)) = false ∧ (("_law_pool_here" : Str) == ("__classdict__" : Str)) = false := ⟨rfl, by decide, by decide⟩
  have nm2 : (cxD P w K mg base ["_law_script", "_law_pool_here", "_law_made", "_law_k", "_law_pair", "_law_one", "_law_other"] "law" s_law f cd A outer s H E).N[2]? = some ("_law_made" : Str) ∧ (("_law_made" : Str) == ("__debug__" : Str)) = false ∧ (("_law_made" : Str) == ("__classdict__" : Str)) = false := ⟨rfl, by decide, by decide⟩
  have nm3 : (cxD P w K mg base ["_law_script", "_law_pool_here", "_law_made", "_law_k", "_law_pair", "_law_one", "_law_other"] "law" s_law f cd A outer s H E).N[3]? = some ("_law_k" : Str) ∧ (("_law_k" : Str) == ("__debug__" : Str)) = false ∧ (("_law_k" : Str) == ("__classdict__" : Str)) = false := ⟨rfl, by decide, by decide⟩
  have nm4 : (cxD P w K mg base ["_law_script", "_law_pool_here", "_law_made", "_law_k", "_law_pair", "_law_one", "_law_other"] "law" s_law f cd A outer s H E).N[4]? = some ("_law_pair" : Str) ∧ (("_law_pair" : Str) == ("__debug__" : Str)) = false ∧ (("_law_pair" : Str) == ("__classdict__" : Str)) = false := ⟨rfl, by decide, by decide⟩
  have nm5 : (cxD P w K mg base ["_law_script", "_law_pool_here", "_law_made", "_law_k", "_law_pair", "_law_one", "_law_other"] "law" s_law f cd A outer s H E).N[5]? = some ("_law_one" : Str) ∧ (("_law_one" : Str) == ("__debug__" : Str)) = false ∧ (("_law_one" : Str) == ("__classdict__" : Str)) = false := ⟨rfl, by decide, by decide⟩
  have nm6 : (cxD P w K mg base ["_law_script", "_law_pool_here", "_law_made", "_law_k", "_law_pair", "_law_one", "_law_other"] "law" s_law f cd A outer s H E).N[6]? = some ("_law_other" : Str) ∧ (("_law_other" : Str) == ("__debug__" : Str)) = false ∧ (("_law_other" : Str) == ("__classdict__" : Str)) = false := ⟨rfl, by decide, by decide⟩
  have bn_range : (cxD P w K mg base ["_law_script", "_law_pool_here", "_law_made", "_law_k", "_law_pair", "_law_one", "_law_other"] "law" s_law f cd A outer s H E).mg "range" = none := m_range
  obtain ⟨ns, rfl, hns, fin⟩ := h
  refine s_cons (s_set (i := 1) ?_)
  refine d_call Cp ?_
  walk_at "dd"
  refine ⟨ns, rfl, hns, fun p c hpn hP => ?_⟩
  refine s_cons (s_set (i := 2) ?_)
  refine d_lstM ?_
  walk_at "dd"
  refine ⟨Nat.zero_le _, fun q hq => ?_⟩
  have hpq : p ≠ q := fun e => by rw [← e, updM_same] at hq; cases hq
  have hMp : updM (updM μ p c) q (.lst []) p = some c := by rw [updM_ne hpq, updM_same]
  have hMq : updM (updM μ p c) q (.lst []) q = some (.lst []) := updM_same
  generalize updM (updM μ p c) q (.lst []) = μ1 at hMp hMq ⊢
  -- the pairs
  refine s_cut (fun δ μ' => ∃ (rs : List (Int × Int)) (c : D) (v3 v4 v5 : Option D), δ = [some (.scr ns), some (.ref p), some (.ref q), v3, v4, v5, none] ∧ rs.length ≤ 5 ∧ (∀ r ∈ rs, ROk r) ∧ μ' p = some c ∧ Pool 21 c ∧ μ' q = some (.lst (rs.map dR))) ?_ ?_
  · refine s_forR ?_
    walk_at "dd"
    refine d_call Ct ?_
    walk_at "dd"
    refine ⟨p, 5, c, 0, rfl, by decide, by decide, hMp, hP, by decide, fun d c1 h0 h1 hP1 => ?_⟩
    walk_at "dd"
    refine ⟨_, rfl, by omega, by omega, fun i δ' μ' => ∃ (rs : List (Int × Int)) (c : D) (v3 v4 v5 : Option D), δ' = [some (.scr ns), some (.ref p), some (.ref q), v3, v4, v5, none] ∧ rs.length = i ∧ (∀ r ∈ rs, ROk r) ∧ μ' p = some c ∧ Pool (1 + 4 * i) c ∧ μ' q = some (.lst (rs.map dR)), ?_, ?_, ?_⟩
    · exact ⟨[], c1, none, none, none, rfl, rfl, (fun r h => by cases h), updM_same, hP1, by rw [updM_ne (Ne.symm hpq)]; exact hMq⟩
    · rintro i δ' μ' hi ⟨rs, c2, v3, v4, v5, rfl, hlen, hok, hp2, hP2, hq2⟩
      refine g_name (i := 3) fun G1 e1 => ?_
      refine s_cons (s_set (i := 4) ?_)
      refine d_lstM ?_
      walk_at "dd"
      refine d_call Ci ?_
      walk_at "dd"
      refine ⟨p, c2, _, rfl, hp2, hP2, by omega, fun u c3 hu hP3 => ?_⟩
      walk_at "dd"
      refine d_call Ci ?_
      walk_at "dd"
      refine ⟨p, c3, _, rfl, updM_same, hP3, by omega, fun v c4 hv hP4 => ?_⟩
      walk_at "dd"
      refine ⟨(show 2 ≤ sizeLine by decide), fun r hrn => ?_⟩
      rw [updM_upd] at hrn ⊢
      have hpr : p ≠ r := fun e => by rw [← e, updM_same] at hrn; cases hrn
      have hqr : q ≠ r := fun e => by rw [← e, updM_ne (Ne.symm hpq), hq2] at hrn; cases hrn
      have f1 : updM (updM μ' p c4) r (.lst [.int u, .int v]) p = some c4 := by rw [updM_ne hpr, updM_same]
      have f2 : updM (updM μ' p c4) r (.lst [.int u, .int v]) q = some (.lst (rs.map dR)) := by rw [updM_ne hqr, updM_ne (Ne.symm hpq)]; exact hq2
      have f3 : updM (updM μ' p c4) r (.lst [.int u, .int v]) r = some (.lst [.int u, .int v]) := updM_same
      generalize updM (updM μ' p c4) r (.lst [.int u, .int v]) = M at f1 f2 f3 ⊢
      refine s_cut (fun δ μ'' => ∃ v' : Int, δ = [some (.scr ns), some (.ref p), some (.ref q), some (.int i), some (.ref r), v5, none] ∧ v' ≠ 0 ∧ v'.natAbs < 2 ^ 100 ∧ μ'' p = some c4 ∧ μ'' q = some (.lst (rs.map dR)) ∧ μ'' r = some (.lst [.int u, .int v'])) ?_ ?_
      · refine s_if ?_
        walk_at "dd"
        refine x_mut f3 rfl ?_
        walk_at "dd"
        refine way (fun h0 => ?_) (fun h0 => ?_)
        · refine s_one (s_item ?_)
          walk_at "dd"
          refine ⟨r, 1, _, 1, rfl, rfl, f3, rfl, ⟨-1 - (i : Int), rfl, by omega, by omega, ?_, ?_, updM_same⟩⟩
          · rw [updM_ne hpr]
            exact f1
          · rw [updM_ne hqr]
            exact f2
        · exact s_nil ⟨v, rfl, h0, hv, f1, f2, f3⟩
      · rintro δ μ2 ⟨v', rfl, hv0, hv1, g1, g2, g3⟩
        have hv2 : v'.natAbs < 2 ^ 8000 := na_up hv1 (by decide)
        refine s_cons (s_set (i := 5) ?_)
        refine d_call Cr ?_
        walk_at "dd"
        refine x_mut g3 rfl ?_
        walk_at "dd"
        refine x_mut g3 rfl ?_
        walk_at "dd"
        refine ⟨u, v', rfl, fun z => absurd z hv0, fun _ => ⟨hv2, ?_⟩⟩
        refine s_cons (s_if (t_bool (tw_or ?_)))
        walk_at "dd"
        refine d_call Cm ?_
        walk_at "dd"
        refine x_mut g3 rfl ?_
        walk_at "dd"
        refine x_mut g3 rfl ?_
        walk_at "dd"
        refine ⟨u, v', rfl, hv0, hv2, ?_⟩
        walk_at "dd"
        refine orN rfl (tw_or1 ?_)
        walk_at "dd"
        refine d_call Cm ?_
        refine da_cons ?_
        refine d_callD Cd ?_
        walk_at "dd"
        refine x_mut g3 rfl ?_
        walk_at "dd"
        refine ⟨u, 1, rfl, fun z => absurd z (by decide), fun _ => ⟨by decide, ?_⟩⟩
        walk_at "dd"
        refine x_mut g3 rfl ?_
        walk_at "dd"
        refine ⟨u, 1, rfl, by decide, by decide, ?_⟩
        walk_at "dd"
        refine no rfl (s_nil ?_)
        refine s_cons (s_if (t_bool (tw_or ?_)))
        walk_at "dd"
        refine d_callK Ck ?_
        refine dk_cons ?_
        walk_at "dd"
        refine x_mut g3 rfl ?_
        refine dk_cons ?_
        walk_at "dd"
        refine x_mut g3 rfl ?_
        refine dk_nil ?_
        refine ⟨rfl, ⟨u, v', rfl, fun z => absurd z hv0, fun _ => ⟨hv2, ?_⟩⟩⟩
        walk_at "dd"
        unfold rat
        refine o_sameN (hu64 hr) (py_two _ _) (py_two _ _) rfl (Nat.le_of_ble_eq_true rfl) ?_
        walk_at "dd"
        refine orN rfl (tw_or1 ?_)
        walk_at "dd"
        refine d_call Cf ?_
        walk_at "dd"
        refine x_mut g3 rfl ?_
        walk_at "dd"
        refine ⟨u, rfl, ?_⟩
        walk_at "dd"
        refine no rfl (s_nil ?_)
        refine s_one (s_expr ?_)
        refine d_append ?_
        walk_at "dd"
        refine ⟨q, rfl, ⟨_, g2⟩, ?_⟩
        walk_at "dd"
        refine ⟨_, g2, by rw [List.length_map, sizeLine_eq]; omega, ?_⟩
        refine ⟨rs ++ [(rT u v', rB u v')], c4, _, _, _, rfl, ?_, ?_, ?_, ?_, ?_⟩
        · rw [List.length_append, hlen]
          rfl
        · intro x hx
          rcases List.mem_append.mp hx with h | h
          · exact hok x h
          · rw [List.mem_singleton.mp h]
            exact rok_rat hv0 hu hv1
        · rw [updM_ne hpq]
          exact g1
        · have e : 1 + 4 * (i + 1) = 1 + 4 * i + 2 + 2 := by omega
          rw [e]
          exact hP4
        · rw [updM_same, List.map_append]
          rfl
    · rintro δ' μ' ⟨rs, c2, v3, v4, v5, rfl, hlen, hok, hp2, ⟨i, cur, ks, e, a1, a2, a3, a4⟩, hq2⟩
      exact ⟨rs, c2, v3, v4, v5, rfl, by omega, hok, hp2, ⟨i, cur, ks, e, a1, by omega, a3, a4⟩, hq2⟩
  · rintro δ μ2 ⟨rs, c2, v3, v4, v5, rfl, hlen, hok, hp2, hP2, hq2⟩
    refine s_frzD (i := 2) rfl hq2 ?_
    have hp3 : delM μ2 q p = some c2 := by rw [delM_ne hpq]; exact hp2
    generalize delM μ2 q = μ3 at hp3 ⊢
    refine s_cut (fun δ μ' => ∃ v5 v6, δ = [some (.scr ns), some (.ref p), some (.lst (rs.map dR)), v3, v4, v5, v6] ∧ μ3 = μ') ?_ ?_
    · refine s_forL (ds := rs.map dR) ?_
      walk_at "dd"
      refine ⟨rfl, fun i δ μ' => ∃ v5 v6, δ = [some (.scr ns), some (.ref p), some (.lst (rs.map dR)), v3, v4, v5, v6] ∧ μ3 = μ', ⟨v5, none, rfl, rfl⟩, ?_, ?_⟩
      · rintro i d δ' μ' hd ⟨v5, v6, rfl, rfl⟩
        obtain ⟨r, hr2, rfl⟩ := at_rats hd
        have rk := hok r (mem_at hr2)
        refine g_name (i := 5) fun G1 e1 => ?_
        refine s_cons (s_if ?_)
        walk_at "dd"
        refine d_call Cn ?_
        walk_at "dd"
        refine ⟨r.1, r.2, rfl, rk.pos, na_up rk.top (by decide), na_up rk.bot (by decide), ?_⟩
        walk_at "dd"
        refine no rfl (s_nil ?_)
        refine s_one (s_forL (ds := (rs ++ [(0, 1)]).map dR) ?_)
        walk_at "dd"
        refine d_lst ?_
        walk_at "dd"
        refine ⟨by decide, ?_⟩
        walk_at "dd"
        refine ⟨by decide, o_cat ⟨by rw [List.length_map, sizeLine_eq]; show rs.length + 1 ≤ _; omega, ?_⟩⟩
        refine ⟨by rw [List.map_append]; rfl, fun j δ μ' => ∃ v6, δ = [some (.scr ns), some (.ref p), some (.lst (rs.map dR)), v3, v4, some (dR r), v6] ∧ μ3 = μ', ⟨v6, rfl, rfl⟩, ?_, ?_⟩
        · rintro j d δ' μ' hd ⟨v6, rfl, rfl⟩
          obtain ⟨s2, hs2, rfl⟩ := at_rats hd
          have sk : ROk s2 := by
            rcases List.mem_append.mp (mem_at hs2) with h | h
            · exact hok _ h
            · rw [List.mem_singleton.mp h]
              exact ⟨by decide, by decide, by decide⟩
          have p1 := rk.pos
          have p2 := sk.pos
          refine g_name (i := 6) fun G2 e2 => ?_
          refine s_one (s_if ?_)
          walk_at "dd"
          refine d_call Cw ?_
          walk_at "dd"
          refine ⟨r.1, r.2, s2.1, s2.2, ⟨rfl, by omega, by omega, na_up rk.top (by decide), na_up rk.bot (by decide), na_up sk.top (by decide), na_up sk.bot (by decide)⟩, ?_⟩
          walk_at "dd"
          exact no rfl (s_nil ⟨_, rfl, rfl⟩)
        · rintro δ' μ' ⟨v6, rfl, rfl⟩
          exact ⟨_, _, rfl, rfl⟩
      · rintro δ' μ' ⟨v5, v6, rfl, rfl⟩
        exact ⟨_, _, rfl, rfl⟩
    · rintro δ' μ' ⟨v5, v6, rfl, rfl⟩
      refine s_cons (s_if (t_bool (tw_or ?_)))
      walk_at "dd"
      refine d_call Cg ?_
      walk_at "dd"
      refine ⟨rs, rfl, hok, by omega, fun μ4 x4 => ?_⟩
      walk_at "dd"
      refine orN rfl (tw_or1 ?_)
      walk_at "dd"
      refine d_call Cg ?_
      walk_at "dd"
      refine d_lst ?_
      walk_at "dd"
      refine ⟨Nat.zero_le _, ?_⟩
      walk_at "dd"
      refine ⟨[], rfl, (fun r h => by cases h), by decide, fun μ5 x5 => ?_⟩
      walk_at "dd"
      refine no rfl (s_nil ?_)
      refine s_one (s_ret ?_)
      refine d_call Cl ?_
      walk_at "dd"
      exact ⟨p, c2, 21, rfl, x5 _ _ (x4 _ _ hp3), hP2, by decide, fun μ6 => fin μ6⟩
end
end K11

open PySem PySem.Spec PyProof.Rows L2 DL
namespace K11
section
variable {P : Program} {w : World} {K : PySem.W.Frag} {mg : Str → Option Value} {base h : Heap}
theorem ok_binit {C fI : Addr} {oc : Value} {od an : Option Addr} {osl : Array (Option Value)} {dV kV doc pm cdv ct : Value} (oex : OexC K C) (no : PySem.W.findIn K (.ref C) "bottom" = some none)
    (lk : K.lookup fI = some ⟨oc, od, .func (PySem.W.fnOf "__init__" "BadRatio.__init__" (defArgs s_BadRatio_init) (defBody s_BadRatio_init) (defScope s_BadRatio_init) dV kV doc pm an cdv ct), osl⟩) (c : PySem.W.codeIn K cdv "BadRatio.__init__" = true) :
    FnOk P w K mg base (L2N.CX P w) 1 fI (PySem.W.fnOf "__init__" "BadRatio.__init__" (defArgs s_BadRatio_init) (defBody s_BadRatio_init) (defScope s_BadRatio_init) dV kV doc pm an cdv ct) ["self", "bottom"] (spInit K C "bottom") := by
  refine fn_of lk c sc_BadRatio_init (fun vs H Q E h => ?_) (fun A outer s H vs Q E hr h => ?_)
  · obtain ⟨a, v, rfl, _⟩ := h
    rfl
  · obtain ⟨a, v, rfl, ha, q⟩ := h
    refine ⟨_, pss_one (ps_ost (pv 0) (pv 1)), ?_⟩
    exact ⟨_, rfl, _, rfl, a, C, rfl, oex, no, .inl ⟨ha, fun dx h1 h2 => q dx h1 h2⟩⟩
theorem all_mk {fa C CD fI fR fL T : Addr} {to : Obj} {tn : Nat} {tt : Tok} {f0 f1 f2 f3 f4 f5 f6 f7 f8 f9 f10 f11 f12 f13 f14 f15 f16 f17 f18 f19 f20 : Addr} (KI : K.In h) (G : h.Ns mainGlobals mg) (hfa : mg "law" = some (.ref fa))
    {nm q : Str} {N : Addr} {bs : List Value} {sn : List Str} {sub : List Value} {ab : Bool} {col : Option Bool} {dd : Option Addr} {m0 m1 m2 m3 m5 : Option Value}
    {odI anI odR anR odL anL od0 an0 od1 an1 od2 an2 od3 an3 od4 an4 od5 an5 od6 an6 od7 an7 od8 an8 od9 an9 od10 an10 od11 an11 od12 an12 od13 an13 od14 an14 od15 an15 od16 an16 od17 an17 od18 an18 od19 an19 od20 an20 : Option Addr} {slI slR slL sl0 sl1 sl2 sl3 sl4 sl5 sl6 sl7 sl8 sl9 sl10 sl11 sl12 sl13 sl14 sl15 sl16 sl17 sl18 sl19 sl20 : Array (Option Value)} {ocI kVI dcI pmI cdI ctI ocR kVR dcR pmR cdR ctR ocL kVL dcL pmL cdL ctL oc0 kV0 dc0 pm0 cd0 ct0 oc1 kV1 dc1 pm1 cd1 ct1 oc2 kV2 dc2 pm2 cd2 ct2 oc3 kV3 dc3 pm3 cd3 ct3 oc4 kV4 dc4 pm4 cd4 ct4 oc5 kV5 dc5 pm5 cd5 ct5 oc6 kV6 dc6 pm6 cd6 ct6 oc7 kV7 dc7 pm7 cd7 ct7 oc8 kV8 dc8 pm8 cd8 ct8 oc9 kV9 dc9 pm9 cd9 ct9 oc10 kV10 dc10 pm10 cd10 ct10 oc11 kV11 dc11 pm11 cd11 ct11 oc12 kV12 dc12 pm12 cd12 ct12 oc13 kV13 dc13 pm13 cd13 ct13 oc14 kV14 dc14 pm14 cd14 ct14 oc15 kV15 dc15 pm15 cd15 ct15 oc16 kV16 dc16 pm16 cd16 ct16 oc17 kV17 dc17 pm17 cd17 ct17 oc18 kV18 dc18 pm18 cd18 ct18 oc19 kV19 dc19 pm19 cd19 ct19 oc20 kV20 dc20 pm20 cd20 ct20 : Value}
    (aC : PySem.W.nsIn K mainGlobals "BadRatio" = some (some (.ref C)))
    (xL : K.lookup C = some (excClassObj nm q C N bs [.ref CD, .type "ValueError", .type "Exception", .type "BaseException", .type "object"] true sn sub ab col dd m0 m1 m2 m3 m5 "ValueError.__new__"))
    (sa : PySem.W.findIn K (.ref C) "__setattr__" = some (some (.builtin "object.__setattr__"))) (ga : PySem.W.findIn K (.ref C) "__getattribute__" = some (some (.builtin "BaseException.__getattribute__"))) (gg : PySem.W.findIn K (.ref C) "__getattr__" = some none) (nb : PySem.W.findIn K (.ref C) "bottom" = some none)
    (aI : PySem.W.findIn K (.ref C) "__init__" = some (some (.ref fI))) (tI : PySem.W.typeIn K (.ref fI) = some (.type "function"))
    (lI : K.lookup fI = some ⟨ocI, odI, .func (PySem.W.fnOf "__init__" "BadRatio.__init__" (defArgs s_BadRatio_init) (defBody s_BadRatio_init) (defScope s_BadRatio_init) .none kVI dcI pmI anI cdI ctI), slI⟩) (cI : PySem.W.codeIn K cdI "BadRatio.__init__" = true)
    (kC : PySem.W.keepIn K (.ref C) = true) (eC : PySem.W.subIn K (.ref C) (.type "BaseException") = some true) (tC : PySem.W.typeIn K (.ref C) = some (.type "type")) (hC : PySem.W.hasDictIn K C = true) (iC : PySem.W.isClsIn K C = true) (sC : PySem.W.subIn K (.ref C) (.ref C) = some true)
    (aR : PySem.W.nsIn K mainGlobals "ratio" = some (some (.ref fR))) (lR : K.lookup fR = some ⟨ocR, odR, .func (PySem.W.fnOf "ratio" "ratio" (defArgs s_ratio) (defBody s_ratio) (defScope s_ratio) (.ref T) kVR dcR pmR anR cdR ctR), slR⟩) (cR : PySem.W.codeIn K cdR "ratio" = true) (kR : PySem.W.keepIn K (.ref fR) = true) (lT : K.lookup T = some to) (oT : to.data = .seq [.int 1 tt].toArray tn)
    (aL : PySem.W.nsIn K mainGlobals "law" = some (some (.ref fL))) (lL : K.lookup fL = some ⟨ocL, odL, .func (PySem.W.fnOf "law" "law" (defArgs s_law) (defBody s_law) (defScope s_law) .none kVL dcL pmL anL cdL ctL), slL⟩) (cL : PySem.W.codeIn K cdL "law" = true)
    (a0 : PySem.W.nsIn K mainGlobals "common_divisor" = some (some (.ref f0))) (l0 : K.lookup f0 = some ⟨oc0, od0, .func (PySem.W.fnOf "common_divisor" "common_divisor" (defArgs s_common_divisor) (defBody s_common_divisor) (defScope s_common_divisor) .none kV0 dc0 pm0 an0 cd0 ct0), sl0⟩) (c0 : PySem.W.codeIn K cd0 "common_divisor" = true) (k0 : PySem.W.keepIn K (.ref f0) = true)
    (a1 : PySem.W.nsIn K mainGlobals "plus" = some (some (.ref f1))) (l1 : K.lookup f1 = some ⟨oc1, od1, .func (PySem.W.fnOf "plus" "plus" (defArgs s_plus) (defBody s_plus) (defScope s_plus) .none kV1 dc1 pm1 an1 cd1 ct1), sl1⟩) (c1 : PySem.W.codeIn K cd1 "plus" = true) (k1 : PySem.W.keepIn K (.ref f1) = true)
    (a2 : PySem.W.nsIn K mainGlobals "minus" = some (some (.ref f2))) (l2 : K.lookup f2 = some ⟨oc2, od2, .func (PySem.W.fnOf "minus" "minus" (defArgs s_minus) (defBody s_minus) (defScope s_minus) .none kV2 dc2 pm2 an2 cd2 ct2), sl2⟩) (c2 : PySem.W.codeIn K cd2 "minus" = true) (k2 : PySem.W.keepIn K (.ref f2) = true)
    (a3 : PySem.W.nsIn K mainGlobals "times" = some (some (.ref f3))) (l3 : K.lookup f3 = some ⟨oc3, od3, .func (PySem.W.fnOf "times" "times" (defArgs s_times) (defBody s_times) (defScope s_times) .none kV3 dc3 pm3 an3 cd3 ct3), sl3⟩) (c3 : PySem.W.codeIn K cd3 "times" = true) (k3 : PySem.W.keepIn K (.ref f3) = true)
    (a4 : PySem.W.nsIn K mainGlobals "compare" = some (some (.ref f4))) (l4 : K.lookup f4 = some ⟨oc4, od4, .func (PySem.W.fnOf "compare" "compare" (defArgs s_compare) (defBody s_compare) (defScope s_compare) .none kV4 dc4 pm4 an4 cd4 ct4), sl4⟩) (c4 : PySem.W.codeIn K cd4 "compare" = true) (k4 : PySem.W.keepIn K (.ref f4) = true)
    (a5 : PySem.W.nsIn K mainGlobals "lowest" = some (some (.ref f5))) (l5 : K.lookup f5 = some ⟨oc5, od5, .func (PySem.W.fnOf "lowest" "lowest" (defArgs s_lowest) (defBody s_lowest) (defScope s_lowest) .none kV5 dc5 pm5 an5 cd5 ct5), sl5⟩) (c5 : PySem.W.codeIn K cd5 "lowest" = true) (k5 : PySem.W.keepIn K (.ref f5) = true)
    (a6 : PySem.W.nsIn K mainGlobals "scaled" = some (some (.ref f6))) (l6 : K.lookup f6 = some ⟨oc6, od6, .func (PySem.W.fnOf "scaled" "scaled" (defArgs s_scaled) (defBody s_scaled) (defScope s_scaled) .none kV6 dc6 pm6 an6 cd6 ct6), sl6⟩) (c6 : PySem.W.codeIn K cd6 "scaled" = true) (k6 : PySem.W.keepIn K (.ref f6) = true)
    (a7 : PySem.W.nsIn K mainGlobals "together" = some (some (.ref f7))) (l7 : K.lookup f7 = some ⟨oc7, od7, .func (PySem.W.fnOf "together" "together" (defArgs s_together) (defBody s_together) (defScope s_together) .none kV7 dc7 pm7 an7 cd7 ct7), sl7⟩) (c7 : PySem.W.codeIn K cd7 "together" = true) (k7 : PySem.W.keepIn K (.ref f7) = true)
    (a8 : PySem.W.nsIn K mainGlobals "_law_pool" = some (some (.ref f8))) (l8 : K.lookup f8 = some ⟨oc8, od8, .func (PySem.W.fnOf "_law_pool" "_law_pool" (defArgs s_law_pool) (defBody s_law_pool) (defScope s_law_pool) .none kV8 dc8 pm8 an8 cd8 ct8), sl8⟩) (c8 : PySem.W.codeIn K cd8 "_law_pool" = true) (k8 : PySem.W.keepIn K (.ref f8) = true)
    (a9 : PySem.W.nsIn K mainGlobals "_law_take" = some (some (.ref f9))) (l9 : K.lookup f9 = some ⟨oc9, od9, .func (PySem.W.fnOf "_law_take" "_law_take" (defArgs s_law_take) (defBody s_law_take) (defScope s_law_take) .none kV9 dc9 pm9 an9 cd9 ct9), sl9⟩) (c9 : PySem.W.codeIn K cd9 "_law_take" = true) (k9 : PySem.W.keepIn K (.ref f9) = true)
    (a10 : PySem.W.nsIn K mainGlobals "_law_is_number" = some (some (.ref f10))) (l10 : K.lookup f10 = some ⟨oc10, od10, .func (PySem.W.fnOf "_law_is_number" "_law_is_number" (defArgs s_law_is_number) (defBody s_law_is_number) (defScope s_law_is_number) .none kV10 dc10 pm10 an10 cd10 ct10), sl10⟩) (c10 : PySem.W.codeIn K cd10 "_law_is_number" = true) (k10 : PySem.W.keepIn K (.ref f10) = true)
    (a11 : PySem.W.nsIn K mainGlobals "_law_divisor" = some (some (.ref f11))) (l11 : K.lookup f11 = some ⟨oc11, od11, .func (PySem.W.fnOf "_law_divisor" "_law_divisor" (defArgs s_law_divisor) (defBody s_law_divisor) (defScope s_law_divisor) .none kV11 dc11 pm11 an11 cd11 ct11), sl11⟩) (c11 : PySem.W.codeIn K cd11 "_law_divisor" = true) (k11 : PySem.W.keepIn K (.ref f11) = true)
    (a12 : PySem.W.nsIn K mainGlobals "_law_ratio" = some (some (.ref f12))) (l12 : K.lookup f12 = some ⟨oc12, od12, .func (PySem.W.fnOf "_law_ratio" "_law_ratio" (defArgs s_law_ratio) (defBody s_law_ratio) (defScope s_law_ratio) .none kV12 dc12 pm12 an12 cd12 ct12), sl12⟩) (c12 : PySem.W.codeIn K cd12 "_law_ratio" = true) (k12 : PySem.W.keepIn K (.ref f12) = true)
    (a13 : PySem.W.nsIn K mainGlobals "_law_integer" = some (some (.ref f13))) (l13 : K.lookup f13 = some ⟨oc13, od13, .func (PySem.W.fnOf "_law_integer" "_law_integer" (defArgs s_law_integer) (defBody s_law_integer) (defScope s_law_integer) .none kV13 dc13 pm13 an13 cd13 ct13), sl13⟩) (c13 : PySem.W.codeIn K cd13 "_law_integer" = true) (k13 : PySem.W.keepIn K (.ref f13) = true)
    (a14 : PySem.W.nsIn K mainGlobals "_law_refused" = some (some (.ref f14))) (l14 : K.lookup f14 = some ⟨oc14, od14, .func (PySem.W.fnOf "_law_refused" "_law_refused" (defArgs s_law_refused) (defBody s_law_refused) (defScope s_law_refused) .none kV14 dc14 pm14 an14 cd14 ct14), sl14⟩) (c14 : PySem.W.codeIn K cd14 "_law_refused" = true) (k14 : PySem.W.keepIn K (.ref f14) = true)
    (a15 : PySem.W.nsIn K mainGlobals "_law_in_terms" = some (some (.ref f15))) (l15 : K.lookup f15 = some ⟨oc15, od15, .func (PySem.W.fnOf "_law_in_terms" "_law_in_terms" (defArgs s_law_in_terms) (defBody s_law_in_terms) (defScope s_law_in_terms) .none kV15 dc15 pm15 an15 cd15 ct15), sl15⟩) (c15 : PySem.W.codeIn K cd15 "_law_in_terms" = true) (k15 : PySem.W.keepIn K (.ref f15) = true)
    (a16 : PySem.W.nsIn K mainGlobals "_law_two_right" = some (some (.ref f16))) (l16 : K.lookup f16 = some ⟨oc16, od16, .func (PySem.W.fnOf "_law_two_right" "_law_two_right" (defArgs s_law_two_right) (defBody s_law_two_right) (defScope s_law_two_right) .none kV16 dc16 pm16 an16 cd16 ct16), sl16⟩) (c16 : PySem.W.codeIn K cd16 "_law_two_right" = true) (k16 : PySem.W.keepIn K (.ref f16) = true)
    (a17 : PySem.W.nsIn K mainGlobals "_law_near_right" = some (some (.ref f17))) (l17 : K.lookup f17 = some ⟨oc17, od17, .func (PySem.W.fnOf "_law_near_right" "_law_near_right" (defArgs s_law_near_right) (defBody s_law_near_right) (defScope s_law_near_right) .none kV17 dc17 pm17 an17 cd17 ct17), sl17⟩) (c17 : PySem.W.codeIn K cd17 "_law_near_right" = true) (k17 : PySem.W.keepIn K (.ref f17) = true)
    (a18 : PySem.W.nsIn K mainGlobals "_law_lowest_right" = some (some (.ref f18))) (l18 : K.lookup f18 = some ⟨oc18, od18, .func (PySem.W.fnOf "_law_lowest_right" "_law_lowest_right" (defArgs s_law_lowest_right) (defBody s_law_lowest_right) (defScope s_law_lowest_right) .none kV18 dc18 pm18 an18 cd18 ct18), sl18⟩) (c18 : PySem.W.codeIn K cd18 "_law_lowest_right" = true) (k18 : PySem.W.keepIn K (.ref f18) = true)
    (a19 : PySem.W.nsIn K mainGlobals "_law_low" = some (some (.ref f19))) (l19 : K.lookup f19 = some ⟨oc19, od19, .func (PySem.W.fnOf "_law_low" "_law_low" (defArgs s_law_low) (defBody s_law_low) (defScope s_law_low) .none kV19 dc19 pm19 an19 cd19 ct19), sl19⟩) (c19 : PySem.W.codeIn K cd19 "_law_low" = true) (k19 : PySem.W.keepIn K (.ref f19) = true)
    (a20 : PySem.W.nsIn K mainGlobals "_law_together_right" = some (some (.ref f20))) (l20 : K.lookup f20 = some ⟨oc20, od20, .func (PySem.W.fnOf "_law_together_right" "_law_together_right" (defArgs s_law_together_right) (defBody s_law_together_right) (defScope s_law_together_right) .none kV20 dc20 pm20 an20 cd20 ct20), sl20⟩) (c20 : PySem.W.codeIn K cd20 "_law_together_right" = true) (k20 : PySem.W.keepIn K (.ref f20) = true)
    (z_abs : PySem.W.nsIn K mainGlobals "abs" = some none) (z_list : PySem.W.nsIn K mainGlobals "list" = some none) (z_int : PySem.W.nsIn K mainGlobals "int" = some none) (z_max : PySem.W.nsIn K mainGlobals "max" = some none) (z_len : PySem.W.nsIn K mainGlobals "len" = some none) (z_isinstance : PySem.W.nsIn K mainGlobals "isinstance" = some none) (z_bool : PySem.W.nsIn K mainGlobals "bool" = some none) (z_tuple : PySem.W.nsIn K mainGlobals "tuple" = some none) (z_range : PySem.W.nsIn K mainGlobals "range" = some none) :
    ∃ fd : FuncData, (∀ (s : Shared) (v : Value), BindsTo s fd ⟨[v], []⟩ [("_law_script", v)]) ∧ ∀ base : Heap, K.In base → base.Ns mainGlobals mg → FnOk P w K mg base (L2N.CX P w) 7 fa fd ["_law_script"] (liftSp K spLaw) := by
  have e := hfa.symm.trans (PySem.W.mg_of KI G aL)
  cases e
  have m_abs := PySem.W.mg_none_of KI G z_abs
  have m_list := PySem.W.mg_none_of KI G z_list
  have m_int := PySem.W.mg_none_of KI G z_int
  have m_max := PySem.W.mg_none_of KI G z_max
  have m_len := PySem.W.mg_none_of KI G z_len
  have m_isinstance := PySem.W.mg_none_of KI G z_isinstance
  have m_bool := PySem.W.mg_none_of KI G z_bool
  have m_tuple := PySem.W.mg_none_of KI G z_tuple
  have m_range := PySem.W.mg_none_of KI G z_range
  have D_common_divisor : DefT K mg "common_divisor" s_common_divisor ["one", "other"] := deft KI G a0 l0 c0 k0 fun _ _ _ _ _ _ us hl => match us, hl with | [_, _], _ => rfl
  have D_plus : DefT K mg "plus" s_plus ["one", "other"] := deft KI G a1 l1 c1 k1 fun _ _ _ _ _ _ us hl => match us, hl with | [_, _], _ => rfl
  have D_minus : DefT K mg "minus" s_minus ["one", "other"] := deft KI G a2 l2 c2 k2 fun _ _ _ _ _ _ us hl => match us, hl with | [_, _], _ => rfl
  have D_times : DefT K mg "times" s_times ["one", "other"] := deft KI G a3 l3 c3 k3 fun _ _ _ _ _ _ us hl => match us, hl with | [_, _], _ => rfl
  have D_compare : DefT K mg "compare" s_compare ["one", "other"] := deft KI G a4 l4 c4 k4 fun _ _ _ _ _ _ us hl => match us, hl with | [_, _], _ => rfl
  have D_lowest : DefT K mg "lowest" s_lowest ["numbers"] := deft KI G a5 l5 c5 k5 fun _ _ _ _ _ _ us hl => match us, hl with | [_], _ => rfl
  have D_scaled : DefT K mg "scaled" s_scaled ["ratios", "unit"] := deft KI G a6 l6 c6 k6 fun _ _ _ _ _ _ us hl => match us, hl with | [_, _], _ => rfl
  have D_together : DefT K mg "together" s_together ["ratios"] := deft KI G a7 l7 c7 k7 fun _ _ _ _ _ _ us hl => match us, hl with | [_], _ => rfl
  have D_law_pool : DefT K mg "_law_pool" s_law_pool ["_law_script"] := deft KI G a8 l8 c8 k8 fun _ _ _ _ _ _ us hl => match us, hl with | [_], _ => rfl
  have D_law_take : DefT K mg "_law_take" s_law_take ["_law_pool_here", "_law_many"] := deft KI G a9 l9 c9 k9 fun _ _ _ _ _ _ us hl => match us, hl with | [_, _], _ => rfl
  have D_law_is_number : DefT K mg "_law_is_number" s_law_is_number ["_law_thing"] := deft KI G a10 l10 c10 k10 fun _ _ _ _ _ _ us hl => match us, hl with | [_], _ => rfl
  have D_law_divisor : DefT K mg "_law_divisor" s_law_divisor ["_law_numbers"] := deft KI G a11 l11 c11 k11 fun _ _ _ _ _ _ us hl => match us, hl with | [_], _ => rfl
  have D_law_ratio : DefT K mg "_law_ratio" s_law_ratio ["_law_up", "_law_down"] := deft KI G a12 l12 c12 k12 fun _ _ _ _ _ _ us hl => match us, hl with | [_, _], _ => rfl
  have D_law_integer : DefT K mg "_law_integer" s_law_integer ["_law_pool_here"] := deft KI G a13 l13 c13 k13 fun _ _ _ _ _ _ us hl => match us, hl with | [_], _ => rfl
  have D_law_refused : DefT K mg "_law_refused" s_law_refused ["_law_up"] := deft KI G a14 l14 c14 k14 fun _ _ _ _ _ _ us hl => match us, hl with | [_], _ => rfl
  have D_law_in_terms : DefT K mg "_law_in_terms" s_law_in_terms ["_law_one", "_law_up", "_law_down"] := deft KI G a15 l15 c15 k15 fun _ _ _ _ _ _ us hl => match us, hl with | [_, _, _], _ => rfl
  have D_law_two_right : DefT K mg "_law_two_right" s_law_two_right ["_law_one", "_law_other"] := deft KI G a16 l16 c16 k16 fun _ _ _ _ _ _ us hl => match us, hl with | [_, _], _ => rfl
  have D_law_near_right : DefT K mg "_law_near_right" s_law_near_right ["_law_one"] := deft KI G a17 l17 c17 k17 fun _ _ _ _ _ _ us hl => match us, hl with | [_], _ => rfl
  have D_law_lowest_right : DefT K mg "_law_lowest_right" s_law_lowest_right ["_law_pool_here"] := deft KI G a18 l18 c18 k18 fun _ _ _ _ _ _ us hl => match us, hl with | [_], _ => rfl
  have D_law_low : DefT K mg "_law_low" s_law_low ["_law_numbers"] := deft KI G a19 l19 c19 k19 fun _ _ _ _ _ _ us hl => match us, hl with | [_], _ => rfl
  have D_law_together_right : DefT K mg "_law_together_right" s_law_together_right ["_law_ratios"] := deft KI G a20 l20 c20 k20 fun _ _ _ _ _ _ us hl => match us, hl with | [_], _ => rfl
  have oex : OexC K C := ⟨⟨nm, q, _, bs, _, sn, sub, ab, col, dd, m0, m1, m2, m3, m5, xL, rfl⟩, sa, eC, tC, kC⟩
  have FI := fun_mk (x := "__init__") (qual := "BadRatio.__init__") (st := s_BadRatio_init) lI cI
  obtain ⟨fdR, FR⟩ : ∃ fd, FunD K "ratio" "ratio" (defArgs s_ratio) (defBody s_ratio) (defScope s_ratio) [.int 1] [] fR fd := ⟨_, ⟨ocR, odR, _, kVR, dcR, pmR, anR, cdR, ctR, slR, rfl, lR, cR, .inr ⟨by decide, T, to, [.int 1 tt], tn, rfl, lT, oT, .cons ⟨tt, rfl⟩ .nil⟩, .inl rfl⟩, kR⟩
  have mR := PySem.W.mg_of KI G aR
  have bR2 : Binds K fdR ["top", "bottom"] [] := by
    obtain ⟨ds, v, b⟩ := FR.binds1 (ps := ["top", "bottom"]) 2 1 (by decide) rfl fun T kV doc pm an cdv ct us its h1 h2 => match us, its, h1, h2 with | [_, _], [_], _, _ => ⟨_, rfl, rfl⟩
    cases v.zero
    exact b
  have bR1 : ∃ ds, Vals [V.int 1] ds ∧ Binds K fdR ["top", "bottom"] ds := FR.binds1 (ps := ["top", "bottom"]) 1 0 (by decide) rfl fun T kV doc pm an cdv ct us its h1 h2 => match us, its, h1, h2 with | [_], [_], _, _ => ⟨_, rfl, rfl⟩
  have bK := kbn_swap (p := "top") (q := "bottom") FR fun T kV doc pm an cdv ct a b d => ⟨_, rfl, rfl⟩
  refine ⟨PySem.W.fnOf "law" "law" (defArgs s_law) (defBody s_law) (defScope s_law) .none kVL dcL pmL anL cdL ctL, fun s v => .of_eq rfl, fun base _ _ => ?_⟩
  have TE : ExcT P w K mg base "BadRatio" "bottom" C := ⟨PySem.W.mg_of KI G aC, oex, nb, ⟨ga, gg, eC, hC⟩, exm_own eC iC tC sC, fI, _, aI, tI, ok_binit oex nb lI cI, .all fun us hl => match us, hl with | [_, _], _ => rfl⟩
  have Cg := ok_gcd (P := P) (w := w) (base := base) D_common_divisor m_abs
  have Fr := fn_ratio (P := P) (w := w) (base := base) FR Cg TE
  have Cr : Cal P w K mg base 3 "ratio" (spRatio C) := ⟨fR, _, _, Fr, mR, kR, bR2⟩
  have Cd : CalD P w K mg base 3 "ratio" [.int 1] (spRatio C) := by
    obtain ⟨ds, v, b⟩ := bR1
    exact ⟨fR, _, _, _, ds, Fr, mR, kR, b, v, fun G => .cons (.int 1) .nil⟩
  have Ck : CalK P w K mg base 3 "ratio" ["bottom", "top"] swapD (spRatio C) := by
    refine ⟨fR, _, _, _, _, Fr, mR, kR, bK, fun G vs ds r hl => ?_⟩
    match ds, vs, r, hl with
    | [_, _], _, .cons r1 (.cons r2 .nil), _ => exact .cons r2 (.cons r1 .nil)
  have Cp := ok_plus D_plus Cr
  have Cm := ok_minus D_minus Cr
  have Cx := ok_times D_times Cr
  have Cc := ok_compare (P := P) (w := w) (base := base) D_compare
  have Cpool := ok_pool (P := P) (w := w) (base := base) D_law_pool m_list
  have Ct := ok_take (P := P) (w := w) (base := base) D_law_take m_int m_max m_len
  have Cv := ok_divisor (P := P) (w := w) (base := base) D_law_divisor m_int m_abs
  have Clr := ok_lratio D_law_ratio Cv
  have Cn := ok_num (P := P) (w := w) (base := base) D_law_is_number m_isinstance m_int m_bool
  have CnH := ok_numH (P := P) (w := w) (base := base) D_law_is_number m_isinstance m_int m_bool
  have Ci := ok_integer D_law_integer Ct
  have Cte := ok_terms D_law_in_terms Cn Clr m_isinstance m_tuple m_len
  have Ctw := ok_two D_law_two_right Cp Cm Cx Cc Cte Cn m_int
  have Cne := ok_near D_law_near_right Cr Cc Ctw m_abs
  have Clow := ok_low D_law_low Cv m_list
  have Clt := ok_lowest D_lowest Cg m_list
  have Csc := ok_scaled (P := P) (w := w) (base := base) D_scaled
  have Ctg := ok_together D_together Cg Csc
  have Ctr := ok_togR D_law_together_right Ctg Cv m_list m_tuple m_len m_isinstance
  have Clw := ok_lowR D_law_lowest_right Ct Clt Clow m_list m_int m_tuple m_range
  have Crf := ok_refused D_law_refused Cr TE CnH
  exact cal_fn lL cL sc_law (fun ds μ Φ Ψ ⟨ns, e, _⟩ => by rw [e]; rfl) (body_law Cpool Ct Ci Cr Cd Ck Cte Crf Cne Ctw Ctr Clw m_range)
end
end K11

open PySem PySem.Spec PyProof.Rows L2 DL
set_option maxHeartbeats 0 in
theorem PySem.Challenge.cw_leastcomplaint_k11_ratios_holds : PySem.Challenge.rw_leastcomplaint_k11_ratios.Holds := by
  w_on; o_law; k_head; (case hw => w_witness2)
  k_fill
  refine L2.walk_of (l := PySem.Challenge.rw_leastcomplaint_k11_ratios) (n := 63) (k := 7) (x := "_law_script") (CX := fun w => L2N.CX (PySem.Challenge.rw_leastcomplaint_k11_ratios).prog w) (sp := fun w => liftSp _ K11.spLaw) rfl (by decide) rfl ⟨rfl, by decide, by decide⟩ (fun w h Y => PySem.W.kIn_of Y) ?F (fun _ _ a ns hl _ hS => lift_law hS ⟨ns, rfl, hl, fun _ => rfl⟩) (fun w H s e s' z => cx_none H s e s' z)
  case F =>
    intro w mg fa h KI G hmg
    refine' K11.all_mk KI G hmg ?aC ?xL ?sa ?ga ?gg ?nb ?aI ?tI ?lI ?cI ?kC ?eC ?tC ?hC ?iC ?sC ?aR ?lR ?cR ?kR ?lT ?oT ?aL ?lL ?cL ?a0 ?l0 ?c0 ?k0 ?a1 ?l1 ?c1 ?k1 ?a2 ?l2 ?c2 ?k2 ?a3 ?l3 ?c3 ?k3 ?a4 ?l4 ?c4 ?k4 ?a5 ?l5 ?c5 ?k5 ?a6 ?l6 ?c6 ?k6 ?a7 ?l7 ?c7 ?k7 ?a8 ?l8 ?c8 ?k8 ?a9 ?l9 ?c9 ?k9 ?a10 ?l10 ?c10 ?k10 ?a11 ?l11 ?c11 ?k11 ?a12 ?l12 ?c12 ?k12 ?a13 ?l13 ?c13 ?k13 ?a14 ?l14 ?c14 ?k14 ?a15 ?l15 ?c15 ?k15 ?a16 ?l16 ?c16 ?k16 ?a17 ?l17 ?c17 ?k17 ?a18 ?l18 ?c18 ?k18 ?a19 ?l19 ?c19 ?k19 ?a20 ?l20 ?c20 ?k20 ?z_abs ?z_list ?z_int ?z_max ?z_len ?z_isinstance ?z_bool ?z_tuple ?z_range
    (case aC => k_is)
    (case xL => k_is)
    (case sa => k_is)
    (case ga => k_is)
    (case gg => k_is)
    (case nb => k_is)
    (case aI => k_is)
    (case tI => k_is)
    (case lI => k_is)
    (case cI => k_is)
    (case kC => k_is)
    (case eC => k_is)
    (case tC => k_is)
    (case hC => k_is)
    (case iC => k_is)
    (case sC => first | rfl | k_is)
    (case aR => k_is)
    (case lR => k_is)
    (case cR => k_is)
    (case kR => k_is)
    (case lT => k_is)
    (case oT => first | rfl | k_is)
    (case aL => k_is)
    (case lL => k_is)
    (case cL => k_is)
    (case a0 => k_is)
    (case l0 => k_is)
    (case c0 => k_is)
    (case k0 => k_is)
    (case a1 => k_is)
    (case l1 => k_is)
    (case c1 => k_is)
    (case k1 => k_is)
    (case a2 => k_is)
    (case l2 => k_is)
    (case c2 => k_is)
    (case k2 => k_is)
    (case a3 => k_is)
    (case l3 => k_is)
    (case c3 => k_is)
    (case k3 => k_is)
    (case a4 => k_is)
    (case l4 => k_is)
    (case c4 => k_is)
    (case k4 => k_is)
    (case a5 => k_is)
    (case l5 => k_is)
    (case c5 => k_is)
    (case k5 => k_is)
    (case a6 => k_is)
    (case l6 => k_is)
    (case c6 => k_is)
    (case k6 => k_is)
    (case a7 => k_is)
    (case l7 => k_is)
    (case c7 => k_is)
    (case k7 => k_is)
    (case a8 => k_is)
    (case l8 => k_is)
    (case c8 => k_is)
    (case k8 => k_is)
    (case a9 => k_is)
    (case l9 => k_is)
    (case c9 => k_is)
    (case k9 => k_is)
    (case a10 => k_is)
    (case l10 => k_is)
    (case c10 => k_is)
    (case k10 => k_is)
    (case a11 => k_is)
    (case l11 => k_is)
    (case c11 => k_is)
    (case k11 => k_is)
    (case a12 => k_is)
    (case l12 => k_is)
    (case c12 => k_is)
    (case k12 => k_is)
    (case a13 => k_is)
    (case l13 => k_is)
    (case c13 => k_is)
    (case k13 => k_is)
    (case a14 => k_is)
    (case l14 => k_is)
    (case c14 => k_is)
    (case k14 => k_is)
    (case a15 => k_is)
    (case l15 => k_is)
    (case c15 => k_is)
    (case k15 => k_is)
    (case a16 => k_is)
    (case l16 => k_is)
    (case c16 => k_is)
    (case k16 => k_is)
    (case a17 => k_is)
    (case l17 => k_is)
    (case c17 => k_is)
    (case k17 => k_is)
    (case a18 => k_is)
    (case l18 => k_is)
    (case c18 => k_is)
    (case k18 => k_is)
    (case a19 => k_is)
    (case l19 => k_is)
    (case c19 => k_is)
    (case k19 => k_is)
    (case a20 => k_is)
    (case l20 => k_is)
    (case c20 => k_is)
    (case k20 => k_is)
    (case z_abs => k_is)
    (case z_list => k_is)
    (case z_int => k_is)
    (case z_max => k_is)
    (case z_len => k_is)
    (case z_isinstance => k_is)
    (case z_bool => k_is)
    (case z_tuple => k_is)
    (case z_range => k_is)

