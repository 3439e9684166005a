import PyProof.Rows.All
import Wide.All
import OpenK.AllK
import Wide.FinOn
import HandS.ForMost
import HandS.Exc
import HandS.TryOnly
import HandS.ExcOwn
import HandS.ExcInit
import HandS.ExcField
import HandS.WordsExc
import HandS.IsInst
import HandS.Wide
import HandS.Defaults
import HandS.ExcValue
import HandS.ExcCtx
import HandS.HotCalls
import HandS.ExcInitHot
import HandS.StrMore
import HandS.WideBits
import HandS.Codes
import HandS.Walk
import HandS.Zip
import HandS.ExcIs
import KE.KExcIs
import HandS.Deep
import PySem.Challenge.RW_leastcomplaint_k13_error_classes
set_option Elab.async false
set_option linter.all false
set_option maxRecDepth 100000
set_option maxHeartbeats 4000000
namespace DL
open PySem PySem.Spec PyProof.Rows L2

/-! ### data: what a value is, all the way down; what may change stands by its address -/
inductive D where
  | non | bl (b : Bool) | int (i : Int) | str (x : Str) | lst (ds : List D) | tup (ds : List D)
  | dct (kvs : List (List Key × D)) | scr (ns : List Int) | ref (a : Addr) | ty (n : String) | exc (a C d : Addr) (gs : List (Str × D))
  | exv (C : Addr) (f : Str) (d : D) | exb (C : Addr)
abbrev Mu := Addr → Option D
def Sub (G H : Hp) : Prop := ∀ a o, G a = some o → H a = some o
theorem Sub.refl (G : Hp) : Sub G G := fun _ _ h => h
theorem Sub.trans {G H I : Hp} (a : Sub G H) (b : Sub H I) : Sub G I := fun x o h => b x o (a x o h)

mutual
inductive Rp (K : PySem.W.Frag) (G : Hp) : V → D → Prop
  | non : Rp K G .non .non
  | bl (b : Bool) : Rp K G (.bl b) (.bl b)
  | int (i : Int) : Rp K G (.int i) (.int i)
  | str (x : Str) : Rp K G (.str x) (.str x)
  | ref (a : Addr) : Rp K G (.ref a) (.ref a)
  | ty (n : String) : Rp K G (.ty n) (.ty n)
  | exc {a C d : Addr} {fs : List (Str × V)} {gs : List (Str × D)} : G d = some (.xd fs) → RpFs K G fs gs → Rp K G (.ref a) (.exc a C d gs)
  | exv {a C dd : Addr} {f : Str} {v : V} {d : D} : G a = some (exo a C (some dd)) → G dd = some (exd dd [(f, v)]) → Rp K G v d → Rp K G (.ref a) (.exv C f d)
  | exb {a C : Addr} : G a = some (ExO (.ref C) a) → Rp K G (.ref a) (.exb C)
  | scr {a : Addr} {ns : List Int} : SqL K G a (ns.map V.int) → Rp K G (.ref a) (.scr ns)
  | lst {a : Addr} {xs : List V} {ds : List D} : G a = some (.lst xs) → RpAll K G xs ds → Rp K G (.ref a) (.lst ds)
  | tup {a : Addr} {xs : List V} {ds : List D} : G a = some (.tup xs) → RpAll K G xs ds → Rp K G (.ref a) (.tup ds)
  | dct {a : Addr} {xs : List (List Key × V)} {ds : List (List Key × D)} : G a = some (.dT xs) → RpKv K G xs ds → Rp K G (.ref a) (.dct ds)
inductive RpAll (K : PySem.W.Frag) (G : Hp) : List V → List D → Prop
  | nil : RpAll K G [] []
  | cons {v : V} {vs : List V} {d : D} {ds : List D} : Rp K G v d → RpAll K G vs ds → RpAll K G (v :: vs) (d :: ds)
inductive RpFs (K : PySem.W.Frag) (G : Hp) : List (Str × V) → List (Str × D) → Prop
  | nil : RpFs K G [] []
  | cons {k : Str} {v : V} {vs : List (Str × V)} {d : D} {ds : List (Str × D)} : Rp K G v d → RpFs K G vs ds → RpFs K G ((k, v) :: vs) ((k, d) :: ds)
inductive RpKv (K : PySem.W.Frag) (G : Hp) : List (List Key × V) → List (List Key × D) → Prop
  | nil : RpKv K G [] []
  | cons {k : List Key} {v : V} {vs : List (List Key × V)} {d : D} {ds : List (List Key × D)} : Rp K G v d → RpKv K G vs ds → RpKv K G ((k, v) :: vs) ((k, d) :: ds)
end
theorem seq_sub {K : PySem.W.Frag} {G H : Hp} {a : Addr} {xs : List V} (e : Sub G H) (h : SqL K G a xs) : SqL K H a xs := by
  rcases h with (h | ⟨o, h⟩) | h
  · exact .inl (.inl (e _ _ h))
  · exact .inl (.inr ⟨o, e _ _ h⟩)
  · exact .inr h
section
variable {K : PySem.W.Frag} {G H : Hp}
mutual
theorem Rp.mono (e : Sub G H) : ∀ {v : V} {d : D}, Rp K G v d → Rp K H v d
  | _, _, .non => .non
  | _, _, .bl b => .bl b
  | _, _, .int i => .int i
  | _, _, .str x => .str x
  | _, _, .ref a => .ref a
  | _, _, .ty n => .ty n
  | _, _, .exc h r => .exc (e _ _ h) (RpFs.mono e r)
  | _, _, .exv h i r => .exv (e _ _ h) (e _ _ i) (Rp.mono e r)
  | _, _, .exb h => .exb (e _ _ h)
  | _, _, .scr h => .scr (seq_sub e h)
  | _, _, .lst h r => .lst (e _ _ h) (RpAll.mono e r)
  | _, _, .tup h r => .tup (e _ _ h) (RpAll.mono e r)
  | _, _, .dct h r => .dct (e _ _ h) (RpKv.mono e r)
theorem RpAll.mono (e : Sub G H) : ∀ {vs : List V} {ds : List D}, RpAll K G vs ds → RpAll K H vs ds
  | _, _, .nil => .nil
  | _, _, .cons a r => .cons (Rp.mono e a) (RpAll.mono e r)
theorem RpFs.mono (e : Sub G H) : ∀ {vs : List (Str × V)} {ds : List (Str × D)}, RpFs K G vs ds → RpFs K H vs ds
  | _, _, .nil => .nil
  | _, _, .cons a r => .cons (Rp.mono e a) (RpFs.mono e r)
theorem RpKv.mono (e : Sub G H) : ∀ {vs : List (List Key × V)} {ds : List (List Key × D)}, RpKv K G vs ds → RpKv K H vs ds
  | _, _, .nil => .nil
  | _, _, .cons a r => .cons (Rp.mono e a) (RpKv.mono e r)
end
theorem RpFs.lookup : ∀ {vs : List (Str × V)} {ds : List (Str × D)} {f : Str} {d : D}, RpFs K G vs ds → ds.lookup f = some d → ∃ v, vs.lookup f = some v ∧ Rp K G v d
  | _, _, _, _, .nil, e => by simp at e
  | (k, v) :: vs, (_, d') :: ds, f, d, .cons r t, e => by
    by_cases q : (f == k) = true
    · rw [List.lookup_cons, q] at e
      cases e
      exact ⟨v, by rw [List.lookup_cons, q], r⟩
    · have q' : (f == k) = false := by simpa using q
      rw [List.lookup_cons, q'] at e
      obtain ⟨u, h1, h2⟩ := RpFs.lookup t e
      exact ⟨u, by rw [List.lookup_cons, q']; exact h1, h2⟩
theorem RpAll.length : ∀ {vs : List V} {ds : List D}, RpAll K G vs ds → vs.length = ds.length
  | _, _, .nil => rfl
  | _, _, .cons _ r => congrArg (· + 1) r.length
theorem RpAll.get : ∀ {vs : List V} {ds : List D} {i : Nat} {d : D}, RpAll K G vs ds → ds[i]? = some d → ∃ v, vs[i]? = some v ∧ Rp K G v d
  | _, _, _, _, .nil, e => by simp at e
  | _, _, 0, _, .cons r _, e => by simp at e; subst e; exact ⟨_, rfl, r⟩
  | _, _, i + 1, d, .cons _ t, e => by
    obtain ⟨u, h1, h2⟩ := RpAll.get (i := i) (d := d) t (by simpa using e)
    exact ⟨u, by simpa using h1, h2⟩
theorem RpAll.append : ∀ {vs ws : List V} {ds es : List D}, RpAll K G vs ds → RpAll K G ws es → RpAll K G (vs ++ ws) (ds ++ es)
  | _, _, _, _, .nil, s => s
  | _, _, _, _, .cons r t, s => .cons r (RpAll.append t s)
theorem RpAll.take : ∀ {vs : List V} {ds : List D} (n : Nat), RpAll K G vs ds → RpAll K G (vs.take n) (ds.take n)
  | _, _, 0, _ => .nil
  | _, _, _ + 1, .nil => .nil
  | _, _, n + 1, .cons r t => .cons r (RpAll.take n t)
theorem RpAll.drop : ∀ {vs : List V} {ds : List D} (n : Nat), RpAll K G vs ds → RpAll K G (vs.drop n) (ds.drop n)
  | _, _, 0, r => r
  | _, _, _ + 1, .nil => .nil
  | _, _, n + 1, .cons _ t => RpAll.drop n t
theorem RpAll.set {x : V} {d : D} (r : Rp K G x d) : ∀ {xs : List V} {us : List D} (i : Nat), RpAll K G xs us → RpAll K G (xs.set i x) (us.set i d)
  | _, _, _, .nil => .nil
  | _, _, 0, .cons _ t => .cons r t
  | _, _, i + 1, .cons q t => .cons q (RpAll.set r i t)
theorem RpAll.rep {xs : List V} {us : List D} (r : RpAll K G xs us) : ∀ n : Nat, RpAll K G (List.replicate n xs).flatten (List.replicate n us).flatten
  | 0 => .nil
  | n + 1 => by
    rw [List.replicate_succ, List.replicate_succ, List.flatten_cons, List.flatten_cons]
    exact r.append (RpAll.rep r n)
theorem RpAll.ints : ∀ {vs : List V} {ns : List Int}, RpAll K G vs (ns.map D.int) → vs = ns.map V.int
  | _, [], .nil => rfl
  | _, _ :: _, .cons (.int _) r => congrArg _ r.ints
theorem RpAll.of_ints : ∀ {ns : List Int}, RpAll K G (ns.map V.int) (ns.map D.int)
  | [] => .nil
  | n :: _ => .cons (.int n) RpAll.of_ints
end

/-- the part of the heap that stays: all but what may change -/
def Im (μ : Mu) (H : Hp) : Hp := fun a => if (μ a).isSome then none else H a
theorem im_sub {μ : Mu} {H H' : Hp} (e : Sub H H') : Sub (Im μ H) (Im μ H') := fun a o h => by
  unfold Im at h ⊢
  split at h
  · cases h
  · rename_i q
    rw [if_neg q]
    exact e a o h
theorem im_all {μ : Mu} {H : Hp} : Sub (Im μ H) H := fun a o h => by
  unfold Im at h
  split at h
  · cases h
  · exact h
def updM (μ : Mu) (a : Addr) (c : D) : Mu := fun b => if b = a then some c else μ b
theorem updM_same {μ : Mu} {a : Addr} {c : D} : updM μ a c a = some c := if_pos rfl
theorem updM_ne {μ : Mu} {a b : Addr} {c : D} (h : b ≠ a) : updM μ a c b = μ b := if_neg h
def Ct (K : PySem.W.Frag) (G : Hp) : Option HO → D → Prop
  | some (.lst vs), .lst ds => RpAll K G vs ds
  | some (.dT vs), .dct ds => RpKv K G vs ds
  | _, _ => False
theorem Ct.mono {K : PySem.W.Frag} {G H : Hp} (e : Sub G H) : ∀ {o : Option HO} {c : D}, Ct K G o c → Ct K H o c := fun {o c} h => by
  unfold Ct at h ⊢
  split at h
  · exact RpAll.mono e h
  · exact RpKv.mono e h
  · exact h.elim
theorem Ct.some {K : PySem.W.Frag} {G : Hp} {o : Option HO} {c : D} (h : Ct K G o c) : ∃ u, o = Option.some u := by
  unfold Ct at h
  split at h
  · exact ⟨_, rfl⟩
  · exact ⟨_, rfl⟩
  · exact h.elim
def MuOk (K : PySem.W.Frag) (μ : Mu) (H : Hp) : Prop := ∀ p c, μ p = some c → Ct K (Im μ H) (H p) c
theorem MuOk.lst {K : PySem.W.Frag} {μ : Mu} {H : Hp} {p : Addr} {ds : List D} (m : MuOk K μ H) (h : μ p = some (.lst ds)) : ∃ vs, H p = some (.lst vs) ∧ RpAll K (Im μ H) vs ds := by
  have q := m p _ h
  unfold Ct at q
  split at q
  · rename_i e1 e2
    cases e2
    exact ⟨_, e1, q⟩
  · rename_i e1 e2
    cases e2
  · exact q.elim
/-- all that H holds stays, so what may change is as it was -/
theorem MuOk.ext {K : PySem.W.Frag} {μ : Mu} {H H' : Hp} (m : MuOk K μ H) (e : Sub H H') : MuOk K μ H' := fun p c h => by
  have q := m p c h
  obtain ⟨u, hu⟩ := q.some
  rw [e _ _ hu]
  rw [hu] at q
  exact q.mono (im_sub e)
theorem sub_new {H : Hp} {p : Addr} {o : HO} (h : H p = none) : Sub H (upd H p o) := fun a u e => by
  rw [upd_ne (ne_of_none e h)]
  exact e
theorem mu_free {K : PySem.W.Frag} {μ : Mu} {H : Hp} {p : Addr} (m : MuOk K μ H) (h : H p = none) : μ p = none := by
  cases e : μ p with
  | none => rfl
  | some c =>
    obtain ⟨u, hu⟩ := (m p c e).some
    rw [h] at hu
    cases hu
/-- one of what may change has changed -/
theorem im_upd {μ : Mu} {H : Hp} {p : Addr} {c : D} {o : HO} (h : (μ p).isSome = true) : Im (updM μ p c) (upd H p o) = Im μ H := by
  funext a
  unfold Im updM upd
  by_cases e : a = p
  · subst e
    rw [if_pos rfl, if_pos rfl, if_pos h]
    rfl
  · rw [if_neg e, if_neg e]
/-- a new one -/
theorem im_new {μ : Mu} {H : Hp} {p : Addr} {c : D} {o : HO} (h : H p = none) : Im (updM μ p c) (upd H p o) = Im μ H := by
  funext a
  unfold Im updM upd
  by_cases e : a = p
  · subst e
    rw [if_pos rfl, if_pos rfl, h, ite_self]
    rfl
  · rw [if_neg e, if_neg e]
theorem MuOk.upd {K : PySem.W.Frag} {μ : Mu} {H : Hp} {p : Addr} {c : D} {o : HO} (m : MuOk K μ H) (hi : Im (updM μ p c) (L2.upd H p o) = Im μ H) (hc : Ct K (Im μ H) (some o) c) : MuOk K (updM μ p c) (L2.upd H p o) := fun q c' h => by
  rw [hi]
  by_cases e : q = p
  · subst e
    rw [updM_same] at h
    cases h
    rw [upd_same]
    exact hc
  · rw [updM_ne e] at h
    rw [upd_ne e]
    exact m q c' h

/-! ### the state: slots, what may change, over a base that stays -/
structure Bd (K : PySem.W.Frag) (G0 : Hp) (δ : List (Option D)) (μ : Mu) (σ : L2.St) (H : Hp) : Prop where
  len : σ.length = δ.length
  sl : ∀ (i : Nat) d, δ[i]? = some (some d) → ∃ v, σ[i]? = some (some v) ∧ Rp K (Im μ H) v d
  mu : MuOk K μ H
  base : Sub G0 (Im μ H)
section
variable {K : PySem.W.Frag} {G0 G1 H H' : Hp} {δ : List (Option D)} {μ μ' : Mu} {σ : L2.St}
theorem Bd.step (B : Bd K G0 δ μ σ H) (m : MuOk K μ' H') (e : Sub (Im μ H) (Im μ' H')) : Bd K G0 δ μ' σ H' :=
  ⟨B.len, fun i d h => let ⟨v, h1, h2⟩ := B.sl i d h; ⟨v, h1, h2.mono e⟩, m, B.base.trans e⟩
theorem Bd.ext (B : Bd K G0 δ μ σ H) (e : Sub H H') : Bd K G0 δ μ σ H' := B.step (B.mu.ext e) (im_sub e)
theorem Bd.set (B : Bd K G0 δ μ σ H) {i : Nat} {v : V} {d : D} (r : Rp K (Im μ H) v d) : Bd K G0 (δ.set i (some d)) μ (σ.set i (some v)) H := by
  refine ⟨by rw [List.length_set, List.length_set, B.len], fun j e h => ?_, B.mu, B.base⟩
  by_cases q : i = j
  · subst q
    rw [List.getElem?_set] at h
    rw [if_pos rfl] at h
    split at h
    · rename_i hl
      cases h
      refine ⟨v, ?_, r⟩
      rw [List.getElem?_set, if_pos rfl, if_pos (by rw [B.len]; exact hl)]
    · cases h
  · rw [List.getElem?_set_ne q] at h
    obtain ⟨w, h1, h2⟩ := B.sl j e h
    exact ⟨w, by rw [List.getElem?_set_ne q]; exact h1, h2⟩
theorem Bd.rebase (B : Bd K G0 δ μ σ H) : Bd K (Im μ H) δ μ σ H := ⟨B.len, B.sl, B.mu, Sub.refl _⟩
theorem Bd.weaken (B : Bd K G1 δ μ σ H) (e : Sub G0 G1) : Bd K G0 δ μ σ H := ⟨B.len, B.sl, B.mu, e.trans B.base⟩
end
end DL

namespace DL
open PySem PySem.Spec PyProof.Rows L2

/-! ### canonical readings -/
section
variable (X : Cx)
def wE (e : Expr) : TE := fun σ H Q => ∀ pins s, Inv X pins σ H s → wpAny (model X.prog X.w) X.A (eval e X.env) (EP X pins σ Q) X.xe s
def wT (e : Expr) : TT := fun σ H Q => ∀ pins s, Inv X pins σ H s → wpAny (model X.prog X.w) X.A (isTrue e X.env (eval e X.env)) (TP X pins σ Q) X.xe s
def wW (e : Expr) : TT := fun σ H Q => ∀ (whole : Sem Value) pins s, Inv X pins σ H s → wpAny (model X.prog X.w) X.A (isTrue e X.env whole) (TP X pins σ Q) X.xe s
def wA (es : List Expr) : TA := fun σ H Q => ∀ (pos : Pos) pins s, Inv X pins σ H s → wpAny (model X.prog X.w) X.A (spliced (backTo pos (starEach es X.env))) (AP X pins σ Q) X.xe s
def wK (kws : List Keyword) : TA := fun σ H Q => ∀ (pos : Pos) pins s, Inv X pins σ H s → wpAny (model X.prog X.w) X.A (evalAll ((backToKw pos (keywordEach kws X.env)).map (·.2))) (AP X pins σ Q) X.xe s
def wS (st : Stmt) : TS := fun D σ H => ∀ pins s, Inv X pins σ H s → wpAny (model X.prog X.w) X.A (exec st X.env) (SP X pins D) X.xe s
def wSs (st : List Stmt) : TS := fun D σ H => ∀ pins s, Inv X pins σ H s → wpAny (model X.prog X.w) X.A (execs st X.env) (SP X pins D) X.xe s
/-- a two-place operation by itself -/
def wOp (f : Value → Value → Sem Value) : R2 := fun x y H Q => ∀ (pins : List (Addr × Obj)) (s : Shared) (σ : L2.St) (v u : Value), Inv X pins σ H s → RelV x v → RelV y u → wpAny (model X.prog X.w) X.A (f v u) (EP X pins σ Q) X.xe s
def wUn (f : Value → Sem Value) : V → Hp → VK → Prop := fun x H Q => ∀ (pins : List (Addr × Obj)) (s : Shared) (σ : L2.St) (v : Value), Inv X pins σ H s → RelV x v → wpAny (model X.prog X.w) X.A (f v) (EP X pins σ Q) X.xe s
def wCall (f : Value) : List V → Hp → VK → Prop := fun xs H Q => ∀ (pins : List (Addr × Obj)) (s : Shared) (σ : L2.St) (us : List Value), Inv X pins σ H s → Vals xs us → wpAny (model X.prog X.w) X.A (call f us) (EP X pins σ Q) X.xe s
def wIx : R2 := fun x y H Q => ∀ (value slice : Expr) (pins : List (Addr × Obj)) (s : Shared) (σ : L2.St) (v u : Value), Inv X pins σ H s → RelV x v → RelV y u → subscripted slice false v u = operate [v, u] (getItem v u) → wpAny (model X.prog X.w) X.A (subscriptTail value slice v u) (EP X pins σ Q) X.xe s
end
section
variable {X : Cx} {e a b : Expr} {σ : L2.St} {H : Hp} {pos : Pos}
theorem pe_w : PE X e (wE X e) := ⟨fun pins s _ _ _ I h => h pins s I⟩
theorem pt_w : PT X e (wT X e) := ⟨fun pins s _ _ _ I h => h pins s I⟩
theorem pw_w : PW X e (wW X e) := ⟨fun wh pins s _ _ _ I h => h wh pins s I⟩
theorem pa_w {es : List Expr} : PA X es (wA X es) := ⟨fun p pins s _ _ _ I h => h p pins s I⟩
theorem pk_w {es : List Keyword} : PK X es (wK X es) := ⟨fun p pins s _ _ _ I h => h p pins s I⟩
theorem ps_w {st : Stmt} : PS X st (wS X st) := ⟨fun pins s _ _ _ I h => h pins s I⟩
theorem pss_w {st : List Stmt} : PSs X st (wSs X st) := ⟨fun pins s _ _ _ I h => h pins s I⟩
theorem op_w {f : Value → Value → Sem Value} : OpR X f (wOp X f) := fun pins s σ _ _ _ v u _ I r1 r2 h => h pins s σ v u I r1 r2
theorem un_w {f : Value → Sem Value} : UnR X f (wUn X f) := fun pins s σ _ _ v _ I r h => h pins s σ v I r
theorem call_w {f : Value} : CallR X f (wCall X f) := fun pins s σ _ _ us _ I r h => h pins s σ us I r
theorem ix_w : IxR X (wIx X) := fun ve se pins s σ _ _ _ v u _ I r1 r2 h hs => h ve se pins s σ v u I r1 r2 hs
theorem wE_of {t : TE} {Q : VK} (h : PE X e t) (q : t σ H Q) : wE X e σ H Q := fun pins s I => h.run pins s σ H Q I q
theorem wT_of {t : TT} {Q : Bool → Hp → Prop} (h : PT X e t) (q : t σ H Q) : wT X e σ H Q := fun pins s I => h.run pins s σ H Q I q
theorem wW_of {t : TT} {Q : Bool → Hp → Prop} (h : PW X e t) (q : t σ H Q) : wW X e σ H Q := fun wh pins s I => h.run wh pins s σ H Q I q
theorem wA_of {t : TA} {es : List Expr} {Q : List V → Hp → Prop} (h : PA X es t) (q : t σ H Q) : wA X es σ H Q := fun p pins s I => h.run p pins s σ H Q I q
theorem wK_of {t : TA} {es : List Keyword} {Q : List V → Hp → Prop} (h : PK X es t) (q : t σ H Q) : wK X es σ H Q := fun p pins s I => h.run p pins s σ H Q I q
theorem wS_of {t : TS} {st : Stmt} {E : Ends} (h : PS X st t) (q : t E σ H) : wS X st E σ H := fun pins s I => h.run pins s σ H E I q
theorem wSs_of {t : TS} {st : List Stmt} {E : Ends} (h : PSs X st t) (q : t E σ H) : wSs X st E σ H := fun pins s I => h.run pins s σ H E I q
theorem wOp_of {f : Value → Value → Sem Value} {r : R2} {x y : V} {Q : VK} (h : OpR X f r) (q : r x y H Q) : wOp X f x y H Q := fun pins s σ v u I r1 r2 => h pins s σ H x y v u Q I r1 r2 q
theorem wUn_of {f : Value → Sem Value} {r : V → Hp → VK → Prop} {x : V} {Q : VK} (h : UnR X f r) (q : r x H Q) : wUn X f x H Q := fun pins s σ v I r1 => h pins s σ H x v Q I r1 q
theorem wCall_of {f : Value} {r : List V → Hp → VK → Prop} {xs : List V} {Q : VK} (h : CallR X f r) (q : r xs H Q) : wCall X f xs H Q := fun pins s σ us I r1 => h pins s σ H xs us Q I r1 q
theorem wIx_of {r : R2} {x y : V} {Q : VK} (h : IxR X r) (q : r x y H Q) : wIx X x y H Q := fun ve se pins s σ v u I r1 r2 hs => h ve se pins s σ H x y v u Q I r1 r2 q hs
end

/-! ### data's judgements -/
/-- what is wanted of data -/
abbrev DK := D → Mu → Prop
/-- behind a value that is d -/
def KP (K : PySem.W.Frag) (μ : Mu) (H : Hp) (Φ : DK) (Q : VK) : Prop :=
  ∀ v H2 d μ2, Φ d μ2 → MuOk K μ2 H2 → Sub (Im μ H) (Im μ2 H2) → Rp K (Im μ2 H2) v d → Q v H2
def dE (X : Cx) (G0 : Hp) (e : Expr) (δ : List (Option D)) (μ : Mu) (Φ : DK) : Prop := ∀ σ H, Bd X.K G0 δ μ σ H → ∀ Q, KP X.K μ H Φ Q → wE X e σ H Q
def dT (X : Cx) (G0 : Hp) (e : Expr) (δ : List (Option D)) (μ : Mu) (Φ : Bool → Mu → Prop) : Prop := ∀ σ H, Bd X.K G0 δ μ σ H → ∀ Q : Bool → Hp → Prop,
  (∀ b H2 μ2, Φ b μ2 → MuOk X.K μ2 H2 → Sub (Im μ H) (Im μ2 H2) → Q b H2) → wT X e σ H Q
def dW (X : Cx) (G0 : Hp) (e : Expr) (δ : List (Option D)) (μ : Mu) (Φ : Bool → Mu → Prop) : Prop := ∀ σ H, Bd X.K G0 δ μ σ H → ∀ Q : Bool → Hp → Prop,
  (∀ b H2 μ2, Φ b μ2 → MuOk X.K μ2 H2 → Sub (Im μ H) (Im μ2 H2) → Q b H2) → wW X e σ H Q
abbrev DKs := List D → Mu → Prop
def KPs (K : PySem.W.Frag) (μ : Mu) (H : Hp) (Φ : DKs) (Q : List V → Hp → Prop) : Prop :=
  ∀ vs H2 ds μ2, Φ ds μ2 → MuOk K μ2 H2 → Sub (Im μ H) (Im μ2 H2) → RpAll K (Im μ2 H2) vs ds → Q vs H2
def dA (X : Cx) (G0 : Hp) (es : List Expr) (δ : List (Option D)) (μ : Mu) (Φ : DKs) : Prop := ∀ σ H, Bd X.K G0 δ μ σ H → ∀ Q, KPs X.K μ H Φ Q → wA X es σ H Q
def dKw (X : Cx) (G0 : Hp) (es : List Keyword) (δ : List (Option D)) (μ : Mu) (Φ : DKs) : Prop := ∀ σ H, Bd X.K G0 δ μ σ H → ∀ Q, KPs X.K μ H Φ Q → wK X es σ H Q
/-- an operation on data -/
def dOp (X : Cx) (f : Value → Value → Sem Value) (x y : D) (μ : Mu) (Φ : DK) : Prop := ∀ v u H, Rp X.K (Im μ H) v x → Rp X.K (Im μ H) u y → MuOk X.K μ H → ∀ Q, KP X.K μ H Φ Q → wOp X f v u H Q
def dUn (X : Cx) (f : Value → Sem Value) (x : D) (μ : Mu) (Φ : DK) : Prop := ∀ v H, Rp X.K (Im μ H) v x → MuOk X.K μ H → ∀ Q, KP X.K μ H Φ Q → wUn X f v H Q
def dCall (X : Cx) (f : Value) (xs : List D) (μ : Mu) (Φ : DK) : Prop := ∀ vs H, RpAll X.K (Im μ H) vs xs → MuOk X.K μ H → ∀ Q, KP X.K μ H Φ Q → wCall X f vs H Q
def dIx (X : Cx) (x y : D) (μ : Mu) (Φ : DK) : Prop := ∀ v u H, Rp X.K (Im μ H) v x → Rp X.K (Im μ H) u y → MuOk X.K μ H → ∀ Q, KP X.K μ H Φ Q → wIx X v u H Q

section
variable {X : Cx} {G0 : Hp} {e a b : Expr} {δ : List (Option D)} {μ : Mu} {Φ : DK} {pos : Pos} {K : PySem.W.Frag} {H H1 : Hp} {Q : VK}
theorem KP.val (k : KP K μ H Φ Q) {v : V} {d : D} (m : MuOk K μ H) (q : Φ d μ) (r : Rp K (Im μ H) v d) : Q v H := k v H d μ q m (Sub.refl _) r
theorem KP.after {μ1 : Mu} (k : KP K μ H Φ Q) (s : Sub (Im μ H) (Im μ1 H1)) : KP K μ1 H1 Φ Q := fun v H2 d μ2 q m e r => k v H2 d μ2 q m (s.trans e) r
theorem Bd.now {σ : L2.St} {μ1 : Mu} (B : Bd K G0 δ μ σ H) (m : MuOk K μ1 H1) (e : Sub (Im μ H) (Im μ1 H1)) : Bd K (Im μ1 H1) δ μ1 σ H1 := (B.step m e).rebase
theorem dE.go (h : dE X G0 e δ μ Φ) {σ : L2.St} (B : Bd X.K G0 δ μ σ H) (k : KP X.K μ H Φ Q) : wE X e σ H Q := h σ H B Q k
theorem dE.imp {Ψ : DK} (h : dE X G0 e δ μ Φ) (i : ∀ d μ, Φ d μ → Ψ d μ) : dE X G0 e δ μ Ψ := fun σ H B Q k => h σ H B Q fun v H2 d μ2 q m e r => k v H2 d μ2 (i d μ2 q) m e r
theorem dT.imp {Φ Ψ : Bool → Mu → Prop} (h : dT X G0 e δ μ Φ) (i : ∀ d μ, Φ d μ → Ψ d μ) : dT X G0 e δ μ Ψ := fun σ H B Q k => h σ H B Q fun b H2 μ2 q m e => k b H2 μ2 (i b μ2 q) m e

theorem d_int {i j} (q : Φ (.int i) μ) : dE X G0 (.Constant (.int i) j pos) δ μ Φ := fun σ H B Q k => wE_of pe_int (k.val B.mu q (.int i))
theorem d_bl {i j} (q : Φ (.bl i) μ) : dE X G0 (.Constant (.bool i) j pos) δ μ Φ := fun σ H B Q k => wE_of pe_bl (k.val B.mu q (.bl i))
theorem d_non {j} (q : Φ .non μ) : dE X G0 (.Constant .none j pos) δ μ Φ := fun σ H B Q k => wE_of pe_non (k.val B.mu q .non)
theorem d_str {i j} (q : Φ (.str i) μ) : dE X G0 (.Constant (.str i) j pos) δ μ Φ := fun σ H B Q k => wE_of pe_str (k.val B.mu q (.str i))
theorem d_var (i : Nat) {x : Str} {d : D} (hd : δ[i]? = some (some d)) (q : Φ d μ) (hN : X.N[i]? = some x := by rfl) (hv : Vis X.env.scope x := by first | exact Or.inl rfl | exact Or.inr (Or.inl rfl) | exact Or.inr (Or.inr rfl)) (hb : (x == ("__debug__" : Str)) = false := by decide)
    (hcd : (x == ("__classdict__" : Str)) = false := by decide) : dE X G0 (.Name x pos) δ μ Φ := fun σ H B Q k => by
  obtain ⟨v, h1, r⟩ := B.sl i d hd
  exact wE_of (pe_var hN hv hb hcd) ⟨v, h1, k.val B.mu q r⟩
theorem d_op {op : Operator} (h : dE X G0 a δ μ fun x μ1 => dE X G0 b δ μ1 fun y μ2 => dOp X (binaryOp op) x y μ2 Φ) : dE X G0 (.BinOp a op b pos) δ μ Φ := fun σ H B Q k => by
  refine wE_of (pe_op op_w pe_w pe_w) ?_
  refine h σ H B _ fun v H1 x μ1 hx m1 e1 r1 => ?_
  refine hx σ H1 (B.step m1 e1) _ fun u H2 y μ2 hy m2 e2 r2 => ?_
  exact hy v u H2 (r1.mono e2) r2 m2 Q (k.after (e1.trans e2))
theorem d_un {op : UnaryOp} (h : dE X G0 a δ μ fun x μ1 => dUn X (unaryOp op) x μ1 Φ) : dE X G0 (.UnaryOp op a pos) δ μ Φ := fun σ H B Q k => by
  refine wE_of (pe_un un_w pe_w) ?_
  refine h σ H B _ fun v H1 x μ1 hx m1 e1 r1 => ?_
  exact hx v H1 r1 m1 Q (k.after e1)
theorem d_cmp {op : CmpOp} (h : dE X G0 a δ μ fun x μ1 => dE X G0 b δ μ1 fun y μ2 => dOp X (compareOp op) x y μ2 Φ) (hm : behindInMarks op b = false := by first | exact nomark _ | rfl) : dE X G0 (.Compare a [op] [b] pos) δ μ Φ := fun σ H B Q k => by
  refine wE_of (pe_cmpR op_w pe_w pe_w hm) ?_
  refine h σ H B _ fun v H1 x μ1 hx m1 e1 r1 => ?_
  refine hx σ H1 (B.step m1 e1) _ fun u H2 y μ2 hy m2 e2 r2 => ?_
  exact hy v u H2 (r1.mono e2) r2 m2 Q (k.after (e1.trans e2))
theorem d_ix (h : dE X G0 a δ μ fun x μ1 => dE X G0 b δ μ1 fun y μ2 => dIx X x y μ2 Φ) (hs : PlainIx b := by exact fun _ _ => rfl) : dE X G0 (.Subscript a b pos) δ μ Φ := fun σ H B Q k => by
  refine wE_of (pe_ix ix_w pe_w pe_w hs) ?_
  refine h σ H B _ fun v H1 x μ1 hx m1 e1 r1 => ?_
  refine hx σ H1 (B.step m1 e1) _ fun u H2 y μ2 hy m2 e2 r2 => ?_
  exact hy v u H2 (r1.mono e2) r2 m2 Q (k.after (e1.trans e2))
theorem da_nil {Φ : DKs} (q : Φ [] μ) : dA X G0 [] δ μ Φ := fun σ H B Q k => wA_of pa_nil (k [] H [] μ q B.mu (Sub.refl _) .nil)
theorem da_cons {es : List Expr} {Φ : DKs} (h : dE X G0 e δ μ fun x μ1 => dA X G0 es δ μ1 fun xs μ2 => Φ (x :: xs) μ2) (hs : starEach (e :: es) X.env = (false, eval e X.env) :: starEach es X.env := by rfl) : dA X G0 (e :: es) δ μ Φ := fun σ H B Q k => by
  refine wA_of (pa_cons pe_w pa_w hs) ?_
  refine h σ H B _ fun v H1 x μ1 hx m1 e1 r1 => ?_
  refine hx σ H1 (B.step m1 e1) _ fun vs H2 xs μ2 hy m2 e2 r2 => ?_
  exact k _ H2 _ μ2 hy m2 (e1.trans e2) (.cons (r1.mono e2) r2)
theorem dk_nil {Φ : DKs} (q : Φ [] μ) : dKw X G0 [] δ μ Φ := fun σ H B Q k => wK_of pk_nil (k [] H [] μ q B.mu (Sub.refl _) .nil)
theorem dk_cons {nm : Option Str} {kpos : Pos} {es : List Keyword} {Φ : DKs} (h : dE X G0 e δ μ fun x μ1 => dKw X G0 es δ μ1 fun xs μ2 => Φ (x :: xs) μ2) : dKw X G0 (⟨nm, e, kpos⟩ :: es) δ μ Φ := fun σ H B Q k => by
  refine wK_of (pk_cons pe_w pk_w) ?_
  refine h σ H B _ fun v H1 x μ1 hx m1 e1 r1 => ?_
  refine hx σ H1 (B.step m1 e1) _ fun vs H2 xs μ2 hy m2 e2 r2 => ?_
  exact k _ H2 _ μ2 hy m2 (e1.trans e2) (.cons (r1.mono e2) r2)
theorem mu_sub {p : Addr} {o : HO} (h : H p = none) : Sub (Im μ H) (Im μ (upd H p o)) := im_sub (sub_new h)
theorem KP.new (k : KP K μ H Φ Q) (m : MuOk K μ H) {p : Addr} (hp : H p = none) {o : HO} {d : D} (q : Φ d μ) (r : Rp K (Im μ (upd H p o)) (.ref p) d) : Q (.ref p) (upd H p o) :=
  k _ _ d μ q (m.ext (sub_new hp)) (mu_sub hp) r
theorem im_at {p : Addr} {o : HO} (m : MuOk K μ H) (hp : H p = none) : Im μ (upd H p o) p = some o := by
  unfold Im
  rw [mu_free m hp, upd_same]
  rfl
theorem rp_lst {p : Addr} {xs : List V} {ds : List D} (m : MuOk K μ H) (hp : H p = none) (r : RpAll K (Im μ H) xs ds) : Rp K (Im μ (upd H p (.lst xs))) (.ref p) (.lst ds) := .lst (im_at m hp) (r.mono (mu_sub hp))
theorem rp_tup {p : Addr} {xs : List V} {ds : List D} (m : MuOk K μ H) (hp : H p = none) (r : RpAll K (Im μ H) xs ds) : Rp K (Im μ (upd H p (.tup xs))) (.ref p) (.tup ds) := .tup (im_at m hp) (r.mono (mu_sub hp))
/-- a display -/
theorem d_lst {es : List Expr} (h : dA X G0 es δ μ fun xs μ1 => xs.length ≤ sizeLine ∧ Φ (.lst xs) μ1) : dE X G0 (.List es pos) δ μ Φ := fun σ H B Q k => by
  refine wE_of (pe_lst pa_w) ?_
  refine h σ H B _ fun vs H1 xs μ1 ⟨hl, q⟩ m1 e1 r1 => ?_
  exact ⟨by rw [r1.length]; exact hl, fun p hp => (k.after e1).new m1 hp q (rp_lst m1 hp r1)⟩
theorem d_tup {x1} {es : List Expr} (h : dA X G0 es δ μ fun xs μ1 => xs.length ≤ sizeLine ∧ Φ (.tup xs) μ1) : dE X G0 (.Tuple es x1 pos) δ μ Φ := fun σ H B Q k => by
  refine wE_of (pe_tup pa_w) ?_
  refine h σ H B _ fun vs H1 xs μ1 ⟨hl, q⟩ m1 e1 r1 => ?_
  exact ⟨by rw [r1.length]; exact hl, fun p hp => (k.after e1).new m1 hp q (rp_tup m1 hp r1)⟩
/-- a new list that may change -/
theorem KP.newM (k : KP K μ H Φ Q) (m : MuOk K μ H) {p : Addr} (hp : H p = none) {xs : List V} {ds : List D} (r : RpAll K (Im μ H) xs ds) (q : ∀ p, μ p = none → Φ (.ref p) (updM μ p (.lst ds))) : Q (.ref p) (upd H p (.lst xs)) := by
  have e : Im (updM μ p (.lst ds)) (upd H p (.lst xs)) = Im μ H := im_new hp
  exact k _ _ _ _ (q p (mu_free m hp)) (m.upd e r) (by rw [e]; exact Sub.refl _) (.ref p)
theorem d_lstM {es : List Expr} (h : dA X G0 es δ μ fun xs μ1 => xs.length ≤ sizeLine ∧ ∀ p, μ1 p = none → Φ (.ref p) (updM μ1 p (.lst xs))) : dE X G0 (.List es pos) δ μ Φ := fun σ H B Q k => by
  refine wE_of (pe_lst pa_w) ?_
  refine h σ H B _ fun vs H1 xs μ1 ⟨hl, q⟩ m1 e1 r1 => ?_
  exact ⟨by rw [r1.length]; exact hl, fun p hp => (k.after e1).newM m1 hp r1 q⟩

/-! ### operations on data -/
section
variable {i j : Int} {xs ys : List D} {x y : Str} {p : Addr}
theorem rp_int {v : V} {G : Hp} (r : Rp K G v (.int i)) : v = .int i := by cases r; rfl
theorem rp_str {v : V} {G : Hp} (r : Rp K G v (.str x)) : v = .str x := by cases r; rfl
theorem rp_bl {v : V} {G : Hp} {c : Bool} (r : Rp K G v (.bl c)) : v = .bl c := by cases r; rfl
theorem rp_non {v : V} {G : Hp} (r : Rp K G v .non) : v = .non := by cases r; rfl
theorem op_int {f : Value → Value → Sem Value} {C : Int → Int → Prop} {g : Int → Int → Int} (h : OpR X f (rI C fun i j => .int (g i j))) (c : C i j) (q : Φ (.int (g i j)) μ) : dOp X f (.int i) (.int j) μ Φ := fun v u H r1 r2 m Q k => by
  rw [rp_int r1, rp_int r2]
  exact wOp_of h ⟨i, j, rfl, rfl, c, k.val m q (.int _)⟩
theorem op_int0 {f : Value → Value → Sem Value} {g : Int → Int → Int} (h : OpR X f (rI0 fun i j => .int (g i j))) (q : Φ (.int (g i j)) μ) : dOp X f (.int i) (.int j) μ Φ := fun v u H r1 r2 m Q k => by
  rw [rp_int r1, rp_int r2]
  exact wOp_of h ⟨i, j, rfl, rfl, k.val m q (.int _)⟩
theorem op_intB {f : Value → Value → Sem Value} {g : Int → Int → Bool} (h : OpR X f (rI0 fun i j => .bl (g i j))) (q : Φ (.bl (g i j)) μ) : dOp X f (.int i) (.int j) μ Φ := fun v u H r1 r2 m Q k => by
  rw [rp_int r1, rp_int r2]
  exact wOp_of h ⟨i, j, rfl, rfl, k.val m q (.bl _)⟩
theorem o_add (q : Φ (.int (i + j)) μ) : dOp X (binaryOp .Add) (.int i) (.int j) μ Φ := op_int0 op_add q
theorem o_sub (q : Φ (.int (i - j)) μ) : dOp X (binaryOp .Sub) (.int i) (.int j) μ Φ := op_int0 op_sub q
theorem o_mul (q : CMulW i j ∧ Φ (.int (i * j)) μ) : dOp X (binaryOp .Mult) (.int i) (.int j) μ Φ := op_int op_mulW q.1 q.2
theorem o_mod (q : j ≠ 0 ∧ Φ (.int (i.fmod j)) μ) : dOp X (binaryOp .Mod) (.int i) (.int j) μ Φ := op_int op_modN q.1 q.2
theorem o_pow (q : CPow i j ∧ Φ (.int (i ^ j.toNat)) μ) : dOp X (binaryOp .Pow) (.int i) (.int j) μ Φ := op_int op_pow q.1 q.2
def CDivX (_ j : Int) : Prop := j ≠ 0 ∧ j.natAbs.log2 < 9000
theorem op_fdivX : OpR X (binaryOp .FloorDiv) (rI CDivX fun i j => .int (i.fdiv j)) := opI fun i j _ _ _ _ _ hc q => floordiv_int hc.1 q (.inl (PyProof.noPylong_of_log2 hc.2))
theorem o_div (q : CDivX i j ∧ Φ (.int (i.fdiv j)) μ) : dOp X (binaryOp .FloorDiv) (.int i) (.int j) μ Φ := op_int op_fdivX q.1 q.2
theorem o_lt (q : Φ (.bl (decide (i < j))) μ) : dOp X (compareOp .Lt) (.int i) (.int j) μ Φ := op_intB op_lt q
theorem o_le (q : Φ (.bl (decide (i ≤ j))) μ) : dOp X (compareOp .LtE) (.int i) (.int j) μ Φ := op_intB op_le q
theorem o_gt (q : Φ (.bl (decide (j < i))) μ) : dOp X (compareOp .Gt) (.int i) (.int j) μ Φ := op_intB op_gt q
theorem o_ge (q : Φ (.bl (decide (j ≤ i))) μ) : dOp X (compareOp .GtE) (.int i) (.int j) μ Φ := op_intB op_ge q
theorem o_eq (q : Φ (.bl (decide (i = j))) μ) : dOp X (compareOp .Eq) (.int i) (.int j) μ Φ := fun v u H r1 r2 m Q k => by
  rw [rp_int r1, rp_int r2]
  refine wOp_of op_eq ⟨rfl, k.val m q ?_⟩
  rw [show decide (V.int i = V.int j) = decide (i = j) from decide_eq_decide.mpr ⟨V.int.inj, congrArg _⟩]
  exact .bl _
theorem o_ne (q : Φ (.bl (!decide (i = j))) μ) : dOp X (compareOp .NotEq) (.int i) (.int j) μ Φ := fun v u H r1 r2 m Q k => by
  rw [rp_int r1, rp_int r2]
  refine wOp_of op_ne ⟨rfl, k.val m q ?_⟩
  rw [show decide (V.int i = V.int j) = decide (i = j) from decide_eq_decide.mpr ⟨V.int.inj, congrArg _⟩]
  exact .bl _
theorem o_eqS (q : Φ (.bl (decide (x = y))) μ) : dOp X (compareOp .Eq) (.str x) (.str y) μ Φ := fun v u H r1 r2 m Q k => by
  rw [rp_str r1, rp_str r2]
  refine wOp_of op_eq ⟨rfl, k.val m q ?_⟩
  rw [show decide (V.str x = V.str y) = decide (x = y) from decide_eq_decide.mpr ⟨V.str.inj, congrArg _⟩]
  exact .bl _
theorem o_neS (q : Φ (.bl (!decide (x = y))) μ) : dOp X (compareOp .NotEq) (.str x) (.str y) μ Φ := fun v u H r1 r2 m Q k => by
  rw [rp_str r1, rp_str r2]
  refine wOp_of op_ne ⟨rfl, k.val m q ?_⟩
  rw [show decide (V.str x = V.str y) = decide (x = y) from decide_eq_decide.mpr ⟨V.str.inj, congrArg _⟩]
  exact .bl _
theorem o_addS (q : x.length + y.length ≤ sizeLine ∧ Φ (.str (x ++ y)) μ) : dOp X (binaryOp .Add) (.str x) (.str y) μ Φ := fun v u H r1 r2 m Q k => by
  rw [rp_str r1, rp_str r2]
  exact wOp_of op_add_str ⟨x, y, rfl, rfl, q.1, k.val m q.2 (.str _)⟩
theorem o_neg (q : Φ (.int (-i)) μ) : dUn X (unaryOp .USub) (.int i) μ Φ := fun v H r m Q k => by
  rw [rp_int r]
  exact wUn_of un_neg ⟨i, rfl, k.val m q (.int _)⟩
theorem rp_lst_at {v : V} (r : Rp K (Im μ H) v (.lst xs)) : ∃ a vs, v = .ref a ∧ H a = some (.lst vs) ∧ RpAll K (Im μ H) vs xs := by
  cases r with
  | lst h r => exact ⟨_, _, rfl, im_all _ _ h, r⟩
theorem rp_tup_at {v : V} (r : Rp K (Im μ H) v (.tup xs)) : ∃ a vs, v = .ref a ∧ H a = some (.tup vs) ∧ RpAll K (Im μ H) vs xs := by
  cases r with
  | tup h r => exact ⟨_, _, rfl, im_all _ _ h, r⟩
theorem rp_ref {v : V} {G : Hp} (r : Rp K G v (.ref p)) : v = .ref p := by cases r; rfl
theorem o_cat (q : xs.length + ys.length ≤ sizeLine ∧ Φ (.lst (xs ++ ys)) μ) : dOp X (binaryOp .Add) (.lst xs) (.lst ys) μ Φ := fun v u H r1 r2 m Q k => by
  obtain ⟨a, vs, rfl, ha, ra⟩ := rp_lst_at r1
  obtain ⟨b, ws, rfl, hb, rb⟩ := rp_lst_at r2
  exact wOp_of op_cat ⟨a, b, vs, ws, rfl, rfl, ha, hb, by rw [ra.length, rb.length]; exact q.1, fun p hp => k.new m hp q.2 (rp_lst m hp (ra.append rb))⟩
/-- a list that may change, and one that stays -/
theorem o_catM (h : μ p = some (.lst xs)) (q : xs.length + ys.length ≤ sizeLine ∧ Φ (.lst (xs ++ ys)) μ) : dOp X (binaryOp .Add) (.ref p) (.lst ys) μ Φ := fun v u H r1 r2 m Q k => by
  cases rp_ref r1
  obtain ⟨vs, ha, ra⟩ := m.lst h
  obtain ⟨b, ws, rfl, hb, rb⟩ := rp_lst_at r2
  exact wOp_of op_cat ⟨p, b, vs, ws, rfl, rfl, ha, hb, by rw [ra.length, rb.length]; exact q.1, fun p hp => k.new m hp q.2 (rp_lst m hp (ra.append rb))⟩
theorem o_rep (q : -(2 ^ 63) ≤ j ∧ j < 2 ^ 63 ∧ xs.length * j.toNat ≤ sizeLine ∧ Φ (.lst (List.replicate j.toNat xs).flatten) μ) : dOp X (binaryOp .Mult) (.lst xs) (.int j) μ Φ := fun v u H r1 r2 m Q k => by
  obtain ⟨a, vs, rfl, ha, ra⟩ := rp_lst_at r1
  rw [rp_int r2]
  exact wOp_of op_rep ⟨a, j, vs, rfl, rfl, ha, q.1, q.2.1, by rw [ra.length]; exact q.2.2.1, fun p hp => k.new m hp q.2.2.2 (rp_lst m hp (ra.rep _))⟩
theorem atI_rp {G : Hp} {vs : List V} {d : D} (r : RpAll K G vs xs) (h : atI xs i = some d) : ∃ v, atI vs i = some v ∧ Rp K G v d := by
  unfold atI at h ⊢
  rw [r.length]
  cases e : ixN xs.length i with
  | none => rw [e] at h; cases h
  | some j =>
    rw [e] at h
    exact r.get h
theorem x_lst {d : D} (h : atI xs i = some d) (q : Φ d μ) : dIx X (.lst xs) (.int i) μ Φ := fun v u H r1 r2 m Q k => by
  obtain ⟨a, vs, rfl, ha, ra⟩ := rp_lst_at r1
  rw [rp_int r2]
  obtain ⟨v, hv, rv⟩ := atI_rp ra h
  exact wIx_of ix_list ⟨a, vs, i, v, rfl, rfl, SqL.of ha, hv, k.val m q rv⟩
theorem x_tup {d : D} (h : atI xs i = some d) (q : Φ d μ) : dIx X (.tup xs) (.int i) μ Φ := fun v u H r1 r2 m Q k => by
  obtain ⟨a, vs, rfl, ha, ra⟩ := rp_tup_at r1
  rw [rp_int r2]
  obtain ⟨v, hv, rv⟩ := atI_rp ra h
  exact wIx_of ix_tup ⟨a, vs, i, v, rfl, rfl, SqT.of ha, hv, k.val m q rv⟩
theorem x_mut {d : D} (hp : μ p = some (.lst xs)) (h : atI xs i = some d) (q : Φ d μ) : dIx X (.ref p) (.int i) μ Φ := fun v u H r1 r2 m Q k => by
  cases rp_ref r1
  obtain ⟨vs, ha, ra⟩ := m.lst hp
  rw [rp_int r2]
  obtain ⟨v, hv, rv⟩ := atI_rp ra h
  exact wIx_of ix_list ⟨p, vs, i, v, rfl, rfl, SqL.of ha, hv, k.val m q rv⟩
end
end
end DL

namespace DL
open PySem PySem.Spec PyProof.Rows L2

/-! ### truth, tests -/
/-- a datum's truth -/
def Tr : D → Mu → Bool → Prop
  | .non, _, b => b = false
  | .bl c, _, b => b = c
  | .int i, _, b => b = (i != 0)
  | .str x, _, b => x.length ≤ sizeLine ∧ b = ((x.length : Int) != 0)
  | .lst ds, _, b => b = !ds.isEmpty
  | .tup ds, _, b => b = !ds.isEmpty
  | .ref p, μ, b => ∃ ds, μ p = some (.lst ds) ∧ b = !ds.isEmpty
  | _, _, _ => False
section
variable {X : Cx} {G0 : Hp} {e a b c : Expr} {es rest : List Expr} {δ : List (Option D)} {μ : Mu} {Φ : DK} {pos : Pos} {K : PySem.W.Frag} {H : Hp} {Q : VK} {Θ : Bool → Mu → Prop}
theorem RpAll.isEmpty {G : Hp} {vs : List V} {ds : List D} (r : RpAll K G vs ds) : vs.isEmpty = ds.isEmpty := by cases r <;> rfl
theorem tr_ok {v : V} {d : D} {k : Bool} (r : Rp K (Im μ H) v d) (m : MuOk K μ H) (h : Tr d μ k) : TruV K v H k := by
  cases r with
  | non => exact h
  | bl b => exact h
  | int i => exact h
  | str x => exact h
  | ref p =>
    obtain ⟨ds, hp, e⟩ := h
    obtain ⟨vs, ha, ra⟩ := m.lst hp
    exact .inl ⟨vs, SqL.of ha, by rw [ra.isEmpty]; exact e⟩
  | scr h1 => exact h.elim
  | ty n => exact h.elim
  | exc h1 _ => exact h.elim
  | exv h1 _ _ => exact h.elim
  | exb h1 => exact h.elim
  | lst h1 r => exact .inl ⟨_, SqL.of (im_all _ _ h1), by rw [r.isEmpty]; exact h⟩
  | tup h1 r => exact .inr (.inl ⟨_, SqT.of (im_all _ _ h1), by rw [r.isEmpty]; exact h⟩)
  | dct h1 r => exact h.elim
theorem t_val (h : dE X G0 e δ μ fun d μ1 => ∃ k, Tr d μ1 k ∧ Θ k μ1) (he : ∀ whole, isTrue e X.env whole = (do let v ← whole; standAt e.pos; holding [v] (truthy v)) := by intro _; rfl) : dT X G0 e δ μ Θ := fun σ H B Q k => by
  refine wT_of (pt_truth pe_w he) ?_
  refine h σ H B _ fun v H1 d μ1 ⟨c, t, q⟩ m1 e1 r1 => ?_
  exact ⟨c, tr_ok r1 m1 t, k c H1 μ1 q m1 e1⟩
theorem t_not (h : dT X G0 e δ μ fun k μ1 => Θ (!k) μ1) : dT X G0 (.UnaryOp .Not e pos) δ μ Θ := fun σ H B Q k => by
  refine wT_of (pt_not pt_w) ?_
  exact h σ H B _ fun c H1 μ1 q m1 e1 => k _ H1 μ1 q m1 e1
theorem tw_and1 (h : dT X G0 e δ μ Θ) : dW X G0 (.BoolOp .And [e] pos) δ μ Θ := fun σ H B Q k => wW_of (pw_and1 pt_w) (h σ H B Q k)
theorem tw_or1 (h : dT X G0 e δ μ Θ) : dW X G0 (.BoolOp .Or [e] pos) δ μ Θ := fun σ H B Q k => wW_of (pw_or1 pt_w) (h σ H B Q k)
theorem tw_and (h : dT X G0 a δ μ fun k μ1 => (k = true → dW X G0 (.BoolOp .And (b :: rest) pos) δ μ1 Θ) ∧ (k = false → Θ false μ1)) : dW X G0 (.BoolOp .And (a :: b :: rest) pos) δ μ Θ := fun σ H B Q k => by
  refine wW_of (pw_and pt_w pw_w) ?_
  refine h σ H B _ fun c H1 μ1 ⟨q1, q2⟩ m1 e1 => ?_
  cases c with
  | true => exact iteT (q1 rfl σ H1 (B.step m1 e1) Q fun c H2 μ2 q m2 e2 => k c H2 μ2 q m2 (e1.trans e2))
  | false => exact iteF (k _ H1 μ1 (q2 rfl) m1 e1)
theorem tw_or (h : dT X G0 a δ μ fun k μ1 => (k = false → dW X G0 (.BoolOp .Or (b :: rest) pos) δ μ1 Θ) ∧ (k = true → Θ true μ1)) : dW X G0 (.BoolOp .Or (a :: b :: rest) pos) δ μ Θ := fun σ H B Q k => by
  refine wW_of (pw_or pt_w pw_w) ?_
  refine h σ H B _ fun c H1 μ1 ⟨q1, q2⟩ m1 e1 => ?_
  cases c with
  | true => exact iteT (k _ H1 μ1 (q2 rfl) m1 e1)
  | false => exact iteF (q1 rfl σ H1 (B.step m1 e1) Q fun c H2 μ2 q m2 e2 => k c H2 μ2 q m2 (e1.trans e2))
theorem t_bool {op : BoolOp} (h : dW X G0 (.BoolOp op es pos) δ μ Θ) : dT X G0 (.BoolOp op es pos) δ μ Θ := fun σ H B Q k => wT_of (PW.pt pw_w) (h σ H B Q k)
/-- and, or, not as values -/
theorem d_not (h : dE X G0 e δ μ fun d μ1 => ∃ k, d = .bl k ∧ Φ (.bl (!k)) μ1) : dE X G0 (.UnaryOp .Not e pos) δ μ Φ := fun σ H B Q k => by
  refine wE_of (pe_not pe_w) ?_
  refine h σ H B _ fun v H1 d μ1 ⟨c, e, q⟩ m1 e1 r1 => ?_
  subst e
  exact ⟨c, rp_bl r1, (k.after e1).val m1 q (.bl _)⟩
theorem d_one {op} (h : dE X G0 e δ μ Φ) : dE X G0 (.BoolOp op [e] pos) δ μ Φ := fun σ H B Q k => wE_of (pe_one pe_w) (h σ H B Q k)
theorem d_and (h : dE X G0 a δ μ fun d μ1 => ∃ k, d = .bl k ∧ (k = true → dE X G0 (.BoolOp .And (b :: rest) pos) δ μ1 Φ) ∧ (k = false → Φ (.bl false) μ1)) : dE X G0 (.BoolOp .And (a :: b :: rest) pos) δ μ Φ := fun σ H B Q k => by
  refine wE_of (pe_and pe_w pe_w) ?_
  refine h σ H B _ fun v H1 d μ1 ⟨c, e, q1, q2⟩ m1 e1 r1 => ?_
  subst e
  refine ⟨c, rp_bl r1, ?_⟩
  cases c with
  | true => exact iteT (q1 rfl σ H1 (B.step m1 e1) Q (k.after e1))
  | false => exact iteF ((k.after e1).val m1 (q2 rfl) (.bl _))
theorem d_or (h : dE X G0 a δ μ fun d μ1 => ∃ k, d = .bl k ∧ (k = false → dE X G0 (.BoolOp .Or (b :: rest) pos) δ μ1 Φ) ∧ (k = true → Φ (.bl true) μ1)) : dE X G0 (.BoolOp .Or (a :: b :: rest) pos) δ μ Φ := fun σ H B Q k => by
  refine wE_of (pe_or pe_w pe_w) ?_
  refine h σ H B _ fun v H1 d μ1 ⟨c, e, q1, q2⟩ m1 e1 r1 => ?_
  subst e
  refine ⟨c, rp_bl r1, ?_⟩
  cases c with
  | true => exact iteT ((k.after e1).val m1 (q2 rfl) (.bl _))
  | false => exact iteF (q1 rfl σ H1 (B.step m1 e1) Q (k.after e1))
theorem d_if (h : dT X G0 c δ μ fun k μ1 => (k = true → dE X G0 a δ μ1 Φ) ∧ (k = false → dE X G0 b δ μ1 Φ)) : dE X G0 (.IfExp c a b pos) δ μ Φ := fun σ H B Q k => by
  refine wE_of (pe_ifExp pt_w pe_w pe_w) ?_
  refine h σ H B _ fun c H1 μ1 ⟨q1, q2⟩ m1 e1 => ?_
  cases c with
  | true => exact iteT (q1 rfl σ H1 (B.step m1 e1) Q (k.after e1))
  | false => exact iteF (q2 rfl σ H1 (B.step m1 e1) Q (k.after e1))

/-! ### calls of built-ins -/
theorem d_callB {x : Str} {id : String} {p : Pos} (ha : dA X G0 (e :: es) δ μ fun xs μ1 => dCall X (.builtin id) xs μ1 Φ) (hm : X.mg x = none := by assumption) (hv : bootBuiltins x = some (.builtin id) := by exact (by decide +kernel)) (hg : Gl X x := by rfl) (hn : x ≠ "__name__" := by decide) (hdb : (x == ("__debug__" : Str)) = false := by decide)
    (he : starEach (e :: es) X.env = (false, eval e X.env) :: starEach es X.env := by rfl) (hpl : (backTo pos (starEach es X.env)).any (·.1) = false := by rfl) : dE X G0 (.Call (.Name x p) (e :: es) [] pos) δ μ Φ := fun σ H B Q k => by
  refine wE_of (pe_callB call_w hg hm hv pa_w hn hdb he hpl) ?_
  refine ha σ H B _ fun vs H1 xs μ1 q m1 e1 r1 => ?_
  exact q vs H1 r1 m1 Q (k.after e1)
theorem d_callTy {x : Str} {T : String} {p : Pos} (ha : dA X G0 (e :: es) δ μ fun xs μ1 => dCall X (.type T) xs μ1 Φ) (hm : X.mg x = none := by assumption) (hv : bootBuiltins x = some (.type T) := by exact (by decide +kernel)) (hg : Gl X x := by rfl) (hn : x ≠ "__name__" := by decide) (hdb : (x == ("__debug__" : Str)) = false := by decide)
    (he : starEach (e :: es) X.env = (false, eval e X.env) :: starEach es X.env := by rfl) (hpl : (backTo pos (starEach es X.env)).any (·.1) = false := by rfl) : dE X G0 (.Call (.Name x p) (e :: es) [] pos) δ μ Φ := fun σ H B Q k => by
  refine wE_of (pe_callTy call_w hg hm hv pa_w hn hdb he hpl) ?_
  refine ha σ H B _ fun vs H1 xs μ1 q m1 e1 r1 => ?_
  exact q vs H1 r1 m1 Q (k.after e1)
section
variable {i j : Int} {xs ys : List D} {x y : Str} {p : Addr} {d : D}
theorem rp1 {G : Hp} {vs : List V} (r : RpAll K G vs [d]) : ∃ v, vs = [v] ∧ Rp K G v d := by
  cases r with
  | cons a t => cases t; exact ⟨_, rfl, a⟩
theorem rp2 {G : Hp} {vs : List V} {d' : D} (r : RpAll K G vs [d, d']) : ∃ v u, vs = [v, u] ∧ Rp K G v d ∧ Rp K G u d' := by
  cases r with
  | cons a t =>
    obtain ⟨u, rfl, b⟩ := rp1 t
    exact ⟨_, _, rfl, a, b⟩
theorem c_abs (q : Φ (.int (if i < 0 then -i else i)) μ) : dCall X (.builtin "abs") [.int i] μ Φ := fun vs H r m Q k => by
  obtain ⟨v, rfl, a⟩ := rp1 r
  cases rp_int a
  exact wCall_of call_abs ⟨i, rfl, k.val m q (.int _)⟩
theorem c_max2 (q : Φ (.int (if j > i then j else i)) μ) (hc : X.calm = true := by rfl) : dCall X (.builtin "max") [.int i, .int j] μ Φ := fun vs H r m Q k => by
  obtain ⟨v, u, rfl, a, b⟩ := rp2 r
  cases rp_int a
  cases rp_int b
  exact wCall_of (call_max2 hc) ⟨i, j, rfl, k.val m q (.int _)⟩
theorem c_min2 (q : Φ (.int (if j < i then j else i)) μ) (hc : X.calm = true := by rfl) : dCall X (.builtin "min") [.int i, .int j] μ Φ := fun vs H r m Q k => by
  obtain ⟨v, u, rfl, a, b⟩ := rp2 r
  cases rp_int a
  cases rp_int b
  exact wCall_of (call_min2 hc) ⟨i, j, rfl, k.val m q (.int _)⟩
theorem c_int (q : Φ (.int i) μ) : dCall X (.type "int") [.int i] μ Φ := fun vs H r m Q k => by
  obtain ⟨v, rfl, a⟩ := rp1 r
  cases rp_int a
  exact wCall_of call_int1 (.inl ⟨i, rfl, k.val m q (.int _)⟩)
theorem c_intB {c : Bool} (q : Φ (.int (if c then 1 else 0)) μ) : dCall X (.type "int") [.bl c] μ Φ := fun vs H r m Q k => by
  obtain ⟨v, rfl, a⟩ := rp1 r
  cases rp_bl a
  exact wCall_of call_int1 (.inr ⟨c, rfl, k.val m q (.int _)⟩)
theorem c_lenL (q : Φ (.int xs.length) μ) : dCall X (.builtin "len") [.lst xs] μ Φ := fun vs H r m Q k => by
  obtain ⟨v, rfl, a⟩ := rp1 r
  obtain ⟨c, ws, rfl, ha, ra⟩ := rp_lst_at a
  exact wCall_of call_len_seq ⟨c, ws, rfl, .inl (SqL.of ha), by rw [ra.length]; exact k.val m q (.int _)⟩
theorem c_lenT (q : Φ (.int xs.length) μ) : dCall X (.builtin "len") [.tup xs] μ Φ := fun vs H r m Q k => by
  obtain ⟨v, rfl, a⟩ := rp1 r
  obtain ⟨c, ws, rfl, ha, ra⟩ := rp_tup_at a
  exact wCall_of call_len_seq ⟨c, ws, rfl, .inr (SqT.of ha), by rw [ra.length]; exact k.val m q (.int _)⟩
theorem c_lenM (h : μ p = some (.lst xs)) (q : Φ (.int xs.length) μ) : dCall X (.builtin "len") [.ref p] μ Φ := fun vs H r m Q k => by
  obtain ⟨v, rfl, a⟩ := rp1 r
  cases rp_ref a
  obtain ⟨ws, ha, ra⟩ := m.lst h
  exact wCall_of call_len_seq ⟨p, ws, rfl, .inl (SqL.of ha), by rw [ra.length]; exact k.val m q (.int _)⟩
theorem c_lenS (h : x.length ≤ sizeLine) (q : Φ (.int x.length) μ) : dCall X (.builtin "len") [.str x] μ Φ := fun vs H r m Q k => by
  obtain ⟨v, rfl, a⟩ := rp1 r
  cases rp_str a
  exact wCall_of call_len_str ⟨x, rfl, h, k.val m q (.int _)⟩
/-- list(..): a copy that stays; one that may change -/
theorem c_listS {ns : List Int} (q : Φ (.lst (ns.map .int)) μ) : dCall X (.type "list") [.scr ns] μ Φ := fun vs H r m Q k => by
  obtain ⟨v, rfl, a⟩ := rp1 r
  cases a with
  | scr h => exact wCall_of call_list_of ⟨_, _, rfl, .inl (seq_sub im_all h), fun l hl => k.new m hl q (rp_lst m hl .of_ints)⟩
theorem c_listL (q : Φ (.lst xs) μ) : dCall X (.type "list") [.lst xs] μ Φ := fun vs H r m Q k => by
  obtain ⟨v, rfl, a⟩ := rp1 r
  obtain ⟨a, ws, rfl, ha, ra⟩ := rp_lst_at a
  exact wCall_of call_list_of ⟨_, _, rfl, .inl (SqL.of ha), fun l hl => k.new m hl q (rp_lst m hl ra)⟩
theorem c_listT (q : Φ (.lst xs) μ) : dCall X (.type "list") [.tup xs] μ Φ := fun vs H r m Q k => by
  obtain ⟨v, rfl, a⟩ := rp1 r
  obtain ⟨a, ws, rfl, ha, ra⟩ := rp_tup_at a
  exact wCall_of call_list_of ⟨_, _, rfl, .inr (SqT.of ha), fun l hl => k.new m hl q (rp_lst m hl ra)⟩
theorem c_listM (h : μ p = some (.lst xs)) (q : Φ (.lst xs) μ) : dCall X (.type "list") [.ref p] μ Φ := fun vs H r m Q k => by
  obtain ⟨v, rfl, a⟩ := rp1 r
  cases rp_ref a
  obtain ⟨ws, ha, ra⟩ := m.lst h
  exact wCall_of call_list_of ⟨_, _, rfl, .inl (SqL.of ha), fun l hl => k.new m hl q (rp_lst m hl ra)⟩
theorem c_listLN (q : ∀ l, μ l = none → Φ (.ref l) (updM μ l (.lst xs))) : dCall X (.type "list") [.lst xs] μ Φ := fun vs H r m Q k => by
  obtain ⟨v, rfl, a⟩ := rp1 r
  obtain ⟨a, ws, rfl, ha, ra⟩ := rp_lst_at a
  exact wCall_of call_list_of ⟨_, _, rfl, .inl (SqL.of ha), fun l hl => k.newM m hl ra q⟩
theorem c_listTN (q : ∀ l, μ l = none → Φ (.ref l) (updM μ l (.lst xs))) : dCall X (.type "list") [.tup xs] μ Φ := fun vs H r m Q k => by
  obtain ⟨v, rfl, a⟩ := rp1 r
  obtain ⟨a, ws, rfl, ha, ra⟩ := rp_tup_at a
  exact wCall_of call_list_of ⟨_, _, rfl, .inr (SqT.of ha), fun l hl => k.newM m hl ra q⟩
theorem c_tupL (q : Φ (.tup xs) μ) : dCall X (.type "tuple") [.lst xs] μ Φ := fun vs H r m Q k => by
  obtain ⟨v, rfl, a⟩ := rp1 r
  obtain ⟨a, ws, rfl, ha, ra⟩ := rp_lst_at a
  exact wCall_of call_tuple_of ⟨_, _, rfl, .inl ⟨SqL.of ha, fun l hl => k.new m hl q (rp_tup m hl ra)⟩⟩
theorem c_tupT (q : Φ (.tup xs) μ) : dCall X (.type "tuple") [.tup xs] μ Φ := fun vs H r m Q k => by
  obtain ⟨v, rfl, a⟩ := rp1 r
  obtain ⟨b, ws, e, ha, ra⟩ := rp_tup_at a
  subst e
  exact wCall_of call_tuple_of ⟨_, _, rfl, .inr ⟨SqT.of ha, k.val m q a⟩⟩
end
end

/-! ### == at any depth -/
mutual
inductive Py (μ : Mu) : D → PyData → Prop
  | non : Py μ .non .none
  | bl (b : Bool) : Py μ (.bl b) (.bool b)
  | int (i : Int) : Py μ (.int i) (.int i)
  | str (x : Str) : Py μ (.str x) (.str x)
  | lst {ds : List D} {ps : List PyData} : PyAll μ ds ps → Py μ (.lst ds) (.list ps)
  | tup {ds : List D} {ps : List PyData} : PyAll μ ds ps → Py μ (.tup ds) (.tuple ps)
  | ref {p : Addr} {ds : List D} {ps : List PyData} : μ p = some (.lst ds) → PyAll μ ds ps → Py μ (.ref p) (.list ps)
inductive PyAll (μ : Mu) : List D → List PyData → Prop
  | nil : PyAll μ [] []
  | cons {d : D} {ds : List D} {p : PyData} {ps : List PyData} : Py μ d p → PyAll μ ds ps → PyAll μ (d :: ds) (p :: ps)
end
theorem PyAll.ints {μ : Mu} : ∀ {ns : List Int}, PyAll μ (ns.map D.int) (ns.map PyData.int)
  | [] => .nil
  | n :: _ => .cons (.int n) PyAll.ints
section
variable {X : Cx} {G0 : Hp} {μ : Mu} {Φ : DK} {K : PySem.W.Frag} {H : Hp}
mutual
theorem Py.dp (m : MuOk K μ H) : ∀ {d : D} {p : PyData}, Py μ d p → ∀ {v : V}, Rp K (Im μ H) v d → Dp K H v p
  | _, _, .non, _, .non => .non
  | _, _, .bl b, _, .bl _ => .bl b
  | _, _, .int i, _, .int _ => .int i
  | _, _, .str x, _, .str _ => .str x
  | _, _, .lst h, _, .lst a r => .lst (SqL.of (im_all _ _ a)) (PyAll.dp m h r)
  | _, _, .tup h, _, .tup a r => .tup (SqT.of (im_all _ _ a)) (PyAll.dp m h r)
  | _, _, .ref (p := p) e h, v, r => by
    obtain ⟨vs, ha, ra⟩ := m.lst e
    have q := rp_ref r
    subst q
    exact .lst (SqL.of ha) (PyAll.dp m h ra)
theorem PyAll.dp (m : MuOk K μ H) : ∀ {ds : List D} {ps : List PyData}, PyAll μ ds ps → ∀ {vs : List V}, RpAll K (Im μ H) vs ds → DpAll K H vs ps
  | _, _, .nil, _, .nil => .nil
  | _, _, .cons h t, _, .cons a r => .cons (Py.dp m h a) (PyAll.dp m t r)
end
theorem o_eqD {x y : D} {p q : PyData} (hu : X.A.units + 64 < cLine) (hx : Py μ x p) (hy : Py μ y q) (sp : SeqAt.shaped p = true) (sq : SeqAt.shaped q = true) (k : Φ (.bl (PyData.eqv p q)) μ) : dOp X (compareOp .Eq) x y μ Φ := fun v u H r1 r2 m Q kk =>
  wOp_of (op_eqD hu) ⟨p, q, hx.dp m r1, hy.dp m r2, sp, sq, kk.val m k (.bl _)⟩
theorem o_neD {x y : D} {p q : PyData} (hu : X.A.units + 64 < cLine) (hx : Py μ x p) (hy : Py μ y q) (sp : SeqAt.shaped p = true) (sq : SeqAt.shaped q = true) (k : Φ (.bl (!PyData.eqv p q)) μ) : dOp X (compareOp .NotEq) x y μ Φ := fun v u H r1 r2 m Q kk =>
  wOp_of (op_neD hu) ⟨p, q, hx.dp m r1, hy.dp m r2, sp, sq, kk.val m k (.bl _)⟩
/-- is None, is not None -/
theorem o_isN {x : D} {b : Bool} (hb : b = (match x with | .non => true | _ => false)) (k : Φ (.bl b) μ) : dOp X (compareOp .Is) x .non μ Φ := fun v u H r1 r2 m Q kk => by
  cases rp_non r2
  refine wOp_of op_isN ⟨rfl, kk.val m k ?_⟩
  have e : decide (v = V.non) = b := by
    subst hb
    cases r1 <;> rfl
  rw [e]
  exact .bl _
theorem o_notN {x : D} {b : Bool} (hb : b = (match x with | .non => false | _ => true)) (k : Φ (.bl b) μ) : dOp X (compareOp .IsNot) x .non μ Φ := fun v u H r1 r2 m Q kk => by
  cases rp_non r2
  refine wOp_of op_notN ⟨rfl, kk.val m k ?_⟩
  have e : (!decide (v = V.non)) = b := by
    subst hb
    cases r1 <;> rfl
  rw [e]
  exact .bl _
end

/-! ### statements -/
structure DEnds where
  nx : List (Option D) → Mu → Prop
  rt : DK
  bk : List (Option D) → Mu → Prop := fun _ _ => False
  ct : List (Option D) → Mu → Prop := fun _ _ => False
def dEn (K : PySem.W.Frag) (G0 : Hp) (E : DEnds) : Ends where
  nx := fun σ H => ∃ δ μ, E.nx δ μ ∧ Bd K G0 δ μ σ H
  rt := fun v H => ∃ d μ, E.rt d μ ∧ MuOk K μ H ∧ Sub G0 (Im μ H) ∧ Rp K (Im μ H) v d
  bk := fun σ H => ∃ δ μ, E.bk δ μ ∧ Bd K G0 δ μ σ H
  ct := fun σ H => ∃ δ μ, E.ct δ μ ∧ Bd K G0 δ μ σ H
def dS (X : Cx) (G0 : Hp) (st : Stmt) (δ : List (Option D)) (μ : Mu) (E : DEnds) : Prop := ∀ σ H, Bd X.K G0 δ μ σ H → wS X st (dEn X.K G0 E) σ H
def dSs (X : Cx) (G0 : Hp) (st : List Stmt) (δ : List (Option D)) (μ : Mu) (E : DEnds) : Prop := ∀ σ H, Bd X.K G0 δ μ σ H → wSs X st (dEn X.K G0 E) σ H
/-- D's ends are D' 's -/
structure Ends.Le (D D' : Ends) : Prop where
  nx : ∀ σ H, D.nx σ H → D'.nx σ H
  rt : ∀ v H, D.rt v H → D'.rt v H
  bk : ∀ σ H, D.bk σ H → D'.bk σ H
  ct : ∀ σ H, D.ct σ H → D'.ct σ H
section
variable {X : Cx} {G0 G1 : Hp} {st : Stmt} {sts rest : List Stmt} {δ : List (Option D)} {μ : Mu} {E E' : DEnds} {e a b c : Expr} {pos : Pos} {σ : L2.St} {H : Hp}
theorem SP.le {D D' : Ends} {pins : List (Addr × Obj)} (l : Ends.Le D D') {f : Flow} {s : Shared} (h : SP X pins D f s) : SP X pins D' f s := by
  cases f with
  | next => obtain ⟨σ, H, I, q⟩ := h; exact ⟨σ, H, I, l.nx _ _ q⟩
  | brk => obtain ⟨σ, H, I, q⟩ := h; exact ⟨σ, H, I, l.bk _ _ q⟩
  | cont => obtain ⟨σ, H, I, q⟩ := h; exact ⟨σ, H, I, l.ct _ _ q⟩
  | ret u => obtain ⟨v, σ, H, I, r, q⟩ := h; exact ⟨v, σ, H, I, r, l.rt _ _ q⟩
theorem wS_mono {D D' : Ends} (l : Ends.Le D D') (h : wS X st D σ H) : wS X st D' σ H := fun pins s I => thn (h pins s I) fun _ _ q => SP.le l q
theorem wSs_mono {D D' : Ends} (l : Ends.Le D D') (h : wSs X sts D σ H) : wSs X sts D' σ H := fun pins s I => thn (h pins s I) fun _ _ q => SP.le l q
theorem dEn_rt {K : PySem.W.Frag} {v : V} {d : D} {μ : Mu} (q : E.rt d μ) (m : MuOk K μ H) (e : Sub G0 (Im μ H)) (r : Rp K (Im μ H) v d) : (dEn K G0 E).rt v H := ⟨d, μ, q, m, e, r⟩
theorem s_nil (q : E.nx δ μ) : dSs X G0 [] δ μ E := fun σ H B => wSs_of pss_nil ⟨δ, μ, q, B⟩
theorem s_cons (h : dS X G0 st δ μ { E with nx := fun δ' μ' => dSs X G0 rest δ' μ' E }) : dSs X G0 (st :: rest) δ μ E := fun σ H B => by
  refine wSs_of (pss_cons ps_w pss_w) ?_
  refine wS_mono (D := dEn X.K G0 { E with nx := fun δ' μ' => dSs X G0 rest δ' μ' E }) ⟨fun σ' H' q => ?_, fun _ _ q => q, fun _ _ q => q, fun _ _ q => q⟩ (h σ H B)
  obtain ⟨δ', μ', q, B'⟩ := q
  exact q σ' H' B'
theorem s_one (h : dS X G0 st δ μ E) : dSs X G0 [st] δ μ E := fun σ H B => wSs_of (pss_one ps_w) (h σ H B)
theorem s_set {i : Nat} {x : Str} {pos' : Pos} (h : dE X G0 e δ μ fun d μ' => E.nx (δ.set i (some d)) μ') (hN : X.N.Nodup := by assumption) (hi : X.N[i]? = some x := by rfl) (hx : Loc X.env.scope x := by first | exact Or.inl rfl | exact Or.inr rfl) (hs : swapsWith e (some (.Name x pos')) pos.line X.env = pure false := by rfl)
    (hf : X.fn x = true ∨ X.env.scope.names.lookup x = some .local := by first | exact .inl rfl | exact .inr rfl) : dS X G0 (.Assign [.Name x pos'] e pos) δ μ E := fun σ H B => by
  refine wS_of (ps_set (i := i) hN hi hx pe_w hs hf) ?_
  refine h.go B fun v H1 d μ1 q m1 e1 r1 => ?_
  exact ⟨_, μ1, q, (B.step m1 e1).set r1⟩
theorem s_expr (h : dE X G0 e δ μ fun _ μ' => E.nx δ μ') (hs : swapsWith e none pos.line X.env = pure false := by rfl) : dS X G0 (.Expr e pos) δ μ E := fun σ H B => by
  refine wS_of (ps_expr pe_w hs) ?_
  refine h.go B fun v H1 d μ1 q m1 e1 r1 => ?_
  exact ⟨δ, μ1, q, B.step m1 e1⟩
theorem s_ret (h : dE X G0 e δ μ E.rt) : dS X G0 (.Return (some e) pos) δ μ E := fun σ H B => by
  refine wS_of (ps_ret pe_w) ?_
  refine h.go B fun v H1 d μ1 q m1 e1 r1 => ?_
  exact ⟨d, μ1, q, m1, B.base.trans e1, r1⟩
theorem s_retN (q : E.rt .non μ) : dS X G0 (.Return none pos) δ μ E := fun σ H B => wS_of ps_retN ⟨.non, μ, q, B.mu, B.base, .non⟩
theorem s_pass (q : E.nx δ μ) : dS X G0 (.Pass pos) δ μ E := fun σ H B => wS_of ps_pass ⟨δ, μ, q, B⟩
theorem s_break (q : E.bk δ μ) : dS X G0 (.Break pos) δ μ E := fun σ H B => wS_of ps_break ⟨δ, μ, q, B⟩
theorem s_cont (q : E.ct δ μ) : dS X G0 (.Continue pos) δ μ E := fun σ H B => wS_of ps_continue ⟨δ, μ, q, B⟩
theorem s_if {x y : List Stmt} (h : dT X G0 c δ μ fun k μ1 => (k = true → dSs X G0 x δ μ1 E) ∧ (k = false → dSs X G0 y δ μ1 E)) : dS X G0 (.If c x y pos) δ μ E := fun σ H B => by
  refine wS_of (ps_if pt_w pss_w pss_w) ?_
  refine h σ H B _ fun c H1 μ1 ⟨q1, q2⟩ m1 e1 => ?_
  cases c with
  | true => exact iteT (q1 rfl σ H1 (B.step m1 e1))
  | false => exact iteF (q2 rfl σ H1 (B.step m1 e1))
theorem s_aug {i : Nat} {x : Str} {op : Operator} {pos' : Pos} {d0 : D} (hd : δ[i]? = some (some d0)) (h : dE X G0 e δ μ fun d μ' => dOp X (inplaceOp op) d0 d μ' fun r μ2 => E.nx (δ.set i (some r)) μ2) (hN : X.N.Nodup := by assumption) (hi : X.N[i]? = some x := by rfl) (hx : Loc X.env.scope x := by first | exact Or.inl rfl | exact Or.inr rfl)
    (hf : X.fn x = true ∨ X.env.scope.names.lookup x = some .local := by first | exact .inl rfl | exact .inr rfl) : dS X G0 (.AugAssign (.Name x pos') op e pos) δ μ E := fun σ H B => by
  obtain ⟨v0, h0, r0⟩ := B.sl i d0 hd
  refine wS_of (ps_aug (i := i) (ti := wOp X (inplaceOp op)) hN hi hx pe_w (fun pins s σ H x y v u Q I rx ry q => op_w pins s σ H x y v u Q I rx ry q) hf) ⟨v0, h0, ?_⟩
  refine h.go B fun v H1 d μ1 q m1 e1 r1 => ?_
  refine q v0 v H1 (r0.mono e1) r1 m1 _ fun w H2 d2 μ2 q2 m2 e2 r2 => ?_
  exact ⟨_, μ2, q2, (B.step m2 (e1.trans e2)).set r2⟩
/-- x, y = e1, e2 -/
theorem s_par {i j : Nat} {x y : Str} {px py pt : Pos} {kt k2 pt2} (h : dA X G0 [a, b] δ μ fun ds μ' => ∃ d1 d2, ds = [d1, d2] ∧ E.nx ((δ.set i (some d1)).set j (some d2)) μ') (hN : X.N.Nodup := by assumption) (hc : X.calm = true := by rfl) (hi : X.N[i]? = some x := by rfl) (hj : X.N[j]? = some y := by rfl) (hij : i ≠ j := by decide)
    (hx : X.env.scope.names.lookup x = some .local := by rfl) (hy : X.env.scope.names.lookup y = some .local := by rfl)
    (hw : swappedStores [.Tuple [.Name x px, .Name y py] kt pt] (.Tuple [a, b] k2 pt2) X.env = pure (some [x, y]) := by rfl)
    (hs : swapsWithSole [.Tuple [.Name x px, .Name y py] kt pt] (.Tuple [a, b] k2 pt2) pos.line X.env = pure false := by rfl) :
    dS X G0 (.Assign [.Tuple [.Name x px, .Name y py] kt pt] (.Tuple [a, b] k2 pt2) pos) δ μ E := fun σ H B => by
  refine wS_of (ps_par hc hN hi hj hij hx hy pa_w hw hs) ?_
  refine h σ H B _ fun vs H1 ds μ1 ⟨d1, d2, ed, q⟩ m1 e1 r1 => ?_
  subst ed
  obtain ⟨v, w, rfl, r1, r2⟩ := rp2 r1
  exact ⟨v, w, rfl, _, μ1, q, ((B.step m1 e1).set r1).set r2⟩
/-- p[i] = e, p a list that may change -/
theorem s_item {o ix : Expr} {tpos : Pos} (h : dE X G0 e δ μ fun d μ1 => dE X G0 o δ μ1 fun dd μ2 => dE X G0 ix δ μ2 fun di μ3 => ∃ p k ds j, dd = .ref p ∧ di = .int k ∧ μ3 p = some (.lst ds) ∧ ixN ds.length k = some j ∧ E.nx δ (updM μ3 p (.lst (ds.set j d))))
    (ha : ∀ v, assign (.Subscript o ix tpos) X.env v = (do
      let ov ← holding [v] (eval o X.env)
      let iv ← holding [v, ov] (eval ix X.env)
      standAt tpos
      holding [v, ov, iv] (setItem ov iv v)
      release [v, ov, iv] []) := by intro _; rfl)
    (hs : swapsWithSole [.Subscript o ix tpos] e pos.line X.env = pure false := by rfl) (hw : swappedStores [.Subscript o ix tpos] e X.env = pure none := by rfl) (h1 : (assignEach [.Subscript o ix tpos] X.env).map (·.2) = [assign (.Subscript o ix tpos) X.env] := by rfl) :
    dS X G0 (.Assign [.Subscript o ix tpos] e pos) δ μ E := fun σ H B => by
  refine wS_of (ps_asg pe_w (pg_sub pe_w pe_w set_list ha) hs hw h1) ?_
  refine h.go B fun v H1 d μ1 q1 m1 e1 r1 => ?_
  refine q1.go (B.step m1 e1) fun vo H2 dd μ2 q2 m2 e2 r2 => ?_
  refine q2.go (B.step m2 (e1.trans e2)) fun vi H3 di μ3 q3 m3 e3 r3 => ?_
  obtain ⟨p, k, ds, j, rfl, rfl, hp, hj, q⟩ := q3
  cases rp_ref r2
  cases rp_int r3
  obtain ⟨vs, ha, ra⟩ := m3.lst hp
  have hi : Im (updM μ3 p (.lst (ds.set j d))) (upd H3 p (.lst (vs.set j v))) = Im μ3 H3 := im_upd (by rw [hp]; rfl)
  refine ⟨p, vs, k, j, rfl, rfl, ha, by rw [ra.length]; exact hj, δ, _, q, B.step (m3.upd hi (RpAll.set (r1.mono (e2.trans e3)) j ra)) ?_⟩
  rw [hi]
  exact e1.trans (e2.trans e3)
/-- xs.append(e) -/
theorem d_append {o : Expr} {apos : Pos} {Φ : DK} (h : dE X G0 o δ μ fun dd μ1 => ∃ p, dd = .ref p ∧ (∃ ds, μ1 p = some (.lst ds)) ∧ dE X G0 e δ μ1 fun d μ2 => ∃ ds, μ2 p = some (.lst ds) ∧ ds.length < sizeLine ∧ Φ .non (updM μ2 p (.lst (ds ++ [d]))))
    (hbase : attributeBase o "append" X.env (eval o X.env) = eval o X.env := by rfl)
    (hfew : ((backTo pos (starEach [e] X.env)).all (fun x => !x.1) && (backToKw pos (keywordEach [] X.env)).all (fun x => x.1.isSome)
      && decide ([e].length + ([] : List Keyword).length + (if ([] : List Keyword).isEmpty then 0 else 1) < 30)) = true := by rfl) (hline : (apos.endLine == pos.line) = true := by rfl) (hst : starEach [e] X.env = (false, eval e X.env) :: starEach [] X.env := by rfl) : dE X G0 (.Call (.Attribute o "append" apos) [e] [] pos) δ μ Φ := fun σ H B Q k => by
  refine wE_of (pe_bm PySem.F.plainAttrs_list PySem.F.slot_list_append PySem.F.type_list_append mt_append pe_w (pa_cons pe_w pa_nil hst) (hbase := hbase) (hfew := hfew) (hline := hline) (hs := hst)) ?_
  refine h σ H B _ fun vo H1 dd μ1 q1 m1 e1 r1 => ?_
  obtain ⟨p, rfl, ⟨ds, hp⟩, q1⟩ := q1
  cases rp_ref r1
  obtain ⟨vs, ha, ra⟩ := m1.lst hp
  refine ⟨.inl ⟨rfl, vs, SqL.of ha⟩, ?_⟩
  refine q1.go (B.step m1 e1) fun v H2 d μ2 q2 m2 e2 r2 => ?_
  obtain ⟨ds, hp, hl, q⟩ := q2
  obtain ⟨vs, ha, ra⟩ := m2.lst hp
  have hi : Im (updM μ2 p (.lst (ds ++ [d]))) (upd H2 p (.lst (vs ++ [v]))) = Im μ2 H2 := im_upd (by rw [hp]; rfl)
  refine ⟨p, vs, v, rfl, rfl, ha, by rw [ra.length]; exact hl, k _ _ _ _ q (m2.upd hi (ra.append (.cons r2 .nil))) ?_ .non⟩
  rw [hi]
  exact e1.trans e2
end
end DL

namespace DL
open PySem PySem.Spec PyProof.Rows L2

/-! ### loops -/
section
variable {X : Cx} {G0 G1 : Hp} {st : Stmt} {sts body : List Stmt} {δ : List (Option D)} {μ : Mu} {E E' : DEnds} {e a b c it tg : Expr} {pos : Pos} {σ : L2.St} {H : Hp}
/-- what stores an item into the target -/
def dG (X : Cx) (tg : Expr) (d : D) (δ : List (Option D)) (μ : Mu) (Ψ : List (Option D) → Prop) : Prop := ∀ (K : PySem.W.Frag), K = X.K → ∀ G0 σ H v, Bd X.K G0 δ μ σ H → Rp X.K (Im μ H) v d → ∀ Q : L2.St → Hp → Prop, (∀ δ' σ', Ψ δ' → Bd X.K G0 δ' μ σ' H → Q σ' H) →
  ∀ pins s u, Inv X pins σ H s → RelV v u → wpAny (model X.prog X.w) X.A (assign tg X.env u) (fun _ s' => ∃ σ' H', Inv X pins σ' H' s' ∧ Q σ' H') X.xe s
def gW (X : Cx) (tg : Expr) : TG := fun v σ H Q => ∀ pins s u, Inv X pins σ H s → RelV v u → wpAny (model X.prog X.w) X.A (assign tg X.env u) (fun _ s' => ∃ σ' H', Inv X pins σ' H' s' ∧ Q σ' H') X.xe s
theorem pg_w : PG X tg (gW X tg) := ⟨fun pins s σ H v u Q I r h => h pins s u I r⟩
theorem gW_of {t : TG} {v : V} {Q : L2.St → Hp → Prop} (h : PG X tg t) (q : t v σ H Q) : gW X tg v σ H Q := fun pins s u I r => h.run pins s σ H v u Q I r q
/-- the target's store, on data -/
def dTg (X : Cx) (tg : Expr) (d : D) (δ : List (Option D)) (Ψ : List (Option D) → Prop) : Prop := ∀ G0 μ σ H v, Bd X.K G0 δ μ σ H → Rp X.K (Im μ H) v d → ∀ Q : L2.St → Hp → Prop, (∀ δ' σ', Ψ δ' → Bd X.K G0 δ' μ σ' H → Q σ' H) → gW X tg v σ H Q
theorem g_name {i : Nat} {x : Str} {d : D} {Ψ : List (Option D) → Prop} (h : Ψ (δ.set i (some d))) (hN : X.N.Nodup := by assumption) (hi : X.N[i]? = some x := by rfl) (hx : Loc X.env.scope x := by first | exact Or.inl rfl | exact Or.inr rfl) (hf : X.fn x = true ∨ X.env.scope.names.lookup x = some .local := by first | exact .inl rfl | exact .inr rfl) : dTg X (.Name x pos) d δ Ψ := fun G0 μ σ H v B r Q k =>
  gW_of (pg_name (i := i) hN hi hx hf) (k _ _ h (B.set r))
/-- a, b = a tuple of two -/
theorem g_pair {i j : Nat} {x y : Str} {px py : Pos} {kk : Nat} {d1 d2 : D} {Ψ : List (Option D) → Prop} (h : Ψ ((δ.set i (some d1)).set j (some d2))) (hN : X.N.Nodup := by assumption) (hc : X.calm = true := by rfl) (hi : X.N[i]? = some x := by rfl) (hj : X.N[j]? = some y := by rfl) (hx : Loc X.env.scope x := by first | exact Or.inl rfl | exact Or.inr rfl) (hy : Loc X.env.scope y := by first | exact Or.inl rfl | exact Or.inr rfl)
    (hf : X.fn x = true ∨ X.env.scope.names.lookup x = some .local := by first | exact .inl rfl | exact .inr rfl) (hf2 : X.fn y = true ∨ X.env.scope.names.lookup y = some .local := by first | exact .inl rfl | exact .inr rfl)
    (hs1 : (assignEach [.Name x px, .Name y py] X.env).map (·.2) = assign (.Name x px) X.env :: (assignEach [.Name y py] X.env).map (·.2) := by rfl) (hs2 : (assignEach [.Name y py] X.env).map (·.2) = assign (.Name y py) X.env :: (assignEach [] X.env).map (·.2) := by rfl)
    (hn : (assignEach [.Name x px, .Name y py] X.env).length = 2 := by rfl) (hst : (assignEach [.Name x px, .Name y py] X.env).findIdx? (·.1) = none := by rfl) : dTg X (.Tuple [.Name x px, .Name y py] kk pos) (.tup [d1, d2]) δ Ψ := fun G0 μ σ H v B r Q k => by
  refine gW_of (pg_tup (n := 2) hc (pgs_cons (pg_name (i := i) hN hi hx hf) (pgs_cons (pg_name (i := j) hN hj hy hf2) pgs_nil hs2) hs1) hn hst) ?_
  obtain ⟨p, vs, rfl, ha, ra⟩ := rp_tup_at r
  obtain ⟨v1, v2, rfl, r1, r2⟩ := rp2 ra
  exact ⟨p, [v1, v2], rfl, SqT.of ha, rfl, v1, [v2], rfl, v2, [], rfl, rfl, k _ _ h ((B.set r1).set r2)⟩
/-- what a for walks: a list that stays -/
theorem s_forL {ds : List D} (h : dE X G0 it δ μ fun d μ1 => d = .lst ds ∧ ∃ Pv : Nat → List (Option D) → Mu → Prop, Pv 0 δ μ1 ∧
      (∀ (i : Nat) d δ' μ', ds[i]? = some d → Pv i δ' μ' → dTg X tg d δ' fun δ2 => ∀ G1, Sub G0 G1 → dSs X G1 body δ2 μ' { E with nx := Pv (i + 1), ct := Pv (i + 1), bk := E.nx }) ∧ ∀ δ' μ', Pv ds.length δ' μ' → E.nx δ' μ')
    (hp : PassesOwn (model X.prog X.w) X.A X.env X.xe := by assumption) (hc : X.calm = true := by rfl) (hs : ∀ x, foldedSetIterable it X.env x = pure x := by intro _; rfl) : dS X G0 (.For tg it body [] pos) δ μ E := fun σ H B => by
  refine wS_of (ps_for hp hc (pi_list pe_w) pg_w pss_w hs) ?_
  refine h.go B fun v H1 d μ1 ⟨ed, Pv, p0, turn, fin⟩ m1 e1 r1 => ?_
  subst ed
  obtain ⟨a, vs, rfl, hG, ra⟩ : ∃ a vs, v = .ref a ∧ Im μ1 H1 a = some (.lst vs) ∧ RpAll X.K (Im μ1 H1) vs ds := by
    cases r1 with
    | lst h r => exact ⟨_, _, rfl, h, r⟩
  have B1 := B.step m1 e1
  refine ⟨a, rfl, ⟨vs, SqL.of (im_all _ _ hG)⟩, for_list (xs := vs) (fun i σ' H' => ∃ δ' μ', Pv i δ' μ' ∧ Bd X.K (Im μ1 H1) δ' μ' σ' H') ⟨δ, μ1, p0, B1.rebase⟩ (fun i σ' H' _ ⟨δ', μ', _, B'⟩ => SqL.of (im_all _ _ (B'.base _ _ hG))) (fun i x σ' H' hx ⟨δ', μ', hP, B'⟩ => ?_) (fun σ' H' ⟨δ', μ', hP, B'⟩ => ?_)⟩
  · have hi : i < ds.length := by rw [← ra.length]; exact (List.getElem?_eq_some_iff.mp hx).1
    obtain ⟨w', hw, rw'⟩ := ra.get (List.getElem?_eq_getElem hi)
    rw [hw] at hx
    cases hx
    refine turn i _ δ' μ' (List.getElem?_eq_getElem hi) hP (Im μ1 H1) μ' σ' H' x B' (rw'.mono B'.base) _ fun δ2 σ2 q B2 => ?_
    refine wSs_mono ?_ (q (Im μ1 H1) B1.base σ2 H' B2)
    exact ⟨fun _ _ q => q, fun v H ⟨d, μ, q, m, e, r⟩ => ⟨d, μ, q, m, B1.base.trans e, r⟩, fun _ _ ⟨δ, μ, q, B⟩ => ⟨δ, μ, q, B.weaken B1.base⟩, fun _ _ q => q⟩
  · rw [ra.length] at hP
    exact ⟨δ', μ', fin δ' μ' hP, B'.weaken B1.base⟩
/-- a tuple -/
theorem s_forT {ds : List D} (h : dE X G0 it δ μ fun d μ1 => d = .tup ds ∧ ∃ Pv : Nat → List (Option D) → Mu → Prop, Pv 0 δ μ1 ∧
      (∀ (i : Nat) d δ' μ', ds[i]? = some d → Pv i δ' μ' → dTg X tg d δ' fun δ2 => ∀ G1, Sub G0 G1 → dSs X G1 body δ2 μ' { E with nx := Pv (i + 1), ct := Pv (i + 1), bk := E.nx }) ∧ ∀ δ' μ', Pv ds.length δ' μ' → E.nx δ' μ')
    (hp : PassesOwn (model X.prog X.w) X.A X.env X.xe := by assumption) (hc : X.calm = true := by rfl) (hs : ∀ x, foldedSetIterable it X.env x = pure x := by intro _; rfl) : dS X G0 (.For tg it body [] pos) δ μ E := fun σ H B => by
  refine wS_of (ps_for hp hc (pi_tup pe_w) pg_w pss_w hs) ?_
  refine h.go B fun v H1 d μ1 ⟨ed, Pv, p0, turn, fin⟩ m1 e1 r1 => ?_
  subst ed
  obtain ⟨a, vs, rfl, hG, ra⟩ : ∃ a vs, v = .ref a ∧ Im μ1 H1 a = some (.tup vs) ∧ RpAll X.K (Im μ1 H1) vs ds := by
    cases r1 with
    | tup h r => exact ⟨_, _, rfl, h, r⟩
  have B1 := B.step m1 e1
  refine ⟨a, rfl, ⟨vs, SqT.of (im_all _ _ hG)⟩, for_tup (xs := vs) (fun i σ' H' => ∃ δ' μ', Pv i δ' μ' ∧ Bd X.K (Im μ1 H1) δ' μ' σ' H') ⟨δ, μ1, p0, B1.rebase⟩ (fun i σ' H' _ ⟨δ', μ', _, B'⟩ => SqT.of (im_all _ _ (B'.base _ _ hG))) (fun i x σ' H' hx ⟨δ', μ', hP, B'⟩ => ?_) (fun σ' H' ⟨δ', μ', hP, B'⟩ => ?_)⟩
  · have hi : i < ds.length := by rw [← ra.length]; exact (List.getElem?_eq_some_iff.mp hx).1
    obtain ⟨w', hw, rw'⟩ := ra.get (List.getElem?_eq_getElem hi)
    rw [hw] at hx
    cases hx
    refine turn i _ δ' μ' (List.getElem?_eq_getElem hi) hP (Im μ1 H1) μ' σ' H' x B' (rw'.mono B'.base) _ fun δ2 σ2 q B2 => ?_
    refine wSs_mono ?_ (q (Im μ1 H1) B1.base σ2 H' B2)
    exact ⟨fun _ _ q => q, fun v H ⟨d, μ, q, m, e, r⟩ => ⟨d, μ, q, m, B1.base.trans e, r⟩, fun _ _ ⟨δ, μ, q, B⟩ => ⟨δ, μ, q, B.weaken B1.base⟩, fun _ _ q => q⟩
  · rw [ra.length] at hP
    exact ⟨δ', μ', fin δ' μ' hP, B'.weaken B1.base⟩
/-- for x in range(n) -/
theorem s_forR {a : Expr} {p : Pos} (h : dA X G0 [a] δ μ fun ds μ1 => ∃ n : Int, ds = [.int n] ∧ n < 2 ^ 62 ∧ -(2 ^ 62) ≤ n ∧ ∃ Pv : Nat → List (Option D) → Mu → Prop, Pv 0 δ μ1 ∧
      (∀ (i : Nat) δ' μ', i < n.toNat → Pv i δ' μ' → dTg X tg (.int i) δ' fun δ2 => ∀ G1, Sub G0 G1 → dSs X G1 body δ2 μ' { E with nx := Pv (i + 1), ct := Pv (i + 1), bk := E.nx }) ∧ ∀ δ' μ', Pv n.toNat δ' μ' → E.nx δ' μ')
    (hp : PassesOwn (model X.prog X.w) X.A X.env X.xe := by assumption) (hm : X.mg "range" = none := by assumption) (hc : X.calm = true := by rfl) (hg : Gl X "range" := by rfl) (hs : starEach [a] X.env = [(false, eval a X.env)] := by rfl) (hs2 : ∀ x, foldedSetIterable (.Call (.Name "range" p) [a] [] pos) X.env x = pure x := by intro _; rfl) {pos2 : Pos} :
    dS X G0 (.For tg (.Call (.Name "range" p) [a] [] pos) body [] pos2) δ μ E := fun σ H B => by
  refine wS_of (ps_for hp hc (pi_range1 hg hm pa_w hs) pg_w pss_w hs2) ?_
  refine h σ H B _ fun vs H1 ds μ1 ⟨n, ed, b1, b2, Pv, p0, turn, fin⟩ m1 e1 r1 => ?_
  subst ed
  obtain ⟨v, rfl, r2⟩ := rp1 r1
  cases rp_int r2
  have B1 := B.step m1 e1
  refine ⟨n, rfl, b2, b1, for_range (lo := 0) (n := n.toNat) (fun i σ' H' => ∃ δ' μ', Pv i δ' μ' ∧ Bd X.K (Im μ1 H1) δ' μ' σ' H') ⟨δ, μ1, p0, B1.rebase⟩ (fun i σ' H' hi ⟨δ', μ', hP, B'⟩ => ?_) (fun σ' H' ⟨δ', μ', hP, B'⟩ => ?_)⟩
  · have e0 : (0 : Int) + (i : Int) = (i : Int) := Int.zero_add _
    rw [e0]
    refine turn i δ' μ' hi hP (Im μ1 H1) μ' σ' H' _ B' (.int _) _ fun δ2 σ2 q B2 => ?_
    refine wSs_mono ?_ (q (Im μ1 H1) B1.base σ2 H' B2)
    exact ⟨fun _ _ q => q, fun v H ⟨d, μ, q, m, e, r⟩ => ⟨d, μ, q, m, B1.base.trans e, r⟩, fun _ _ ⟨δ, μ, q, B⟩ => ⟨δ, μ, q, B.weaken B1.base⟩, fun _ _ q => q⟩
  · exact ⟨δ', μ', fin δ' μ' hP, B'.weaken B1.base⟩
/-- while, by a word and a number that falls -/
theorem s_while (Pv : List (Option D) → Mu → Prop) (ms : List (Option D) → Mu → Nat) (h0 : Pv δ μ)
    (hs : ∀ δ' μ', Pv δ' μ' → dT X G0 c δ' μ' fun k μ2 => (k = true → dSs X G0 body δ' μ2 { E with nx := fun δ3 μ3 => Pv δ3 μ3 ∧ ms δ3 μ3 < ms δ' μ', ct := fun δ3 μ3 => Pv δ3 μ3 ∧ ms δ3 μ3 < ms δ' μ', bk := E.nx }) ∧ (k = false → E.nx δ' μ2))
    (hp : PassesOwn (model X.prog X.w) X.A X.env X.xe := by assumption) : dS X G0 (.While c body [] pos) δ μ E := fun σ H B => by
  refine wS_of (ps_while hp pt_w pss_w) ?_
  refine ⟨fun m σ' H' => ∃ δ' μ', m = ms δ' μ' ∧ Pv δ' μ' ∧ Bd X.K G0 δ' μ' σ' H', ⟨_, δ, μ, rfl, h0, B⟩, fun m σ' H' ⟨δ', μ', em, hP, B'⟩ => ?_⟩
  subst em
  refine hs δ' μ' hP σ' H' B' _ fun k H1 μ2 ⟨q1, q2⟩ m1 e1 => ?_
  have B2 := B'.step m1 e1
  cases k with
  | true =>
    rw [if_pos rfl]
    refine ⟨fun σ3 H3 => ∃ δ3 μ3, (Pv δ3 μ3 ∧ ms δ3 μ3 < ms δ' μ') ∧ Bd X.K G0 δ3 μ3 σ3 H3, fun σ3 H3 ⟨δ3, μ3, ⟨p3, l3⟩, B3⟩ => ⟨_, l3, δ3, μ3, rfl, p3, B3⟩, q1 rfl σ' H1 B2⟩
  | false =>
    rw [if_neg Bool.false_ne_true]
    exact ⟨δ', μ2, q2 rfl, B2⟩
end

/-! ### defs -/
/-- an error that leaves: its class, what its own dict holds -/
abbrev DX := Addr → List (Str × D) → Mu → Prop
/-- a def's promise: arguments, what may change, what is wanted of its value, of its error -/
abbrev DSp := List D → Mu → DK → DX → Prop
/-- an error as it stands: its class, its dict, what this holds -/
def ErrAt (K : PySem.W.Frag) (μ : Mu) (H : Hp) (C d : Addr) (gs : List (Str × D)) : Prop := ∀ a, Rp K (Im μ H) (.ref a) (.exc a C d gs)
/-- an error that carries nothing: no own dict -/
def bareG : List (Str × D) := [("", .non)]
def KX (K : PySem.W.Frag) (μ : Mu) (H : Hp) (Ψ : DX) (E : XK) : Prop :=
  (∀ (C d : Addr) H2 gs μ2, Ψ C gs μ2 → MuOk K μ2 H2 → Sub (Im μ H) (Im μ2 H2) → ErrAt K μ2 H2 C d gs → E (.ref C) (some d) H2) ∧
  ∀ (C : Addr) H2 μ2, Ψ C bareG μ2 → MuOk K μ2 H2 → Sub (Im μ H) (Im μ2 H2) → E (.ref C) none H2
def liftSp (K : PySem.W.Frag) (sp : DSp) : Sp := fun vs H Q E => ∃ ds μ Φ Ψ, RpAll K (Im μ H) vs ds ∧ MuOk K μ H ∧ sp ds μ Φ Ψ ∧ KP K μ H Φ Q ∧ KX K μ H Ψ E
abbrev NoX : DX := fun _ _ _ => False
/-- a def that stands, and may be called -/
structure Cal (P : Program) (w : World) (K : PySem.W.Frag) (mg : Str → Option Value) (base : Heap) (k : Nat) (x : Str) (sp : DSp) : Prop where
  ex : ∃ (f : Addr) (fd : FuncData) (ps : List Str), FnOk P w K mg base (L2N.CX P w) k f fd ps (liftSp K sp) ∧ mg x = some (.ref f) ∧ PySem.W.keepIn K (.ref f) = true ∧ Binds K fd ps []
theorem passN {X : Cx} : Passes (L2N.CX X.prog X.w) X E0 := fun _ _ _ _ _ _ _ h => by
  obtain ⟨_, _, _, _, _, _, _, _, _, _, _, _, z⟩ := h
  exact z.elim
/-- errors are taken: what Ψ says of one, at the slots as they stand, is what is wanted -/
def dTk (X : Cx) (G0 : Hp) (Ψ : List (Option D) → DX) : Prop := ∃ W, L2N.Takes X W ∧ (∀ (C d : Addr) δ σ H2 gs μ2, Ψ δ C gs μ2 → Bd X.K G0 δ μ2 σ H2 → ErrAt X.K μ2 H2 C d gs → W (.ref C) (some d) σ H2) ∧
  ∀ (C : Addr) δ σ H2 μ2, Ψ δ C bareG μ2 → Bd X.K G0 δ μ2 σ H2 → W (.ref C) none σ H2
theorem dTk.mono {X : Cx} {G0 G1 : Hp} {Ψ : List (Option D) → DX} (t : dTk X G0 Ψ) (e : Sub G0 G1) : dTk X G1 Ψ := by
  obtain ⟨W, tk, h, h0⟩ := t
  exact ⟨W, tk, fun C d δ σ H2 gs μ2 q B => h C d δ σ H2 gs μ2 q (B.weaken e), fun C δ σ H2 μ2 q B => h0 C δ σ H2 μ2 q (B.weaken e)⟩
section
variable {X : Cx} {G0 : Hp} {δ : List (Option D)} {μ : Mu} {Φ : DK} {pos : Pos} {e : Expr} {es : List Expr}
theorem noX {K : PySem.W.Frag} {μ : Mu} {H : Hp} {E : XK} : KX K μ H NoX E := ⟨fun _ _ _ _ _ h => h.elim, fun _ _ _ h => h.elim⟩
theorem d_call {j k : Nat} {x : Str} {sp : DSp} {p : Pos} (C : Cal X.prog X.w X.K X.mg X.base j x sp) (ha : dA X G0 (e :: es) δ μ fun xs μ1 => sp xs μ1 Φ NoX) (hr : Room k X.A := by assumption) (hj : j ≤ k := by decide) (hg : Gl X x := by rfl) (hdb : (x == ("__debug__" : Str)) = false := by decide)
    (he : starEach (e :: es) X.env = (false, eval e X.env) :: starEach es X.env := by rfl) (hpl : (backTo pos (starEach es X.env)).any (·.1) = false := by rfl) : dE X G0 (.Call (.Name x p) (e :: es) [] pos) δ μ Φ := fun σ H B Q kk => by
  obtain ⟨f, fd, ps, F, hm, hk, hb⟩ := C.ex
  refine wE_of (pe_call F (hr.mono hj) hg hm hk hb .nil passN pa_w hdb he hpl) ?_
  refine ha σ H B _ fun vs H1 xs μ1 q m1 e1 r1 => ?_
  rw [List.append_nil]
  exact ⟨xs, μ1, Φ, NoX, r1, m1, q, kk.after e1, noX⟩
/-- the same where an error is taken -/
theorem d_callX {j k : Nat} {x : Str} {sp : DSp} {p : Pos} {Ψ : List (Option D) → DX} (C : Cal X.prog X.w X.K X.mg X.base j x sp) (tk : dTk X G0 Ψ) (ha : dA X G0 (e :: es) δ μ fun xs μ1 => sp xs μ1 Φ (Ψ δ)) (hr : Room k X.A := by assumption) (hj : j ≤ k := by decide) (hg : Gl X x := by rfl) (hdb : (x == ("__debug__" : Str)) = false := by decide)
    (he : starEach (e :: es) X.env = (false, eval e X.env) :: starEach es X.env := by rfl) (hpl : (backTo pos (starEach es X.env)).any (·.1) = false := by rfl) : dE X G0 (.Call (.Name x p) (e :: es) [] pos) δ μ Φ := fun σ H B Q kk => by
  obtain ⟨f, fd, ps, F, hm, hk, hb⟩ := C.ex
  obtain ⟨W, tw, tq⟩ := tk
  refine wE_of (pe_callS F (hr.mono hj) hg hm hk hb (fun σ => L2N.passAt tw σ) pa_w hdb he hpl) ?_
  refine ha σ H B _ fun vs H1 xs μ1 q m1 e1 r1 => ?_
  exact ⟨xs, μ1, Φ, Ψ δ, r1, m1, q, kk.after e1, fun C d H2 gs μ2 q2 m2 e2 er => tq.1 C d δ σ H2 gs μ2 q2 (B.step m2 (e1.trans e2)) er, fun C H2 μ2 q2 m2 e2 => tq.2 C δ σ H2 μ2 q2 (B.step m2 (e1.trans e2))⟩
end
/-- the slots at a def's start -/
def dst (N : List Str) (ds : List D) : List (Option D) := ds.map some ++ List.replicate (N.length - ds.length) none
theorem rp_slots {K : PySem.W.Frag} {G : Hp} : ∀ {vs : List V} {ds : List D} {n : Nat} (i : Nat) (d : D), RpAll K G vs ds → (ds.map some ++ List.replicate n none)[i]? = some (some d) → ∃ v, (vs.map some ++ List.replicate n none)[i]? = some (some v) ∧ Rp K G v d
  | _, _, n, i, d, .nil, h => by
    simp [List.getElem?_replicate] at h
  | _, _, n, 0, d, .cons (v := v) r t, h => by
    have e : _ = d := Option.some.inj (Option.some.inj h)
    subst e
    exact ⟨v, rfl, r⟩
  | _, _, n, i + 1, d, .cons r t, h => rp_slots i d t h
theorem bd_start {K : PySem.W.Frag} {μ : Mu} {H : Hp} {N : List Str} {vs : List V} {ds : List D} (r : RpAll K (Im μ H) vs ds) (m : MuOk K μ H) : Bd K (Im μ H) (dst N ds) μ (L2.start N vs) H := by
  refine ⟨?_, fun i d h => ?_, m, Sub.refl _⟩
  · unfold dst L2.start
    simp [r.length]
  · unfold dst at h
    unfold L2.start
    rw [r.length]
    exact rp_slots i d r h
section
variable {P : Program} {w : World} {K : PySem.W.Frag} {mg : Str → Option Value} {base : Heap}
/-- the context of a def's body -/
abbrev cxD (P : Program) (w : World) (K : PySem.W.Frag) (mg : Str → Option Value) (base : Heap) (N : List Str) (qual : Str) (st : Stmt) (f : Addr) (cd : Value) (A : Around) (outer : List Env) (s : Shared) (H : Hp) (E : XK) : Cx :=
  cxOf (L2N.CX P w) P w K mg base N qual (defScope st) f cd A outer s H E
/-- a def's body, on data -/
structure Body (P : Program) (w : World) (K : PySem.W.Frag) (mg : Str → Option Value) (base : Heap) (k : Nat) (N : List Str) (qual : Str) (st : Stmt) (ds : List D) (μ : Mu) (Φ : DK) (Ψ : DX) : Prop where
  go : ∀ (f : Addr) (cd : Value) (A : Around) (outer : List Env) (s : Shared) (H : Hp) (E : XK) (G0 : Hp), Room k (cxD P w K mg base N qual st f cd A outer s H E).A → PassesOwn (model P w) (cxD P w K mg base N qual st f cd A outer s H E).A (cxD P w K mg base N qual st f cd A outer s H E).env (cxD P w K mg base N qual st f cd A outer s H E).xe →
    dTk (cxD P w K mg base N qual st f cd A outer s H E) G0 (fun _ => Ψ) → dSs (cxD P w K mg base N qual st f cd A outer s H E) G0 (defBody st) (dst N ds) μ { nx := fun _ μ' => Φ .non μ', rt := Φ }
theorem cal_fn {x qual : Str} {st : Stmt} {f : Addr} {N ps : List Str} {k : Nat} {sp : DSp} {oc : Value} {od : Option Addr} {dV kV doc pm : Value} {an : Option Addr} {cdv ct : Value} {osl : Array (Option Value)}
    (lk : K.lookup f = some ⟨oc, od, .func (PySem.W.fnOf x qual (defArgs st) (defBody st) (defScope st) dV kV doc pm an cdv ct), osl⟩) (hcd : PySem.W.codeIn K cdv qual = true) (S : FnScope N ps (defScope st)) (len : ∀ ds μ Φ Ψ, sp ds μ Φ Ψ → ds.length = ps.length)
    (h : ∀ ds μ Φ Ψ, sp ds μ Φ Ψ → Body P w K mg base k N qual st ds μ Φ Ψ) : FnOk P w K mg base (L2N.CX P w) (k + 1) f (PySem.W.fnOf x qual (defArgs st) (defBody st) (defScope st) dV kV doc pm an cdv ct) ps (liftSp K sp) := by
  refine fn_of lk hcd S (fun vs H Q E hs => ?_) (fun A outer s H vs Q E hr hs => ?_)
  · obtain ⟨ds, μ, Φ, Ψ, r, _, q, _⟩ := hs
    rw [r.length]
    exact len ds μ Φ Ψ q
  · obtain ⟨ds, μ, Φ, Ψ, r, m, q, kk, kx⟩ := hs
    refine ⟨_, pss_w, ?_⟩
    have B := bd_start (N := N) r m
    refine wSs_mono (D := dEn K (Im μ H) { nx := fun _ μ' => Φ .non μ', rt := Φ }) ⟨fun σ' H' ⟨δ', μ', q', B'⟩ => ?_, fun v H' ⟨d, μ', q', m', e', r'⟩ => kk v H' d μ' q' m' e' r', fun _ _ ⟨_, _, q', _⟩ => q'.elim, fun _ _ ⟨_, _, q', _⟩ => q'.elim⟩
      ((h ds μ Φ Ψ q).go f cdv A outer s H E (Im μ H) hr (passes_of rfl) ⟨_, L2N.takes_of rfl rfl rfl rfl, fun C d δ σ H2 gs μ2 q2 B2 er => kx.1 C d H2 gs μ2 q2 B2.mu B2.base er, fun C δ σ H2 μ2 q2 B2 => kx.2 C H2 μ2 q2 B2.mu B2.base⟩ _ H B)
    exact kk .non H' .non μ' q' B'.mu B'.base .non
theorem cal_of {x qual : Str} {st : Stmt} {f : Addr} {fd : FuncData} {N ps : List Str} {k : Nat} {sp : DSp} (F : Fun K x qual st f fd) (hm : mg x = some (.ref f)) (hb : Binds K fd ps []) (S : FnScope N ps (defScope st)) (len : ∀ ds μ Φ Ψ, sp ds μ Φ Ψ → ds.length = ps.length)
    (h : ∀ ds μ Φ Ψ, sp ds μ Φ Ψ → Body P w K mg base k N qual st ds μ Φ Ψ) : Cal P w K mg base (k + 1) x sp := by
  obtain ⟨oc, od, kV, doc, pm, an, cdv, ct, osl, rfl, lk, hcd⟩ := F.ex
  exact ⟨f, _, ps, cal_fn lk hcd S len h, hm, F.kp, hb⟩
end
end DL

namespace DL
open PySem PySem.Spec PyProof.Rows L2
/-- a def of the text, as it stands behind the top -/
structure DefT (K : PySem.W.Frag) (mg : Str → Option Value) (x : Str) (st : Stmt) (ps : List Str) : Prop where
  ex : ∃ (f : Addr) (fd : FuncData), Fun K x x st f fd ∧ mg x = some (.ref f) ∧ Binds K fd ps []
section
variable {P : Program} {w : World} {K : PySem.W.Frag} {mg : Str → Option Value} {base : Heap}
theorem DefT.cal {x : Str} {st : Stmt} {N ps : List Str} {k : Nat} {sp : DSp} (D : DefT K mg x st ps) (S : FnScope N ps (defScope st)) (len : ∀ ds μ Φ Ψ, sp ds μ Φ Ψ → ds.length = ps.length)
    (h : ∀ ds μ Φ Ψ, sp ds μ Φ Ψ → Body P w K mg base k N x st ds μ Φ Ψ) : Cal P w K mg base (k + 1) x sp := by
  obtain ⟨f, fd, F, hm, hb⟩ := D.ex
  exact cal_of F hm hb S len h
theorem Cal.mono {x : Str} {j k : Nat} {sp : DSp} (C : Cal P w K mg base j x sp) (h : j ≤ k) : Cal P w K mg base k x sp := by
  obtain ⟨f, fd, ps, F, r⟩ := C.ex
  exact ⟨f, fd, ps, F.mono h, r⟩
end
section
variable {X : Cx} {G0 : Hp} {e a b c : Expr} {es rest : List Expr} {δ : List (Option D)} {μ : Mu} {Φ : DK} {pos : Pos} {K : PySem.W.Frag} {H : Hp} {Q : VK} {Θ : Bool → Mu → Prop}
theorem d_v {i : Nat} {x : Str} {d : D} (hN : X.N[i]? = some x ∧ (x == ("__debug__" : Str)) = false ∧ (x == ("__classdict__" : Str)) = false) (hd : δ[i]? = some (some d)) (hv : Vis X.env.scope x) (q : Φ d μ) : dE X G0 (.Name x pos) δ μ Φ := d_var i hd q hN.1 hv hN.2.1 hN.2.2
theorem t_cmp {op : CmpOp} (h : dE X G0 a δ μ fun x μ1 => dE X G0 b δ μ1 fun y μ2 => dOp X (compareOp op) x y μ2 fun d μ3 => ∃ k, d = .bl k ∧ Θ k μ3) (hm : behindInMarks op b = false := by first | exact nomark _ | rfl) : dT X G0 (.Compare a [op] [b] pos) δ μ Θ := fun σ H B Q k => by
  refine wT_of (pt_cmpR op_w pe_w pe_w hm) ?_
  refine h σ H B _ fun v H1 x μ1 hx m1 e1 r1 => ?_
  refine hx σ H1 (B.step m1 e1) _ fun u H2 y μ2 hy m2 e2 r2 => ?_
  refine hy v u H2 (r1.mono e2) r2 m2 _ fun w H3 d μ3 ⟨c, ed, q⟩ m3 e3 r3 => ?_
  subst ed
  exact ⟨c, rp_bl r3, k c H3 μ3 q m3 ((e1.trans e2).trans e3)⟩
theorem tr_bl {k : Bool} {P : Bool → Prop} (q : P k) : ∃ c, Tr (.bl k) μ c ∧ P c := ⟨k, rfl, q⟩
theorem tr_int {i : Int} (q : Θ (i != 0) μ) : ∃ c, Tr (.int i) μ c ∧ Θ c μ := ⟨_, rfl, q⟩
theorem tr_lst {xs : List D} (q : Θ (!xs.isEmpty) μ) : ∃ c, Tr (.lst xs) μ c ∧ Θ c μ := ⟨_, rfl, q⟩
theorem bl_ex {k : Bool} {P : Bool → Prop} (q : P k) : ∃ c, D.bl k = .bl c ∧ P c := ⟨k, rfl, q⟩
/-- a test on what is known: each way with its fact -/
theorem way {p : Prop} [Decidable p] {A B : Prop} (h1 : p → A) (h2 : ¬ p → B) : (decide p = true → A) ∧ (decide p = false → B) := ⟨fun h => h1 (of_decide_eq_true h), fun h => h2 (of_decide_eq_false h)⟩
theorem wayN {p : Prop} [Decidable p] {A B : Prop} (h1 : ¬ p → A) (h2 : p → B) : ((!decide p) = true → A) ∧ ((!decide p) = false → B) :=
  ⟨fun h => h1 (fun z => by rw [decide_eq_true z] at h; cases h), fun h => h2 (by cases e : decide p with | true => exact of_decide_eq_true e | false => rw [e] at h; cases h)⟩
theorem way2 {k : Bool} {A B : Prop} (h1 : k = true → A) (h2 : k = false → B) : (k = true → A) ∧ (k = false → B) := ⟨h1, h2⟩
theorem wayT {A B : Prop} (h : A) : (true = true → A) ∧ (true = false → B) := ⟨fun _ => h, fun h => (nomatch h)⟩
theorem wayF {A B : Prop} (h : B) : (false = true → A) ∧ (false = false → B) := ⟨fun h => (nomatch h), fun _ => h⟩
theorem wayT' {A B : Prop} (h : A) : (true = false → B) ∧ (true = true → A) := ⟨fun h => (nomatch h), fun _ => h⟩
/-- names of built-in classes as values -/
theorem hu64 {k : Nat} (hr : Room k X.A) : X.A.units + 64 < cLine := hr.units
end
end DL

namespace DL
open PySem PySem.Spec PyProof.Rows L2
/-! ### isinstance -/
def tyD : D → Option String
  | .non => some "NoneType"
  | .bl _ => some "bool"
  | .int _ => some "int"
  | .str _ => some "str"
  | .lst _ => some "list"
  | .tup _ => some "tuple"
  | .dct _ => some "dict"
  | _ => none
section
variable {X : Cx} {G0 : Hp} {e a b c : Expr} {es rest : List Expr} {δ : List (Option D)} {μ : Mu} {Φ : DK} {pos : Pos} {K : PySem.W.Frag} {H : Hp} {Q : VK} {Θ : Bool → Mu → Prop}
theorem d_ty {x : Str} {n : String} (q : Φ (.ty n) μ) (hm : X.mg x = none := by assumption) (hv : bootBuiltins x = some (.type n) := by exact (by decide +kernel)) (hg : Gl X x := by rfl) (hn : x ≠ "__name__" := by decide) (hd : (x == ("__debug__" : Str)) = false := by decide) : dE X G0 (.Name x pos) δ μ Φ := fun σ H B Q k =>
  wE_of (pe_bltn (v := .ty n) hg hm hv rfl hn hd) (k.val B.mu q (.ty n))
theorem ty_rp {v : V} {d : D} {t : String} (r : Rp K (Im μ H) v d) (h : tyD d = some t) : TyX K H v (.type t) := by
  cases r with
  | non => cases h; exact .base .non
  | bl b => cases h; exact .base (.bl b)
  | int i => cases h; exact .base (.int i)
  | str x => cases h; exact .base (.str x)
  | ref p => cases h
  | ty n => cases h
  | exc h1 _ => cases h
  | exv h1 _ _ => cases h
  | exb h1 => cases h
  | scr h1 => cases h
  | lst h1 _ => cases h; exact .base (.lst (im_all _ _ h1))
  | tup h1 _ => cases h; exact .base (.tup (im_all _ _ h1))
  | dct h1 _ => cases h; exact .base (.dT (im_all _ _ h1))
theorem c_isi {d : D} {t n : String} {k : Bool} (q : Φ (.bl k) μ) (ht : tyD d = some t := by rfl) (hk : kitB t n = some k := by exact (by decide +kernel)) : dCall X (.builtin "isinstance") [d, .ty n] μ Φ := fun vs H r m Q kk => by
  obtain ⟨v, u, rfl, a, b⟩ := rp2 r
  cases b
  exact wCall_of call_isi ⟨v, .ty n, .type t, .type n, k, rfl, .ty n, ty_rp a ht, kit_ty hk, kk.val m q (.bl _)⟩
theorem c_isiM {p : Addr} {ds : List D} {n : String} {k : Bool} (hp : μ p = some (.lst ds)) (q : Φ (.bl k) μ) (hk : kitB "list" n = some k := by exact (by decide +kernel)) : dCall X (.builtin "isinstance") [.ref p, .ty n] μ Φ := fun vs H r m Q kk => by
  obtain ⟨v, u, rfl, a, b⟩ := rp2 r
  cases b
  cases rp_ref a
  obtain ⟨ws, ha, _⟩ := m.lst hp
  exact wCall_of call_isi ⟨_, .ty n, .type "list", .type n, k, rfl, .ty n, .base (.lst ha), kit_ty hk, kk.val m q (.bl _)⟩
end

/-! ### what may change, and stays from now on -/
section
variable {X : Cx} {G0 : Hp} {e a b c it elt : Expr} {es rest : List Expr} {δ : List (Option D)} {μ : Mu} {Φ : DK} {pos : Pos} {K : PySem.W.Frag} {H : Hp} {Q : VK}
theorem im_drop {μ : Mu} {p : Addr} {c : D} {H : Hp} : Sub (Im (updM μ p c) H) (Im μ H) := fun a o h => by
  unfold Im at h ⊢
  by_cases q : (μ a).isSome = true
  · have z : (updM μ p c a).isSome = true := by
      unfold updM
      split
      · rfl
      · exact q
    rw [if_pos z] at h
    cases h
  · rw [if_neg q]
    split at h
    · cases h
    · exact h
theorem MuOk.drop {p : Addr} {c : D} (m : MuOk K (updM μ p c) H) (h : μ p = none) : MuOk K μ H := fun q c' hq => by
  have ne : q ≠ p := fun e => by
    rw [e, h] at hq
    cases hq
  exact (m q c' ((updM_ne ne).trans hq)).mono im_drop
theorem frz_rp {p : Addr} {ds : List D} (m : MuOk K (updM μ p (.lst ds)) H) (h : μ p = none) : Rp K (Im μ H) (.ref p) (.lst ds) := by
  obtain ⟨vs, ha, ra⟩ := m.lst updM_same
  refine .lst (xs := vs) ?_ (ra.mono im_drop)
  unfold Im
  rw [h]
  exact ha
/-- a value, or a new list that stays from now on -/
def Fz (Φ : DK) : DK := fun d μ => Φ d μ ∨ ∃ p ds μ2, d = .ref p ∧ μ = updM μ2 p (.lst ds) ∧ μ2 p = none ∧ Φ (.lst ds) μ2
theorem KP.fz (k : KP K μ H Φ Q) : KP K μ H (Fz Φ) Q := fun v H2 d μ2 q m e r => by
  rcases q with q | ⟨p, ds, μ3, rfl, rfl, hp, q⟩
  · exact k v H2 d μ2 q m e r
  · cases rp_ref r
    exact k _ H2 _ μ3 q (m.drop hp) (e.trans im_drop) (frz_rp m hp)
theorem d_fz (h : dE X G0 e δ μ (Fz Φ)) : dE X G0 e δ μ Φ := fun σ H B Q k => h σ H B Q k.fz
theorem fz_ref {p : Addr} {ds : List D} (hp : μ p = none) (q : Φ (.lst ds) μ) : Fz Φ (.ref p) (updM μ p (.lst ds)) := .inr ⟨p, ds, μ, rfl, rfl, hp, q⟩
theorem updM_upd {μ : Mu} {p : Addr} {c d : D} : updM (updM μ p c) p d = updM μ p d := by
  funext a
  unfold updM
  split <;> rfl
theorem updM_comm {μ : Mu} {p q : Addr} {c d : D} (h : p ≠ q) : updM (updM μ p c) q d = updM (updM μ q d) p c := by
  funext a
  unfold updM
  by_cases e1 : a = p
  · subst e1
    rw [if_neg h, if_pos rfl, if_pos rfl]
  · rw [if_neg e1, if_neg e1]
/-! ### comprehensions -/
def wipeD (δ : List (Option D)) : List Nat → List (Option D)
  | [] => δ
  | v :: vs => (wipeD δ vs).set v none
theorem wipe_at {α : Type} {σ : List (Option α)} : ∀ {vs : List Nat} {f : List Nat → List (Option α)}, (f [] = σ) → (∀ v vs, f (v :: vs) = (f vs).set v none) → ∀ i, (f vs)[i]? = if i ∈ vs then (σ[i]?).map (fun _ => none) else σ[i]?
  | [], f, h0, _, i => by rw [h0, if_neg (List.not_mem_nil)]
  | v :: vs, f, h0, hs, i => by
    have ih := wipe_at (vs := vs) h0 hs i
    rw [hs, List.getElem?_set]
    by_cases e : v = i
    · subst e
      rw [if_pos rfl, if_pos (show v ∈ v :: vs from List.mem_cons_self)]
      have l : (f vs).length = σ.length := by
        clear ih
        induction vs with
        | nil => rw [h0]
        | cons u us ih2 => rw [hs, List.length_set, ih2]
      by_cases hl : v < (f vs).length
      · rw [if_pos hl, List.getElem?_eq_getElem (by rw [← l]; exact hl)]
        rfl
      · rw [if_neg hl, List.getElem?_eq_none (by rw [← l]; omega)]
        rfl
    · rw [if_neg e, ih]
      by_cases q : i ∈ vs
      · rw [if_pos q, if_pos (List.mem_cons_of_mem _ q)]
      · rw [if_neg q, if_neg (by intro z; rcases List.mem_cons.mp z with z | z; exact e z.symm; exact q z)]
theorem wipe_get (σ : L2.St) (vs : List Nat) (i : Nat) : (wipe σ vs)[i]? = if i ∈ vs then (σ[i]?).map (fun _ => none) else σ[i]? := wipe_at (f := wipe σ) rfl (fun _ _ => rfl) i
theorem wipeD_get (δ : List (Option D)) (vs : List Nat) (i : Nat) : (wipeD δ vs)[i]? = if i ∈ vs then (δ[i]?).map (fun _ => none) else δ[i]? := wipe_at (f := wipeD δ) rfl (fun _ _ => rfl) i
theorem wipeD_length (δ : List (Option D)) : ∀ vs : List Nat, (wipeD δ vs).length = δ.length
  | [] => rfl
  | v :: vs => by
    show ((wipeD δ vs).set v none).length = δ.length
    rw [List.length_set, wipeD_length δ vs]
theorem wipe_set {σ : L2.St} {vs : List Nat} {j : Nat} {o : Option V} (h : j ∈ vs) : wipe (σ.set j o) vs = wipe σ vs := by
  refine List.ext_getElem? fun i => ?_
  rw [wipe_get, wipe_get]
  by_cases q : i ∈ vs
  · rw [if_pos q, if_pos q, List.getElem?_set]
    by_cases e : j = i
    · subst e
      rw [if_pos rfl]
      by_cases l : j < σ.length
      · rw [if_pos l, List.getElem?_eq_getElem l]
        rfl
      · rw [if_neg l, List.getElem?_eq_none (by omega)]
    · rw [if_neg e]
  · rw [if_neg q, if_neg q, List.getElem?_set_ne]
    intro e
    exact q (e ▸ h)
theorem wipe_wipe {σ : L2.St} {vs : List Nat} : wipe (wipe σ vs) vs = wipe σ vs := by
  refine List.ext_getElem? fun i => ?_
  rw [wipe_get, wipe_get]
  by_cases q : i ∈ vs
  · rw [if_pos q, if_pos q]
    cases σ[i]? <;> rfl
  · rw [if_neg q, if_neg q]
theorem Bd.wipe {G0 : Hp} {σ : L2.St} (B : Bd K G0 δ μ σ H) (vs : List Nat) : Bd K G0 (wipeD δ vs) μ (L2.wipe σ vs) H := by
  refine ⟨by rw [wipe_length, wipeD_length, B.len], fun i d h => ?_, B.mu, B.base⟩
  rw [wipeD_get] at h
  by_cases q : i ∈ vs
  · rw [if_pos q] at h
    cases e : δ[i]? with
    | none => rw [e] at h; cases h
    | some o => rw [e] at h; cases h
  · rw [if_neg q] at h
    obtain ⟨v, h1, h2⟩ := B.sl i d h
    exact ⟨v, by rw [wipe_get, if_neg q]; exact h1, h2⟩
/-- a block's context -/
abbrev BX (X : Cx) (scope : Scope) (s : Shared) (H : Hp) (C : Addr) (cl : List (Str × Addr)) (fp : List Addr) : Cx := X.blk s H scope (compEnvC scope cl C X.env) fp
def wEs (X : Cx) (scope : Scope) (e : Expr) : TE := fun σ H Q => ∀ s H0 C cl fp, wE (BX X scope s H0 C cl fp) e σ H Q
def wTs (X : Cx) (scope : Scope) (e : Expr) : TT := fun σ H Q => ∀ s H0 C cl fp, wT (BX X scope s H0 C cl fp) e σ H Q
/-- an element, whatever the block -/
def dEs (X : Cx) (scope : Scope) (e : Expr) (δ : List (Option D)) (μ : Mu) (Φ : DK) : Prop := ∀ G1 s H0 C cl fp, dE (BX X scope s H0 C cl fp) G1 e δ μ Φ
def dTs (X : Cx) (scope : Scope) (e : Expr) (δ : List (Option D)) (μ : Mu) (Θ : Bool → Mu → Prop) : Prop := ∀ G1 s H0 C cl fp, dT (BX X scope s H0 C cl fp) G1 e δ μ Θ
/-- a turn of a comprehension without a test: the list so far stands at p -/
def LcTurn (X : Cx) (scope : Scope) (elt : Expr) (p : Addr) (acc : List D) (δ2 : List (Option D)) (μ : Mu) (N : List D → Mu → Prop) : Prop :=
  acc.length < sizeLine ∧ dEs X scope elt δ2 (updM μ p (.lst acc)) fun r μ3 => ∃ μ4, μ3 = updM μ4 p (.lst acc) ∧ μ4 p = none ∧ N (acc ++ [r]) μ4
theorem lc_turn {scope : Scope} {p : Addr} {acc : List D} {δ0 δ2 : List (Option D)} {σ0 σ2 : L2.St} {G1 : Hp} {Nx : List D → Mu → Prop} (B : Bd X.K G1 δ2 (updM μ p (.lst acc)) σ2 H) (B0 : Bd X.K G1 δ0 (updM μ p (.lst acc)) σ0 H) (h : LcTurn X scope elt p acc δ2 μ Nx) :
    tYes σ2 H fun b H3 => if b = true then wEs X scope elt σ2 H3 fun y H4 => ∃ ws, H4 p = some (.lst ws) ∧ ws.length < sizeLine ∧ ∃ acc' μ', Nx acc' μ' ∧ μ' p = none ∧ Bd X.K G1 δ0 (updM μ' p (.lst acc')) σ0 (upd H4 p (.lst (ws ++ [y]))) else ∃ acc' μ', Nx acc' μ' ∧ μ' p = none ∧ Bd X.K G1 δ0 (updM μ' p (.lst acc')) σ0 H3 := by
  unfold tYes
  dsimp only
  rw [if_pos rfl]
  intro s H0 C cl fp
  refine h.2 G1 s H0 C cl fp σ2 H B _ fun y H4 r μ3 q m4 e4 r4 => ?_
  obtain ⟨μ4, rfl, hp, hN⟩ := q
  obtain ⟨ws, ha, ra⟩ := m4.lst updM_same
  have hi : Im (updM μ4 p (.lst (acc ++ [r]))) (upd H4 p (.lst (ws ++ [y]))) = Im (updM μ4 p (.lst acc)) H4 := by
    rw [← updM_upd (c := .lst acc)]
    exact im_upd (by rw [updM_same]; rfl)
  have m5 : MuOk X.K (updM μ4 p (.lst (acc ++ [r]))) (upd H4 p (.lst (ws ++ [y]))) := by
    rw [← updM_upd (c := .lst acc)]
    refine m4.upd ?_ (ra.append (.cons r4 .nil))
    rw [updM_upd]
    exact hi
  exact ⟨ws, ha, by rw [ra.length]; exact h.1, _, _, hN, hp, B0.step m5 (by rw [hi]; exact e4)⟩
theorem lc_end {p : Addr} {acc : List D} {δ0 : List (Option D)} {σ0 : L2.St} {H' : Hp} {μ' : Mu} (k : KP X.K μ H Φ Q) (hp : μ' p = none) (q : Φ (.ref p) (updM μ' p (.lst acc))) (B : Bd X.K (Im μ H) δ0 (updM μ' p (.lst acc)) σ0 H') : Q (.ref p) H' :=
  k _ H' _ _ q B.mu B.base (.ref p)
/-- [e for x in a list] -/
theorem d_lcL {x : Str} {scope : Scope} {tp cp : Pos} {own : List (Str × Nat)} {vs : List Nat} (j : Nat)
    (h : dE X G0 it δ μ fun d μ1 => ∃ ds, d = .lst ds ∧ ∃ Pv : Nat → List D → Mu → Prop, Pv 0 [] μ1 ∧ (∀ (i : Nat) d acc μ2 p, ds[i]? = some d → Pv i acc μ2 → μ2 p = none → LcTurn X scope elt p acc ((wipeD δ vs).set j (some d)) μ2 (Pv (i + 1))) ∧ ∀ acc μ2 p, Pv ds.length acc μ2 → μ2 p = none → Φ (.ref p) (updM μ2 p (.lst acc)))
    (hb : blkC X.N X.env.scope scope own = true := by kernel_rfl) (hj : j ∈ vs := by decide) (hv : own.map (·.2) = vs := by rfl) (hN : X.N.Nodup := by assumption) (hc : X.calm = true := by rfl)
    (hi : X.N[j]? = some x := by rfl) (hx : ∀ s H C cl fp, Loc (BX X scope s H C cl fp).env.scope x := by first | exact fun _ _ _ _ _ => Or.inl rfl | exact fun _ _ _ _ _ => Or.inr rfl) (hf : ∀ s H C cl fp, (BX X scope s H C cl fp).fn x = true ∨ (BX X scope s H C cl fp).env.scope.names.lookup x = some .local := by first | exact fun _ _ _ _ _ => .inr rfl | exact fun _ _ _ _ _ => .inl rfl)
    (hs : ∀ x, foldedSetIterable it X.env x = pure x := by intro _; rfl) : dE X G0 (.ListComp elt [⟨.Name x tp, it, [], 0⟩] scope cp) δ μ Φ := fun σ H B Q k => by
  refine wE_of (pe_lc hc hN (pi_list pe_w) (blkOk_by hb) (fun s H C cl fp => pg_name (i := j) hN hi (hx s H C cl fp) (hf s H C cl fp)) (fun _ _ _ _ _ => pts_nil) (fun s H C cl fp => (⟨fun pins s' σ' H' Q' I q => q s H C cl fp pins s' I⟩ : PE _ _ (wEs X scope elt))) hs) ?_
  rw [hv]
  refine h σ H B _ fun v H1 d μ1 q m1 e1 r1 => ?_
  obtain ⟨ds, rfl, Pv, p0, turn, fin⟩ := q
  obtain ⟨a, ws, rfl, hG, ra⟩ : ∃ a ws, v = .ref a ∧ Im μ1 H1 a = some (.lst ws) ∧ RpAll X.K (Im μ1 H1) ws ds := by
    cases r1 with
    | lst h r => exact ⟨_, _, rfl, h, r⟩
  have B1 := (B.step m1 e1).wipe vs
  refine ⟨a, rfl, ⟨ws, SqL.of (im_all _ _ hG)⟩, fun p hp => ?_⟩
  have hi0 : Im (updM μ1 p (.lst [])) (upd H1 p (.lst [])) = Im μ1 H1 := im_new hp
  have B2 : Bd X.K (Im μ1 H1) (wipeD δ vs) (updM μ1 p (.lst [])) (L2.wipe σ vs) (upd H1 p (.lst [])) := B1.rebase.step (m1.upd hi0 .nil) (by rw [hi0]; exact Sub.refl _)
  refine lc_list (xs := ws) (fun i H' => ∃ acc μ2, Pv i acc μ2 ∧ μ2 p = none ∧ Bd X.K (Im μ1 H1) (wipeD δ vs) (updM μ2 p (.lst acc)) (L2.wipe σ vs) H') ⟨[], μ1, p0, mu_free m1 hp, B2⟩ (fun i H' _ ⟨acc, μ2, _, _, B'⟩ => SqL.of (im_all _ _ (B'.base _ _ hG))) (fun i y H' hy ⟨acc, μ2, hP, hp2, B'⟩ => ?_) (fun H' ⟨acc, μ2, hP, hp2, B'⟩ => ?_)
  · have hl : i < ds.length := by rw [← ra.length]; exact (List.getElem?_eq_some_iff.mp hy).1
    obtain ⟨w', hw, rw'⟩ := ra.get (List.getElem?_eq_getElem hl)
    rw [hw] at hy
    cases hy
    refine ⟨by rw [wipe_set hj, wipe_wipe], ?_⟩
    exact lc_turn (B'.set (rw'.mono B'.base)) B' (turn i _ acc μ2 p (List.getElem?_eq_getElem hl) hP hp2)
  · rw [ra.length] at hP
    exact lc_end (k.after e1) hp2 (fin acc μ2 p hP hp2) B'
/-- [e for x in a tuple] -/
theorem d_lcT {x : Str} {scope : Scope} {tp cp : Pos} {own : List (Str × Nat)} {vs : List Nat} (j : Nat)
    (h : dE X G0 it δ μ fun d μ1 => ∃ ds, d = .tup ds ∧ ∃ Pv : Nat → List D → Mu → Prop, Pv 0 [] μ1 ∧ (∀ (i : Nat) d acc μ2 p, ds[i]? = some d → Pv i acc μ2 → μ2 p = none → LcTurn X scope elt p acc ((wipeD δ vs).set j (some d)) μ2 (Pv (i + 1))) ∧ ∀ acc μ2 p, Pv ds.length acc μ2 → μ2 p = none → Φ (.ref p) (updM μ2 p (.lst acc)))
    (hb : blkC X.N X.env.scope scope own = true := by kernel_rfl) (hj : j ∈ vs := by decide) (hv : own.map (·.2) = vs := by rfl) (hN : X.N.Nodup := by assumption) (hc : X.calm = true := by rfl)
    (hi : X.N[j]? = some x := by rfl) (hx : ∀ s H C cl fp, Loc (BX X scope s H C cl fp).env.scope x := by first | exact fun _ _ _ _ _ => Or.inl rfl | exact fun _ _ _ _ _ => Or.inr rfl) (hf : ∀ s H C cl fp, (BX X scope s H C cl fp).fn x = true ∨ (BX X scope s H C cl fp).env.scope.names.lookup x = some .local := by first | exact fun _ _ _ _ _ => .inr rfl | exact fun _ _ _ _ _ => .inl rfl)
    (hs : ∀ x, foldedSetIterable it X.env x = pure x := by intro _; rfl) : dE X G0 (.ListComp elt [⟨.Name x tp, it, [], 0⟩] scope cp) δ μ Φ := fun σ H B Q k => by
  refine wE_of (pe_lc hc hN (pi_tup pe_w) (blkOk_by hb) (fun s H C cl fp => pg_name (i := j) hN hi (hx s H C cl fp) (hf s H C cl fp)) (fun _ _ _ _ _ => pts_nil) (fun s H C cl fp => (⟨fun pins s' σ' H' Q' I q => q s H C cl fp pins s' I⟩ : PE _ _ (wEs X scope elt))) hs) ?_
  rw [hv]
  refine h σ H B _ fun v H1 d μ1 q m1 e1 r1 => ?_
  obtain ⟨ds, rfl, Pv, p0, turn, fin⟩ := q
  obtain ⟨a, ws, rfl, hG, ra⟩ : ∃ a ws, v = .ref a ∧ Im μ1 H1 a = some (.tup ws) ∧ RpAll X.K (Im μ1 H1) ws ds := by
    cases r1 with
    | tup h r => exact ⟨_, _, rfl, h, r⟩
  have B1 := (B.step m1 e1).wipe vs
  refine ⟨a, rfl, ⟨ws, SqT.of (im_all _ _ hG)⟩, fun p hp => ?_⟩
  have hi0 : Im (updM μ1 p (.lst [])) (upd H1 p (.lst [])) = Im μ1 H1 := im_new hp
  have B2 : Bd X.K (Im μ1 H1) (wipeD δ vs) (updM μ1 p (.lst [])) (L2.wipe σ vs) (upd H1 p (.lst [])) := B1.rebase.step (m1.upd hi0 .nil) (by rw [hi0]; exact Sub.refl _)
  refine lc_tup (xs := ws) (fun i H' => ∃ acc μ2, Pv i acc μ2 ∧ μ2 p = none ∧ Bd X.K (Im μ1 H1) (wipeD δ vs) (updM μ2 p (.lst acc)) (L2.wipe σ vs) H') ⟨[], μ1, p0, mu_free m1 hp, B2⟩ (fun i H' _ ⟨acc, μ2, _, _, B'⟩ => SqT.of (im_all _ _ (B'.base _ _ hG))) (fun i y H' hy ⟨acc, μ2, hP, hp2, B'⟩ => ?_) (fun H' ⟨acc, μ2, hP, hp2, B'⟩ => ?_)
  · have hl : i < ds.length := by rw [← ra.length]; exact (List.getElem?_eq_some_iff.mp hy).1
    obtain ⟨w', hw, rw'⟩ := ra.get (List.getElem?_eq_getElem hl)
    rw [hw] at hy
    cases hy
    refine ⟨by rw [wipe_set hj, wipe_wipe], ?_⟩
    exact lc_turn (B'.set (rw'.mono B'.base)) B' (turn i _ acc μ2 p (List.getElem?_eq_getElem hl) hP hp2)
  · rw [ra.length] at hP
    exact lc_end (k.after e1) hp2 (fin acc μ2 p hP hp2) B'
/-- [e for x in range(n)] -/
theorem d_lcR {x : Str} {scope : Scope} {rp ip tp cp : Pos} {own : List (Str × Nat)} {vs : List Nat} (j : Nat)
    (h : dA X G0 [a] δ μ fun ns μ1 => ∃ n : Int, ns = [.int n] ∧ n < 2 ^ 62 ∧ -(2 ^ 62) ≤ n ∧ ∃ Pv : Nat → List D → Mu → Prop, Pv 0 [] μ1 ∧ (∀ (i : Nat) acc μ2 p, i < n.toNat → Pv i acc μ2 → μ2 p = none → LcTurn X scope elt p acc ((wipeD δ vs).set j (some (.int i))) μ2 (Pv (i + 1))) ∧ ∀ acc μ2 p, Pv n.toNat acc μ2 → μ2 p = none → Φ (.ref p) (updM μ2 p (.lst acc)))
    (hb : blkC X.N X.env.scope scope own = true := by kernel_rfl) (hj : j ∈ vs := by decide) (hv : own.map (·.2) = vs := by rfl) (hN : X.N.Nodup := by assumption) (hc : X.calm = true := by rfl)
    (hi : X.N[j]? = some x := by rfl) (hx : ∀ s H C cl fp, Loc (BX X scope s H C cl fp).env.scope x := by first | exact fun _ _ _ _ _ => Or.inl rfl | exact fun _ _ _ _ _ => Or.inr rfl) (hf : ∀ s H C cl fp, (BX X scope s H C cl fp).fn x = true ∨ (BX X scope s H C cl fp).env.scope.names.lookup x = some .local := by first | exact fun _ _ _ _ _ => .inr rfl | exact fun _ _ _ _ _ => .inl rfl)
    (hm : X.mg "range" = none := by assumption) (hg : Gl X "range" := by rfl) (hst : starEach [a] X.env = [(false, eval a X.env)] := by rfl)
    (hs : ∀ x, foldedSetIterable (.Call (.Name "range" rp) [a] [] ip) X.env x = pure x := by intro _; rfl) : dE X G0 (.ListComp elt [⟨.Name x tp, .Call (.Name "range" rp) [a] [] ip, [], 0⟩] scope cp) δ μ Φ := fun σ H B Q k => by
  refine wE_of (pe_lc hc hN (pi_range1 hg hm pa_w hst) (blkOk_by hb) (fun s H C cl fp => pg_name (i := j) hN hi (hx s H C cl fp) (hf s H C cl fp)) (fun _ _ _ _ _ => pts_nil) (fun s H C cl fp => (⟨fun pins s' σ' H' Q' I q => q s H C cl fp pins s' I⟩ : PE _ _ (wEs X scope elt))) hs) ?_
  rw [hv]
  refine h σ H B _ fun vs' H1 ds μ1 q m1 e1 r1 => ?_
  obtain ⟨n, rfl, b1, b2, Pv, p0, turn, fin⟩ := q
  obtain ⟨v, rfl, r2⟩ := rp1 r1
  cases rp_int r2
  have B1 := (B.step m1 e1).wipe vs
  refine ⟨n, rfl, b2, b1, fun p hp => ?_⟩
  have hi0 : Im (updM μ1 p (.lst [])) (upd H1 p (.lst [])) = Im μ1 H1 := im_new hp
  have B2 : Bd X.K (Im μ1 H1) (wipeD δ vs) (updM μ1 p (.lst [])) (L2.wipe σ vs) (upd H1 p (.lst [])) := B1.rebase.step (m1.upd hi0 .nil) (by rw [hi0]; exact Sub.refl _)
  refine lc_range (lo := 0) (n := n.toNat) (fun i H' => ∃ acc μ2, Pv i acc μ2 ∧ μ2 p = none ∧ Bd X.K (Im μ1 H1) (wipeD δ vs) (updM μ2 p (.lst acc)) (L2.wipe σ vs) H') ⟨[], μ1, p0, mu_free m1 hp, B2⟩ (fun i H' hl ⟨acc, μ2, hP, hp2, B'⟩ => ?_) (fun H' ⟨acc, μ2, hP, hp2, B'⟩ => ?_)
  · refine ⟨by rw [wipe_set hj, wipe_wipe], ?_⟩
    have e0 : (0 : Int) + (i : Int) = (i : Int) := Int.zero_add _
    rw [e0]
    exact lc_turn (B'.set (.int _)) B' (turn i acc μ2 p hl hP hp2)
  · exact lc_end (k.after e1) hp2 (fin acc μ2 p hP hp2) B'
end

/-! ### built-ins by name -/
section
variable {X : Cx} {G0 : Hp} {e : Expr} {es : List Expr} {δ : List (Option D)} {μ : Mu} {Φ : DK} {pos p : Pos}
theorem bb_abs : bootBuiltins "abs" = some (.builtin "abs") := by decide +kernel
theorem db_abs (ha : dA X G0 (e :: es) δ μ fun xs μ1 => dCall X (.builtin "abs") xs μ1 Φ) (hm : X.mg "abs" = none := by assumption) (hg : Gl X "abs" := by rfl) (he : starEach (e :: es) X.env = (false, eval e X.env) :: starEach es X.env := by rfl) (hpl : (backTo pos (starEach es X.env)).any (·.1) = false := by rfl) :
    dE X G0 (.Call (.Name "abs" p) (e :: es) [] pos) δ μ Φ := d_callB ha hm bb_abs hg (by decide) (by decide) he hpl
theorem bb_len : bootBuiltins "len" = some (.builtin "len") := by decide +kernel
theorem db_len (ha : dA X G0 (e :: es) δ μ fun xs μ1 => dCall X (.builtin "len") xs μ1 Φ) (hm : X.mg "len" = none := by assumption) (hg : Gl X "len" := by rfl) (he : starEach (e :: es) X.env = (false, eval e X.env) :: starEach es X.env := by rfl) (hpl : (backTo pos (starEach es X.env)).any (·.1) = false := by rfl) :
    dE X G0 (.Call (.Name "len" p) (e :: es) [] pos) δ μ Φ := d_callB ha hm bb_len hg (by decide) (by decide) he hpl
theorem bb_max : bootBuiltins "max" = some (.builtin "max") := by decide +kernel
theorem db_max (ha : dA X G0 (e :: es) δ μ fun xs μ1 => dCall X (.builtin "max") xs μ1 Φ) (hm : X.mg "max" = none := by assumption) (hg : Gl X "max" := by rfl) (he : starEach (e :: es) X.env = (false, eval e X.env) :: starEach es X.env := by rfl) (hpl : (backTo pos (starEach es X.env)).any (·.1) = false := by rfl) :
    dE X G0 (.Call (.Name "max" p) (e :: es) [] pos) δ μ Φ := d_callB ha hm bb_max hg (by decide) (by decide) he hpl
theorem bb_isinstance : bootBuiltins "isinstance" = some (.builtin "isinstance") := by decide +kernel
theorem db_isinstance (ha : dA X G0 (e :: es) δ μ fun xs μ1 => dCall X (.builtin "isinstance") xs μ1 Φ) (hm : X.mg "isinstance" = none := by assumption) (hg : Gl X "isinstance" := by rfl) (he : starEach (e :: es) X.env = (false, eval e X.env) :: starEach es X.env := by rfl) (hpl : (backTo pos (starEach es X.env)).any (·.1) = false := by rfl) :
    dE X G0 (.Call (.Name "isinstance" p) (e :: es) [] pos) δ μ Φ := d_callB ha hm bb_isinstance hg (by decide) (by decide) he hpl
theorem bb_int : bootBuiltins "int" = some (.type "int") := by decide +kernel
theorem db_int (ha : dA X G0 (e :: es) δ μ fun xs μ1 => dCall X (.type "int") xs μ1 Φ) (hm : X.mg "int" = none := by assumption) (hg : Gl X "int" := by rfl) (he : starEach (e :: es) X.env = (false, eval e X.env) :: starEach es X.env := by rfl) (hpl : (backTo pos (starEach es X.env)).any (·.1) = false := by rfl) :
    dE X G0 (.Call (.Name "int" p) (e :: es) [] pos) δ μ Φ := d_callTy ha hm bb_int hg (by decide) (by decide) he hpl
theorem dt_int (q : Φ (.ty "int") μ) (hm : X.mg "int" = none := by assumption) (hg : Gl X "int" := by rfl) : dE X G0 (.Name "int" pos) δ μ Φ := d_ty q hm bb_int hg (by decide) (by decide)
theorem bb_bool : bootBuiltins "bool" = some (.type "bool") := by decide +kernel
theorem db_bool (ha : dA X G0 (e :: es) δ μ fun xs μ1 => dCall X (.type "bool") xs μ1 Φ) (hm : X.mg "bool" = none := by assumption) (hg : Gl X "bool" := by rfl) (he : starEach (e :: es) X.env = (false, eval e X.env) :: starEach es X.env := by rfl) (hpl : (backTo pos (starEach es X.env)).any (·.1) = false := by rfl) :
    dE X G0 (.Call (.Name "bool" p) (e :: es) [] pos) δ μ Φ := d_callTy ha hm bb_bool hg (by decide) (by decide) he hpl
theorem dt_bool (q : Φ (.ty "bool") μ) (hm : X.mg "bool" = none := by assumption) (hg : Gl X "bool" := by rfl) : dE X G0 (.Name "bool" pos) δ μ Φ := d_ty q hm bb_bool hg (by decide) (by decide)
theorem bb_list : bootBuiltins "list" = some (.type "list") := by decide +kernel
theorem db_list (ha : dA X G0 (e :: es) δ μ fun xs μ1 => dCall X (.type "list") xs μ1 Φ) (hm : X.mg "list" = none := by assumption) (hg : Gl X "list" := by rfl) (he : starEach (e :: es) X.env = (false, eval e X.env) :: starEach es X.env := by rfl) (hpl : (backTo pos (starEach es X.env)).any (·.1) = false := by rfl) :
    dE X G0 (.Call (.Name "list" p) (e :: es) [] pos) δ μ Φ := d_callTy ha hm bb_list hg (by decide) (by decide) he hpl
theorem dt_list (q : Φ (.ty "list") μ) (hm : X.mg "list" = none := by assumption) (hg : Gl X "list" := by rfl) : dE X G0 (.Name "list" pos) δ μ Φ := d_ty q hm bb_list hg (by decide) (by decide)
theorem bb_tuple : bootBuiltins "tuple" = some (.type "tuple") := by decide +kernel
theorem db_tuple (ha : dA X G0 (e :: es) δ μ fun xs μ1 => dCall X (.type "tuple") xs μ1 Φ) (hm : X.mg "tuple" = none := by assumption) (hg : Gl X "tuple" := by rfl) (he : starEach (e :: es) X.env = (false, eval e X.env) :: starEach es X.env := by rfl) (hpl : (backTo pos (starEach es X.env)).any (·.1) = false := by rfl) :
    dE X G0 (.Call (.Name "tuple" p) (e :: es) [] pos) δ μ Φ := d_callTy ha hm bb_tuple hg (by decide) (by decide) he hpl
theorem dt_tuple (q : Φ (.ty "tuple") μ) (hm : X.mg "tuple" = none := by assumption) (hg : Gl X "tuple" := by rfl) : dE X G0 (.Name "tuple" pos) δ μ Φ := d_ty q hm bb_tuple hg (by decide) (by decide)
end
end DL

namespace DL
open PySem PySem.Spec PyProof.Rows L2
/-! ### errors of the text's own classes that carry one thing -/
/-- what __init__ does: the thing goes to the error's own dict -/
def spInit (K : PySem.W.Frag) (C : Addr) (f : Str) : Sp := fun vs H Q _ => ∃ (a : Addr) (v : V), vs = [.ref a, v] ∧ H a = some (exo a C none) ∧
  ∀ dx, H dx = none → dx ≠ a → Q .non (upd (upd H dx (exd dx [(f, v)])) a (exo a C (some dx)))
structure ExcT (P : Program) (w : World) (K : PySem.W.Frag) (mg : Str → Option Value) (base : Heap) (x f : Str) (C : Addr) : Prop where
  gC : mg x = some (.ref C)
  oex : OexC K C
  noF : PySem.W.findIn K (.ref C) f = some none
  xf : XfC K C
  exm : PySem.W.exmOne K (.ref C) (.ref C) = some true
  init : ∃ (fI : Addr) (fd : FuncData), PySem.W.findIn K (.ref C) "__init__" = some (some (.ref fI)) ∧ PySem.W.typeIn K (.ref fI) = some (.type "function") ∧
    FnOk P w K mg base (L2N.CX P w) 1 fI fd ["self", f] (spInit K C f) ∧ Binds K fd ["self", f] []
section
variable {X : Cx} {CX : CXT} {x : Str} {e : Expr} {es : List Expr} {ta : TA} {p pos : Pos} {C fI : Addr} {k : Nat} {fd : FuncData} {ps : List Str} {sp : Sp}
/-- the making of such an error, where nothing is handled: its context is None -/
theorem made_err (T : OexC X.K C) (jC : PySem.W.findIn X.K (.ref C) "__init__" = some (some (.ref fI))) (jI : PySem.W.typeIn X.K (.ref fI) = some (.type "function"))
    (F1 : FnOk X.prog X.w X.K X.mg X.base CX k fI fd ps sp) (hr : Room (k + 1) X.A) (hb : Binds X.K fd ps []) (hx : Passes CX X (fun _ _ _ => False)) (hg : Gl X x) (hm : X.mg x = some (.ref C)) (ha : PA X (e :: es) ta)
    (hdb : (x == ("__debug__" : Str)) = false) (he : starEach (e :: es) X.env = (false, eval e X.env) :: starEach es X.env) (hpl : (backTo pos (starEach es X.env)).any (·.1) = false) :
    L2N.PMk X (.Call (.Name x p) (e :: es) [] pos) (tMkO C sp [] ta) := by
  intro pins st0 σ0 Ha Q0 Ia hta
  obtain ⟨c1, c2, c3, c4, bmr, c6, c7, c8, c9, c10, c11, c12, c13, c14, c15, hcls, hbm⟩ := T.cls
  refine wpAny_Call_Name_kw (ld_glob Ia hg hm ?_ hdb)
  refine PySem.W.callWith_K (h₀ := X.base) Ia.ok.mod.kin T.kC (thn (ha.run pos pins st0 σ0 Ha _ Ia hta) fun us st1 ⟨vs, Hb, Ib, rvs, hz, qb⟩ => ⟨Ib.kIn, ?_⟩) he hpl
  obtain ⟨hp, gg, dw, tk, oo⟩ := st1
  have kept : ∀ b o, hp.get? b = some o → ((hp.push (PySem.W.kdv_tup us)).push (PySem.HandSPX.excO C hp.objs.size)).get? b = some o := fun b o z => Heap.get?_push_of_some _ (Heap.get?_push_of_some _ z)
  have here : ((hp.push (PySem.W.kdv_tup us)).push (PySem.HandSPX.excO C hp.objs.size)).get? (hp.objs.size + 1) = some (PySem.HandSPX.excO C hp.objs.size) := by heap_get
  have free1 : Hb (hp.objs.size + 1) = none := Ib.hok.fresh (Nat.le_succ _)
  have prom := qb (hp.objs.size + 1) free1
  rw [List.append_nil] at prom
  have Ic : Inv X pins σ0 (upd Hb (hp.objs.size + 1) (exo (hp.objs.size + 1) C none)) ⟨(hp.push (PySem.W.kdv_tup us)).push (PySem.HandSPX.excO C hp.objs.size), gg, dw, tk, oo⟩ :=
    Ib.laid (t' := tk) kept (Nat.le_succ _) (exo_ok here)
  have rel : Vals (V.ref (hp.objs.size + 1) :: vs) (Value.ref (hp.objs.size + 1) :: us) := .cons rfl rvs
  have hlen : (Value.ref (hp.objs.size + 1) :: us).length = ps.length := by
    have z := rel.length
    rw [F1.len _ _ _ _ prom] at z
    exact z.symm
  have hsz : us.length ≤ sizeLine := by
    rw [← Paired.length rvs, sizeLine_eq]
    omega
  have bnd := hb _ (Value.ref (hp.objs.size + 1) :: us) Ic.kIn (by rw [List.append_nil]; exact hlen)
  rw [List.append_nil] at bnd
  refine wpAny_call (PySem.HandSPX.call_own F.excBase_ValueError (fun Y => PySem.HandSPX.refsVE_contains Y bmr hbm) (Ib.kIn _ _ hcls) (PySem.W.looks_findIn Ib.kIn jC) (fun self => PySem.W.bind_fn Ib.kIn self jI) hsz
    (codeAny_mono (F1.run _ X.stack _ _ ⟨Value.ref (hp.objs.size + 1) :: us, []⟩ _ _ _ (fun _ _ _ => False) (hr.make C us []) (Ic.env0.make C us []) bnd rel prom) fun r st2 back => ?_))
  cases r with
  | error er => exact hx pins σ0 _ _ er st2 Ic back
  | ok fl =>
    cases fl with
    | ret u =>
      obtain ⟨v, Hc, os2, bare2, un2, hok2, rv, ev, d, fs, ea, ed, hd1, q2⟩ := back
      subst ev
      obtain ⟨h2, g2, d2, t2, os'⟩ := st2
      obtain ⟨t0, G, J, kG, ge, hoe, na⟩ := mk_end0 (d2 := d2) (t2 := t2) Ib (Nat.le_succ _) kept un2 hok2 os2 bare2 ea ed hd1
      exact ⟨rv, hp.objs.size + 1, _, _, ⟨G, g2, d2, t2, os'⟩, _, .ref C, some d, rfl, J, kG, ge, hoe, ⟨rfl, rfl, fun w hw => by cases hw; rfl⟩, rfl, rfl, na, rfl, bare2, raises_own T.exC T.tyC, q2⟩
    | next => exact False.elim back
    | brk => exact False.elim back
    | cont => exact False.elim back
end
section
variable {X : Cx} {G0 : Hp} {e : Expr} {δ : List (Option D)} {μ : Mu} {pos p pos2 : Pos} {E : DEnds} {Ψ : List (Option D) → DX} {x f : Str} {C : Addr}
/-- raise X(e) -/
theorem s_raise (T : ExcT X.prog X.w X.K X.mg X.base x f C) (tk : dTk X G0 Ψ) (h : dE X G0 e δ μ fun d μ1 => Ψ δ C [(f, d)] μ1) {k : Nat} (hr : Room k X.A := by assumption) (hk : 2 ≤ k := by decide) (hc : X.calm = true := by rfl) (hg : Gl X x := by rfl) (hdb : (x == ("__debug__" : Str)) = false := by decide)
    (he : starEach (e :: []) X.env = (false, eval e X.env) :: starEach [] X.env := by rfl) (hpl : (backTo pos (starEach [] X.env)).any (·.1) = false := by rfl) : dS X G0 (.Raise (some (.Call (.Name x p) [e] [] pos)) none pos2) δ μ E := fun σ H B => by
  obtain ⟨fI, fd, i1, i2, i3, i4⟩ := T.init
  obtain ⟨W, tw, tq⟩ := tk
  refine wS_of (L2N.ps_raise hc tw (made_err T.oex i1 i2 i3 (hr.mono hk) i4 passN hg T.gC (pa_cons pe_w pa_nil he) hdb he hpl)) ?_
  refine h.go B fun v H1 d μ1 q m1 e1 r1 => ?_
  refine ⟨by show 1 ≤ 1000; decide, fun a ha => ⟨a, v, rfl, upd_same, fun dx hdx hne => ⟨rfl, dx, [(f, v)], upd_same, ?_, ?_, ?_⟩⟩⟩
  · rw [upd_ne hne, upd_same]
  · rw [upd_ne hne] at hdx
    exact hdx
  · have hdx1 : H1 dx = none := by
      rw [upd_ne hne] at hdx
      exact hdx
    have eH : upd (del (upd (upd (upd H1 a (exo a C none)) dx (exd dx [(f, v)])) a (exo a C (some dx))) a) dx (.xd [(f, v)]) = upd H1 dx (.xd [(f, v)]) := by
      funext b
      by_cases b1 : b = dx
      · rw [b1, upd_same, upd_same]
      · rw [upd_ne b1, upd_ne b1]
        by_cases b2 : b = a
        · rw [b2, del_same, ha]
        · rw [del_ne b2, upd_ne b2, upd_ne b1, upd_ne b2]
    rw [eH]
    have B1 := (B.step m1 e1).ext (sub_new (o := .xd [(f, v)]) hdx1)
    refine tq.1 C dx δ σ _ [(f, d)] μ1 q B1 fun b => .exc (fs := [(f, v)]) ?_ (.cons (r1.mono (mu_sub hdx1)) .nil)
    unfold Im
    rw [mu_free m1 hdx1, upd_same]
    rfl
/-! ### try .. except X as n -/
/-- e.f, e the error that the suite holds -/
theorem d_errf {a d : Addr} {oe : Obj} {pn : List (Addr × Obj)} {gs : List (Str × D)} {v : D} {Φ : DK} (hz : L2N.Zn (.ref C) (some d) oe) (hf : ∃ vs, oe.data = .fields vs) (xf : XfC X.K C) (no : PySem.W.findIn X.K (.ref C) f = some none)
    (he : dE (X.suite a ((a, oe) :: pn)) G0 e δ μ fun x μ1 => x = .exc a C d gs ∧ gs.lookup f = some v ∧ Φ v μ1) (hb : attributeBase e f X.env (eval e X.env) = eval e X.env := by rfl) : dE (X.suite a ((a, oe) :: pn)) G0 (.Attribute e f pos) δ μ Φ := fun σ H B Q k => by
  refine wE_of (pe_xf (cls := .ref C) (d := some d) xf no hz.zc hf pe_w hb) ?_
  refine he σ H B _ fun u H1 x μ1 q m1 e1 r1 => ?_
  obtain ⟨ex, hl, q⟩ := q
  subst ex
  cases r1 with
  | exc h r =>
    obtain ⟨w, hw, rw'⟩ := r.lookup hl
    exact ⟨rfl, rfl, d, _, w, rfl, im_all _ _ h, hw, (k.after e1).val m1 q rw'⟩
theorem hot_suite {a : Addr} {cls : Value} {d : Option Addr} {oe : Obj} {pn : List (Addr × Obj)} (hz : L2N.Zn cls d oe) (hf : ∃ vs, oe.data = .fields vs) : L2H.HotC (X.suite a ((a, oe) :: pn)) := by
  obtain ⟨vs, hd⟩ := hf
  exact ⟨(a, oe), ⟨rfl, vs, hd, hz.2.2 vs hd⟩, List.mem_cons_self⟩
/-- what the body's errors come to -/
def TryX (X : Cx) (G0 : Hp) (C : Addr) (i : Nat) (ss : List Stmt) (E : DEnds) (Ψ : List (Option D) → DX) : List (Option D) → DX := fun δ' C' gs μ' => ∃ b, PySem.W.exmOne X.K (.ref C') (.ref C) = some b ∧
  (b = true → ∀ (a d : Addr) (oe : Obj) (pn : List (Addr × Obj)), L2N.Zn (.ref C') (some d) oe → (∃ vs, oe.data = .fields vs) →
    dSs (X.suite a ((a, oe) :: pn)) G0 ss (δ'.set i (some (.exc a C' d gs))) μ' { nx := fun δ μ => E.nx (δ.set i none) μ, rt := E.rt, bk := fun δ μ => E.bk (δ.set i none) μ, ct := fun δ μ => E.ct (δ.set i none) μ }) ∧ (b = false → Ψ δ' C' gs μ') ∧
  (b = true → gs = bareG → ∀ (a : Addr) (oe : Obj) (pn : List (Addr × Obj)), L2N.Zn (.ref C') none oe → (∃ vs, oe.data = .fields vs) →
    dSs (X.suite a ((a, oe) :: pn)) G0 ss (δ'.set i (some (.ref a))) μ' { nx := fun δ μ => E.nx (δ.set i none) μ, rt := E.rt, bk := fun δ μ => E.bk (δ.set i none) μ, ct := fun δ μ => E.ct (δ.set i none) μ })
theorem Bd.none {K : PySem.W.Frag} {H : Hp} {σ : L2.St} (B : Bd K G0 δ μ σ H) (i : Nat) : Bd K G0 (δ.set i Option.none) μ (σ.set i Option.none) H := by
  refine ⟨by rw [List.length_set, List.length_set, B.len], fun j d h => ?_, B.mu, B.base⟩
  by_cases q : i = j
  · subst q
    rw [List.getElem?_set, if_pos rfl] at h
    split at h
    · cases h
    · cases h
  · rw [List.getElem?_set_ne q] at h
    obtain ⟨v, h1, h2⟩ := B.sl j d h
    exact ⟨v, by rw [List.getElem?_set_ne q]; exact h1, h2⟩
theorem s_try (i : Nat) {n : Str} {body : List Stmt} {b0 : Stmt} {suite : List Stmt} {np pos' : Pos} (hm : X.mg x = some (.ref C)) (tk : dTk X G0 Ψ)
    (hb : ∀ (pn : List (Addr × Obj)) (xe : Value → Shared → Prop), PassesOwn (model X.prog X.w) X.A X.env xe → dTk (X.tr pn xe) G0 (TryX X G0 C i (b0 :: suite) E Ψ) → dSs (X.tr pn xe) G0 body δ μ E)
    (hN : X.N.Nodup := by assumption) (hi : X.N[i]? = some n := by rfl) (hln : X.env.kindOf n = some .local := by rfl) (hg : Gl X x := by rfl) (hdb : (x == ("__debug__" : Str)) = false := by decide)
    (hs : X.stack = X.env :: X.outer := by rfl) (hf : X.env.frame = some X.env.locals := by rfl) : dS X G0 (.Try body [.ExceptHandler (some (.Name x np)) (some n) (b0 :: suite) pos'] [] [] pos) δ μ E := fun σ H B => by
  obtain ⟨Wo, tw, tq⟩ := tk
  refine wS_of (L2N.ps_try_as (i := i) (tb := fun W D σ H => ∀ pn xe, L2N.Takes (X.tr pn xe) W → PassesOwn (model X.prog X.w) X.A X.env xe → wSs (X.tr pn xe) body D σ H)
    (ts := fun a cls d D σ H => ∀ oe pn, L2N.Zn cls d oe → (∃ vs, oe.data = .fields vs) → wSs (X.suite a ((a, oe) :: pn)) (b0 :: suite) D σ H) hs hf hN hi hln ⟨hg, hdb, .inl hm⟩ tw
    (fun W pn xe tk' hp => ⟨fun pins s σ' H' D I q => q pn xe tk' hp pins s I⟩) (fun a oe cls d pn hz hv => ⟨fun pins s σ' H' D I q => q oe pn hz hv pins s I⟩)) ?_
  intro pn xe tk' hp
  refine hb pn xe hp ⟨_, tk', fun C' d δ' σ' H2 gs μ2 q B2 er => ?_, fun C' δ' σ' H2 μ2 q B2 => ?_⟩ σ H B
  · obtain ⟨b, hx, h1, h2, _⟩ := q
    refine ⟨b, hx, fun eb a ha oe pn' hz hv => ?_, fun eb => tq.1 C' d δ' σ' H2 gs μ2 (h2 eb) B2 er⟩
    refine wSs_mono ?_ (h1 eb a d oe pn' hz hv _ H2 (B2.set (er a)))
    exact ⟨fun σ3 H3 ⟨δ3, μ3, q3, B3⟩ => ⟨_, μ3, q3, B3.none i⟩, fun _ _ q => q, fun σ3 H3 ⟨δ3, μ3, q3, B3⟩ => ⟨_, μ3, q3, B3.none i⟩, fun σ3 H3 ⟨δ3, μ3, q3, B3⟩ => ⟨_, μ3, q3, B3.none i⟩⟩
  · obtain ⟨b, hx, _, h2, h3⟩ := q
    refine ⟨b, hx, fun eb a ha oe pn' hz hv => ?_, fun eb => tq.2 C' δ' σ' H2 μ2 (h2 eb) B2⟩
    refine wSs_mono ?_ (h3 eb rfl a oe pn' hz hv _ H2 (B2.set (.ref a)))
    exact ⟨fun σ3 H3 ⟨δ3, μ3, q3, B3⟩ => ⟨_, μ3, q3, B3.none i⟩, fun _ _ q => q, fun σ3 H3 ⟨δ3, μ3, q3, B3⟩ => ⟨_, μ3, q3, B3.none i⟩, fun σ3 H3 ⟨δ3, μ3, q3, B3⟩ => ⟨_, μ3, q3, B3.none i⟩⟩
/-! ### errors that carry nothing -/
structure BareT (K : PySem.W.Frag) (mg : Str → Option Value) (x : Str) (C : Addr) : Prop where
  gC : mg x = some (.ref C)
  exB : ∃ bmB B newId initId, PySem.ExcBaseFacts B newId initId bmB ∧ PySem.W.excIn K C bmB newId = true
  kC : PySem.W.keepIn K (.ref C) = true
  exC : PySem.W.subIn K (.ref C) (.type "BaseException") = some true
  tyC : PySem.W.typeIn K (.ref C) = some (.type "type")
  exm : PySem.W.exmOne K (.ref C) (.ref C) = some true
theorem bare_err (T : BareT X.K X.mg x C) (hg : Gl X x) (hdb : (x == ("__debug__" : Str)) = false) : L2N.PMk X (.Call (.Name x p) [] [] pos) (fun _ H Q => Q (.ref C) none H) := by
  obtain ⟨bmB, Bn, newId, initId, F, qx⟩ := T.exB
  intro pins s σ H Q I h
  refine wpAny_Call_Name_kw (ld_glob I hg T.gC ?_ hdb)
  refine PySem.W.callWith_K0 I.kIn T.kC ?_
  show wpAny _ _ (call (.ref C) []) _ _ _
  obtain ⟨bm, N, nm, qn, bs, hdct, sn, sub, ab, col, dd, k0, k1, k2, k3, k5, mN, hC, hN, hni, TT⟩ := exc_obj I.kIn qx
  refine wpAny_call_exc_subT F TT hC hN hni (fun h' e hm => ?_) (by show 0 ≤ sizeLine; rw [sizeLine_eq]; omega)
  exact L2N.mk_of I hm (raises_own T.exC T.tyC) h (I.hok.gone hm.new)
/-- raise X() -/
theorem s_raise0 (T : BareT X.K X.mg x C) (tk : dTk X G0 Ψ) (h : Ψ δ C bareG μ) (hc : X.calm = true := by rfl) (hg : Gl X x := by rfl) (hdb : (x == ("__debug__" : Str)) = false := by decide) : dS X G0 (.Raise (some (.Call (.Name x p) [] [] pos)) none pos2) δ μ E := fun σ H B => by
  obtain ⟨W, tw, tq⟩ := tk
  refine wS_of (L2N.ps_raise hc tw (bare_err T hg hdb)) ?_
  exact tq.2 C δ σ H μ h B
/-- try .. except X: .. (no name) -/
def TryN (X : Cx) (G0 : Hp) (C : Addr) (ss : List Stmt) (E : DEnds) (Ψ : List (Option D) → DX) : List (Option D) → DX := fun δ' C' gs μ' => ∃ b, PySem.W.exmOne X.K (.ref C') (.ref C) = some b ∧
  (b = true → ∀ (a : Addr) (d : Option Addr) (oe : Obj) (pn : List (Addr × Obj)), L2N.Zn (.ref C') d oe → (∃ vs, oe.data = .fields vs) → dSs (X.suite a ((a, oe) :: pn)) G0 ss δ' μ' E) ∧ (b = false → Ψ δ' C' gs μ')
theorem s_tryN {body : List Stmt} {b0 : Stmt} {suite : List Stmt} {np pos' : Pos} (hm : X.mg x = some (.ref C)) (tk : dTk X G0 Ψ)
    (hb : ∀ (pn : List (Addr × Obj)) (xe : Value → Shared → Prop), PassesOwn (model X.prog X.w) X.A X.env xe → dTk (X.tr pn xe) G0 (TryN X G0 C (b0 :: suite) E Ψ) → dSs (X.tr pn xe) G0 body δ μ E)
    (hg : Gl X x := by rfl) (hdb : (x == ("__debug__" : Str)) = false := by decide)
    (hs : X.stack = X.env :: X.outer := by rfl) (hf : X.env.frame = some X.env.locals := by rfl) : dS X G0 (.Try body [.ExceptHandler (some (.Name x np)) none (b0 :: suite) pos'] [] [] pos) δ μ E := fun σ H B => by
  obtain ⟨Wo, tw, tq⟩ := tk
  refine wS_of (L2N.ps_try_many (tb := fun W D σ H => ∀ pn xe, L2N.Takes (X.tr pn xe) W → PassesOwn (model X.prog X.w) X.A X.env xe → wSs (X.tr pn xe) body D σ H) hs hf tw
    (fun W pn xe tk' hp => ⟨fun pins s σ' H' D I q => q pn xe tk' hp pins s I⟩)
    (.cons (ts := fun a cls d D σ H => ∀ oe pn, L2N.Zn cls d oe → (∃ vs, oe.data = .fields vs) → wSs (X.suite a ((a, oe) :: pn)) (b0 :: suite) D σ H) ⟨hg, hdb, .inl hm⟩ (fun a oe cls d pn hz hv => ⟨fun pins s σ' H' D I q => q oe pn hz hv pins s I⟩) .nil)) ?_
  intro pn xe tk' hp
  refine hb pn xe hp ⟨_, tk', fun C' d δ' σ' H2 gs μ2 q B2 er => ?_, fun C' δ' σ' H2 μ2 q B2 => ?_⟩ σ H B
  · obtain ⟨b, hx, h1, h2⟩ := q
    exact ⟨b, hx, fun eb a ha oe pn' hz hv => h1 eb a _ oe pn' hz hv σ' H2 B2, fun eb => tq.1 C' d δ' σ' H2 gs μ2 (h2 eb) B2 er⟩
  · obtain ⟨b, hx, h1, h2⟩ := q
    exact ⟨b, hx, fun eb a ha oe pn' hz hv => h1 eb a _ oe pn' hz hv σ' H2 B2, fun eb => tq.2 C' δ' σ' H2 μ2 (h2 eb) B2⟩
end
/-! ### a def called while an error is handled -/
structure CalH (P : Program) (w : World) (K : PySem.W.Frag) (mg : Str → Option Value) (base : Heap) (k : Nat) (x : Str) (sp : DSp) : Prop where
  ex : ∃ (f : Addr) (fd : FuncData) (ps : List Str), L2H.FnH P w K mg base (L2N.CX P w) k f fd ps (liftSp K sp) ∧ mg x = some (.ref f) ∧ PySem.W.keepIn K (.ref f) = true ∧ Binds K fd ps []
section
variable {P : Program} {w : World} {K : PySem.W.Frag} {mg : Str → Option Value} {base : Heap}
abbrev cxDH (P : Program) (w : World) (K : PySem.W.Frag) (mg : Str → Option Value) (base : Heap) (N : List Str) (qual : Str) (st : Stmt) (f : Addr) (cd : Value) (A : Around) (outer : List Env) (s : Shared) (H : Hp) (E : XK) (p : Addr × Obj) : Cx :=
  L2H.cxH (L2N.CX P w) P w K mg base N qual (defScope st) f cd A outer s H E p
theorem DefT.calH {x : Str} {st : Stmt} {N ps : List Str} {k : Nat} {sp : DSp} (D : DefT K mg x st ps) (S : FnScope N ps (defScope st)) (len : ∀ ds μ Φ Ψ, sp ds μ Φ Ψ → ds.length = ps.length)
    (h : ∀ ds μ Φ Ψ, sp ds μ Φ Ψ → ∀ (f : Addr) (cd : Value) (A : Around) (outer : List Env) (s : Shared) (H : Hp) (E : XK) (p : Addr × Obj) (G0 : Hp), L2H.RoomH k (cxDH P w K mg base N x st f cd A outer s H E p).A → dSs (cxDH P w K mg base N x st f cd A outer s H E p) G0 (defBody st) (dst N ds) μ { nx := fun _ μ' => Φ .non μ', rt := Φ }) : CalH P w K mg base (k + 1) x sp := by
  obtain ⟨f, fd, F, hm, hb⟩ := D.ex
  obtain ⟨oc, od, kV, doc, pm, an, cdv, ct, osl, rfl, lk, hcd⟩ := F.ex
  refine ⟨f, _, ps, L2H.fn_ofH lk hcd S (fun vs H Q E hs => ?_) (fun A outer s H vs Q E p _ hr hs => ?_), hm, F.kp, hb⟩
  · obtain ⟨ds, μ, Φ, Ψ, r, _, q, _⟩ := hs
    rw [r.length]
    exact len ds μ Φ Ψ q
  · obtain ⟨ds, μ, Φ, Ψ, r, m, q, kk, kx⟩ := hs
    refine ⟨_, pss_w, ?_⟩
    have B := bd_start (N := N) r m
    refine wSs_mono (D := dEn K (Im μ H) { nx := fun _ μ' => Φ .non μ', rt := Φ }) ⟨fun σ' H' ⟨δ', μ', q', B'⟩ => ?_, fun v H' ⟨d, μ', q', m', e', r'⟩ => kk v H' d μ' q' m' e' r', fun _ _ ⟨_, _, q', _⟩ => q'.elim, fun _ _ ⟨_, _, q', _⟩ => q'.elim⟩
      (h ds μ Φ Ψ q f cdv A outer s H E p (Im μ H) hr _ H B)
    exact kk .non H' .non μ' q' B'.mu B'.base .non
end
section
variable {X : Cx} {G0 : Hp} {e : Expr} {es : List Expr} {δ : List (Option D)} {μ : Mu} {pos : Pos} {Φ : DK}
theorem d_callH {j k : Nat} {x : Str} {sp : DSp} {p : Pos} (C : CalH X.prog X.w X.K X.mg X.base j x sp) (hot : L2H.HotC X) (ha : dA X G0 (e :: es) δ μ fun xs μ1 => sp xs μ1 Φ NoX) (hr : L2H.RoomH k X.A := by assumption) (hj : j ≤ k := by decide) (hg : Gl X x := by rfl) (hdb : (x == ("__debug__" : Str)) = false := by decide)
    (he : starEach (e :: es) X.env = (false, eval e X.env) :: starEach es X.env := by rfl) (hpl : (backTo pos (starEach es X.env)).any (·.1) = false := by rfl) : dE X G0 (.Call (.Name x p) (e :: es) [] pos) δ μ Φ := fun σ H B Q kk => by
  obtain ⟨f, fd, ps, F, hm, hk, hb⟩ := C.ex
  refine wE_of (L2H.pe_callH (E := fun _ => E0) F (hr.mono hj) hot hg hm hk hb (fun σ pins H s e s' _ c => by obtain ⟨_, _, _, _, _, _, _, _, _, _, _, _, z⟩ := c; exact z.elim) pa_w hdb he hpl) ?_
  refine ha σ H B _ fun vs H1 xs μ1 q m1 e1 r1 => ?_
  exact ⟨xs, μ1, Φ, NoX, r1, m1, q, kk.after e1, noX⟩
end
end DL

namespace DL
open PySem PySem.Spec PyProof.Rows L2
/-! ### defaults, keywords -/
/-- a def with defaults: the call without the last ones (values ds behind what is written) -/
structure CalD (P : Program) (w : World) (K : PySem.W.Frag) (mg : Str → Option Value) (base : Heap) (k : Nat) (x : Str) (dds : List D) (sp : DSp) : Prop where
  ex : ∃ (f : Addr) (fd : FuncData) (ps : List Str) (dvs : List V) (ds : List Value), FnOk P w K mg base (L2N.CX P w) k f fd ps (liftSp K sp) ∧ mg x = some (.ref f) ∧ PySem.W.keepIn K (.ref f) = true ∧ Binds K fd ps ds ∧ Vals dvs ds ∧ ∀ G, RpAll K G dvs dds
/-- a call by keywords alone, ks in their order; gD puts the values in the parameters' order -/
structure CalK (P : Program) (w : World) (K : PySem.W.Frag) (mg : Str → Option Value) (base : Heap) (k : Nat) (x : Str) (ks : List Str) (gD : List D → List D) (sp : DSp) : Prop where
  ex : ∃ (f : Addr) (fd : FuncData) (ps : List Str) (g : List Value → List Value → List Value) (gV : List V → List V → List V), FnOk P w K mg base (L2N.CX P w) k f fd ps (liftSp K sp) ∧ mg x = some (.ref f) ∧ PySem.W.keepIn K (.ref f) = true ∧ KBn K fd ps 0 ks g gV ∧
    ∀ G vs ds, RpAll K G vs ds → ds.length = ks.length → RpAll K G (gV [] vs) (gD ds)
section
variable {X : Cx} {G0 : Hp} {e : Expr} {es : List Expr} {kws : List Keyword} {δ : List (Option D)} {μ : Mu} {pos p : Pos} {Φ : DK} {x : Str} {sp : DSp} {j k : Nat}
theorem d_callD {dds : List D} (C : CalD X.prog X.w X.K X.mg X.base j x dds sp) (ha : dA X G0 (e :: es) δ μ fun xs μ1 => sp (xs ++ dds) μ1 Φ NoX) (hr : Room k X.A := by assumption) (hj : j ≤ k := by decide) (hg : Gl X x := by rfl) (hdb : (x == ("__debug__" : Str)) = false := by decide)
    (he : starEach (e :: es) X.env = (false, eval e X.env) :: starEach es X.env := by rfl) (hpl : (backTo pos (starEach es X.env)).any (·.1) = false := by rfl) : dE X G0 (.Call (.Name x p) (e :: es) [] pos) δ μ Φ := fun σ H B Q kk => by
  obtain ⟨f, fd, ps, dvs, ds, F, hm, hk, hb, hv, hd⟩ := C.ex
  refine wE_of (pe_call F (hr.mono hj) hg hm hk hb hv passN pa_w hdb he hpl) ?_
  refine ha σ H B _ fun vs H1 xs μ1 q m1 e1 r1 => ?_
  exact ⟨xs ++ dds, μ1, Φ, NoX, r1.append (hd _), m1, q, kk.after e1, noX⟩
/-- f(k = v, ..) -/
theorem d_callK {ks : List Str} {gD : List D → List D} (C : CalK X.prog X.w X.K X.mg X.base j x ks gD sp) (ha : dKw X G0 kws δ μ fun xs μ1 => xs.length = ks.length ∧ sp (gD xs) μ1 Φ NoX) (hr : Room k X.A := by assumption) (hj : j ≤ k := by decide) (hg : Gl X x := by rfl) (hdb : (x == ("__debug__" : Str)) = false := by decide)
    (hall : (backToKw pos (keywordEach kws X.env)).all (·.1.isSome) = true := by rfl) (hks : (backToKw pos (keywordEach kws X.env)).filterMap (·.1) = ks := by rfl)
    (hpl : ((backTo pos (starEach [] X.env)).any (·.1) || (backToKw pos (keywordEach kws X.env)).any (·.1.isNone)) = false := by rfl) : dE X G0 (.Call (.Name x p) [] kws pos) δ μ Φ := fun σ H B Q kk => by
  obtain ⟨f, fd, ps, g, gV, F, hm, hk, hb, hv⟩ := C.ex
  intro pins s I
  refine wpAny_Call_Name_kw (ld_glob I hg hm ?_ hdb)
  refine PySem.W.callWith_KW0 (h₀ := X.base) I.ok.mod.kin hk hall ?_ hpl
  refine thn (pk_w.run pos pins s σ H _ I (ha σ H B (fun vs H1 => vs.length = ks.length ∧ liftSp X.K sp (gV [] vs) H1 Q E0) fun vs H1 xs μ1 ⟨hl, q⟩ m1 e1 r1 => ?_)) fun ws s2 ⟨zs, H2, I2, rz, hl, q2⟩ => ⟨I2.kIn, ?_⟩
  · exact ⟨by rw [r1.length]; exact hl, gD xs, μ1, Φ, NoX, hv _ vs xs r1 hl, m1, q, kk.after e1, noX⟩
  · rw [hks]
    exact run_fnN (us := []) (vs := []) F (hr.mono hj) hb passN I2 .nil rz rfl hl q2
end
/-- a def of the text with one default -/
structure DefD (K : PySem.W.Frag) (mg : Str → Option Value) (x : Str) (st : Stmt) (ps : List Str) (dv : V) : Prop where
  ex : ∃ (f : Addr) (fd : FuncData), FunD K x x (defArgs st) (defBody st) (defScope st) [dv] [] f fd ∧ mg x = some (.ref f)
section
variable {P : Program} {w : World} {K : PySem.W.Frag} {mg : Str → Option Value} {base : Heap}
theorem cal_fnD {x : Str} {st : Stmt} {f : Addr} {fd : FuncData} {N ps : List Str} {k : Nat} {sp : DSp} {dvs : List V} (F : FunD K x x (defArgs st) (defBody st) (defScope st) dvs [] f fd) (S : FnScope N ps (defScope st)) (len : ∀ ds μ Φ Ψ, sp ds μ Φ Ψ → ds.length = ps.length)
    (h : ∀ ds μ Φ Ψ, sp ds μ Φ Ψ → Body P w K mg base k N x st ds μ Φ Ψ) : FnOk P w K mg base (L2N.CX P w) (k + 1) f fd ps (liftSp K sp) := by
  obtain ⟨oc, od, dV, kV, doc, pm, an, cdv, ct, osl, rfl, lk, hcd, _, _⟩ := F.ex
  exact cal_fn lk hcd S len h
end
end DL
namespace DL
open PySem PySem.Spec PyProof.Rows L2
section
variable {X : Cx} {G0 : Hp} {st : Stmt} {rest : List Stmt} {δ : List (Option D)} {μ : Mu} {E : DEnds}
/-- a statement, and what holds behind it on every way -/
theorem s_cut (M : List (Option D) → Mu → Prop) (h1 : dS X G0 st δ μ { E with nx := M }) (h2 : ∀ δ' μ', M δ' μ' → dSs X G0 rest δ' μ' E) : dSs X G0 (st :: rest) δ μ E := s_cons fun σ H B => by
  refine wS_mono (D := dEn X.K G0 { E with nx := M }) ⟨fun σ' H' q => ?_, fun _ _ q => q, fun _ _ q => q, fun _ _ q => q⟩ (h1 σ H B)
  obtain ⟨δ', μ', q, B'⟩ := q
  exact ⟨δ', μ', h2 δ' μ' q, B'⟩
end
/-! ### numbers -/
theorem na_lt {i : Int} {n : Nat} (h0 : -(2 : Int) ^ n < i) (h : i < (2 : Int) ^ n) : i.natAbs < 2 ^ n := by
  have e : ((2 ^ n : Nat) : Int) = (2 : Int) ^ n := by simp
  omega
theorem na_up {i : Int} {n m : Nat} (h : i.natAbs < 2 ^ n) (hm : n ≤ m) : i.natAbs < 2 ^ m := Nat.lt_of_lt_of_le h (Nat.pow_le_pow_right (by decide) hm)
theorem na_mul {i j : Int} {a b : Nat} (ha : i.natAbs < 2 ^ a) (hb : j.natAbs < 2 ^ b) : (i * j).natAbs < 2 ^ (a + b) := wide_lt ha hb
theorem na_add {i j : Int} {a : Nat} (ha : i.natAbs < 2 ^ a) (hb : j.natAbs < 2 ^ a) : (i + j).natAbs < 2 ^ (a + 1) := by
  rw [Nat.pow_succ]
  omega
theorem na_sub {i j : Int} {a : Nat} (ha : i.natAbs < 2 ^ a) (hb : j.natAbs < 2 ^ a) : (i - j).natAbs < 2 ^ (a + 1) := by
  rw [Nat.pow_succ]
  omega
theorem mulOk {i j : Int} {a b : Nat} (ha : i.natAbs < 2 ^ a) (hb : j.natAbs < 2 ^ b) (h : a + b ≤ 900000) : CMulW i j :=
  wide_mul (na_up ha (Nat.le_add_right a 1)) (na_up hb (Nat.le_add_right b 1)) (by omega) (by omega) (by omega)
theorem divOk {i j : Int} {a : Nat} (h : j ≠ 0) (ha : j.natAbs < 2 ^ a) (hl : a ≤ 8000) : CDivX i j :=
  ⟨h, Nat.lt_of_lt_of_le (PySem.Flt.log2_lt_of (by omega) (na_up ha (Nat.le_add_right a 1))) (by omega)⟩
theorem fmod_range {i j : Int} (h : 0 < j) : 0 ≤ i.fmod j ∧ i.fmod j < j := ⟨Int.fmod_nonneg_of_pos i h, Int.fmod_lt_of_pos i h⟩
/-! ### the draws -/
/-- what a pool holds: at most n draws so far -/
def Pool (n : Nat) (c : D) : Prop := ∃ (i cur : Int) (ns : List Int), c = .lst [.int i, .int cur, .lst (ns.map .int)] ∧ 0 ≤ i ∧ i ≤ n ∧ 0 ≤ cur ∧ ns.length ≤ 63
def spPool : DSp := fun ds μ Φ _ => ∃ ns : List Int, ds = [.scr ns] ∧ ns.length ≤ 63 ∧ ∀ p c, μ p = none → Pool 0 c → Φ (.ref p) (updM μ p c)
def spTake : DSp := fun ds μ Φ _ => ∃ (p : Addr) (m : Int) (c : D) (n : Nat), ds = [.ref p, .int m] ∧ 0 < m ∧ m < 2 ^ 200 ∧ μ p = some c ∧ Pool n c ∧ n < 2 ^ 30 ∧
  ∀ d c', 0 ≤ d → d < m → Pool (n + 1) c' → Φ (.int d) (updM μ p c')
end DL

namespace DL
open PySem PySem.Spec PyProof.Rows L2
section
variable {X : Cx} {G0 : Hp} {e a b c it elt : Expr} {es rest : List Expr} {sts : List Stmt} {δ : List (Option D)} {μ : Mu} {Φ : DK} {pos : Pos} {K : PySem.W.Frag} {H : Hp} {Q : VK} {E : DEnds}
/-- [e for x, y in a list] -/
theorem d_lcL2 {x y : Str} {scope : Scope} {tp tp2 tq cp : Pos} {kk : Nat} {own : List (Str × Nat)} {vs : List Nat} (j j2 : Nat)
    (h : dE X G0 it δ μ fun d μ1 => ∃ ds, d = .lst ds ∧ ∃ Pv : Nat → List D → Mu → Prop, Pv 0 [] μ1 ∧ (∀ (i : Nat) d acc μ2 p, ds[i]? = some d → Pv i acc μ2 → μ2 p = none → ∃ d1 d2, d = .tup [d1, d2] ∧ LcTurn X scope elt p acc (((wipeD δ vs).set j (some d1)).set j2 (some d2)) μ2 (Pv (i + 1))) ∧ ∀ acc μ2 p, Pv ds.length acc μ2 → μ2 p = none → Φ (.ref p) (updM μ2 p (.lst acc)))
    (hb : blkC X.N X.env.scope scope own = true := by kernel_rfl) (hj : j ∈ vs := by decide) (hj2 : j2 ∈ vs := by decide) (hv : own.map (·.2) = vs := by rfl) (hN : X.N.Nodup := by assumption) (hc : X.calm = true := by rfl)
    (hi : X.N[j]? = some x := by rfl) (hi2 : X.N[j2]? = some y := by rfl) (hx : ∀ s H C cl fp, Loc (BX X scope s H C cl fp).env.scope x := by first | exact fun _ _ _ _ _ => Or.inl rfl | exact fun _ _ _ _ _ => Or.inr rfl) (hf : ∀ s H C cl fp, (BX X scope s H C cl fp).fn x = true ∨ (BX X scope s H C cl fp).env.scope.names.lookup x = some .local := by first | exact fun _ _ _ _ _ => .inr rfl | exact fun _ _ _ _ _ => .inl rfl)
    (hx2 : ∀ s H C cl fp, Loc (BX X scope s H C cl fp).env.scope y := by first | exact fun _ _ _ _ _ => Or.inl rfl | exact fun _ _ _ _ _ => Or.inr rfl) (hf2 : ∀ s H C cl fp, (BX X scope s H C cl fp).fn y = true ∨ (BX X scope s H C cl fp).env.scope.names.lookup y = some .local := by first | exact fun _ _ _ _ _ => .inr rfl | exact fun _ _ _ _ _ => .inl rfl)
    (hs1 : ∀ s H C cl fp, (assignEach [.Name x tp, .Name y tp2] (BX X scope s H C cl fp).env).map (·.2) = assign (.Name x tp) (BX X scope s H C cl fp).env :: (assignEach [.Name y tp2] (BX X scope s H C cl fp).env).map (·.2) := by exact fun _ _ _ _ _ => rfl) (hs2 : ∀ s H C cl fp, (assignEach [.Name y tp2] (BX X scope s H C cl fp).env).map (·.2) = assign (.Name y tp2) (BX X scope s H C cl fp).env :: (assignEach [] (BX X scope s H C cl fp).env).map (·.2) := by exact fun _ _ _ _ _ => rfl)
    (hn : ∀ s H C cl fp, (assignEach [.Name x tp, .Name y tp2] (BX X scope s H C cl fp).env).length = 2 := by exact fun _ _ _ _ _ => rfl) (hst : ∀ s H C cl fp, (assignEach [.Name x tp, .Name y tp2] (BX X scope s H C cl fp).env).findIdx? (·.1) = none := by exact fun _ _ _ _ _ => rfl)
    (hs : ∀ x, foldedSetIterable it X.env x = pure x := by intro _; rfl) : dE X G0 (.ListComp elt [⟨.Tuple [.Name x tp, .Name y tp2] kk tq, it, [], 0⟩] scope cp) δ μ Φ := fun σ H B Q k => by
  refine wE_of (pe_lc (g := gTup X.K 2 (gCons (gName j) (gCons (gName j2) gNil))) hc hN (pi_list pe_w) (blkOk_by hb) (fun s H C cl fp => pg_tup (X := BX X scope s H C cl fp) (n := 2) hc (pgs_cons (pg_name (i := j) hN hi (hx s H C cl fp) (hf s H C cl fp)) (pgs_cons (pg_name (i := j2) hN hi2 (hx2 s H C cl fp) (hf2 s H C cl fp)) pgs_nil (hs2 s H C cl fp)) (hs1 s H C cl fp)) (hn s H C cl fp) (hst s H C cl fp)) (fun _ _ _ _ _ => pts_nil) (fun s H C cl fp => (⟨fun pins s' σ' H' Q' I q => q s H C cl fp pins s' I⟩ : PE _ _ (wEs X scope elt))) hs) ?_
  rw [hv]
  refine h σ H B _ fun v H1 d μ1 q m1 e1 r1 => ?_
  obtain ⟨ds, rfl, Pv, p0, turn, fin⟩ := q
  obtain ⟨a, ws, rfl, hG, ra⟩ : ∃ a ws, v = .ref a ∧ Im μ1 H1 a = some (.lst ws) ∧ RpAll X.K (Im μ1 H1) ws ds := by
    cases r1 with
    | lst h r => exact ⟨_, _, rfl, h, r⟩
  have B1 := (B.step m1 e1).wipe vs
  refine ⟨a, rfl, ⟨ws, SqL.of (im_all _ _ hG)⟩, fun p hp => ?_⟩
  have hi0 : Im (updM μ1 p (.lst [])) (upd H1 p (.lst [])) = Im μ1 H1 := im_new hp
  have B2 : Bd X.K (Im μ1 H1) (wipeD δ vs) (updM μ1 p (.lst [])) (L2.wipe σ vs) (upd H1 p (.lst [])) := B1.rebase.step (m1.upd hi0 .nil) (by rw [hi0]; exact Sub.refl _)
  refine lc_list (xs := ws) (fun i H' => ∃ acc μ2, Pv i acc μ2 ∧ μ2 p = none ∧ Bd X.K (Im μ1 H1) (wipeD δ vs) (updM μ2 p (.lst acc)) (L2.wipe σ vs) H') ⟨[], μ1, p0, mu_free m1 hp, B2⟩ (fun i H' _ ⟨acc, μ2, _, _, B'⟩ => SqL.of (im_all _ _ (B'.base _ _ hG))) (fun i y H' hy ⟨acc, μ2, hP, hp2, B'⟩ => ?_) (fun H' ⟨acc, μ2, hP, hp2, B'⟩ => ?_)
  · have hl : i < ds.length := by rw [← ra.length]; exact (List.getElem?_eq_some_iff.mp hy).1
    obtain ⟨w', hw, rw'⟩ := ra.get (List.getElem?_eq_getElem hl)
    rw [hw] at hy
    cases hy
    obtain ⟨d1, d2, ed, tn⟩ := turn i _ acc μ2 p (List.getElem?_eq_getElem hl) hP hp2
    rw [ed] at rw'
    obtain ⟨b, us, rfl, hb2, rb⟩ := rp_tup_at (rw'.mono B'.base)
    obtain ⟨v1, v2, rfl, r1, r2⟩ := rp2 rb
    refine ⟨b, [v1, v2], rfl, SqT.of hb2, rfl, v1, [v2], rfl, v2, [], rfl, rfl, ?_, ?_⟩
    · rw [wipe_set hj2, wipe_set hj, wipe_wipe]
    · exact lc_turn ((B'.set r1).set r2) B' tn
  · rw [ra.length] at hP
    exact lc_end (k.after e1) hp2 (fin acc μ2 p hP hp2) B'
/-- [e for x, y in a tuple] -/
theorem d_lcT2 {x y : Str} {scope : Scope} {tp tp2 tq cp : Pos} {kk : Nat} {own : List (Str × Nat)} {vs : List Nat} (j j2 : Nat)
    (h : dE X G0 it δ μ fun d μ1 => ∃ ds, d = .tup ds ∧ ∃ Pv : Nat → List D → Mu → Prop, Pv 0 [] μ1 ∧ (∀ (i : Nat) d acc μ2 p, ds[i]? = some d → Pv i acc μ2 → μ2 p = none → ∃ d1 d2, d = .tup [d1, d2] ∧ LcTurn X scope elt p acc (((wipeD δ vs).set j (some d1)).set j2 (some d2)) μ2 (Pv (i + 1))) ∧ ∀ acc μ2 p, Pv ds.length acc μ2 → μ2 p = none → Φ (.ref p) (updM μ2 p (.lst acc)))
    (hb : blkC X.N X.env.scope scope own = true := by kernel_rfl) (hj : j ∈ vs := by decide) (hj2 : j2 ∈ vs := by decide) (hv : own.map (·.2) = vs := by rfl) (hN : X.N.Nodup := by assumption) (hc : X.calm = true := by rfl)
    (hi : X.N[j]? = some x := by rfl) (hi2 : X.N[j2]? = some y := by rfl) (hx : ∀ s H C cl fp, Loc (BX X scope s H C cl fp).env.scope x := by first | exact fun _ _ _ _ _ => Or.inl rfl | exact fun _ _ _ _ _ => Or.inr rfl) (hf : ∀ s H C cl fp, (BX X scope s H C cl fp).fn x = true ∨ (BX X scope s H C cl fp).env.scope.names.lookup x = some .local := by first | exact fun _ _ _ _ _ => .inr rfl | exact fun _ _ _ _ _ => .inl rfl)
    (hx2 : ∀ s H C cl fp, Loc (BX X scope s H C cl fp).env.scope y := by first | exact fun _ _ _ _ _ => Or.inl rfl | exact fun _ _ _ _ _ => Or.inr rfl) (hf2 : ∀ s H C cl fp, (BX X scope s H C cl fp).fn y = true ∨ (BX X scope s H C cl fp).env.scope.names.lookup y = some .local := by first | exact fun _ _ _ _ _ => .inr rfl | exact fun _ _ _ _ _ => .inl rfl)
    (hs1 : ∀ s H C cl fp, (assignEach [.Name x tp, .Name y tp2] (BX X scope s H C cl fp).env).map (·.2) = assign (.Name x tp) (BX X scope s H C cl fp).env :: (assignEach [.Name y tp2] (BX X scope s H C cl fp).env).map (·.2) := by exact fun _ _ _ _ _ => rfl) (hs2 : ∀ s H C cl fp, (assignEach [.Name y tp2] (BX X scope s H C cl fp).env).map (·.2) = assign (.Name y tp2) (BX X scope s H C cl fp).env :: (assignEach [] (BX X scope s H C cl fp).env).map (·.2) := by exact fun _ _ _ _ _ => rfl)
    (hn : ∀ s H C cl fp, (assignEach [.Name x tp, .Name y tp2] (BX X scope s H C cl fp).env).length = 2 := by exact fun _ _ _ _ _ => rfl) (hst : ∀ s H C cl fp, (assignEach [.Name x tp, .Name y tp2] (BX X scope s H C cl fp).env).findIdx? (·.1) = none := by exact fun _ _ _ _ _ => rfl)
    (hs : ∀ x, foldedSetIterable it X.env x = pure x := by intro _; rfl) : dE X G0 (.ListComp elt [⟨.Tuple [.Name x tp, .Name y tp2] kk tq, it, [], 0⟩] scope cp) δ μ Φ := fun σ H B Q k => by
  refine wE_of (pe_lc (g := gTup X.K 2 (gCons (gName j) (gCons (gName j2) gNil))) hc hN (pi_tup pe_w) (blkOk_by hb) (fun s H C cl fp => pg_tup (X := BX X scope s H C cl fp) (n := 2) hc (pgs_cons (pg_name (i := j) hN hi (hx s H C cl fp) (hf s H C cl fp)) (pgs_cons (pg_name (i := j2) hN hi2 (hx2 s H C cl fp) (hf2 s H C cl fp)) pgs_nil (hs2 s H C cl fp)) (hs1 s H C cl fp)) (hn s H C cl fp) (hst s H C cl fp)) (fun _ _ _ _ _ => pts_nil) (fun s H C cl fp => (⟨fun pins s' σ' H' Q' I q => q s H C cl fp pins s' I⟩ : PE _ _ (wEs X scope elt))) hs) ?_
  rw [hv]
  refine h σ H B _ fun v H1 d μ1 q m1 e1 r1 => ?_
  obtain ⟨ds, rfl, Pv, p0, turn, fin⟩ := q
  obtain ⟨a, ws, rfl, hG, ra⟩ : ∃ a ws, v = .ref a ∧ Im μ1 H1 a = some (.tup ws) ∧ RpAll X.K (Im μ1 H1) ws ds := by
    cases r1 with
    | tup h r => exact ⟨_, _, rfl, h, r⟩
  have B1 := (B.step m1 e1).wipe vs
  refine ⟨a, rfl, ⟨ws, SqT.of (im_all _ _ hG)⟩, fun p hp => ?_⟩
  have hi0 : Im (updM μ1 p (.lst [])) (upd H1 p (.lst [])) = Im μ1 H1 := im_new hp
  have B2 : Bd X.K (Im μ1 H1) (wipeD δ vs) (updM μ1 p (.lst [])) (L2.wipe σ vs) (upd H1 p (.lst [])) := B1.rebase.step (m1.upd hi0 .nil) (by rw [hi0]; exact Sub.refl _)
  refine lc_tup (xs := ws) (fun i H' => ∃ acc μ2, Pv i acc μ2 ∧ μ2 p = none ∧ Bd X.K (Im μ1 H1) (wipeD δ vs) (updM μ2 p (.lst acc)) (L2.wipe σ vs) H') ⟨[], μ1, p0, mu_free m1 hp, B2⟩ (fun i H' _ ⟨acc, μ2, _, _, B'⟩ => SqT.of (im_all _ _ (B'.base _ _ hG))) (fun i y H' hy ⟨acc, μ2, hP, hp2, B'⟩ => ?_) (fun H' ⟨acc, μ2, hP, hp2, B'⟩ => ?_)
  · have hl : i < ds.length := by rw [← ra.length]; exact (List.getElem?_eq_some_iff.mp hy).1
    obtain ⟨w', hw, rw'⟩ := ra.get (List.getElem?_eq_getElem hl)
    rw [hw] at hy
    cases hy
    obtain ⟨d1, d2, ed, tn⟩ := turn i _ acc μ2 p (List.getElem?_eq_getElem hl) hP hp2
    rw [ed] at rw'
    obtain ⟨b, us, rfl, hb2, rb⟩ := rp_tup_at (rw'.mono B'.base)
    obtain ⟨v1, v2, rfl, r1, r2⟩ := rp2 rb
    refine ⟨b, [v1, v2], rfl, SqT.of hb2, rfl, v1, [v2], rfl, v2, [], rfl, rfl, ?_, ?_⟩
    · rw [wipe_set hj2, wipe_set hj, wipe_wipe]
    · exact lc_turn ((B'.set r1).set r2) B' tn
  · rw [ra.length] at hP
    exact lc_end (k.after e1) hp2 (fin acc μ2 p hP hp2) B'

/-- what may change stays from now on: slot i held it -/
theorem s_frz {i : Nat} {p : Addr} {ds : List D} (hi : δ[i]? = some (some (.ref p))) (hp : μ p = none) (h : dSs X G0 sts (δ.set i (some (.lst ds))) μ E) : dSs X G0 sts δ (updM μ p (.lst ds)) E := fun σ H B => by
  obtain ⟨v, h1, r⟩ := B.sl i _ hi
  cases rp_ref r
  have B' : Bd X.K G0 δ μ σ H := B.step (B.mu.drop hp) im_drop
  have z := B'.set (i := i) (frz_rp B.mu hp)
  have e : σ.set i (some (.ref p)) = σ := by
    refine List.ext_getElem? fun j => ?_
    by_cases q : i = j
    · subst q
      rw [List.getElem?_set, if_pos rfl, h1, if_pos (List.getElem?_eq_some_iff.mp h1).1]
    · rw [List.getElem?_set_ne q]
  rw [e] at z
  exact h σ H z
/-- .. is not needed any more -/
theorem s_drop {p : Addr} {c : D} (hp : μ p = none) (h : dSs X G0 sts δ μ E) : dSs X G0 sts δ (updM μ p c) E := fun σ H B => h σ H (B.step (B.mu.drop hp) im_drop)
/-- behind a value: what may change is dropped -/
def Dr (Φ : DK) : DK := fun d μ => Φ d μ ∨ ∃ p c μ2, μ = updM μ2 p c ∧ μ2 p = none ∧ Φ d μ2
theorem KP.dr (k : KP K μ H Φ Q) : KP K μ H (Dr Φ) Q := fun v H2 d μ2 q m e r => by
  rcases q with q | ⟨p, c, μ3, rfl, hp, q⟩
  · exact k v H2 d μ2 q m e r
  · exact k v H2 d μ3 q (m.drop hp) (e.trans im_drop) (r.mono im_drop)
theorem d_dr (h : dE X G0 e δ μ (Dr Φ)) : dE X G0 e δ μ Φ := fun σ H B Q k => h σ H B Q k.dr
end
end DL
namespace DL
theorem yes {k : Bool} {A B : Prop} (hk : k = true) (h : A) : (k = true → A) ∧ (k = false → B) := ⟨fun _ => h, fun z => by rw [hk] at z; cases z⟩
theorem no {k : Bool} {A B : Prop} (hk : k = false) (h : B) : (k = true → A) ∧ (k = false → B) := ⟨fun z => (by rw [hk] at z; cases z), fun _ => h⟩
theorem orN {k : Bool} {A B : Prop} (hk : k = false) (h : A) : (k = false → A) ∧ (k = true → B) := ⟨fun _ => h, fun z => by rw [hk] at z; cases z⟩
theorem orY {k : Bool} {A B : Prop} (hk : k = true) (h : B) : (k = false → A) ∧ (k = true → B) := ⟨fun z => (by rw [hk] at z; cases z), fun _ => h⟩
end DL
namespace DL
open PySem PySem.Spec PyProof.Rows L2
def delM (μ : Mu) (p : Addr) : Mu := fun b => if b = p then none else μ b
theorem delM_same {μ : Mu} {p : Addr} : delM μ p p = none := if_pos rfl
theorem delM_ne {μ : Mu} {p q : Addr} (h : q ≠ p) : delM μ p q = μ q := if_neg h
theorem upd_del {μ : Mu} {p : Addr} {c : D} (h : μ p = some c) : updM (delM μ p) p c = μ := by
  funext b
  unfold updM delM
  by_cases e : b = p
  · rw [if_pos e, e, h]
  · rw [if_neg e, if_neg e]
section
variable {X : Cx} {G0 : Hp} {sts : List Stmt} {δ : List (Option D)} {μ : Mu} {E : DEnds}
theorem s_frzD {i : Nat} {p : Addr} {ds : List D} (hi : δ[i]? = some (some (.ref p))) (hp : μ p = some (.lst ds)) (h : dSs X G0 sts (δ.set i (some (.lst ds))) (delM μ p) E) : dSs X G0 sts δ μ E := by
  rw [← upd_del hp]
  exact s_frz hi delM_same h
end
end DL
namespace DL
open PySem PySem.Spec PyProof.Rows L2
section
variable {X : Cx} {G0 : Hp} {e a b c it elt : Expr} {es rest : List Expr} {sts : List Stmt} {δ : List (Option D)} {μ : Mu} {Φ : DK} {pos : Pos} {K : PySem.W.Frag} {H : Hp} {Q : VK} {E : DEnds}
/-- y = [e for x in range(n)]; what comes out is as it will stay, or may change -/
theorem s_setR {x y : Str} {scope : Scope} {rp ip tp cp py spos : Pos} {own : List (Str × Nat)} {vs : List Nat} (i0 j : Nat)
    (h : dA X G0 [a] δ μ fun ns μ1 => ∃ n : Int, ns = [.int n] ∧ n < 2 ^ 62 ∧ -(2 ^ 62) ≤ n ∧ ∃ Pv : Nat → List D → Mu → Prop, Pv 0 [] μ1 ∧ (∀ (i : Nat) acc μ2 p, i < n.toNat → Pv i acc μ2 → μ2 p = none → LcTurn X scope elt p acc ((wipeD δ vs).set j (some (.int i))) μ2 (Pv (i + 1))) ∧ ∀ acc μ2 p, Pv n.toNat acc μ2 → μ2 p = none → Fz (fun d μ' => E.nx (δ.set i0 (some d)) μ') (.ref p) (updM μ2 p (.lst acc)))
    (hy : X.N[i0]? = some y := by rfl) (hyl : X.env.scope.names.lookup y = some .local := by rfl) (hsw : swapsWith (.ListComp elt [⟨.Name x tp, .Call (.Name "range" rp) [a] [] ip, [], 0⟩] scope cp) (some (.Name y py)) spos.line X.env = pure true := by exact sw_true rfl rfl rfl (by decide +kernel))
    (hb : blkC X.N X.env.scope scope own = true := by kernel_rfl) (hj : j ∈ vs := by decide) (hv : own.map (·.2) = vs := by rfl) (hN : X.N.Nodup := by assumption) (hc : X.calm = true := by rfl)
    (hi : X.N[j]? = some x := by rfl) (hx : ∀ s H C cl fp, Loc (BX X scope s H C cl fp).env.scope x := by first | exact fun _ _ _ _ _ => Or.inl rfl | exact fun _ _ _ _ _ => Or.inr rfl) (hf : ∀ s H C cl fp, (BX X scope s H C cl fp).fn x = true ∨ (BX X scope s H C cl fp).env.scope.names.lookup x = some .local := by first | exact fun _ _ _ _ _ => .inr rfl | exact fun _ _ _ _ _ => .inl rfl)
    (hm : X.mg "range" = none := by assumption) (hg : Gl X "range" := by rfl) (hst : starEach [a] X.env = [(false, eval a X.env)] := by rfl)
    (hs : ∀ x, foldedSetIterable (.Call (.Name "range" rp) [a] [] ip) X.env x = pure x := by intro _; rfl) : dS X G0 (.Assign [.Name y py] (.ListComp elt [⟨.Name x tp, .Call (.Name "range" rp) [a] [] ip, [], 0⟩] scope cp) spos) δ μ E := fun σ H B => by
  refine wS_of (ps_setLc (i := i0) hc hN hy hyl hsw (pi_range1 hg hm pa_w hst) (blkOk_by hb) (fun s H C cl fp => pg_name (i := j) hN hi (hx s H C cl fp) (hf s H C cl fp)) (fun _ _ _ _ _ => pts_nil) (fun s H C cl fp => (⟨fun pins s' σ' H' Q' I q => q s H C cl fp pins s' I⟩ : PE _ _ (wEs X scope elt))) hs) ?_
  rw [hv]
  have k : KP X.K μ H (fun d μ' => E.nx (δ.set i0 (some d)) μ') (fun v H1 => gName i0 v σ H1 (dEn X.K G0 E).nx) := fun v H1 d μ1 q m1 e1 r1 => ⟨_, μ1, q, (B.step m1 e1).set r1⟩
  refine h σ H B _ fun vs' H1 ds μ1 q m1 e1 r1 => ?_
  obtain ⟨n, rfl, b1, b2, Pv, p0, turn, fin⟩ := q
  obtain ⟨v, rfl, r2⟩ := rp1 r1
  cases rp_int r2
  have B1 := (B.step m1 e1).wipe vs
  refine ⟨n, rfl, b2, b1, fun p hp => ?_⟩
  have hi0 : Im (updM μ1 p (.lst [])) (upd H1 p (.lst [])) = Im μ1 H1 := im_new hp
  have B2 : Bd X.K (Im μ1 H1) (wipeD δ vs) (updM μ1 p (.lst [])) (L2.wipe σ vs) (upd H1 p (.lst [])) := B1.rebase.step (m1.upd hi0 .nil) (by rw [hi0]; exact Sub.refl _)
  refine lc_range (lo := 0) (n := n.toNat) (fun i H' => ∃ acc μ2, Pv i acc μ2 ∧ μ2 p = none ∧ Bd X.K (Im μ1 H1) (wipeD δ vs) (updM μ2 p (.lst acc)) (L2.wipe σ vs) H') ⟨[], μ1, p0, mu_free m1 hp, B2⟩ (fun i H' hl ⟨acc, μ2, hP, hp2, B'⟩ => ?_) (fun H' ⟨acc, μ2, hP, hp2, B'⟩ => ?_)
  · refine ⟨by rw [wipe_set hj, wipe_wipe], ?_⟩
    have e0 : (0 : Int) + (i : Int) = (i : Int) := Int.zero_add _
    rw [e0]
    exact lc_turn (B'.set (.int _)) B' (turn i acc μ2 p hl hP hp2)
  · exact lc_end (k.fz.after e1) hp2 (fin acc μ2 p hP hp2) B'
end
end DL

namespace DL
open PySem PySem.Spec PyProof.Rows L2
/-! ### the end: what the top has written -/
section
variable {P : Program} {w : World} {K : PySem.W.Frag} {mg : Str → Option Value} {base h : Heap}
theorem deft {x : Str} {st : Stmt} {ps : List Str} {f : Addr} {oc : Value} {od an : Option Addr} {osl : Array (Option Value)} {kV doc pm cdv ct : Value} (KI : K.In h) (G : h.Ns mainGlobals mg)
    (a : PySem.W.nsIn K mainGlobals x = some (some (.ref f))) (l : K.lookup f = some ⟨oc, od, .func (PySem.W.fnOf x x (defArgs st) (defBody st) (defScope st) .none kV doc pm an cdv ct), osl⟩) (c : PySem.W.codeIn K cdv x = true) (k : PySem.W.keepIn K (.ref f) = true)
    (b : ∀ (kV doc pm : Value) (an : Option Addr) (cdv ct : Value) (us : List Value), us.length = ps.length → bindArgs (PySem.W.fnOf x x (defArgs st) (defBody st) (defScope st) .none kV doc pm an cdv ct) ⟨us, []⟩ = pure (ps.zip us)) : DefT K mg x st ps :=
  ⟨f, _, fun_mk l c k, PySem.W.mg_of KI G a, (fun_mk l c k).binds b⟩
/-- an error of the class at S is what «except S» names -/
theorem exm_own {S : Addr} (h1 : PySem.W.subIn K (.ref S) (.type "BaseException") = some true) (h2 : PySem.W.isClsIn K S = true) (h3 : PySem.W.typeIn K (.ref S) = some (.type "type")) (h4 : PySem.W.subIn K (.ref S) (.ref S) = some true) : PySem.W.exmOne K (.ref S) (.ref S) = some true := by
  have e1 : (PySem.W.subIn K (.ref S) (.type "BaseException") == some true) = true := by rw [h1] <;> rfl
  have h2' : (PySem.W.clsIn K S).isSome = true := h2
  have e2 : ((PySem.W.clsIn K S).isSome && PySem.W.typeIn K (.ref S) == some (.type "type")) = true := by rw [h2', h3] <;> rfl
  unfold PySem.W.exmOne
  first
    | (rw [if_pos e1, if_pos e2]; exact h4)
    | (show (if (PySem.W.subIn K (.ref S) (.type "BaseException") == some true) = true then (if ((PySem.W.clsIn K S).isSome && PySem.W.typeIn K (.ref S) == some (.type "type")) = true then PySem.W.subIn K (.ref S) (.ref S) else none) else none) = some true
       rw [if_pos e1, if_pos e2]
       exact h4)
/-- the law's own call, at nothing but the script -/
theorem lift_law {sp : DSp} {a : Addr} {H : Hp} {ns : List Int} (hS : SqL K H a (ns.map V.int)) (h : sp [.scr ns] (fun _ => none) (fun d _ => d = .bl true) NoX) : liftSp K sp [.ref a] H (fun v _ => v = .bl true) fun _ _ _ => False := by
  refine ⟨[.scr ns], fun _ => none, fun d _ => d = .bl true, NoX, .cons (.scr ?_) .nil, fun p c e => (by cases e), h, fun v H2 d μ2 q _ _ r => ?_, noX⟩
  · have e : Im (fun _ => none) H = H := by
      funext b
      rfl
    rw [e]
    exact hS
  · subst q
    exact rp_bl r
theorem cx_none {P : Program} {w : World} (H : Hp) (s : Shared) (e : Value) (s' : Shared) (h : L2N.CX P w [] H s (fun _ _ _ => False) e s') : False := by
  obtain ⟨_, _, _, _, _, _, _, _, _, _, _, _, z⟩ := h
  exact z.elim
/-- a call by two keywords, the second parameter first -/
theorem kbn_swap {x : Str} {st : Stmt} {f : Addr} {fd : FuncData} {p q : Str} {dv : V} (F : FunD K x x (defArgs st) (defBody st) (defScope st) [dv] [] f fd)
    (h : ∀ (T : Addr) (kV doc pm : Value) (an : Option Addr) (cdv ct a b d : Value), ∃ k, bindArgs (PySem.W.fnOf x x (defArgs st) (defBody st) (defScope st) (.ref T) kV doc pm an cdv ct) ⟨[], [(q, b), (p, a)]⟩ = seqItems? (.ref T) >>= k ∧ k (some [d].toArray) = pure [(p, a), (q, b)]) :
    KBn K fd [p, q] 0 [q, p] (fun _ ws => ws.drop 1 ++ ws.take 1) (fun _ vs => vs.drop 1 ++ vs.take 1) := by
  obtain ⟨oc, od, dV, kV, doc, pm, an, cdv, ct, osl, rfl, lk, hcd, hD, hK⟩ := F.ex
  rcases hD with ⟨e, _⟩ | ⟨_, T, o, its, m, rfl, lT, oT, rT⟩
  · cases e
  · refine ⟨fun s us ws X l1 l2 => ?_, fun r1 r2 => (r2.drop 1).append (r2.take 1)⟩
    obtain ⟨d, rfl, _⟩ := rT.one
    match us, ws, l1, l2 with
    | [], [b, a], _, _ =>
      obtain ⟨k, e1, e2⟩ := h T kV doc pm an cdv ct a b d
      refine BindsTo.of_looks fun M => ?_
      show PySem.W.Looks M s.heap (bindArgs _ ⟨[], [(q, b), (p, a)]⟩) [(p, a), (q, b)]
      rw [e1]
      exact looks_items X lT oT (.of_pure e2)
end
end DL

namespace DL
open PySem PySem.Spec PyProof.Rows L2
section
variable {X : Cx} {G0 : Hp} {e a b c it elt : Expr} {es rest : List Expr} {sts : List Stmt} {δ : List (Option D)} {μ : Mu} {Φ : DK} {pos : Pos} {K : PySem.W.Frag} {H G : Hp} {Q : VK} {E : DEnds} {xs ys : List D}
theorem rp_ints : ∀ {vs : List V} {ns : List Int}, RpAll K G vs (ns.map D.int) → vs = ns.map V.int
  | [], [], _ => rfl
  | _ :: _, n :: ns, .cons r1 r2 => by
    rw [rp_ints r2, rp_int r1]
    rfl
theorem rp_bls : ∀ {vs : List V} {ns : List Bool}, RpAll K G vs (ns.map D.bl) → vs = ns.map V.bl
  | [], [], _ => rfl
  | _ :: _, n :: ns, .cons r1 r2 => by
    rw [rp_bls r2, rp_bl r1]
    rfl
theorem c_sum {ns : List Int} (q : Φ (.int ns.sum) μ) (hc : X.calm = true := by rfl) : dCall X (.builtin "sum") [.lst (ns.map .int)] μ Φ := fun vs H r m Q k => by
  obtain ⟨v, rfl, r0⟩ := rp1 r
  obtain ⟨p, ws, rfl, ha, ra⟩ := rp_lst_at r0
  rw [rp_ints ra] at ha
  exact wCall_of (cr_sum hc) ⟨p, ns, rfl, SqL.of ha, k.val m q (.int _)⟩
theorem c_all {bs : List Bool} (q : Φ (.bl (bs.all id)) μ) (hc : X.calm = true := by rfl) : dCall X (.builtin "all") [.lst (bs.map .bl)] μ Φ := fun vs H r m Q k => by
  obtain ⟨v, rfl, r0⟩ := rp1 r
  obtain ⟨p, ws, rfl, ha, ra⟩ := rp_lst_at r0
  rw [rp_bls ra] at ha
  exact wCall_of (cr_all hc) ⟨p, bs, rfl, SqL.of ha, k.val m q (.bl _)⟩
theorem c_any {bs : List Bool} (q : Φ (.bl (bs.any id)) μ) (hc : X.calm = true := by rfl) : dCall X (.builtin "any") [.lst (bs.map .bl)] μ Φ := fun vs H r m Q k => by
  obtain ⟨v, rfl, r0⟩ := rp1 r
  obtain ⟨p, ws, rfl, ha, ra⟩ := rp_lst_at r0
  rw [rp_bls ra] at ha
  exact wCall_of (cr_any hc) ⟨p, bs, rfl, SqL.of ha, k.val m q (.bl _)⟩
/-- a tuple behind a tuple that is not empty -/
theorem o_catT (h0 : xs ≠ []) (q : xs.length + ys.length ≤ sizeLine ∧ Φ (.tup (xs ++ ys)) μ) : dOp X (binaryOp .Add) (.tup xs) (.tup ys) μ Φ := fun v u H r1 r2 m Q k => by
  obtain ⟨a, vs, rfl, ha, ra⟩ := rp_tup_at r1
  obtain ⟨b, ws, rfl, hb, rb⟩ := rp_tup_at r2
  refine wOp_of op_catT ⟨a, b, vs, ws, rfl, rfl, SqT.of ha, SqT.of hb, fun z => ?_, by rw [ra.length, rb.length]; exact q.1, fun z => ?_, fun _ p hp => k.new m hp q.2 (rp_tup m hp (ra.append rb))⟩
  · subst z
    cases ra
    exact h0 rfl
  · subst z
    cases rb
    have q2 := q.2
    rw [List.append_nil] at q2
    exact k.val m q2 r1
/-! ### slices -/
/-- what a[lo:hi] leaves -/
def cutD (xs : List D) (lo hi : Option Int) : List D := (xs.drop (HT.sIx xs.length 0 lo)).take (HT.sIx xs.length xs.length hi - HT.sIx xs.length 0 lo)
theorem rp_cut {vs : List V} {ds : List D} (lo hi : Option Int) (r : RpAll K G vs ds) : RpAll K G (cutV vs lo hi) (cutD ds lo hi) := by
  unfold cutV cutD
  rw [r.length]
  exact (r.drop _).take _
def wSl (X : Cx) (x : V) (lo hi : Option Int) (H : Hp) (Q : VK) : Prop :=
  ∀ (pins : List (Addr × Obj)) (s : Shared) (σ : L2.St) (v vl vu : Value) (sl : Addr), Inv X pins σ H s → RelV x v → s.heap.IsSliceOf sl vl vu .none → IsPart vl lo → IsPart vu hi →
    ∃ T id, typeLookup (.type T) "__getitem__" = pure (some (.builtin id)) ∧ s.TypeIs v T ∧ wpAny (model X.prog X.w) X.A (getItem v (.ref sl)) (EP X pins σ Q) X.xe s
theorem sl_w : SlR X (wSl X) := fun pins s σ H x v vl vu lo hi sl Q I rx hs pl pu h => h pins s σ v vl vu sl I rx hs pl pu
theorem wSl_of {r : V → Option Int → Option Int → Hp → VK → Prop} {x : V} {lo hi : Option Int} (h : SlR X r) (q : r x lo hi H Q) : wSl X x lo hi H Q := fun pins s σ v vl vu sl I rx hs pl pu => h pins s σ H x v vl vu lo hi sl Q I rx hs pl pu q
def dSl (X : Cx) (x : D) (lo hi : Option Int) (μ : Mu) (Φ : DK) : Prop := ∀ v H, Rp X.K (Im μ H) v x → MuOk X.K μ H → ∀ Q, KP X.K μ H Φ Q → wSl X v lo hi H Q
/-- a part of a slice: none, or an integer -/
def dPo (X : Cx) (G0 : Hp) (o : Option Expr) (δ : List (Option D)) (μ : Mu) (Θ : Option Int → Mu → Prop) : Prop := match o with
  | none => Θ none μ
  | some e => dE X G0 e δ μ fun d μ1 => ∃ i, d = .int i ∧ Θ (some i) μ1
def tPo (X : Cx) : Option Expr → TO
  | none => tNoPart
  | some e => tPart (wE X e)
theorem po_w : ∀ {o : Option Expr}, PO X o (tPo X o)
  | none => po_none
  | some _ => po_some pe_w
theorem dPo.go {o : Option Expr} {Θ : Option Int → Mu → Prop} {σ : L2.St} {R : Option Int → Hp → Prop} (h : dPo X G0 o δ μ Θ) (B : Bd X.K G0 δ μ σ H) (k : ∀ i H2 μ2, Θ i μ2 → MuOk X.K μ2 H2 → Sub (Im μ H) (Im μ2 H2) → R i H2) : tPo X o σ H R := by
  cases o with
  | none => exact k none H μ h B.mu (Sub.refl _)
  | some e =>
    refine dE.go (Φ := fun d μ1 => ∃ i, d = .int i ∧ Θ (some i) μ1) h B fun v H2 d μ2 q m e2 r => ?_
    obtain ⟨i, rfl, q⟩ := q
    exact ⟨i, rp_int r, k (some i) H2 μ2 q m e2⟩
theorem d_sl {lo hi : Option Expr} {p2 : Pos} (h : dE X G0 a δ μ fun x μ1 => dPo X G0 lo δ μ1 fun l μ2 => dPo X G0 hi δ μ2 fun u μ3 => dSl X x l u μ3 Φ) : dE X G0 (.Subscript a (.Slice lo hi none p2) pos) δ μ Φ := fun σ H B Q k => by
  refine wE_of (pe_slice sl_w pe_w po_w po_w) ?_
  refine h.go B fun v H1 x μ1 q1 m1 e1 r1 => ?_
  refine q1.go (B.step m1 e1) fun l H2 μ2 q2 m2 e2 => ?_
  refine q2.go (B.step m2 (e1.trans e2)) fun u H3 μ3 q3 m3 e3 => ?_
  exact q3 v H3 (r1.mono (e2.trans e3)) m3 Q (k.after ((e1.trans e2).trans e3))
theorem po_n {Θ : Option Int → Mu → Prop} (q : Θ none μ) : dPo X G0 none δ μ Θ := q
theorem po_s {Θ : Option Int → Mu → Prop} (h : dE X G0 e δ μ fun d μ1 => ∃ i, d = .int i ∧ Θ (some i) μ1) : dPo X G0 (some e) δ μ Θ := h
theorem sl_lst {lo hi : Option Int} (q : Φ (.lst (cutD xs lo hi)) μ) : dSl X (.lst xs) lo hi μ Φ := fun v H r m Q k => by
  obtain ⟨a, vs, rfl, ha, ra⟩ := rp_lst_at r
  exact wSl_of sl_list ⟨a, vs, rfl, SqL.of ha, fun p hp => k.new m hp q (rp_lst m hp (rp_cut lo hi ra))⟩
theorem sl_mut {p : Addr} {lo hi : Option Int} (hp : μ p = some (.lst xs)) (q : Φ (.lst (cutD xs lo hi)) μ) : dSl X (.ref p) lo hi μ Φ := fun v H r m Q k => by
  cases rp_ref r
  obtain ⟨vs, ha, ra⟩ := m.lst hp
  exact wSl_of sl_list ⟨p, vs, rfl, SqL.of ha, fun p2 hp2 => k.new m hp2 q (rp_lst m hp2 (rp_cut lo hi ra))⟩
theorem sl_tpl {lo hi : Option Int} (hw : ¬ (HT.sIx xs.length 0 lo = 0 ∧ HT.sIx xs.length xs.length hi = xs.length)) (q : Φ (.tup (cutD xs lo hi)) μ) : dSl X (.tup xs) lo hi μ Φ := fun v H r m Q k => by
  obtain ⟨a, vs, rfl, ha, ra⟩ := rp_tup_at r
  exact wSl_of sl_tup ⟨a, vs, rfl, SqT.of ha, by rw [ra.length]; exact hw, fun p hp => k.new m hp q (rp_tup m hp (rp_cut lo hi ra))⟩
/-- a turn of a comprehension with a test: the list so far stands at p -/
def LcTurnIf (X : Cx) (scope : Scope) (elt c : Expr) (p : Addr) (acc : List D) (δ2 : List (Option D)) (μ : Mu) (N : List D → Mu → Prop) : Prop :=
  acc.length < sizeLine ∧ dTs X scope c δ2 (updM μ p (.lst acc)) fun k μ3 => ∃ μ4, μ3 = updM μ4 p (.lst acc) ∧ μ4 p = none ∧ (k = false → N acc μ4) ∧
    (k = true → dEs X scope elt δ2 (updM μ4 p (.lst acc)) fun r μ5 => ∃ μ6, μ5 = updM μ6 p (.lst acc) ∧ μ6 p = none ∧ N (acc ++ [r]) μ6)
theorem lc_turnIf {scope : Scope} {p : Addr} {acc : List D} {δ0 δ2 : List (Option D)} {σ0 σ2 : L2.St} {G1 : Hp} {Nx : List D → Mu → Prop} (B : Bd X.K G1 δ2 (updM μ p (.lst acc)) σ2 H) (B0 : Bd X.K G1 δ0 (updM μ p (.lst acc)) σ0 H) (h : LcTurnIf X scope elt c p acc δ2 μ Nx) :
    wTs X scope c σ2 H fun b H3 => if b = true then wEs X scope elt σ2 H3 fun y H4 => ∃ ws, H4 p = some (.lst ws) ∧ ws.length < sizeLine ∧ ∃ acc' μ', Nx acc' μ' ∧ μ' p = none ∧ Bd X.K G1 δ0 (updM μ' p (.lst acc')) σ0 (upd H4 p (.lst (ws ++ [y]))) else ∃ acc' μ', Nx acc' μ' ∧ μ' p = none ∧ Bd X.K G1 δ0 (updM μ' p (.lst acc')) σ0 H3 := by
  intro s0 H00 C0 cl0 fp0
  refine h.2 G1 s0 H00 C0 cl0 fp0 σ2 H B _ fun b H3 μ3 q m3 e3 => ?_
  obtain ⟨μ4, rfl, hp, h0, h1⟩ := q
  cases b with
  | false => exact ⟨acc, μ4, h0 rfl, hp, B0.step m3 e3⟩
  | true =>
    rw [if_pos rfl]
    intro s H0 C cl fp
    refine h1 rfl G1 s H0 C cl fp σ2 H3 (B.step m3 e3) _ fun y H4 r μ5 q m4 e4 r4 => ?_
    obtain ⟨μ6, rfl, hp6, hN⟩ := q
    obtain ⟨ws, ha, ra⟩ := m4.lst updM_same
    have hi : Im (updM μ6 p (.lst (acc ++ [r]))) (upd H4 p (.lst (ws ++ [y]))) = Im (updM μ6 p (.lst acc)) H4 := by
      rw [← updM_upd (c := .lst acc)]
      exact im_upd (by rw [updM_same]; rfl)
    have m5 : MuOk X.K (updM μ6 p (.lst (acc ++ [r]))) (upd H4 p (.lst (ws ++ [y]))) := by
      rw [← updM_upd (c := .lst acc)]
      refine m4.upd ?_ (ra.append (.cons r4 .nil))
      rw [updM_upd]
      exact hi
    exact ⟨ws, ha, by rw [ra.length]; exact h.1, _, _, hN, hp6, B0.step m5 (by rw [hi]; exact e3.trans e4)⟩
theorem d_lcLI {x : Str} {scope : Scope} {tp cp : Pos} {own : List (Str × Nat)} {vs : List Nat} (j : Nat)
    (h : dE X G0 it δ μ fun d μ1 => ∃ ds, d = .lst ds ∧ ∃ Pv : Nat → List D → Mu → Prop, Pv 0 [] μ1 ∧ (∀ (i : Nat) d acc μ2 p, ds[i]? = some d → Pv i acc μ2 → μ2 p = none → LcTurnIf X scope elt c p acc ((wipeD δ vs).set j (some d)) μ2 (Pv (i + 1))) ∧ ∀ acc μ2 p, Pv ds.length acc μ2 → μ2 p = none → Φ (.ref p) (updM μ2 p (.lst acc)))
    (hb : blkC X.N X.env.scope scope own = true := by kernel_rfl) (hj : j ∈ vs := by decide) (hv : own.map (·.2) = vs := by rfl) (hN : X.N.Nodup := by assumption) (hc : X.calm = true := by rfl)
    (hi : X.N[j]? = some x := by rfl) (hx : ∀ s H C cl fp, Loc (BX X scope s H C cl fp).env.scope x := by first | exact fun _ _ _ _ _ => Or.inl rfl | exact fun _ _ _ _ _ => Or.inr rfl) (hf : ∀ s H C cl fp, (BX X scope s H C cl fp).fn x = true ∨ (BX X scope s H C cl fp).env.scope.names.lookup x = some .local := by first | exact fun _ _ _ _ _ => .inr rfl | exact fun _ _ _ _ _ => .inl rfl)
    (hs : ∀ x, foldedSetIterable it X.env x = pure x := by intro _; rfl) : dE X G0 (.ListComp elt [⟨.Name x tp, it, [c], 0⟩] scope cp) δ μ Φ := fun σ H B Q k => by
  refine wE_of (pe_lc hc hN (pi_list pe_w) (blkOk_by hb) (fun s H C cl fp => pg_name (i := j) hN hi (hx s H C cl fp) (hf s H C cl fp)) (fun s H C cl fp => pts_one (⟨fun pins s' σ' H' Q' I q => q s H C cl fp pins s' I⟩ : PT _ _ (wTs X scope c))) (fun s H C cl fp => (⟨fun pins s' σ' H' Q' I q => q s H C cl fp pins s' I⟩ : PE _ _ (wEs X scope elt))) hs) ?_
  rw [hv]
  refine h σ H B _ fun v H1 d μ1 q m1 e1 r1 => ?_
  obtain ⟨ds, rfl, Pv, p0, turn, fin⟩ := q
  obtain ⟨a, ws, rfl, hG, ra⟩ : ∃ a ws, v = .ref a ∧ Im μ1 H1 a = some (.lst ws) ∧ RpAll X.K (Im μ1 H1) ws ds := by
    cases r1 with
    | lst h r => exact ⟨_, _, rfl, h, r⟩
  have B1 := (B.step m1 e1).wipe vs
  refine ⟨a, rfl, ⟨ws, SqL.of (im_all _ _ hG)⟩, fun p hp => ?_⟩
  have hi0 : Im (updM μ1 p (.lst [])) (upd H1 p (.lst [])) = Im μ1 H1 := im_new hp
  have B2 : Bd X.K (Im μ1 H1) (wipeD δ vs) (updM μ1 p (.lst [])) (L2.wipe σ vs) (upd H1 p (.lst [])) := B1.rebase.step (m1.upd hi0 .nil) (by rw [hi0]; exact Sub.refl _)
  refine lc_list (xs := ws) (fun i H' => ∃ acc μ2, Pv i acc μ2 ∧ μ2 p = none ∧ Bd X.K (Im μ1 H1) (wipeD δ vs) (updM μ2 p (.lst acc)) (L2.wipe σ vs) H') ⟨[], μ1, p0, mu_free m1 hp, B2⟩ (fun i H' _ ⟨acc, μ2, _, _, B'⟩ => SqL.of (im_all _ _ (B'.base _ _ hG))) (fun i y H' hy ⟨acc, μ2, hP, hp2, B'⟩ => ?_) (fun H' ⟨acc, μ2, hP, hp2, B'⟩ => ?_)
  · have hl : i < ds.length := by rw [← ra.length]; exact (List.getElem?_eq_some_iff.mp hy).1
    obtain ⟨w', hw, rw'⟩ := ra.get (List.getElem?_eq_getElem hl)
    rw [hw] at hy
    cases hy
    refine ⟨by rw [wipe_set hj, wipe_wipe], ?_⟩
    exact lc_turnIf (B'.set (rw'.mono B'.base)) B' (turn i _ acc μ2 p (List.getElem?_eq_getElem hl) hP hp2)
  · rw [ra.length] at hP
    exact lc_end (k.after e1) hp2 (fin acc μ2 p hP hp2) B'
theorem d_lcTI {x : Str} {scope : Scope} {tp cp : Pos} {own : List (Str × Nat)} {vs : List Nat} (j : Nat)
    (h : dE X G0 it δ μ fun d μ1 => ∃ ds, d = .tup ds ∧ ∃ Pv : Nat → List D → Mu → Prop, Pv 0 [] μ1 ∧ (∀ (i : Nat) d acc μ2 p, ds[i]? = some d → Pv i acc μ2 → μ2 p = none → LcTurnIf X scope elt c p acc ((wipeD δ vs).set j (some d)) μ2 (Pv (i + 1))) ∧ ∀ acc μ2 p, Pv ds.length acc μ2 → μ2 p = none → Φ (.ref p) (updM μ2 p (.lst acc)))
    (hb : blkC X.N X.env.scope scope own = true := by kernel_rfl) (hj : j ∈ vs := by decide) (hv : own.map (·.2) = vs := by rfl) (hN : X.N.Nodup := by assumption) (hc : X.calm = true := by rfl)
    (hi : X.N[j]? = some x := by rfl) (hx : ∀ s H C cl fp, Loc (BX X scope s H C cl fp).env.scope x := by first | exact fun _ _ _ _ _ => Or.inl rfl | exact fun _ _ _ _ _ => Or.inr rfl) (hf : ∀ s H C cl fp, (BX X scope s H C cl fp).fn x = true ∨ (BX X scope s H C cl fp).env.scope.names.lookup x = some .local := by first | exact fun _ _ _ _ _ => .inr rfl | exact fun _ _ _ _ _ => .inl rfl)
    (hs : ∀ x, foldedSetIterable it X.env x = pure x := by intro _; rfl) : dE X G0 (.ListComp elt [⟨.Name x tp, it, [c], 0⟩] scope cp) δ μ Φ := fun σ H B Q k => by
  refine wE_of (pe_lc hc hN (pi_tup pe_w) (blkOk_by hb) (fun s H C cl fp => pg_name (i := j) hN hi (hx s H C cl fp) (hf s H C cl fp)) (fun s H C cl fp => pts_one (⟨fun pins s' σ' H' Q' I q => q s H C cl fp pins s' I⟩ : PT _ _ (wTs X scope c))) (fun s H C cl fp => (⟨fun pins s' σ' H' Q' I q => q s H C cl fp pins s' I⟩ : PE _ _ (wEs X scope elt))) hs) ?_
  rw [hv]
  refine h σ H B _ fun v H1 d μ1 q m1 e1 r1 => ?_
  obtain ⟨ds, rfl, Pv, p0, turn, fin⟩ := q
  obtain ⟨a, ws, rfl, hG, ra⟩ : ∃ a ws, v = .ref a ∧ Im μ1 H1 a = some (.tup ws) ∧ RpAll X.K (Im μ1 H1) ws ds := by
    cases r1 with
    | tup h r => exact ⟨_, _, rfl, h, r⟩
  have B1 := (B.step m1 e1).wipe vs
  refine ⟨a, rfl, ⟨ws, SqT.of (im_all _ _ hG)⟩, fun p hp => ?_⟩
  have hi0 : Im (updM μ1 p (.lst [])) (upd H1 p (.lst [])) = Im μ1 H1 := im_new hp
  have B2 : Bd X.K (Im μ1 H1) (wipeD δ vs) (updM μ1 p (.lst [])) (L2.wipe σ vs) (upd H1 p (.lst [])) := B1.rebase.step (m1.upd hi0 .nil) (by rw [hi0]; exact Sub.refl _)
  refine lc_tup (xs := ws) (fun i H' => ∃ acc μ2, Pv i acc μ2 ∧ μ2 p = none ∧ Bd X.K (Im μ1 H1) (wipeD δ vs) (updM μ2 p (.lst acc)) (L2.wipe σ vs) H') ⟨[], μ1, p0, mu_free m1 hp, B2⟩ (fun i H' _ ⟨acc, μ2, _, _, B'⟩ => SqT.of (im_all _ _ (B'.base _ _ hG))) (fun i y H' hy ⟨acc, μ2, hP, hp2, B'⟩ => ?_) (fun H' ⟨acc, μ2, hP, hp2, B'⟩ => ?_)
  · have hl : i < ds.length := by rw [← ra.length]; exact (List.getElem?_eq_some_iff.mp hy).1
    obtain ⟨w', hw, rw'⟩ := ra.get (List.getElem?_eq_getElem hl)
    rw [hw] at hy
    cases hy
    refine ⟨by rw [wipe_set hj, wipe_wipe], ?_⟩
    exact lc_turnIf (B'.set (rw'.mono B'.base)) B' (turn i _ acc μ2 p (List.getElem?_eq_getElem hl) hP hp2)
  · rw [ra.length] at hP
    exact lc_end (k.after e1) hp2 (fin acc μ2 p hP hp2) B'
theorem d_lcRI {x : Str} {scope : Scope} {rp ip tp cp : Pos} {own : List (Str × Nat)} {vs : List Nat} (j : Nat)
    (h : dA X G0 [a] δ μ fun ns μ1 => ∃ n : Int, ns = [.int n] ∧ n < 2 ^ 62 ∧ -(2 ^ 62) ≤ n ∧ ∃ Pv : Nat → List D → Mu → Prop, Pv 0 [] μ1 ∧ (∀ (i : Nat) acc μ2 p, i < n.toNat → Pv i acc μ2 → μ2 p = none → LcTurnIf X scope elt c p acc ((wipeD δ vs).set j (some (.int i))) μ2 (Pv (i + 1))) ∧ ∀ acc μ2 p, Pv n.toNat acc μ2 → μ2 p = none → Φ (.ref p) (updM μ2 p (.lst acc)))
    (hb : blkC X.N X.env.scope scope own = true := by kernel_rfl) (hj : j ∈ vs := by decide) (hv : own.map (·.2) = vs := by rfl) (hN : X.N.Nodup := by assumption) (hc : X.calm = true := by rfl)
    (hi : X.N[j]? = some x := by rfl) (hx : ∀ s H C cl fp, Loc (BX X scope s H C cl fp).env.scope x := by first | exact fun _ _ _ _ _ => Or.inl rfl | exact fun _ _ _ _ _ => Or.inr rfl) (hf : ∀ s H C cl fp, (BX X scope s H C cl fp).fn x = true ∨ (BX X scope s H C cl fp).env.scope.names.lookup x = some .local := by first | exact fun _ _ _ _ _ => .inr rfl | exact fun _ _ _ _ _ => .inl rfl)
    (hm : X.mg "range" = none := by assumption) (hg : Gl X "range" := by rfl) (hst : starEach [a] X.env = [(false, eval a X.env)] := by rfl)
    (hs : ∀ x, foldedSetIterable (.Call (.Name "range" rp) [a] [] ip) X.env x = pure x := by intro _; rfl) : dE X G0 (.ListComp elt [⟨.Name x tp, .Call (.Name "range" rp) [a] [] ip, [c], 0⟩] scope cp) δ μ Φ := fun σ H B Q k => by
  refine wE_of (pe_lc hc hN (pi_range1 hg hm pa_w hst) (blkOk_by hb) (fun s H C cl fp => pg_name (i := j) hN hi (hx s H C cl fp) (hf s H C cl fp)) (fun s H C cl fp => pts_one (⟨fun pins s' σ' H' Q' I q => q s H C cl fp pins s' I⟩ : PT _ _ (wTs X scope c))) (fun s H C cl fp => (⟨fun pins s' σ' H' Q' I q => q s H C cl fp pins s' I⟩ : PE _ _ (wEs X scope elt))) hs) ?_
  rw [hv]
  refine h σ H B _ fun vs' H1 ds μ1 q m1 e1 r1 => ?_
  obtain ⟨n, rfl, b1, b2, Pv, p0, turn, fin⟩ := q
  obtain ⟨v, rfl, r2⟩ := rp1 r1
  cases rp_int r2
  have B1 := (B.step m1 e1).wipe vs
  refine ⟨n, rfl, b2, b1, fun p hp => ?_⟩
  have hi0 : Im (updM μ1 p (.lst [])) (upd H1 p (.lst [])) = Im μ1 H1 := im_new hp
  have B2 : Bd X.K (Im μ1 H1) (wipeD δ vs) (updM μ1 p (.lst [])) (L2.wipe σ vs) (upd H1 p (.lst [])) := B1.rebase.step (m1.upd hi0 .nil) (by rw [hi0]; exact Sub.refl _)
  refine lc_range (lo := 0) (n := n.toNat) (fun i H' => ∃ acc μ2, Pv i acc μ2 ∧ μ2 p = none ∧ Bd X.K (Im μ1 H1) (wipeD δ vs) (updM μ2 p (.lst acc)) (L2.wipe σ vs) H') ⟨[], μ1, p0, mu_free m1 hp, B2⟩ (fun i H' hl ⟨acc, μ2, hP, hp2, B'⟩ => ?_) (fun H' ⟨acc, μ2, hP, hp2, B'⟩ => ?_)
  · refine ⟨by rw [wipe_set hj, wipe_wipe], ?_⟩
    have e0 : (0 : Int) + (i : Int) = (i : Int) := Int.zero_add _
    rw [e0]
    exact lc_turnIf (B'.set (.int _)) B' (turn i acc μ2 p hl hP hp2)
  · exact lc_end (k.after e1) hp2 (fin acc μ2 p hP hp2) B'
end
end DL

namespace DL
open PySem PySem.Spec PyProof.Rows L2
section
variable {X : Cx} {G0 : Hp} {e a b c it elt o : Expr} {es rest : List Expr} {sts : List Stmt} {δ : List (Option D)} {μ : Mu} {Φ : DK} {pos apos : Pos} {K : PySem.W.Frag} {H G : Hp} {Q : VK} {E : DEnds} {xs ys : List D} {z y : Str} {i j : Int}
/-! ### stores to what has parts -/
/-- x, y = e -/
theorem s_unp {tg : Expr} (h : dE X G0 e δ μ fun d μ1 => dTg X tg d δ fun δ2 => E.nx δ2 μ1) (hs : swapsWithSole [tg] e pos.line X.env = pure false := by rfl) (hw : swappedStores [tg] e X.env = pure none := by rfl) (h1 : (assignEach [tg] X.env).map (·.2) = [assign tg X.env] := by rfl) : dS X G0 (.Assign [tg] e pos) δ μ E := fun σ H B => by
  refine wS_of (ps_asg pe_w pg_w hs hw h1) ?_
  refine h.go B fun v H1 d μ1 q m1 e1 r1 => ?_
  exact q G0 μ1 σ H1 v (B.step m1 e1) r1 _ fun δ2 σ2 q2 B2 => ⟨δ2, μ1, q2, B2⟩
/-- a, b, c = a tuple of three -/
theorem g_trip {i j k : Nat} {x y w : Str} {px py pw : Pos} {kk : Nat} {d1 d2 d3 : D} {Ψ : List (Option D) → Prop} (h : Ψ (((δ.set i (some d1)).set j (some d2)).set k (some d3))) (hN : X.N.Nodup := by assumption) (hc : X.calm = true := by rfl) (hi : X.N[i]? = some x := by rfl) (hj : X.N[j]? = some y := by rfl) (hk : X.N[k]? = some w := by rfl)
    (hx : Loc X.env.scope x := by first | exact Or.inl rfl | exact Or.inr rfl) (hy : Loc X.env.scope y := by first | exact Or.inl rfl | exact Or.inr rfl) (hz : Loc X.env.scope w := by first | exact Or.inl rfl | exact Or.inr rfl)
    (hf : X.fn x = true ∨ X.env.scope.names.lookup x = some .local := by first | exact .inl rfl | exact .inr rfl) (hf2 : X.fn y = true ∨ X.env.scope.names.lookup y = some .local := by first | exact .inl rfl | exact .inr rfl) (hf3 : X.fn w = true ∨ X.env.scope.names.lookup w = some .local := by first | exact .inl rfl | exact .inr rfl)
    (hs1 : (assignEach [.Name x px, .Name y py, .Name w pw] X.env).map (·.2) = assign (.Name x px) X.env :: (assignEach [.Name y py, .Name w pw] X.env).map (·.2) := by rfl) (hs2 : (assignEach [.Name y py, .Name w pw] X.env).map (·.2) = assign (.Name y py) X.env :: (assignEach [.Name w pw] X.env).map (·.2) := by rfl) (hs3 : (assignEach [.Name w pw] X.env).map (·.2) = assign (.Name w pw) X.env :: (assignEach [] X.env).map (·.2) := by rfl)
    (hn : (assignEach [.Name x px, .Name y py, .Name w pw] X.env).length = 3 := by rfl) (hst : (assignEach [.Name x px, .Name y py, .Name w pw] X.env).findIdx? (·.1) = none := by rfl) : dTg X (.Tuple [.Name x px, .Name y py, .Name w pw] kk pos) (.tup [d1, d2, d3]) δ Ψ := fun G0 μ σ H v B r Q kq => by
  refine gW_of (pg_tup (n := 3) hc (pgs_cons (pg_name (i := i) hN hi hx hf) (pgs_cons (pg_name (i := j) hN hj hy hf2) (pgs_cons (pg_name (i := k) hN hk hz hf3) pgs_nil hs3) hs2) hs1) hn hst) ?_
  obtain ⟨p, vs, rfl, ha, ra⟩ := rp_tup_at r
  cases ra with
  | cons r1 ra =>
    obtain ⟨v2, v3, rfl, r2, r3⟩ := rp2 ra
    exact ⟨p, [_, v2, v3], rfl, SqT.of ha, rfl, _, [v2, v3], rfl, v2, [v3], rfl, v3, [], rfl, rfl, kq _ _ h (((B.set r1).set r2).set r3)⟩
/-! ### numbers and texts -/
theorem c_divmod (hd : CDivP i j) (q : Φ (.tup [.int (i / j), .int (i % j)]) μ) : dCall X (.builtin "divmod") [.int i, .int j] μ Φ := fun vs H r m Q k => by
  obtain ⟨v, u, rfl, r1, r2⟩ := rp2 r
  cases rp_int r1
  cases rp_int r2
  exact wCall_of call_divmodW ⟨i, j, rfl, hd, fun p hp => k.new m hp q (rp_tup m hp (.cons (.int _) (.cons (.int _) .nil)))⟩
theorem c_str (hl : i.natAbs.log2 < 1920) (q : Φ (.str (toString i)) μ) : dCall X (.type "str") [.int i] μ Φ := fun vs H r m Q k => by
  obtain ⟨v, rfl, r1⟩ := rp1 r
  cases rp_int r1
  exact wCall_of call_str_int ⟨i, rfl, hl, k.val m q (.str _)⟩
theorem c_intT {n : Int} (hn : PySem.intText? z = some n) (hl : z.length ≤ 640) (q : Φ (.int n) μ) : dCall X (.type "int") [.str z] μ Φ := fun vs H r m Q k => by
  obtain ⟨v, rfl, r1⟩ := rp1 r
  cases rp_str r1
  exact wCall_of call_int_str ⟨z, n, rfl, hn, hl, k.val m q (.int _)⟩
/-! ### methods of texts -/
def wM (X : Cx) (id : String) (x : V) (xs : List V) (H : Hp) (Q : VK) : Prop := ∀ (pins : List (Addr × Obj)) (s : Shared) (σ : L2.St) (v : Value) (us : List Value), Inv X pins σ H s → RelV x v → Vals xs us → wpAny (model X.prog X.w) X.A (call (.builtin id) (v :: us)) (EP X pins σ Q) X.xe s
theorem mt_w {id : String} : MtR X id (wM X id) := fun pins s σ H x xs v us Q I r1 r2 h => h pins s σ v us I r1 r2
theorem wM_of {id : String} {r : V → List V → Hp → VK → Prop} {x : V} {xs : List V} (h : MtR X id r) (q : r x xs H Q) : wM X id x xs H Q := fun pins s σ v us I r1 r2 => h pins s σ H x xs v us Q I r1 r2 q
/-- a method of a text, at data -/
def dM (X : Cx) (id : String) (x : Str) (ys : List D) (μ : Mu) (Φ : DK) : Prop := ∀ vs H, RpAll X.K (Im μ H) vs ys → MuOk X.K μ H → ∀ Q, KP X.K μ H Φ Q → wM X id (.str x) vs H Q
theorem d_m0 {id : String} {name : Str} (slot : Slot "str" name id) (ty : typeOf (.builtin id) = pure (.type "method_descriptor")) (h : dE X G0 o δ μ fun d μ1 => ∃ x, d = .str x ∧ dM X id x [] μ1 Φ) (hbase : attributeBase o name X.env (eval o X.env) = eval o X.env := by rfl) (hline : (apos.endLine == pos.line) = true := by rfl) : dE X G0 (.Call (.Attribute o name apos) [] [] pos) δ μ Φ := fun σ H B Q k => by
  refine wE_of (pe_m0 slot ty mt_w pe_w hbase hline) ?_
  refine dE.go h B fun v H1 d μ1 q m1 e1 r1 => ?_
  obtain ⟨x, rfl, q⟩ := q
  cases rp_str r1
  exact ⟨⟨_, rfl⟩, q [] H1 .nil m1 Q (k.after e1)⟩
theorem d_m1 {id : String} {name : Str} (slot : Slot "str" name id) (ty : typeOf (.builtin id) = pure (.type "method_descriptor")) (h : dE X G0 o δ μ fun d μ1 => ∃ x, d = .str x ∧ dE X G0 e δ μ1 fun y μ2 => dM X id x [y] μ2 Φ) (hs : starEach [e] X.env = [(false, eval e X.env)] := by rfl) (hbase : attributeBase o name X.env (eval o X.env) = eval o X.env := by rfl) (hline : (apos.endLine == pos.line) = true := by rfl) : dE X G0 (.Call (.Attribute o name apos) [e] [] pos) δ μ Φ := fun σ H B Q k => by
  refine wE_of (pe_m1 slot ty mt_w pe_w pe_w hs hbase hline) ?_
  refine dE.go h B fun v H1 d μ1 q m1 e1 r1 => ?_
  obtain ⟨x, rfl, q⟩ := q
  cases rp_str r1
  refine ⟨⟨_, rfl⟩, ?_⟩
  refine q.go (B.step m1 e1) fun u H2 y μ2 q2 m2 e2 r2 => ?_
  exact q2 [u] H2 (.cons r2 .nil) m2 Q (k.after (e1.trans e2))
theorem m_isdigit (q : Φ (.bl (Txt.isdigit z)) μ) : dM X "str.isdigit" z [] μ Φ := fun vs H r m Q k => by
  cases r
  exact wM_of mt_isdigit ⟨z, rfl, rfl, trivial, k.val m q (.bl _)⟩
theorem m_isascii (q : Φ (.bl (Txt.isascii z)) μ) : dM X "str.isascii" z [] μ Φ := fun vs H r m Q k => by
  cases r
  exact wM_of mt_isascii ⟨z, rfl, rfl, trivial, k.val m q (.bl _)⟩
theorem m_removeprefix (hl : z.length ≤ sizeLine) (q : Φ (.str (Txt.removeprefix z y)) μ) : dM X "str.removeprefix" z [.str y] μ Φ := fun vs H r m Q k => by
  obtain ⟨v, rfl, r1⟩ := rp1 r
  cases rp_str r1
  exact wM_of mt_removeprefix ⟨z, y, rfl, rfl, hl, k.val m q (.str _)⟩
theorem m_zfill (hp : PadOk i = true) (q : Φ (.str (Txt.zfill z i)) μ) : dM X "str.zfill" z [.int i] μ Φ := fun vs H r m Q k => by
  obtain ⟨v, rfl, r1⟩ := rp1 r
  cases rp_int r1
  exact wM_of mt_zfill ⟨z, i, rfl, rfl, hp, k.val m q (.str _)⟩
theorem m_partition (hy : (y.length == 0) = false) (hl : z.length ≤ sizeLine) (q : Φ (.tup [.str (Txt.partition z y).1, .str (Txt.partition z y).2.1, .str (Txt.partition z y).2.2]) μ) : dM X "str.partition" z [.str y] μ Φ := fun vs H r m Q k => by
  obtain ⟨v, rfl, r1⟩ := rp1 r
  cases rp_str r1
  exact wM_of mt_partition ⟨z, y, rfl, rfl, hy, hl, fun p hp => k.new m hp q (rp_tup m hp (.cons (.str _) (.cons (.str _) (.cons (.str _) .nil))))⟩
theorem rp_strs : ∀ {ws : List Str}, RpAll K G (ws.map V.str) (ws.map D.str)
  | [] => .nil
  | w :: ws => .cons (.str w) rp_strs
theorem m_split (hy : (y.length == 0) = false) (hl : z.length + 2 ≤ sizeLine) (q : Φ (.lst ((Txt.split z y).map .str)) μ) : dM X "str.split" z [.str y] μ Φ := fun vs H r m Q k => by
  obtain ⟨v, rfl, r1⟩ := rp1 r
  cases rp_str r1
  exact wM_of mt_split ⟨z, y, rfl, rfl, hy, hl, fun p hp => k.new m hp q (rp_lst m hp rp_strs)⟩
/-- a name of the top that holds a plain value -/
theorem d_gc {x : Str} {v : V} {d : D} (h : ∃ u, X.mg x = some u ∧ RelV v u) (r : ∀ G, Rp X.K G v d) (q : Φ d μ) (hg : Gl X x := by rfl) (hd : (x == ("__debug__" : Str)) = false := by decide) : dE X G0 (.Name x pos) δ μ Φ := fun σ H B Q k => wE_of (C8.pe_gc hg h hd) (k.val B.mu q (r _))
/-! ### parts of texts -/
theorem x_str {n : Nat} (hl : z.length ≤ sizeLine) (hc : atI z.cps.toList i = some n) (q : Φ (.str ⟨#[n]⟩) μ) : dIx X (.str z) (.int i) μ Φ := fun v u H r1 r2 m Q k => by
  cases rp_str r1
  cases rp_int r2
  exact wIx_of ix_str ⟨z, i, n, rfl, rfl, hl, hc, k.val m q (.str _)⟩
theorem sl_strD {lo hi : Option Int} (hl : z.length ≤ sizeLine) (q : Φ (.str (cutS z lo hi)) μ) : dSl X (.str z) lo hi μ Φ := fun v H r m Q k => by
  cases rp_str r
  exact wSl_of sl_str ⟨z, rfl, hl, k.val m q (.str _)⟩
theorem o_inS {n : Nat} (q : Φ (.bl (decide (n ∈ y.cps.toList))) μ) : dOp X (compareOp .In) (.str ⟨#[n]⟩) (.str y) μ Φ := fun v u H r1 r2 m Q k => by
  cases rp_str r1
  cases rp_str r2
  exact wOp_of op_in_sign ⟨n, y, rfl, rfl, k.val m q (.bl _)⟩
end
end DL

namespace DL
open PySem PySem.Spec PyProof.Rows L2
section
variable {X : Cx} {G0 : Hp} {e a b c it elt o : Expr} {es rest : List Expr} {sts : List Stmt} {δ : List (Option D)} {μ : Mu} {Φ : DK} {pos apos : Pos} {K : PySem.W.Frag} {H G : Hp} {Q : VK} {E : DEnds} {xs ys : List D}
/-- the signs of a text, one by one -/
theorem walk_sign (a : List Nat) : Walk (Its (SX.S a)) a.length (fun _ => True) (fun i H v H' => H' = H ∧ ∃ c, a[i]? = some c ∧ v = .str ⟨#[c]⟩) :=
  ⟨fun i _ hi _ => hi, fun _ _ => Nat.le_refl _, fun i _ _ _ _ _ y => by
    obtain ⟨e, c, h1, h2⟩ := y
    refine ⟨e, c, ?_, h2⟩
    rw [← h1]
    simp⟩
/-- [e for x in a text] -/
theorem d_lcS {x : Str} {scope : Scope} {tp cp : Pos} {own : List (Str × Nat)} {vs : List Nat} (j : Nat)
    (h : dE X G0 it δ μ fun d μ1 => ∃ ds : List Nat, d = .str (SX.S ds) ∧ ∃ Pv : Nat → List D → Mu → Prop, Pv 0 [] μ1 ∧ (∀ (i : Nat) d acc μ2 p, ds[i]? = some d → Pv i acc μ2 → μ2 p = none → LcTurn X scope elt p acc ((wipeD δ vs).set j (some (.str ⟨#[d]⟩))) μ2 (Pv (i + 1))) ∧ ∀ acc μ2 p, Pv ds.length acc μ2 → μ2 p = none → Φ (.ref p) (updM μ2 p (.lst acc)))
    (hb : blkC X.N X.env.scope scope own = true := by kernel_rfl) (hj : j ∈ vs := by decide) (hv : own.map (·.2) = vs := by rfl) (hN : X.N.Nodup := by assumption) (hc : X.calm = true := by rfl)
    (hi : X.N[j]? = some x := by rfl) (hx : ∀ s H C cl fp, Loc (BX X scope s H C cl fp).env.scope x := by first | exact fun _ _ _ _ _ => Or.inl rfl | exact fun _ _ _ _ _ => Or.inr rfl) (hf : ∀ s H C cl fp, (BX X scope s H C cl fp).fn x = true ∨ (BX X scope s H C cl fp).env.scope.names.lookup x = some .local := by first | exact fun _ _ _ _ _ => .inr rfl | exact fun _ _ _ _ _ => .inl rfl)
    (hs : ∀ x, foldedSetIterable it X.env x = pure x := by intro _; rfl) : dE X G0 (.ListComp elt [⟨.Name x tp, it, [], 0⟩] scope cp) δ μ Φ := fun σ H B Q k => by
  refine wE_of (pe_lc hc hN (pi_str pe_w) (blkOk_by hb) (fun s H C cl fp => pg_name (i := j) hN hi (hx s H C cl fp) (hf s H C cl fp)) (fun _ _ _ _ _ => pts_nil) (fun s H C cl fp => (⟨fun pins s' σ' H' Q' I q => q s H C cl fp pins s' I⟩ : PE _ _ (wEs X scope elt))) hs) ?_
  rw [hv]
  refine h σ H B _ fun v H1 d μ1 q m1 e1 r1 => ?_
  obtain ⟨ds, rfl, Pv, p0, turn, fin⟩ := q
  cases rp_str r1
  have B1 := (B.step m1 e1).wipe vs
  refine ⟨_, rfl, fun p hp => ?_⟩
  have hi0 : Im (updM μ1 p (.lst [])) (upd H1 p (.lst [])) = Im μ1 H1 := im_new hp
  have B2 : Bd X.K (Im μ1 H1) (wipeD δ vs) (updM μ1 p (.lst [])) (L2.wipe σ vs) (upd H1 p (.lst [])) := B1.rebase.step (m1.upd hi0 .nil) (by rw [hi0]; exact Sub.refl _)
  refine lc_it (walk_sign ds) (fun i H' => ∃ acc μ2, Pv i acc μ2 ∧ μ2 p = none ∧ Bd X.K (Im μ1 H1) (wipeD δ vs) (updM μ2 p (.lst acc)) (L2.wipe σ vs) H') ⟨[], μ1, p0, mu_free m1 hp, B2⟩ (fun _ _ _ _ => trivial) (fun i y H' H2 hi' ⟨acc, μ2, hP, hp2, B'⟩ hy => ?_) (fun H' ⟨acc, μ2, hP, hp2, B'⟩ => ?_)
  · obtain ⟨rfl, c, hc2, rfl⟩ := hy
    refine ⟨by rw [wipe_set hj, wipe_wipe], ?_⟩
    exact lc_turn (B'.set (.str _)) B' (turn i c acc μ2 p hc2 hP hp2)
  · exact lc_end (k.after e1) hp2 (fin acc μ2 p hP hp2) B'
/-! ### a text, repeated -/
theorem ops_rep {X : Cx} : OpR X (binaryOp .Mult) (fun x y H Q => ∃ z n, x = .str z ∧ y = .int n ∧ PySem.MulOk z n ∧ Q (.str (Txt.mul z n)) H) := by
  intro pins s σ H x y v u Q I rx ry h
  obtain ⟨z, n, rfl, rfl, hz, q⟩ := h
  obtain ⟨t, rfl⟩ := rx
  obtain ⟨t2, rfl⟩ := ry
  exact SB.mul hz fun t' tk => ⟨V.str (Txt.mul z n), H, I.tok _, ⟨_, rfl⟩, q⟩
theorem o_repS {z : Str} {i : Int} (hz : PySem.MulOk z i) (q : Φ (.str (Txt.mul z i)) μ) : dOp X (binaryOp .Mult) (.str z) (.int i) μ Φ := fun v u H r1 r2 m Q k => by
  rw [rp_str r1, rp_int r2]
  exact wOp_of ops_rep ⟨z, i, rfl, rfl, hz, k.val m q (.str _)⟩
end
end DL

namespace RZ
open PySem PySem.Spec PyProof.Rows L2
theorem walk_zipT {K : PySem.W.Frag} {a b : Addr} {xs ys : List V} {n : Nat} (hn : n = min xs.length ys.length) : Walk (ItzT K a b) n (fun H => SqT K H a xs ∧ SqT K H b ys) (YPair (fun i => xs[i]?) (fun i => ys[i]?)) := by
  subst hn
  refine ⟨fun i _ hi q => ?_, fun _ q => ⟨xs, ys, q.1, q.2, by omega⟩, fun i H v H' _ q y => ?_⟩
  · have h1 : i < xs.length := by omega
    have h2 : i < ys.length := by omega
    exact ⟨xs, ys, xs[i], ys[i], q.1, q.2, by simp [h1], by simp [h2]⟩
  · obtain ⟨T, x, z, h1, h2, h3, h4, h5⟩ := y
    exact ⟨T, x, z, h1, h2, h3, h4 xs q.1, h5 ys q.2⟩
end RZ
namespace DL
open PySem PySem.Spec PyProof.Rows L2
section
variable {X : Cx} {G0 : Hp} {e e2 a b c it elt o tg : Expr} {es rest : List Expr} {sts body : List Stmt} {δ : List (Option D)} {μ : Mu} {Φ : DK} {pos apos : Pos} {K : PySem.W.Frag} {H G : Hp} {Q : VK} {E : DEnds} {xs ys : List D}
/-- two lists, or two tuples, side by side -/
def Side (ds : List D) (xs ys : List D) : Prop := ds = [.lst xs, .lst ys] ∨ ds = [.tup xs, .tup ys]
/-- for .. in zip(..) -/
theorem s_forZ {elts : List Expr} {kk : Nat} {tpos p ip : Pos} (xs ys : List D) (h : dA X G0 [e, e2] δ μ fun ds μ1 => Side ds xs ys ∧ ∃ Pv : Nat → List (Option D) → Mu → Prop, Pv 0 δ μ1 ∧
      (∀ (i : Nat) x y δ' μ', xs[i]? = some x → ys[i]? = some y → Pv i δ' μ' → dTg X (.Tuple elts kk tpos) (.tup [x, y]) δ' fun δ2 => ∀ G1, Sub G0 G1 → dSs X G1 body δ2 μ' { E with nx := Pv (i + 1), ct := Pv (i + 1), bk := E.nx }) ∧ ∀ δ' μ', Pv (min xs.length ys.length) δ' μ' → E.nx δ' μ')
    (hm : X.mg "zip" = none := by assumption) (hg : Gl X "zip" := by rfl) (hp : PassesOwn (model X.prog X.w) X.A X.env X.xe := by assumption) (hc : X.calm = true := by rfl)
    (hst : starEach [e, e2] X.env = (false, eval e X.env) :: starEach [e2] X.env := by rfl) (hpl : (backTo ip (starEach [e2] X.env)).any (·.1) = false := by rfl)
    (hs : ∀ x, foldedSetIterable (.Call (.Name "zip" p) [e, e2] [] ip) X.env x = pure x := by intro _; rfl) : dS X G0 (.For (.Tuple elts kk tpos) (.Call (.Name "zip" p) [e, e2] [] ip) body [] pos) δ μ E := fun σ H B => by
  refine wS_of (ps_for hp hc (RZ.pi_zipA hg hm pa_w hst hpl) pg_w pss_w hs) ?_
  refine h σ H B _ fun vs H1 ds μ1 ⟨ed, Pv, p0, turn, fin⟩ m1 e1 r1 => ?_
  have B1 := B.step m1 e1
  have go : ∀ (ws us : List V), RpAll X.K (Im μ1 H1) ws xs → RpAll X.K (Im μ1 H1) us ys → ∀ (i : Nat) (v : V) (σ' : L2.St) (H' H'' : Hp), i < min xs.length ys.length → (∃ δ' μ', Pv i δ' μ' ∧ Bd X.K (Im μ1 H1) δ' μ' σ' H') → YPair (fun i => ws[i]?) (fun i => us[i]?) i H' v H'' →
      gW X (.Tuple elts kk tpos) v σ' H'' fun σ2 H2 => wSs X body { dEn X.K G0 E with nx := fun σ H => ∃ δ' μ', Pv (i + 1) δ' μ' ∧ Bd X.K (Im μ1 H1) δ' μ' σ H, ct := fun σ H => ∃ δ' μ', Pv (i + 1) δ' μ' ∧ Bd X.K (Im μ1 H1) δ' μ' σ H, bk := (dEn X.K G0 E).nx } σ2 H2 := by
    rintro ws us ra rb i v σ' H' H'' hi ⟨δ', μ', hP, B'⟩ ⟨T, x, y, rfl, hT, rfl, hx, hy⟩
    have h1 : i < xs.length := by omega
    have h2 : i < ys.length := by omega
    obtain ⟨w', hw, rw'⟩ := ra.get (List.getElem?_eq_getElem h1)
    obtain ⟨u', hu, ru'⟩ := rb.get (List.getElem?_eq_getElem h2)
    have e1' : x = w' := Option.some.inj (hx.symm.trans hw)
    have e2' : y = u' := Option.some.inj (hy.symm.trans hu)
    subst e1' e2'
    have B'' := B'.ext (sub_new (o := .tup [x, y]) hT)
    refine turn i _ _ δ' μ' (List.getElem?_eq_getElem h1) (List.getElem?_eq_getElem h2) hP (Im μ1 H1) μ' σ' _ _ B'' (rp_tup B'.mu hT (.cons (rw'.mono B'.base) (.cons (ru'.mono B'.base) .nil))) _ fun δ2 σ2 q B2 => ?_
    refine wSs_mono ?_ (q (Im μ1 H1) B1.base σ2 _ B2)
    exact ⟨fun _ _ q => q, fun v H ⟨d, μ, q, m, e, r⟩ => ⟨d, μ, q, m, B1.base.trans e, r⟩, fun _ _ ⟨δ, μ, q, B⟩ => ⟨δ, μ, q, B.weaken B1.base⟩, fun _ _ q => q⟩
  rcases ed with rfl | rfl
  · obtain ⟨v, u, rfl, r1, r2⟩ := rp2 r1
    obtain ⟨a, ws, rfl, hG, ra⟩ : ∃ a vs, v = .ref a ∧ Im μ1 H1 a = some (.lst vs) ∧ RpAll X.K (Im μ1 H1) vs xs := by
      cases r1 with
      | lst h r => exact ⟨_, _, rfl, h, r⟩
    obtain ⟨b, us, rfl, hG2, rb⟩ : ∃ a vs, u = .ref a ∧ Im μ1 H1 a = some (.lst vs) ∧ RpAll X.K (Im μ1 H1) vs ys := by
      cases r2 with
      | lst h r => exact ⟨_, _, rfl, h, r⟩
    refine ⟨a, b, ws, us, rfl, .inl ⟨SqL.of (im_all _ _ hG), SqL.of (im_all _ _ hG2), ?_⟩⟩
    refine for_it (walk_zip (n := min xs.length ys.length) (by rw [ra.length, rb.length])) (fun i σ' H' => ∃ δ' μ', Pv i δ' μ' ∧ Bd X.K (Im μ1 H1) δ' μ' σ' H') ⟨δ, μ1, p0, B1.rebase⟩ (fun i σ' H' _ ⟨δ', μ', _, B'⟩ => ⟨SqL.of (im_all _ _ (B'.base _ _ hG)), SqL.of (im_all _ _ (B'.base _ _ hG2))⟩) (fun i v σ' H' H'' hi hP y => go ws us ra rb i v σ' H' H'' hi hP y) (fun σ' H' ⟨δ', μ', hP, B'⟩ => ⟨δ', μ', fin δ' μ' hP, B'.weaken B1.base⟩)
  · obtain ⟨v, u, rfl, r1, r2⟩ := rp2 r1
    obtain ⟨a, ws, rfl, hG, ra⟩ : ∃ a vs, v = .ref a ∧ Im μ1 H1 a = some (.tup vs) ∧ RpAll X.K (Im μ1 H1) vs xs := by
      cases r1 with
      | tup h r => exact ⟨_, _, rfl, h, r⟩
    obtain ⟨b, us, rfl, hG2, rb⟩ : ∃ a vs, u = .ref a ∧ Im μ1 H1 a = some (.tup vs) ∧ RpAll X.K (Im μ1 H1) vs ys := by
      cases r2 with
      | tup h r => exact ⟨_, _, rfl, h, r⟩
    refine ⟨a, b, ws, us, rfl, .inr ⟨SqT.of (im_all _ _ hG), SqT.of (im_all _ _ hG2), ?_⟩⟩
    refine for_it (RZ.walk_zipT (n := min xs.length ys.length) (by rw [ra.length, rb.length])) (fun i σ' H' => ∃ δ' μ', Pv i δ' μ' ∧ Bd X.K (Im μ1 H1) δ' μ' σ' H') ⟨δ, μ1, p0, B1.rebase⟩ (fun i σ' H' _ ⟨δ', μ', _, B'⟩ => ⟨SqT.of (im_all _ _ (B'.base _ _ hG)), SqT.of (im_all _ _ (B'.base _ _ hG2))⟩) (fun i v σ' H' H'' hi hP y => go ws us ra rb i v σ' H' H'' hi hP y) (fun σ' H' ⟨δ', μ', hP, B'⟩ => ⟨δ', μ', fin δ' μ' hP, B'.weaken B1.base⟩)
/-- list + list, the new one may change -/
theorem o_catN (q : xs.length + ys.length ≤ sizeLine ∧ ∀ p, μ p = none → Φ (.ref p) (updM μ p (.lst (xs ++ ys)))) : dOp X (binaryOp .Add) (.lst xs) (.lst ys) μ Φ := fun v u H r1 r2 m Q k => by
  obtain ⟨a, vs, rfl, ha, ra⟩ := rp_lst_at r1
  obtain ⟨b, ws, rfl, hb, rb⟩ := rp_lst_at r2
  exact wOp_of op_cat ⟨a, b, vs, ws, rfl, rfl, ha, hb, by rw [ra.length, rb.length]; exact q.1, fun p hp => k.newM m hp (ra.append rb) q.2⟩
end
end DL

namespace DL
open PySem PySem.Spec PyProof.Rows L2
structure Low (r : Int × Int) : Prop where
  pos : 0 < r.2
  low : Int.gcd r.1 r.2 = 1
theorem fmod_natAbs (a b : Int) (h : b ≠ 0) : (a.fmod b).natAbs < b.natAbs := by
  rcases Int.lt_trichotomy b 0 with hb | hb | hb
  · have e : a.fmod b = -((-a).fmod (-b)) := by rw [Int.neg_fmod_neg]; omega
    have h1 := Int.fmod_nonneg_of_pos (-a) (b := -b) (by omega)
    have h2 := Int.fmod_lt_of_pos (-a) (b := -b) (by omega)
    omega
  · exact absurd hb h
  · have h1 := Int.fmod_nonneg_of_pos a hb
    have h2 := Int.fmod_lt_of_pos a hb
    omega
theorem gcd_fmod (x y : Int) : Int.gcd y (x.fmod y) = Int.gcd x y := by
  rw [Int.fmod_def, Int.mul_comm, Int.gcd_sub_mul_right_right, Int.gcd_comm]
theorem abs_gcd (x : Int) : (if x < 0 then -x else x) = (Int.gcd x 0 : Int) := by
  rw [Int.gcd_zero_right]
  split <;> omega
def spGcd : DSp := fun ds μ Φ _ => ∃ a b : Int, ds = [.int a, .int b] ∧ Φ (.int (Int.gcd a b)) μ
/-! ratios -/
/-- the divisor with the bottom's sign; top and bottom in lowest terms -/
def rG (a b : Int) : Int := if b < 0 then -(Int.gcd a b : Int) else (Int.gcd a b : Int)
def rT (a b : Int) : Int := a.fdiv (rG a b)
def rB (a b : Int) : Int := b.fdiv (rG a b)
def rat (a b : Int) : D := .tup [.int (rT a b), .int (rB a b)]
theorem rG_ne {a b : Int} (h : b ≠ 0) : rG a b ≠ 0 := by
  have h1 : (Int.gcd a b : Int) ≠ 0 := by
    intro z
    have z' : Int.gcd a b = 0 := by omega
    exact h (Int.gcd_eq_zero_iff.mp z').2
  unfold rG
  split <;> omega
theorem log2_le {i : Int} {n : Nat} (h : i.natAbs < 2 ^ n) (h0 : 0 < n) : i.natAbs.log2 < n := PySem.Flt.log2_lt_of h0 h
theorem rG_abs (a b : Int) : (rG a b).natAbs = Int.gcd a b := by
  unfold rG
  split <;> omega
theorem gcd_le {a b : Int} (h : b ≠ 0) : Int.gcd a b ≤ b.natAbs := Nat.le_of_dvd (by omega) (Int.gcd_dvd_natAbs_right a b)
theorem rG_div {a b : Int} (h : b ≠ 0) {n : Nat} (hb : b.natAbs < 2 ^ n) (hn : n ≤ 9000) (h0 : 0 < n) (x : Int) : CDivX x (rG a b) := by
  refine ⟨rG_ne h, ?_⟩
  rw [rG_abs]
  have h1 : Int.gcd a b < 2 ^ n := Nat.lt_of_le_of_lt (gcd_le h) hb
  exact Nat.lt_of_lt_of_le (PySem.Flt.log2_lt_of h0 h1) hn

theorem rG_dvdL (a b : Int) : rG a b ∣ a := by
  unfold rG
  split
  · exact Int.neg_dvd.mpr (Int.gcd_dvd_left a b)
  · exact Int.gcd_dvd_left a b
theorem rG_dvdR (a b : Int) : rG a b ∣ b := by
  unfold rG
  split
  · exact Int.neg_dvd.mpr (Int.gcd_dvd_right a b)
  · exact Int.gcd_dvd_right a b
theorem rT_mul (a b : Int) : rT a b * rG a b = a := by
  unfold rT
  rw [Int.fdiv_eq_ediv_of_dvd (rG_dvdL a b)]
  exact Int.ediv_mul_cancel (rG_dvdL a b)
theorem rB_mul (a b : Int) : rB a b * rG a b = b := by
  unfold rB
  rw [Int.fdiv_eq_ediv_of_dvd (rG_dvdR a b)]
  exact Int.ediv_mul_cancel (rG_dvdR a b)
theorem rG_pos {a b : Int} (h : 0 < b) : 0 < rG a b := by
  have := rG_ne (a := a) (b := b) (by omega)
  unfold rG at this ⊢
  rw [if_neg (by omega)] at this ⊢
  omega
theorem rG_neg {a b : Int} (h : b < 0) : rG a b < 0 := by
  have := rG_ne (a := a) (b := b) (by omega)
  unfold rG at this ⊢
  rw [if_pos h] at this ⊢
  omega
theorem rB_pos {a b : Int} (h : b ≠ 0) : 0 < rB a b := by
  have e := rB_mul a b
  rcases Int.lt_or_gt_of_ne h with h | h
  · have g := rG_neg (a := a) h
    refine Classical.byContradiction fun z => ?_
    have := Int.mul_nonneg_of_nonpos_of_nonpos (show rB a b ≤ 0 by omega) (show rG a b ≤ 0 by omega)
    omega
  · have g := rG_pos (a := a) h
    refine Classical.byContradiction fun z => ?_
    have := Int.mul_nonpos_of_nonpos_of_nonneg (show rB a b ≤ 0 by omega) (show 0 ≤ rG a b by omega)
    omega
theorem abs_of_mul {x g y : Int} (e : x * g = y) (h : g ≠ 0) : x.natAbs ≤ y.natAbs := by
  rw [← e, Int.natAbs_mul]
  exact Nat.le_mul_of_pos_right _ (by omega)
theorem rT_abs {a b : Int} (h : b ≠ 0) : (rT a b).natAbs ≤ a.natAbs := abs_of_mul (rT_mul a b) (rG_ne h)
theorem rB_abs {a b : Int} (h : b ≠ 0) : (rB a b).natAbs ≤ b.natAbs := abs_of_mul (rB_mul a b) (rG_ne h)
theorem o_same {X : Cx} {μ : Mu} {Φ : DK} {x y : D} {p : PyData} (hu : X.A.units + 64 < cLine) (hx : Py μ x p) (hy : Py μ y p) (c : p.canLay0 = true) (d : p.depth ≤ 64) (k : Φ (.bl true) μ) : dOp X (compareOp .Eq) x y μ Φ := by
  have s : SeqAt.shaped p = true := Bool.and_eq_true_iff.mpr ⟨c, decide_eq_true d⟩
  refine o_eqD hu hx hy s s ?_
  rw [SeqAt.eqv_refl p c]
  exact k
theorem o_sameN {X : Cx} {μ : Mu} {Φ : DK} {x y : D} {p : PyData} (hu : X.A.units + 64 < cLine) (hx : Py μ x p) (hy : Py μ y p) (c : p.canLay0 = true) (d : p.depth ≤ 64) (k : Φ (.bl false) μ) : dOp X (compareOp .NotEq) x y μ Φ := by
  have s : SeqAt.shaped p = true := Bool.and_eq_true_iff.mpr ⟨c, decide_eq_true d⟩
  refine o_neD hu hx hy s s ?_
  rw [SeqAt.eqv_refl p c]
  exact k
theorem py_two {μ : Mu} (a b : Int) : Py μ (.tup [.int a, .int b]) (.tuple [.int a, .int b]) := .tup (.cons (.int a) (.cons (.int b) .nil))
theorem rG_one {a b : Int} (hb : 0 < b) (h : Int.gcd a b = 1) : rG a b = 1 := by
  unfold rG
  rw [if_neg (by omega), h]
  rfl
theorem rat_low {a b : Int} (hb : 0 < b) (h : Int.gcd a b = 1) : rT a b = a ∧ rB a b = b := by
  have e1 := rT_mul a b
  have e2 := rB_mul a b
  rw [rG_one hb h, Int.mul_one] at e1 e2
  exact ⟨e1, e2⟩
theorem low_rat {a b : Int} (hb : 0 < b) : Low (rT a b, rB a b) := by
  refine ⟨rB_pos (by omega), ?_⟩
  have hg : rG a b = (Int.gcd a b : Int) := by
    unfold rG
    rw [if_neg (by omega)]
  have e1 := rT_mul a b
  have e2 := rB_mul a b
  have h0 : 0 < Int.gcd a b := by
    have := rG_ne (a := a) (b := b) (by omega)
    omega
  have e3 : Int.gcd (rT a b * rG a b) (rB a b * rG a b) = Int.gcd (rT a b) (rB a b) * (rG a b).natAbs := Int.gcd_mul_right ..
  rw [e1, e2, rG_abs] at e3
  show Int.gcd (rT a b) (rB a b) = 1
  exact Nat.eq_of_mul_eq_mul_right h0 (by rw [← e3, Nat.one_mul])
theorem snoc_ind {α : Type} {p : List α → Prop} (h0 : p []) (hs : ∀ l x, p l → p (l ++ [x])) : ∀ l, p l := fun l => by
  have : ∀ n (l : List α), l.length = n → p l := by
    intro n
    induction n with
    | zero =>
      intro l hl
      rw [List.length_eq_zero_iff.mp hl]
      exact h0
    | succ n ih =>
      intro l hl
      have hne : l ≠ [] := by
        intro z
        rw [z] at hl
        cases hl
      rw [← List.dropLast_concat_getLast hne]
      refine hs _ _ (ih _ ?_)
      rw [List.length_dropLast, hl]
      rfl
  exact this _ l rfl
/-- the greatest common divisor of some integers; each divided by it -/
def gcdL (ns : List Int) : Int := ns.foldl (fun g n => (Int.gcd g n : Int)) 0
def low (ns : List Int) : List Int := if gcdL ns = 0 then ns else ns.map fun n => n.fdiv (gcdL ns)
theorem gcdL_snoc (ns : List Int) (n : Int) : gcdL (ns ++ [n]) = (Int.gcd (gcdL ns) n : Int) := by
  unfold gcdL
  rw [List.foldl_append]
  rfl
theorem gcdL_take {ns : List Int} {i : Nat} {n : Int} (h : ns[i]? = some n) : gcdL (ns.take (i + 1)) = (Int.gcd (gcdL (ns.take i)) n : Int) := by
  rw [List.take_add_one, h]
  exact gcdL_snoc _ _
theorem gcdL_nn (ns : List Int) : 0 ≤ gcdL ns := by
  refine snoc_ind (p := fun ns => 0 ≤ gcdL ns) (by decide) (fun l x _ => ?_) ns
  rw [gcdL_snoc]
  omega
theorem gcdL_dvd (ns : List Int) : ∀ n ∈ ns, gcdL ns ∣ n := by
  refine snoc_ind (p := fun ns => ∀ n ∈ ns, gcdL ns ∣ n) (fun n h => by cases h) (fun l x ih n hn => ?_) ns
  rw [gcdL_snoc]
  rcases List.mem_append.mp hn with h | h
  · exact Int.dvd_trans (Int.gcd_dvd_left _ _) (ih n h)
  · rw [List.mem_singleton.mp h]
    exact Int.gcd_dvd_right _ _
theorem gcdL_zero (ns : List Int) : (∀ n ∈ ns, n = 0) → gcdL ns = 0 := by
  refine snoc_ind (p := fun ns => (∀ n ∈ ns, n = 0) → gcdL ns = 0) (fun _ => rfl) (fun l x ih h => ?_) ns
  rw [gcdL_snoc, ih fun n hn => h n (List.mem_append_left _ hn), h x (by simp)]
  rfl
theorem gcdL_small {ns : List Int} (h : gcdL ns ≠ 0) {b : Nat} (hb : ∀ n ∈ ns, n.natAbs < 2 ^ b) : (gcdL ns).natAbs < 2 ^ b := by
  have : ∃ n ∈ ns, n ≠ 0 := by
    refine Classical.byContradiction fun z => h (gcdL_zero ns fun n hn => ?_)
    exact Classical.byContradiction fun q => z ⟨n, hn, q⟩
  obtain ⟨n, hn, hn0⟩ := this
  refine Nat.lt_of_le_of_lt ?_ (hb n hn)
  exact Nat.le_of_dvd (by omega) (Int.natAbs_dvd_natAbs.mpr (gcdL_dvd ns n hn))
theorem at_ints {ns : List Int} {i : Nat} {d : D} (h : (ns.map D.int)[i]? = some d) : ∃ n, ns[i]? = some n ∧ d = .int n := by
  rw [List.getElem?_map] at h
  cases e : ns[i]? with
  | none => rw [e] at h; cases h
  | some n => rw [e] at h; cases h; exact ⟨n, rfl, rfl⟩
def dR (r : Int × Int) : D := .tup [.int r.1, .int r.2]
def pR (r : Int × Int) : PyData := .tuple [.int r.1, .int r.2]
theorem py_rats {μ : Mu} : ∀ rs : List (Int × Int), PyAll μ (rs.map dR) (rs.map pR)
  | [] => .nil
  | r :: rs => .cons (py_two r.1 r.2) (py_rats rs)
theorem canLay_rats : ∀ rs : List (Int × Int), PyData.canLayAll0 (rs.map pR) = true
  | [] => rfl
  | r :: rs => by
    rw [List.map_cons, PyData.canLayAll0, canLay_rats rs]
    rfl
theorem depth_rats : ∀ rs : List (Int × Int), PyData.depthAll (rs.map pR) ≤ 2
  | [] => by
    rw [List.map_nil, PyData.depthAll]
    omega
  | r :: rs => by
    rw [List.map_cons, PyData.depthAll]
    have h1 := depth_rats rs
    have h2 : (pR r).depth ≤ 2 := Nat.le_of_ble_eq_true rfl
    omega
theorem cl_rats (rs : List (Int × Int)) : (PyData.list (rs.map pR)).canLay0 = true := by
  rw [PyData.canLay0]
  exact canLay_rats rs
theorem dp_rats (rs : List (Int × Int)) : (PyData.list (rs.map pR)).depth ≤ 64 := by
  have h := depth_rats rs
  rw [PyData.depth]
  omega
theorem sh_rats (rs : List (Int × Int)) : SeqAt.shaped (PyData.list (rs.map pR)) = true := Bool.and_eq_true_iff.mpr ⟨cl_rats rs, decide_eq_true (dp_rats rs)⟩
theorem pool_up {n m : Nat} {c : D} (h : Pool n c) (e : n ≤ m) : Pool m c := by
  obtain ⟨i, cur, ns, e1, a1, a2, a3, a4⟩ := h
  exact ⟨i, cur, ns, e1, a1, by omega, a3, a4⟩
theorem cut_to {xs : List D} {i : Int} (h : 0 ≤ i) : cutD xs none (some i) = xs.take i.toNat := by
  obtain ⟨n, rfl⟩ : ∃ n : Nat, i = (n : Int) := ⟨i.toNat, by omega⟩
  unfold cutD
  rw [HT.sIx_none, HT.sIx_nat, List.drop_zero, Nat.sub_zero, Int.toNat_natCast]
  by_cases hl : n ≤ xs.length
  · rw [Nat.min_eq_left hl]
  · rw [Nat.min_eq_right (by omega), List.take_length, List.take_of_length_le (by omega)]
theorem cut_from {xs : List D} {i : Int} (h : 0 ≤ i) : cutD xs (some i) none = xs.drop i.toNat := by
  obtain ⟨n, rfl⟩ : ∃ n : Nat, i = (n : Int) := ⟨i.toNat, by omega⟩
  unfold cutD
  rw [HT.sIx_none, HT.sIx_nat, Int.toNat_natCast]
  by_cases hl : n ≤ xs.length
  · rw [Nat.min_eq_left hl, List.take_of_length_le (by rw [List.length_drop]; omega)]
  · rw [Nat.min_eq_right (by omega), Nat.sub_self, List.take_zero, List.drop_of_length_le (by omega)]
end DL

set_option maxHeartbeats 1000000
namespace DL
open PySem PySem.Spec PyProof.Rows L2
section
variable {X : Cx} {CX : CXT} {x : Str} {e : Expr} {es : List Expr} {ta : TA} {te : TE} {p pos : Pos} {C fI : Addr} {k : Nat} {fd : FuncData} {ps : List Str} {sp : Sp} {f : Str}
/-- what a call of such a class comes to -/
def tVal (C : Addr) (f : Str) (te : TE) : TE := fun σ H Q => te σ H fun y H1 => ∀ a d, H1 a = none → H1 d = none → d ≠ a → Q (.ref a) (upd (upd H1 d (exd d [(f, y)])) a (exo a C (some d)))
/-- an error of an own class with one field, as a value -/
theorem pe_errv (T : OexC X.K C) (jC : PySem.W.findIn X.K (.ref C) "__init__" = some (some (.ref fI))) (jI : PySem.W.typeIn X.K (.ref fI) = some (.type "function"))
    (F1 : FnOk X.prog X.w X.K X.mg X.base CX k fI fd ["self", f] (spInit X.K C f)) (hr : Room (k + 1) X.A) (hb : Binds X.K fd ["self", f] []) (hx : Passes CX X (fun _ _ _ => False)) (hg : Gl X x) (hm : X.mg x = some (.ref C)) (he0 : PE X e te)
    (hdb : (x == ("__debug__" : Str)) = false) (he : starEach (e :: []) X.env = (false, eval e X.env) :: starEach [] X.env) (hpl : (backTo pos (starEach [] X.env)).any (·.1) = false) :
    PE X (.Call (.Name x p) [e] [] pos) (tVal C f te) := by
  refine ⟨fun pins st0 σ0 Ha Q0 Ia hta => ?_⟩
  obtain ⟨c1, c2, c3, c4, bmr, c6, c7, c8, c9, c10, c11, c12, c13, c14, c15, hcls, hbm⟩ := T.cls
  refine wpAny_Call_Name_kw (ld_glob Ia hg hm ?_ hdb)
  refine PySem.W.callWith_K (h₀ := X.base) Ia.ok.mod.kin T.kC ?_ he hpl
  rw [he]
  show wpAny _ _ (spliced ((false, eval e X.env) :: backTo pos (starEach [] X.env))) _ _ st0
  refine Calls.spliced_cons (thn (he0.run pins st0 σ0 Ha _ Ia hta) fun u st1 ⟨v, Hb, Ib, rv1, qb⟩ => ?_)
  refine Calls.spliced_nil ⟨Ib.kIn, ?_⟩
  show wpAny _ _ (call (.ref C) [u]) _ _ _
  obtain ⟨hp, gg, dw, tk, oo⟩ := st1
  have kept : ∀ b o, hp.get? b = some o → ((hp.push (PySem.W.kdv_tup [u])).push (PySem.HandSPX.excO C hp.objs.size)).get? b = some o := fun b o z => Heap.get?_push_of_some _ (Heap.get?_push_of_some _ z)
  have here : ((hp.push (PySem.W.kdv_tup [u])).push (PySem.HandSPX.excO C hp.objs.size)).get? (hp.objs.size + 1) = some (PySem.HandSPX.excO C hp.objs.size) := by heap_get
  have free1 : Hb (hp.objs.size + 1) = none := Ib.hok.fresh (Nat.le_succ _)
  have Ic : Inv X pins σ0 (upd Hb (hp.objs.size + 1) (exo (hp.objs.size + 1) C none)) ⟨(hp.push (PySem.W.kdv_tup [u])).push (PySem.HandSPX.excO C hp.objs.size), gg, dw, tk, oo⟩ :=
    Ib.laid (t' := tk) kept (Nat.le_succ _) (exo_ok here)
  have rel : Vals [V.ref (hp.objs.size + 1), v] [Value.ref (hp.objs.size + 1), u] := .cons rfl (.cons rv1 .nil)
  have bnd := hb _ [Value.ref (hp.objs.size + 1), u] Ic.kIn rfl
  have prom : spInit X.K C f [V.ref (hp.objs.size + 1), v] (upd Hb (hp.objs.size + 1) (exo (hp.objs.size + 1) C none)) (fun r H2 => r = .non ∧ ∃ d, Hb d = none ∧ d ≠ hp.objs.size + 1 ∧ H2 = upd (upd Hb d (exd d [(f, v)])) (hp.objs.size + 1) (exo (hp.objs.size + 1) C (some d))) (fun _ _ _ => False) := by
    refine ⟨_, v, rfl, upd_same, fun dx h1 h2 => ⟨rfl, dx, ?_, h2, ?_⟩⟩
    · rw [upd_ne h2] at h1
      exact h1
    · funext b
      unfold upd
      by_cases z : b = hp.objs.size + 1
      · rw [if_pos z, if_pos z]
      · by_cases y : b = dx
        · simp only [if_neg z, if_pos y]
        · simp only [if_neg z, if_neg y]
  refine wpAny_call (PySem.HandSPX.call_own F.excBase_ValueError (fun Y => PySem.HandSPX.refsVE_contains Y bmr hbm) (Ib.kIn _ _ hcls) (PySem.W.looks_findIn Ib.kIn jC) (fun self => PySem.W.bind_fn Ib.kIn self jI) (by show 1 ≤ sizeLine; decide)
    (codeAny_mono (F1.run _ X.stack _ _ ⟨[Value.ref (hp.objs.size + 1), u], []⟩ _ _ _ (fun _ _ _ => False) (hr.make C [u] []) (Ic.env0.make C [u] []) bnd rel prom) fun r st2 back => ?_))
  cases r with
  | error er => exact hx pins σ0 _ _ er st2 Ic back
  | ok fl =>
    cases fl with
    | ret u2 =>
      obtain ⟨v2, Hc, os2, bare2, un2, hok2, rv, ev, d, fd0, fda, rfl⟩ := back
      subst ev
      have Id : Inv X pins σ0 _ st2 := Ic.call' (ch := []) os2 un2 hok2 bare2 (fun b z => absurd z (by simp))
      exact ⟨rv, .ref (hp.objs.size + 1), _, Id, rfl, qb _ _ free1 fd0 fda⟩
    | next => exact False.elim back
    | brk => exact False.elim back
    | cont => exact False.elim back
end
end DL

set_option maxHeartbeats 1000000
namespace DEk
open PySem PySem.Spec PySem.Builtin PyProof.Rows PySem.HandSPX
section
variable {M : Model} {prog : Program} {w : World} {A : Around} {E : Value → Shared → Prop} {R : Result → Shared → Prop} {hh : Heap} {gg : Array GenState} {dw : Drawn} {tk : Nat} {oo : OsState}
variable {nm qn : Str} {C N : Addr} {bs mr mB : List Value} {hd : Bool} {sn : List Str} {sub : List Value} {ab : Bool} {col : Option Bool} {dd : Option Addr} {k0 k1 k2 k3 k5 : Option Value} {B nI iI : String} {fl : Str} {u : Value}

theorem ck_tc {Q : Unit → Shared → Prop} (c : hh.get? C = some (excClassObj nm qn C N bs mr hd sn sub ab col dd k0 k1 k2 k3 k5 nI)) (y : Q () ⟨hh, gg, dw, tk, oo⟩) :
    wpAny M A (checkBuiltinCall "type.__call__" ⟨[.ref C], [(fl, u)]⟩) Q E ⟨hh, gg, dw, tk, oo⟩ := by
  have j1 := tc_sub
  have j2 : (⟨hh, gg, dw, tk, oo⟩ : Shared).TypeIs (.ref C) "type" := ⟨_, c, rfl⟩
  simp only [checkBuiltinCall, tc_kind, tc_split]
  repeat (any_goals (first
    | assumption
    | with_reducible refine wpAny_loadPart_at c ?_
    | with_reducible refine wpAny_onRaise ?_
    | with_reducible refine wpAny_map ?_
    | wp_step))

theorem ck_new (F : ExcBaseFacts B nI iI mB) (same : ∀ X : String, mr.contains (.type X) = mB.contains (.type X)) {Q : Unit → Shared → Prop}
    (c : hh.get? C = some (excClassObj nm qn C N bs mr hd sn sub ab col dd k0 k1 k2 k3 k5 nI)) (y : Q () ⟨hh, gg, dw, tk, oo⟩) : wpAny M A (checkBuiltinCall nI ⟨[.ref C], [(fl, u)]⟩) Q E ⟨hh, gg, dw, tk, oo⟩ := by
  have j1 : (Value.ref C :: mr).contains (.type B) = true := by
    rw [List.contains_cons, same, F.hasB, Bool.or_true]
  have j2 := F.noStar
  simp only [checkBuiltinCall, F.newKind, F.newSplit, F.newRow]
  repeat (first
    | refine wpAny_loadPart_at c ?_
    | (refine wpAny_isSubtype_exc c ?_; rw [j1])
    | refine wpAny_staticBase_exc c ?_
    | refine wpAny_madeBy_exc c ?_
    | simp only [bne_self_eq_false, Bool.false_eq_true, if_false]
    | wp_step)
  exact y

theorem nw_kw (F : ExcBaseFacts B nI iI mB) (same : ∀ X : String, mr.contains (.type X) = mB.contains (.type X))
    (c : hh.get? C = some (excClassObj nm qn C N bs mr hd sn sub ab col dd k0 k1 k2 k3 k5 nI))
    (y : R (.ok (.ret (.ref (hh.objs.size + 1)))) ⟨(hh.push (W.kdv_tup [])).push (excO C hh.objs.size), gg, dw, tk, oo⟩) :
    codeAny (model prog w) A (.builtin nI ⟨[.ref C], [(fl, u)]⟩) R ⟨hh, gg, dw, tk, oo⟩ := by
  have j0 := F.ends
  have j1 : (Value.ref C :: mr).contains (.type B) = true := by
    rw [List.contains_cons, same, F.hasB, Bool.or_true]
  have j2 : (Value.ref C :: mr).contains (.type "AttributeError") = false := by
    rw [List.contains_cons, same, F.noAttr] <;> rfl
  have j3 : (Value.ref C :: mr).contains (.type "NameError") = false := by
    rw [List.contains_cons, same, F.noName] <;> rfl
  refine codeAny_builtinAt F.entry ?_
  unfold Builtin.«BaseException.__new__»
  refine PySem.wpAt_bind ?_
  show PySem.wpAt _ _ _ (stack >>= _) _ _ _
  refine PySem.wpAt_bind (PySem.wpAt_stack fun p below => PySem.wpAt_of_wpAny ?_)
  wp_walk
  refine PySem.wpAt_of_wpAny ?_
  rw [F.owner]
  repeat (first
    | with_reducible refine wpAny_madeHere_exc F.canon c ?_
    | with_reducible refine wpAny_loadPart_at c ?_
    | (with_reducible refine wpAny_isSubtype_exc c ?_; first
        | rw [j1]
        | rw [j2]
        | rw [j3])
    | wp_step)
  show R _ _
  rw [Heap.size_push]
  exact y

theorem tc_kw (F : ExcBaseFacts B nI iI mB) (same : ∀ X : String, mr.contains (.type X) = mB.contains (.type X)) {fI : Addr} {Q : Fin → Shared → Prop}
    (c : hh.get? C = some (excClassObj nm qn C N bs mr hd sn sub ab col dd k0 k1 k2 k3 k5 nI))
    (i0 : W.Looks (model prog w) hh (typeLookup (.ref C) "__init__") (some (.ref fI))) (b0 : ∀ self, W.Looks (model prog w) hh (bindSpecial (.ref fI) self) (.ref fI, [self]))
    (y : codeAny (model prog w) A (.call (.ref fI) ⟨[.ref (hh.objs.size + 1)], [(fl, u)]⟩)
      (fun r s' => match r with
        | .ok (.ret v) => v = .none ∧ Q (.done (.ret (.ref (hh.objs.size + 1)))) s'
        | .ok _ => False
        | .error e => E e s')
      ⟨(hh.push (W.kdv_tup [])).push (excO C hh.objs.size), gg, dw, tk, oo⟩) :
    wpAny (model prog w) A (Builtin.«type.__call__» ⟨[.ref C], [(fl, u)]⟩) Q E ⟨hh, gg, dw, tk, oo⟩ := by
  repeat (first
    | with_reducible refine wpAny_loadPart_at c ?_
    | with_reducible refine wpAny_madeBy_exc c ?_
    | wp_step)
  refine codeAny_call_builtin_code (Code.quiet_builtin _ F.quiet) (ck_new F same c ?_)
  refine nw_kw F same c ?_
  show wpAny _ _ _ _ _ _
  have kp : ∀ b o, hh.get? b = some o → ((hh.push (W.kdv_tup [])).push (excO C hh.objs.size)).get? b = some o := fun b o z => Heap.get?_push_of_some _ (Heap.get?_push_of_some _ z)
  have c1 := kp _ _ c
  have me : ((hh.push (W.kdv_tup [])).push (excO C hh.objs.size)).get? (hh.objs.size + 1) = some (excO C hh.objs.size) := by heap_get
  have j1 : (Value.ref C :: mr).contains (.ref C) = true := by simp
  have i1 := i0.keeps kp
  have b1 := (b0 (.ref (hh.objs.size + 1))).keeps kp
  unfold isInstance
  repeat (first
    | with_reducible refine wpAny_loadPart_at me ?_
    | (with_reducible refine wpAny_isSubtype_exc c1 ?_; rw [j1])
    | wp_step)
  show wpAny _ _ (typeLookup (.ref C) _) _ _ _
  refine i1.at ?_
  refine wpAny_holding (wpAny_bind (b1.at ?_))
  refine wpAny_bind (wpAny_call (codeAny_mono y fun r s' z => ?_))
  cases r with
  | error er => exact z
  | ok fw =>
    cases fw with
    | ret v =>
      obtain ⟨rfl, z⟩ := z
      first
        | exact wpAny_pure (wpAny_pure z)
        | (wp_walk; done)
        | (wp_walk; exact z)
    | next => exact z.elim
    | brk => exact z.elim
    | cont => exact z.elim

theorem cl_kw (F : ExcBaseFacts B nI iI mB) (same : ∀ X : String, mr.contains (.type X) = mB.contains (.type X)) {fI : Addr}
    (c : hh.get? C = some (excClassObj nm qn C N bs mr hd sn sub ab col dd k0 k1 k2 k3 k5 nI))
    (i0 : W.Looks (model prog w) hh (typeLookup (.ref C) "__init__") (some (.ref fI))) (b0 : ∀ self, W.Looks (model prog w) hh (bindSpecial (.ref fI) self) (.ref fI, [self]))
    (y : codeAny (model prog w) (A.under (.builtin "type.__call__" ⟨[.ref C], [(fl, u)]⟩)) (.call (.ref fI) ⟨[.ref (hh.objs.size + 1)], [(fl, u)]⟩) (W.InitBack (hh.objs.size + 1) R)
      ⟨(hh.push (W.kdv_tup [])).push (excO C hh.objs.size), gg, dw, tk, oo⟩) : codeAny (model prog w) A (.call (.ref C) ⟨[], [(fl, u)]⟩) R ⟨hh, gg, dw, tk, oo⟩ := by
  have j1 := tc_lookup
  have j2 := tc_bind (.ref C)
  have j3 : (⟨hh, gg, dw, tk, oo⟩ : Shared).TypeIs (.ref C) "type" := ⟨_, c, rfl⟩
  refine codeAny_of_tree ?_
  show wpAny _ _ (callAny (.ref C) _) _ _ _
  repeat (any_goals (first
    | assumption
    | with_reducible refine wpAny_loadPart_at c ?_
    | wp_step))
  refine ⟨rfl, ?_⟩
  refine codeAny_call_builtin_at (Code.quiet_builtin _ (by decide +kernel)) entry_typeCall (ck_tc c (tc_kw F same c i0 b0 ?_))
  refine codeAny_mono y fun r s' z => ?_
  cases r with
  | error er => exact z
  | ok fw =>
    cases fw with
    | ret v => exact z
    | next => exact z
    | brk => exact z
    | cont => exact z
end
end DEk

set_option maxHeartbeats 1000000
namespace DL
open PySem PySem.Spec PyProof.Rows L2
section
variable {X : Cx} {CX : CXT} {x : Str} {e : Expr} {es : List Expr} {kws : List Keyword} {tk : TA} {te : TE} {p pos : Pos} {C fI : Addr} {k : Nat} {fd : FuncData} {ps : List Str} {sp : Sp} {f : Str}
def tValK (C : Addr) (f : Str) (tk : TA) : TE := fun σ H Q => tk σ H fun ys H1 => ∃ y, ys = [y] ∧ ∀ a d, H1 a = none → H1 d = none → d ≠ a → Q (.ref a) (upd (upd H1 d (exd d [(f, y)])) a (exo a C (some d)))
/-- an error of an own class with one field, made by the field's name -/
theorem pe_errk (T : OexC X.K C) (jC : PySem.W.findIn X.K (.ref C) "__init__" = some (some (.ref fI))) (jI : PySem.W.typeIn X.K (.ref fI) = some (.type "function"))
    (F1 : FnOk X.prog X.w X.K X.mg X.base CX k fI fd ["self", f] (spInit X.K C f)) (hr : Room (k + 1) X.A) (hb : ∀ (s : Shared) (a u : Value), BindsTo s fd ⟨[a], [(f, u)]⟩ [("self", a), (f, u)]) (hx : Passes CX X (fun _ _ _ => False)) (hg : Gl X x) (hm : X.mg x = some (.ref C)) (he0 : PK X kws tk)
    (hdb : (x == ("__debug__" : Str)) = false) (hall : (backToKw pos (keywordEach kws X.env)).all (·.1.isSome) = true) (hks : (backToKw pos (keywordEach kws X.env)).filterMap (·.1) = [f])
    (hpl : ((backTo pos (starEach [] X.env)).any (·.1) || (backToKw pos (keywordEach kws X.env)).any (·.1.isNone)) = false) :
    PE X (.Call (.Name x p) [] kws pos) (tValK C f tk) := by
  refine ⟨fun pins st0 σ0 Ha Q0 Ia hta => ?_⟩
  obtain ⟨c1, c2, c3, c4, bmr, c6, c7, c8, c9, c10, c11, c12, c13, c14, c15, hcls, hbm⟩ := T.cls
  refine wpAny_Call_Name_kw (ld_glob Ia hg hm ?_ hdb)
  refine PySem.W.callWith_KW0 (h₀ := X.base) Ia.ok.mod.kin T.kC hall ?_ hpl
  refine thn (he0.run pos pins st0 σ0 Ha _ Ia hta) fun us st1 ⟨vs, Hb, Ib, rvs, y, ey, qb⟩ => ⟨Ib.kIn, ?_⟩
  subst ey
  rw [hks]
  obtain ⟨u, rfl, rv1⟩ := vals1 rvs
  show wpAny _ _ (call (.ref C) [] [(f, u)]) _ _ _
  obtain ⟨hp, gg, dw, tk, oo⟩ := st1
  have kept : ∀ b o, hp.get? b = some o → ((hp.push (PySem.W.kdv_tup [])).push (PySem.HandSPX.excO C hp.objs.size)).get? b = some o := fun b o z => Heap.get?_push_of_some _ (Heap.get?_push_of_some _ z)
  have here : ((hp.push (PySem.W.kdv_tup [])).push (PySem.HandSPX.excO C hp.objs.size)).get? (hp.objs.size + 1) = some (PySem.HandSPX.excO C hp.objs.size) := by heap_get
  have free1 : Hb (hp.objs.size + 1) = none := Ib.hok.fresh (Nat.le_succ _)
  have Ic : Inv X pins σ0 (upd Hb (hp.objs.size + 1) (exo (hp.objs.size + 1) C none)) ⟨(hp.push (PySem.W.kdv_tup [])).push (PySem.HandSPX.excO C hp.objs.size), gg, dw, tk, oo⟩ :=
    Ib.laid (t' := tk) kept (Nat.le_succ _) (exo_ok here)
  have rel : Vals [V.ref (hp.objs.size + 1), y] [Value.ref (hp.objs.size + 1), u] := .cons rfl (.cons rv1 .nil)
  have prom : spInit X.K C f [V.ref (hp.objs.size + 1), y] (upd Hb (hp.objs.size + 1) (exo (hp.objs.size + 1) C none)) (fun r H2 => r = .non ∧ ∃ d, Hb d = none ∧ d ≠ hp.objs.size + 1 ∧ H2 = upd (upd Hb d (exd d [(f, y)])) (hp.objs.size + 1) (exo (hp.objs.size + 1) C (some d))) (fun _ _ _ => False) := by
    refine ⟨_, y, rfl, upd_same, fun dx h1 h2 => ⟨rfl, dx, ?_, h2, ?_⟩⟩
    · rw [upd_ne h2] at h1
      exact h1
    · funext b
      unfold upd
      by_cases z : b = hp.objs.size + 1
      · rw [if_pos z, if_pos z]
      · by_cases y : b = dx
        · simp only [if_neg z, if_pos y]
        · simp only [if_neg z, if_neg y]
  refine wpAny_call (DEk.cl_kw F.excBase_ValueError (fun Y => PySem.HandSPX.refsVE_contains Y bmr hbm) (Ib.kIn _ _ hcls) (PySem.W.looks_findIn Ib.kIn jC) (fun self => PySem.W.bind_fn Ib.kIn self jI)
    (codeAny_mono (F1.run _ X.stack _ _ ⟨[Value.ref (hp.objs.size + 1)], [(f, u)]⟩ [Value.ref (hp.objs.size + 1), u] _ _ (fun _ _ _ => False) (hr.make C [] [(f, u)]) (Ic.env0.make C [] [(f, u)]) (hb _ _ _) rel prom) fun r st2 back => ?_))
  cases r with
  | error er => exact hx pins σ0 _ _ er st2 Ic back
  | ok fl =>
    cases fl with
    | ret u2 =>
      obtain ⟨v2, Hc, os2, bare2, un2, hok2, rv, ev, d, fd0, fda, rfl⟩ := back
      subst ev
      have Id : Inv X pins σ0 _ st2 := Ic.call' (ch := []) os2 un2 hok2 bare2 (fun b z => absurd z (by simp))
      exact ⟨rv, .ref (hp.objs.size + 1), _, Id, rfl, qb _ _ free1 fd0 fda⟩
    | next => exact False.elim back
    | brk => exact False.elim back
    | cont => exact False.elim back
/-- X(), an own class without own __init__: a new error -/
theorem pe_exc0 {bmB : List Value} {B newId initId : String} (F : ExcBaseFacts B newId initId bmB) (q : PySem.W.excIn X.K C bmB newId = true) (gC : X.mg x = some (.ref C)) (kC : PySem.W.keepIn X.K (.ref C) = true) (hg : Gl X x)
    (hdb : (x == ("__debug__" : Str)) = false := by decide) : PE X (.Call (.Name x p) [] [] pos) (fun _ H Q => ∀ a, H a = none → Q (.ref a) (upd H a (ExO (.ref C) a))) := by
  refine ⟨fun pins s0 σ0 Ha Q0 Ia h => ?_⟩
  refine wpAny_Call_Name_kw (ld_glob Ia hg gC ?_ hdb)
  refine PySem.W.callWith_K0 Ia.kIn kC ?_
  show wpAny _ _ (call (.ref C) []) _ _ _
  obtain ⟨b1, b2, b3, b4, b5, b6, b7, b8, b9, b10, b11, b12, b13, b14, b15, b16, b17, hcls, hns, hni, T⟩ := exc_obj Ia.kIn q
  refine wpAny_call_exc_subT F T hcls hns hni (fun h' a hm => ?_) (by show 0 ≤ sizeLine; exact Nat.zero_le _)
  have fr : Ha a = none := Ia.hok.gone hm.new
  obtain ⟨t, ht, _, _⟩ := hm.there
  exact ⟨.ref a, upd Ha a (ExO (.ref C) a), Ia.laidN hm.keeps hm.new fr (exO_ok ht ⟨rfl, rfl⟩ rfl rfl rfl (show 4 < 6 by decide)), rfl, h a fr⟩
end
end DL

set_option maxHeartbeats 1000000
namespace DL
open PySem PySem.Spec PyProof.Rows L2
/-- what isinstance asks of an error's class; of the text's part as a whole -/
structure ErrC (K : PySem.W.Frag) (C : Addr) : Prop where
  xf : XfC K C
  cl : (PySem.W.clsIn K C).isSome = true
  ac : PySem.W.findIn K (.ref C) "__class__" = some (some (.builtin "object.__class__"))
  mo : PySem.W.mroIn K C (.type "object") = some true
structure ClsG (K : PySem.W.Frag) : Prop where
  sg : PySem.W.specialIn K (.builtin "object.__class__") "__get__" = some (some (.builtin "getset_descriptor.__get__"))
  tk : PySem.W.takesIn K (.builtin "object.__class__") = some true
section
variable {X : Cx} {G0 : Hp} {e : Expr} {es : List Expr} {kws : List Keyword} {δ : List (Option D)} {μ : Mu} {Φ : DK} {pos p : Pos} {x f : Str} {C C2 : Addr} {K : PySem.W.Frag}
theorem kit_err {a : Addr} {oe : Obj} {od : Option Obj} (c : ErrC K C) (g : ClsG K) : PySem.W.KitX K (.ref a) (.ref C) (fun h => PySem.W.InstAt h a oe C od) :=
  PySem.W.kitx_exc c.cl c.xf.ga c.xf.gg c.xf.exC c.ac g.sg g.tk c.mo
/-- where such an error stands -/
theorem exv_inst {pins : List (Addr × Obj)} {s : Shared} {σ : L2.St} {H : Hp} {a d : Addr} {fs : List (Str × V)} (I : Inv X pins σ H s) (h1 : H a = some (exo a C (some d))) (h2 : H d = some (exd d fs)) :
    ∃ oe od, PySem.W.InstAt s.heap a oe C (some od) ∧ ∀ (n : Str) (v : V), fs.lookup n = some v → ∃ u, PySem.W.lookIn n od = some (some u) ∧ RelV v u := by
  obtain ⟨t1, ha⟩ := exo_at I.hok h1
  obtain ⟨mA, hns, hr⟩ := exd_at I.hok h2
  obtain ⟨od, ho, hl⟩ := lookIn_ns hns
  refine ⟨_, od, ⟨ha, rfl, rfl, ho⟩, fun n v z => ?_⟩
  obtain ⟨u, hu, ru⟩ := RelO.some_of (v := v) (o := mA n) (by rw [← z]; exact hr n)
  exact ⟨u, by rw [hl, hu], ru⟩
theorem exb_inst {pins : List (Addr × Obj)} {s : Shared} {σ : L2.St} {H : Hp} {a : Addr} (I : Inv X pins σ H s) (h1 : H a = some (ExO (.ref C) a)) : ∃ oe, PySem.W.InstAt s.heap a oe C none := by
  obtain ⟨⟨oe, vs, ho, hz, hd, _, _⟩, _, _⟩ := I.hok a _ h1
  obtain ⟨oc, od, oda, osl⟩ := oe
  obtain ⟨z1, z2⟩ := hz
  dsimp only at z1 z2 hd
  subst z1 z2 hd
  exact ⟨_, ho, rfl, rfl, trivial⟩
/-- a class as data -/
inductive ClsD : D → Value → Prop
  | ty (n : String) : ClsD (.ty n) (.type n)
  | own (C : Addr) : ClsD (.ref C) (.ref C)
theorem ClsD.val {c : D} {u v : Value} {w : V} {G : Hp} (k : ClsD c u) (r : Rp K G w c) (rv : RelV w v) : v = u := by
  cases k with
  | ty n =>
    cases r
    exact rv
  | own C =>
    cases r
    exact rv
/-- isinstance(e, class), e an error that was made -/
theorem c_isv {d c : D} {u : Value} {b : Bool} (ec : ErrC X.K C) (g : ClsG X.K) (hc : ClsD c u) (hk : PySem.W.kitOne X.K (.ref C) u = some b) (q : Φ (.bl b) μ) : dCall X (.builtin "isinstance") [.exv C f d, c] μ Φ := fun vs H r m Q k pins s σ us I rv => by
  obtain ⟨v, w, rfl, r1, r2⟩ := rp2 r
  obtain ⟨u1, u2, rfl, y1, y2⟩ := vals2 rv
  have e2 := hc.val r2 y2
  subst e2
  cases r1 with
  | exv h1 h2 _ =>
    cases y1
    obtain ⟨oe, od, J, _⟩ := exv_inst I (im_all _ _ h1) (im_all _ _ h2)
    exact PySem.W.kia_one (kit_err ec g) I.kIn J hk (fun z => nomatch z) fun tk => ⟨.bl b, H, I.tok tk, rfl, k.val m q (.bl _)⟩
theorem c_isb {c : D} {u : Value} {b : Bool} (ec : ErrC X.K C) (g : ClsG X.K) (hc : ClsD c u) (hk : PySem.W.kitOne X.K (.ref C) u = some b) (q : Φ (.bl b) μ) : dCall X (.builtin "isinstance") [.exb C, c] μ Φ := fun vs H r m Q k pins s σ us I rv => by
  obtain ⟨v, w, rfl, r1, r2⟩ := rp2 r
  obtain ⟨u1, u2, rfl, y1, y2⟩ := vals2 rv
  have e2 := hc.val r2 y2
  subst e2
  cases r1 with
  | exb h1 =>
    cases y1
    obtain ⟨oe, J⟩ := exb_inst I (im_all _ _ h1)
    exact PySem.W.kia_one (kit_err ec g) I.kIn J hk (fun z => nomatch z) fun tk => ⟨.bl b, H, I.tok tk, rfl, k.val m q (.bl _)⟩
/-- e.f -/
theorem d_vf (he : dE X G0 e δ μ fun x μ1 => ∃ C d, x = .exv C f d ∧ XfC X.K C ∧ PySem.W.findIn X.K (.ref C) f = some none ∧ Φ d μ1) (hb : attributeBase e f X.env (eval e X.env) = eval e X.env := by rfl) : dE X G0 (.Attribute e f pos) δ μ Φ := fun σ H B Q k pins s I => by
  refine attr_of hb (thn (he σ H B (fun v H1 => ∃ C d μ1, Rp X.K (Im μ1 H1) v (.exv C f d) ∧ MuOk X.K μ1 H1 ∧ Sub (Im μ H) (Im μ1 H1) ∧ XfC X.K C ∧ PySem.W.findIn X.K (.ref C) f = some none ∧ Φ d μ1) (fun v H1 x μ1 ⟨C, d, ex, xf, no, q⟩ m1 e1 r1 => ⟨C, d, μ1, ex ▸ r1, m1, e1, xf, no, q⟩) pins s I) fun u s1 hh => ?_)
  obtain ⟨v, H1, I1, rv, C, d, μ1, r1, m1, e1, T, no, q⟩ := hh
  cases r1 with
  | @exv a0 C0 d0 f0 w0 y0 h1 h2 r3 =>
    cases rv
    obtain ⟨oe, od, J, lk⟩ := exv_inst I1 (im_all _ _ h1) (im_all _ _ h2)
    obtain ⟨u, hu, ru⟩ := lk f w0 (by simp [List.lookup])
    exact HandSPX.exc_get I1.kIn J T.ga T.gg T.exC (PySem.W.findObj_own T.hdC no rfl hu) (handed_of ru) ⟨_, H1, I1.tok _, ru, (k.after e1).val m1 q r3⟩
/-- X(e), X(f = e), X() -/
theorem sub_err {H : Hp} {a d : Addr} {o u : HO} (h1 : H a = none) (h2 : H d = none) : Sub H (upd (upd H d u) a o) := fun b w e => by
  rw [upd_ne (ne_of_none e h1), upd_ne (ne_of_none e h2)]
  exact e
theorem err_new {H : Hp} {a d : Addr} {v : V} {y : D} (m : MuOk K μ H) (h1 : H a = none) (h2 : H d = none) (hn : d ≠ a) (r : Rp K (Im μ H) v y) {H2 : Hp} (eH : H2 = upd (upd H d (exd d [(f, v)])) a (exo a C (some d))) :
    MuOk K μ H2 ∧ Sub (Im μ H) (Im μ H2) ∧ Rp K (Im μ H2) (.ref a) (.exv C f y) := by
  have su : Sub H H2 := by rw [eH]; exact sub_err h1 h2
  refine ⟨m.ext su, im_sub su, .exv (dd := d) (v := v) ?_ ?_ (r.mono (im_sub su))⟩
  · unfold Im
    rw [mu_free m h1, eH, upd_same]
    rfl
  · unfold Im
    rw [mu_free m h2, eH, upd_ne hn, upd_same]
    rfl
theorem d_errv (T : ExcT X.prog X.w X.K X.mg X.base x f C) (h : dE X G0 e δ μ fun d μ1 => Φ (.exv C f d) μ1) {k : Nat} (hr : Room k X.A := by assumption) (hk : 2 ≤ k := by decide) (hg : Gl X x := by rfl) (hdb : (x == ("__debug__" : Str)) = false := by decide)
    (he : starEach (e :: []) X.env = (false, eval e X.env) :: starEach [] X.env := by rfl) (hpl : (backTo pos (starEach [] X.env)).any (·.1) = false := by rfl) : dE X G0 (.Call (.Name x p) [e] [] pos) δ μ Φ := fun σ H B Q kk => by
  obtain ⟨fI, fd, i1, i2, i3, i4⟩ := T.init
  refine wE_of (pe_errv T.oex i1 i2 i3 (hr.mono hk) i4 passN hg T.gC pe_w hdb he hpl) ?_
  refine h.go B fun v H1 d μ1 q m1 e1 r1 => fun a dx h1 h2 hn => ?_
  obtain ⟨z1, z2, z3⟩ := err_new (C := C) (f := f) m1 h1 h2 hn r1 rfl
  exact kk _ _ _ _ q z1 (e1.trans z2) z3
/-- .. by the field's name -/
structure ExcK (P : Program) (w : World) (K : PySem.W.Frag) (mg : Str → Option Value) (base : Heap) (x f : Str) (C : Addr) : Prop where
  gC : mg x = some (.ref C)
  oex : OexC K C
  init : ∃ (fI : Addr) (fd : FuncData), PySem.W.findIn K (.ref C) "__init__" = some (some (.ref fI)) ∧ PySem.W.typeIn K (.ref fI) = some (.type "function") ∧
    FnOk P w K mg base (L2N.CX P w) 1 fI fd ["self", f] (spInit K C f) ∧ ∀ (s : Shared) (a u : Value), BindsTo s fd ⟨[a], [(f, u)]⟩ [("self", a), (f, u)]
theorem d_errk (T : ExcK X.prog X.w X.K X.mg X.base x f C) (h : dKw X G0 kws δ μ fun xs μ1 => ∃ d, xs = [d] ∧ Φ (.exv C f d) μ1) {k : Nat} (hr : Room k X.A := by assumption) (hk : 2 ≤ k := by decide) (hg : Gl X x := by rfl) (hdb : (x == ("__debug__" : Str)) = false := by decide)
    (hall : (backToKw pos (keywordEach kws X.env)).all (·.1.isSome) = true := by rfl) (hks : (backToKw pos (keywordEach kws X.env)).filterMap (·.1) = [f] := by rfl)
    (hpl : ((backTo pos (starEach [] X.env)).any (·.1) || (backToKw pos (keywordEach kws X.env)).any (·.1.isNone)) = false := by rfl) : dE X G0 (.Call (.Name x p) [] kws pos) δ μ Φ := fun σ H B Q kk => by
  obtain ⟨fI, fd, i1, i2, i3, i4⟩ := T.init
  refine wE_of (pe_errk T.oex i1 i2 i3 (hr.mono hk) i4 passN hg T.gC pk_w hdb hall hks hpl) ?_
  refine h σ H B _ fun vs H1 xs μ1 ⟨d, ed, q⟩ m1 e1 r1 => ?_
  subst ed
  obtain ⟨v, rfl, r2⟩ := rp1 r1
  refine ⟨v, rfl, fun a dx h1 h2 hn => ?_⟩
  obtain ⟨z1, z2, z3⟩ := err_new (C := C) (f := f) m1 h1 h2 hn r2 rfl
  exact kk _ _ _ _ q z1 (e1.trans z2) z3
theorem d_err0 {bmB : List Value} {Bn newId initId : String} (F : ExcBaseFacts Bn newId initId bmB) (qx : PySem.W.excIn X.K C bmB newId = true) (gC : X.mg x = some (.ref C)) (kC : PySem.W.keepIn X.K (.ref C) = true) (q : Φ (.exb C) μ) (hg : Gl X x := by rfl) (hdb : (x == ("__debug__" : Str)) = false := by decide) :
    dE X G0 (.Call (.Name x p) [] [] pos) δ μ Φ := fun σ H B Q kk => by
  refine wE_of (pe_exc0 F qx gC kC hg hdb) ?_
  intro a ha
  refine kk _ _ _ _ q (B.mu.ext (sub_new ha)) (mu_sub ha) (.exb ?_)
  exact im_at B.mu ha
/-- isinstance(found, class), found the error that the suite holds -/
theorem c_isx {a d : Addr} {oe : Obj} {pn : List (Addr × Obj)} {gs : List (Str × D)} {c : D} {u : Value} {b : Bool} (hz : L2N.Zn (.ref C) (some d) oe) (hf : ∃ vs, oe.data = .fields vs) (ec : ErrC X.K C) (g : ClsG X.K) (hc : ClsD c u) (hk : PySem.W.kitOne X.K (.ref C) u = some b) (q : Φ (.bl b) μ) :
    dCall (X.suite a ((a, oe) :: pn)) (.builtin "isinstance") [.exc a C d gs, c] μ Φ := fun vs H r m Q k pins s σ us I rv => by
  obtain ⟨v, w, rfl, r1, r2⟩ := rp2 r
  obtain ⟨u1, u2, rfl, y1, y2⟩ := vals2 rv
  have e2 := hc.val r2 y2
  subst e2
  cases r1 with
  | exc h1 _ =>
    cases y1
    obtain ⟨ha, _⟩ := I.pin (a, oe) (List.mem_append_left _ List.mem_cons_self)
    obtain ⟨vs, hv⟩ := hf
    obtain ⟨mA, hns, hr⟩ := (show ObjOk X.prog X.w H s.heap d (.xd _) from I.hok d _ (im_all _ _ h1))
    obtain ⟨od, ho, hl⟩ := lookIn_ns hns
    have J : PySem.W.InstAt s.heap a oe C (some od) := ⟨ha, hz.1, by unfold PySem.W.notCls; rw [hv] <;> rfl, by rw [hz.zc.2]; exact ho⟩
    exact PySem.W.kia_one (K := X.K) (kit_err ec g) I.kIn J hk (fun z => nomatch z) fun tk => ⟨.bl b, H, I.tok tk, rfl, k.val m q (.bl _)⟩
end
end DL

set_option maxHeartbeats 1000000
namespace DL
open PySem PySem.Spec PyProof.Rows L2
/-- an error's class object, by its line of classes -/
structure XL (K : PySem.W.Frag) (C : Addr) (bm : List Value) : Prop where
  ex : ∃ (nm q : Str) (N : Addr) (bs : List Value) (sn : List Str) (sub : List Value) (ab : Bool) (col : Option Bool) (dd : Option Addr) (m0 m1 m2 m3 m5 : Option Value),
    K.lookup C = some (excClassObj nm q C N bs bm true sn sub ab col dd m0 m1 m2 m3 m5 "ValueError.__new__")
section
variable {K : PySem.W.Frag} {C C2 CD : Addr} {bm : List Value}
theorem XL.cd (x : XL K C bm) : ∃ cd : ClassData, PySem.W.clsIn K C = some cd ∧ cd.mro = .ref C :: bm ∧ cd.hasDict = true := by
  obtain ⟨nm, q, N, bs, sn, sub, ab, col, dd, m0, m1, m2, m3, m5, e⟩ := x.ex
  unfold PySem.W.clsIn
  rw [e]
  exact ⟨_, rfl, rfl, rfl⟩
theorem XL.cl (x : XL K C bm) : (PySem.W.clsIn K C).isSome = true := by
  obtain ⟨cd, e, _⟩ := x.cd
  rw [e]
  rfl
theorem XL.hd (x : XL K C bm) : PySem.W.hasDictIn K C = true := by
  obtain ⟨cd, e, _, h⟩ := x.cd
  unfold PySem.W.hasDictIn
  rw [e]
  exact h
theorem XL.ty (x : XL K C bm) : PySem.W.typeIn K (.ref C) = some (.type "type") := by
  obtain ⟨nm, q, N, bs, sn, sub, ab, col, dd, m0, m1, m2, m3, m5, e⟩ := x.ex
  show (K.lookup C).map (·.cls) = _
  rw [e]
  rfl
theorem XL.mro (x : XL K C bm) (v : Value) : PySem.W.mroIn K C v = some ((Value.ref C :: bm).contains v) := by
  obtain ⟨cd, e, h, _⟩ := x.cd
  unfold PySem.W.mroIn
  rw [e, Option.bind_some, h]
  rfl
theorem XL.sub (x : XL K C bm) (v : Value) : PySem.W.subIn K (.ref C) v = some ((Value.ref C :: bm).contains v) := x.mro v
/-- the line of the text's own errors -/
def ownL (CD : Addr) : List Value := [.ref CD, .type "ValueError", .type "Exception", .type "BaseException", .type "object"]
def baseL : List Value := [.type "ValueError", .type "Exception", .type "BaseException", .type "object"]
theorem kit_own (x : XL K C (ownL CD)) (y : XL K C2 (ownL CD)) (h : C2 ≠ CD) : PySem.W.kitOne K (.ref C) (.ref C2) = some (decide (C = C2)) := by
  unfold PySem.W.kitOne
  by_cases e : C = C2
  · subst e
    rw [if_pos (beq_self_eq_true _), decide_eq_true rfl]
  · have e2 : (Value.ref C == Value.ref C2) = false := beq_eq_false_iff_ne.mpr fun z => e (Value.ref.inj z)
    rw [e2, if_neg Bool.false_ne_true, decide_eq_false e]
    show (if ((PySem.W.clsIn K C2).isSome && PySem.W.typeIn K (.ref C2) == some (.type "type")) = true then PySem.W.subIn K (.ref C) (.ref C2) else none) = _
    rw [if_pos (by rw [y.cl, y.ty]; exact beq_self_eq_true _), x.sub]
    unfold ownL
    have e3 : (Value.ref C2 == Value.ref C) = false := beq_eq_false_iff_ne.mpr fun z => e (Value.ref.inj z).symm
    have e4 : (Value.ref C2 == Value.ref CD) = false := beq_eq_false_iff_ne.mpr fun z => h (Value.ref.inj z)
    simp only [List.contains_cons, e3, e4, List.contains_nil, Bool.or_false, Bool.false_or]
    rfl
theorem kit_div (x : XL K C (ownL CD)) (y : XL K CD baseL) : PySem.W.kitOne K (.ref C) (.ref CD) = some true := by
  unfold PySem.W.kitOne
  by_cases e : (Value.ref C == Value.ref CD) = true
  · rw [if_pos e]
  · rw [if_neg e]
    show (if ((PySem.W.clsIn K CD).isSome && PySem.W.typeIn K (.ref CD) == some (.type "type")) = true then PySem.W.subIn K (.ref C) (.ref CD) else none) = _
    rw [if_pos (by rw [y.cl, y.ty]; exact beq_self_eq_true _), x.sub]
    unfold ownL
    simp only [List.contains_cons, beq_self_eq_true, Bool.or_true, Bool.true_or]
theorem kit_val (x : XL K C (ownL CD)) : PySem.W.kitOne K (.ref C) (.type "ValueError") = some true := by
  unfold PySem.W.kitOne
  have e2 : (Value.ref C == Value.type "ValueError") = false := rfl
  rw [e2, if_neg Bool.false_ne_true]
  show (if PySem.W.kitMeta "ValueError" = true then PySem.W.subIn K (.ref C) (.type "ValueError") else none) = _
  rw [if_pos (by decide +kernel), x.sub]
  unfold ownL
  simp only [List.contains_cons, beq_self_eq_true, Bool.or_true, Bool.true_or]
theorem exm_div (x : XL K C (ownL CD)) (y : XL K CD baseL) : PySem.W.exmOne K (.ref C) (.ref CD) = some true := by
  unfold PySem.W.exmOne
  rw [y.sub]
  have e : (some ((Value.ref CD :: baseL).contains (.type "BaseException")) == some true) = true := by
    unfold baseL
    simp only [List.contains_cons, beq_self_eq_true, Bool.or_true, Bool.true_or]
  rw [if_pos e]
  show (if ((PySem.W.clsIn K CD).isSome && PySem.W.typeIn K (.ref CD) == some (.type "type")) = true then PySem.W.subIn K (.ref C) (.ref CD) else none) = _
  rw [if_pos (by rw [y.cl, y.ty]; exact beq_self_eq_true _), x.sub]
  unfold ownL
  simp only [List.contains_cons, beq_self_eq_true, Bool.or_true, Bool.true_or]
theorem exm_self (x : XL K C (ownL CD)) : PySem.W.exmOne K (.ref C) (.ref C) = some true := by
  unfold PySem.W.exmOne
  rw [x.sub]
  have e : (some ((Value.ref C :: ownL CD).contains (.type "BaseException")) == some true) = true := by
    unfold ownL
    simp only [List.contains_cons, beq_self_eq_true, Bool.or_true, Bool.true_or]
  rw [if_pos e]
  show (if ((PySem.W.clsIn K C).isSome && PySem.W.typeIn K (.ref C) == some (.type "type")) = true then PySem.W.subIn K (.ref C) (.ref C) else none) = _
  rw [if_pos (by rw [x.cl, x.ty]; exact beq_self_eq_true _), x.sub]
  simp only [List.contains_cons, beq_self_eq_true, Bool.true_or]
theorem sub_base (x : XL K C (ownL CD)) : PySem.W.subIn K (.ref C) (.type "BaseException") = some true := by
  rw [x.sub]
  unfold ownL
  simp only [List.contains_cons, beq_self_eq_true, Bool.or_true, Bool.true_or]
theorem mro_obj (x : XL K C (ownL CD)) : PySem.W.mroIn K C (.type "object") = some true := by
  rw [x.mro]
  unfold ownL
  simp only [List.contains_cons, beq_self_eq_true, Bool.or_true, Bool.true_or]
theorem XL.err (x : XL K C (ownL CD)) (ga : PySem.W.findIn K (.ref C) "__getattribute__" = some (some (.builtin "BaseException.__getattribute__"))) (gg : PySem.W.findIn K (.ref C) "__getattr__" = some none) (ac : PySem.W.findIn K (.ref C) "__class__" = some (some (.builtin "object.__class__"))) : ErrC K C :=
  ⟨⟨ga, gg, sub_base x, x.hd⟩, x.cl, ac, mro_obj x⟩
end
/-- e is an error of the class C -/
inductive IsErr : D → Addr → Prop
  | v (C : Addr) (f : Str) (d : D) : IsErr (.exv C f d) C
  | b (C : Addr) : IsErr (.exb C) C
section
variable {X : Cx} {G0 : Hp} {e : Expr} {δ : List (Option D)} {μ : Mu} {Φ : DK} {C : Addr} {xs : List D}
theorem c_ise {d c : D} {u : Value} {b : Bool} (he : IsErr d C) (ec : ErrC X.K C) (g : ClsG X.K) (hc : ClsD c u) (hk : PySem.W.kitOne X.K (.ref C) u = some b) (q : Φ (.bl b) μ) : dCall X (.builtin "isinstance") [d, c] μ Φ := by
  cases he with
  | v f d => exact c_isv ec g hc hk q
  | b => exact c_isb ec g hc hk q
/-- x in a list -/
theorem o_inL {x : D} {p : PyData} {ps : List PyData} (hu : X.A.units + 65 < cLine) (hx : Py μ x p) (hy : PyAll μ xs ps) (sx : SeqAt.shaped p = true) (sy : SeqAt.shaped (.list ps) = true) (q : Φ (.bl (ps.any fun z => PyData.eqv z p)) μ) : dOp X (compareOp .In) x (.lst xs) μ Φ := fun v u H r1 r2 m Q k =>
  wOp_of (op_inD hu) ⟨p, ps, hx.dp m r1, (Py.lst hy).dp m r2, sx, sy, k.val m q (.bl _)⟩
theorem py_bls {μ : Mu} : ∀ bs : List Bool, PyAll μ (bs.map D.bl) (bs.map PyData.bool)
  | [] => .nil
  | b :: bs => .cons (.bl b) (py_bls bs)
theorem canLay_bls : ∀ bs : List Bool, PyData.canLayAll0 (bs.map PyData.bool) = true
  | [] => rfl
  | b :: bs => by
    rw [List.map_cons, PyData.canLayAll0, canLay_bls bs]
    rfl
theorem depth_bls : ∀ bs : List Bool, PyData.depthAll (bs.map PyData.bool) ≤ 1
  | [] => by
    rw [List.map_nil, PyData.depthAll]
    omega
  | b :: bs => by
    rw [List.map_cons, PyData.depthAll]
    have h1 := depth_bls bs
    have h2 : (PyData.bool b).depth ≤ 1 := Nat.le_of_ble_eq_true rfl
    omega
theorem cl_bls (bs : List Bool) : (PyData.list (bs.map PyData.bool)).canLay0 = true := by
  rw [PyData.canLay0]
  exact canLay_bls bs
theorem dp_bls (bs : List Bool) : (PyData.list (bs.map PyData.bool)).depth ≤ 64 := by
  have h := depth_bls bs
  rw [PyData.depth]
  omega
end
end DL

open PySem PySem.Spec PyProof.Rows L2 DL
namespace K13
open PySem PySem.Spec PyProof.Rows L2 DL
/-! ### the text -/
def topS (i : Nat) : Stmt := PySem.Challenge.pw_leastcomplaint_k13_error_classes.main.body.getD i (.Pass ⟨0, 0, 0, 0⟩)
abbrev s_law_pool : Stmt := topS 26
theorem sc_law_pool : FnScope ["_law_script"] ["_law_script"] (defScope s_law_pool) := ⟨rfl, rfl, rfl, by decide +kernel, rfl, by decide +kernel, by decide +kernel⟩
abbrev s_law_take : Stmt := topS 27
theorem sc_law_take : FnScope ["_law_pool_here", "_law_many", "_law_at", "_law_drawn", "_law_mixed", "_law_digit"] ["_law_pool_here", "_law_many"] (defScope s_law_take) := ⟨rfl, rfl, rfl, by decide +kernel, rfl, by decide +kernel, by decide +kernel⟩
abbrev s_law_kinds : Stmt := topS 28
theorem sc_law_kinds : FnScope ["_law_e", "_law_first", "_law_bare"] ["_law_e"] (defScope s_law_kinds) := ⟨rfl, rfl, rfl, by decide +kernel, rfl, by decide +kernel, by decide +kernel⟩
abbrev s_law_made : Stmt := topS 29
theorem sc_law_made : FnScope ["_law_kind", "_law_thing", "_law_made_here"] ["_law_kind", "_law_thing"] (defScope s_law_made) := ⟨rfl, rfl, rfl, by decide +kernel, rfl, by decide +kernel, by decide +kernel⟩
abbrev s_law_field : Stmt := topS 30
theorem sc_law_field : FnScope ["_law_kind", "_law_e"] ["_law_kind", "_law_e"] (defScope s_law_field) := ⟨rfl, rfl, rfl, by decide +kernel, rfl, by decide +kernel, by decide +kernel⟩
abbrev s_law_same : Stmt := topS 31
theorem sc_law_same : FnScope ["_law_one", "_law_other"] ["_law_one", "_law_other"] (defScope s_law_same) := ⟨rfl, rfl, rfl, by decide +kernel, rfl, by decide +kernel, by decide +kernel⟩
abbrev s_law : Stmt := topS 32
theorem sc_law : FnScope ["_law_script", "_law_pool_here", "_law_number", "_law_thing", "_law_kind", "_law_e", "found", "_law_k"] ["_law_script"] (defScope s_law) := ⟨rfl, rfl, rfl, by decide +kernel, rfl, by decide +kernel, by decide +kernel⟩
abbrev c_DivisionError : Stmt := topS 1
abbrev c_BadRatio : Stmt := topS 2
abbrev s_BadRatio_init : Stmt := inClass c_BadRatio 0
theorem sc_BadRatio_init : FnScope ["self", "bottom"] ["self", "bottom"] (defScope s_BadRatio_init) := ⟨rfl, rfl, rfl, by decide +kernel, rfl, by decide +kernel, by decide +kernel⟩
abbrev c_BadText : Stmt := topS 3
abbrev c_BadPlayers : Stmt := topS 4
abbrev c_BadWorths : Stmt := topS 5
abbrev c_BadAmounts : Stmt := topS 6
abbrev c_BadOrder : Stmt := topS 7
abbrev c_BadProgram : Stmt := topS 8
abbrev c_BadShares : Stmt := topS 9
abbrev c_BadName : Stmt := topS 10
abbrev s_BadName_init : Stmt := inClass c_BadName 0
theorem sc_BadName_init : FnScope ["self", "name"] ["self", "name"] (defScope s_BadName_init) := ⟨rfl, rfl, rfl, by decide +kernel, rfl, by decide +kernel, by decide +kernel⟩
abbrev c_BadLine : Stmt := topS 11
abbrev s_BadLine_init : Stmt := inClass c_BadLine 0
theorem sc_BadLine_init : FnScope ["self", "line"] ["self", "line"] (defScope s_BadLine_init) := ⟨rfl, rfl, rfl, by decide +kernel, rfl, by decide +kernel, by decide +kernel⟩
abbrev c_NoGroup : Stmt := topS 12
abbrev s_NoGroup_init : Stmt := inClass c_NoGroup 0
theorem sc_NoGroup_init : FnScope ["self", "group"] ["self", "group"] (defScope s_NoGroup_init) := ⟨rfl, rfl, rfl, by decide +kernel, rfl, by decide +kernel, by decide +kernel⟩
abbrev c_NoPlayer : Stmt := topS 13
abbrev s_NoPlayer_init : Stmt := inClass c_NoPlayer 0
theorem sc_NoPlayer_init : FnScope ["self", "player"] ["self", "player"] (defScope s_NoPlayer_init) := ⟨rfl, rfl, rfl, by decide +kernel, rfl, by decide +kernel, by decide +kernel⟩
abbrev c_NotDivision : Stmt := topS 14
abbrev c_NotFamily : Stmt := topS 15
abbrev c_NotCalm : Stmt := topS 16
abbrev c_TooMany : Stmt := topS 17
abbrev s_TooMany_init : Stmt := inClass c_TooMany 0
theorem sc_TooMany_init : FnScope ["self", "players"] ["self", "players"] (defScope s_TooMany_init) := ⟨rfl, rfl, rfl, by decide +kernel, rfl, by decide +kernel, by decide +kernel⟩
abbrev c_Mismatch : Stmt := topS 18
abbrev c_NameTaken : Stmt := topS 19
abbrev s_NameTaken_init : Stmt := inClass c_NameTaken 0
theorem sc_NameTaken_init : FnScope ["self", "name"] ["self", "name"] (defScope s_NameTaken_init) := ⟨rfl, rfl, rfl, by decide +kernel, rfl, by decide +kernel, by decide +kernel⟩
abbrev c_UnknownName : Stmt := topS 20
abbrev s_UnknownName_init : Stmt := inClass c_UnknownName 0
theorem sc_UnknownName_init : FnScope ["self", "name"] ["self", "name"] (defScope s_UnknownName_init) := ⟨rfl, rfl, rfl, by decide +kernel, rfl, by decide +kernel, by decide +kernel⟩
abbrev c_NothingToUndo : Stmt := topS 21
abbrev c_NothingToRedo : Stmt := topS 22
abbrev c_BadGains : Stmt := topS 23
abbrev c_BadLinks : Stmt := topS 24

end K13

set_option maxHeartbeats 1600000
open PySem PySem.Spec PyProof.Rows L2 DL
local macro_rules | `(tactic| walk_at "dv") => `(tactic| ((with_reducible refine' d_v ?hN ?hd ?hv ?_); (case hN => with_reducible assumption); (case hd => rfl); (case hv => first | exact Or.inl rfl | exact Or.inr (Or.inl rfl) | exact Or.inr (Or.inr rfl))))
local macro_rules | `(tactic| walk_at "o1") => `(tactic| first | with_reducible refine o_add ?_ | with_reducible refine o_sub ?_ | with_reducible refine o_lt ?_ | with_reducible refine o_le ?_ | with_reducible refine o_gt ?_ | with_reducible refine o_ge ?_ | with_reducible refine o_eq ?_ | with_reducible refine o_ne ?_ | with_reducible refine o_neg ?_ | with_reducible refine o_eqS ?_ | with_reducible refine o_neS ?_ | ((with_reducible refine' x_tup ?h ?_); (case h => rfl)) | ((with_reducible refine' x_lst ?h ?_); (case h => rfl)) | with_reducible refine c_int ?_ | with_reducible refine c_intB ?_ | with_reducible refine c_abs ?_ | with_reducible refine c_lenL ?_ | with_reducible refine c_lenT ?_ | ((with_reducible refine c_max2 ?_ ?hc); (case hc => rfl)) | with_reducible refine tr_bl ?_ | with_reducible refine bl_ex ?_)
local macro_rules | `(tactic| walk_at "db") => `(tactic| first | ((with_reducible refine db_abs ?_ ?hm ?hg ?he ?hpl); (case hm => with_reducible assumption); (case hg => rfl); (case he => rfl); (case hpl => rfl)) | ((with_reducible refine db_len ?_ ?hm ?hg ?he ?hpl); (case hm => with_reducible assumption); (case hg => rfl); (case he => rfl); (case hpl => rfl)) | ((with_reducible refine db_max ?_ ?hm ?hg ?he ?hpl); (case hm => with_reducible assumption); (case hg => rfl); (case he => rfl); (case hpl => rfl)) | ((with_reducible refine db_int ?_ ?hm ?hg ?he ?hpl); (case hm => with_reducible assumption); (case hg => rfl); (case he => rfl); (case hpl => rfl)) | ((with_reducible refine db_isinstance ?_ ?hm ?hg ?he ?hpl); (case hm => with_reducible assumption); (case hg => rfl); (case he => rfl); (case hpl => rfl)) | ((with_reducible refine db_list ?_ ?hm ?hg ?he ?hpl); (case hm => with_reducible assumption); (case hg => rfl); (case he => rfl); (case hpl => rfl)) | ((with_reducible refine db_tuple ?_ ?hm ?hg ?he ?hpl); (case hm => with_reducible assumption); (case hg => rfl); (case he => rfl); (case hpl => rfl)) | ((with_reducible refine dt_int ?_ ?hm ?hg); (case hm => with_reducible assumption); (case hg => rfl)) | ((with_reducible refine dt_bool ?_ ?hm ?hg); (case hm => with_reducible assumption); (case hg => rfl)) | ((with_reducible refine dt_tuple ?_ ?hm ?hg); (case hm => with_reducible assumption); (case hg => rfl)))
local macro_rules | `(tactic| walk_at "d1") => `(tactic| first | walk_at "dv" | with_reducible refine d_int ?_ | with_reducible refine d_str ?_ | with_reducible refine d_bl ?_ | with_reducible refine d_non ?_ | with_reducible refine d_op ?_ | with_reducible refine d_un ?_ | ((with_reducible refine d_ix ?_ ?hs); (case hs => exact fun _ _ => rfl)) | walk_at "o1" | ((with_reducible refine d_cmp ?_ ?hm); (case hm => first | exact nomark _ | rfl)) | ((with_reducible refine t_cmp ?_ ?hm); (case hm => first | exact nomark _ | rfl)) | with_reducible refine d_tup ?_ | with_reducible refine t_not ?_ | ((with_reducible refine t_val ?_ ?he); (case he => intro _; rfl)) | ((with_reducible refine da_cons ?_ ?hs); (case hs => rfl)) | with_reducible refine da_nil ?_ | walk_at "db")
local macro_rules | `(tactic| walk_at "dd") => `(tactic| repeat walk_at "d1")
namespace K13
section
/-- a class of the text's own, with one field; with none -/
structure Own (P : Program) (w : World) (K : PySem.W.Frag) (mg : Str → Option Value) (base : Heap) (cD : Addr) (x f : Str) (C : Addr) : Prop where
  T : ExcT P w K mg base x f C
  Tk : ExcK P w K mg base x f C
  xl : XL K C (ownL cD)
  er : ErrC K C
structure Bar (K : PySem.W.Frag) (mg : Str → Option Value) (cD : Addr) (x : Str) (C : Addr) : Prop where
  gC : mg x = some (.ref C)
  qx : PySem.W.excIn K C [.type "ValueError", .type "Exception", .type "BaseException", .type "object"] "ValueError.__new__" = true
  kC : PySem.W.keepIn K (.ref C) = true
  xl : XL K C (ownL cD)
  er : ErrC K C
theorem Own.g {P : Program} {w : World} {K : PySem.W.Frag} {mg : Str → Option Value} {base : Heap} {cD : Addr} {x f : Str} {C : Addr} (o : Own P w K mg base cD x f C) : ∃ u, mg x = some u ∧ RelV (.ref C) u := ⟨_, o.T.gC, rfl⟩
theorem Bar.g {K : PySem.W.Frag} {mg : Str → Option Value} {cD : Addr} {x : Str} {C : Addr} (o : Bar K mg cD x C) : ∃ u, mg x = some u ∧ RelV (.ref C) u := ⟨_, o.gC, rfl⟩

/-- all of them -/
structure All (P : Program) (w : World) (K : PySem.W.Frag) (mg : Str → Option Value) (base : Heap) (cD c0 c1 c2 c3 c4 c5 c6 c7 c8 c9 c10 c11 c12 c13 c14 c15 c16 c17 c18 c19 c20 c21 c22 : Addr) : Prop where
  o0 : Own P w K mg base cD "BadLine" "line" c0
  o1 : Own P w K mg base cD "BadName" "name" c1
  o2 : Own P w K mg base cD "BadRatio" "bottom" c2
  o3 : Own P w K mg base cD "NameTaken" "name" c3
  o4 : Own P w K mg base cD "NoGroup" "group" c4
  o5 : Own P w K mg base cD "NoPlayer" "player" c5
  o6 : Own P w K mg base cD "TooMany" "players" c6
  o7 : Own P w K mg base cD "UnknownName" "name" c7
  o8 : Bar K mg cD "BadAmounts" c8
  o9 : Bar K mg cD "BadGains" c9
  o10 : Bar K mg cD "BadLinks" c10
  o11 : Bar K mg cD "BadOrder" c11
  o12 : Bar K mg cD "BadPlayers" c12
  o13 : Bar K mg cD "BadProgram" c13
  o14 : Bar K mg cD "BadShares" c14
  o15 : Bar K mg cD "BadText" c15
  o16 : Bar K mg cD "BadWorths" c16
  o17 : Bar K mg cD "Mismatch" c17
  o18 : Bar K mg cD "NotCalm" c18
  o19 : Bar K mg cD "NotDivision" c19
  o20 : Bar K mg cD "NotFamily" c20
  o21 : Bar K mg cD "NothingToRedo" c21
  o22 : Bar K mg cD "NothingToUndo" c22
  gD : mg "DivisionError" = some (.ref cD)
  xD : XL K cD baseL
  gl : ClsG K
  nd : (cD :: [c0, c1, c2, c3, c4, c5, c6, c7, c8, c9, c10, c11, c12, c13, c14, c15, c16, c17, c18, c19, c20, c21, c22]).Nodup
variable {P : Program} {w : World} {K : PySem.W.Frag} {mg : Str → Option Value} {base : Heap} {cD c0 c1 c2 c3 c4 c5 c6 c7 c8 c9 c10 c11 c12 c13 c14 c15 c16 c17 c18 c19 c20 c21 c22 : Addr}
def cls (c0 c1 c2 c3 c4 c5 c6 c7 c8 c9 c10 c11 c12 c13 c14 c15 c16 c17 c18 c19 c20 c21 c22 : Addr) : List Addr := [c0, c1, c2, c3, c4, c5, c6, c7, c8, c9, c10, c11, c12, c13, c14, c15, c16, c17, c18, c19, c20, c21, c22]
theorem All.n0 (F : All P w K mg base cD c0 c1 c2 c3 c4 c5 c6 c7 c8 c9 c10 c11 c12 c13 c14 c15 c16 c17 c18 c19 c20 c21 c22) : c0 ≠ cD := fun z => (List.nodup_cons.mp F.nd).1 (by rw [← z]; simp)
theorem All.n1 (F : All P w K mg base cD c0 c1 c2 c3 c4 c5 c6 c7 c8 c9 c10 c11 c12 c13 c14 c15 c16 c17 c18 c19 c20 c21 c22) : c1 ≠ cD := fun z => (List.nodup_cons.mp F.nd).1 (by rw [← z]; simp)
theorem All.n2 (F : All P w K mg base cD c0 c1 c2 c3 c4 c5 c6 c7 c8 c9 c10 c11 c12 c13 c14 c15 c16 c17 c18 c19 c20 c21 c22) : c2 ≠ cD := fun z => (List.nodup_cons.mp F.nd).1 (by rw [← z]; simp)
theorem All.n3 (F : All P w K mg base cD c0 c1 c2 c3 c4 c5 c6 c7 c8 c9 c10 c11 c12 c13 c14 c15 c16 c17 c18 c19 c20 c21 c22) : c3 ≠ cD := fun z => (List.nodup_cons.mp F.nd).1 (by rw [← z]; simp)
theorem All.n4 (F : All P w K mg base cD c0 c1 c2 c3 c4 c5 c6 c7 c8 c9 c10 c11 c12 c13 c14 c15 c16 c17 c18 c19 c20 c21 c22) : c4 ≠ cD := fun z => (List.nodup_cons.mp F.nd).1 (by rw [← z]; simp)
theorem All.n5 (F : All P w K mg base cD c0 c1 c2 c3 c4 c5 c6 c7 c8 c9 c10 c11 c12 c13 c14 c15 c16 c17 c18 c19 c20 c21 c22) : c5 ≠ cD := fun z => (List.nodup_cons.mp F.nd).1 (by rw [← z]; simp)
theorem All.n6 (F : All P w K mg base cD c0 c1 c2 c3 c4 c5 c6 c7 c8 c9 c10 c11 c12 c13 c14 c15 c16 c17 c18 c19 c20 c21 c22) : c6 ≠ cD := fun z => (List.nodup_cons.mp F.nd).1 (by rw [← z]; simp)
theorem All.n7 (F : All P w K mg base cD c0 c1 c2 c3 c4 c5 c6 c7 c8 c9 c10 c11 c12 c13 c14 c15 c16 c17 c18 c19 c20 c21 c22) : c7 ≠ cD := fun z => (List.nodup_cons.mp F.nd).1 (by rw [← z]; simp)
theorem All.n8 (F : All P w K mg base cD c0 c1 c2 c3 c4 c5 c6 c7 c8 c9 c10 c11 c12 c13 c14 c15 c16 c17 c18 c19 c20 c21 c22) : c8 ≠ cD := fun z => (List.nodup_cons.mp F.nd).1 (by rw [← z]; simp)
theorem All.n9 (F : All P w K mg base cD c0 c1 c2 c3 c4 c5 c6 c7 c8 c9 c10 c11 c12 c13 c14 c15 c16 c17 c18 c19 c20 c21 c22) : c9 ≠ cD := fun z => (List.nodup_cons.mp F.nd).1 (by rw [← z]; simp)
theorem All.n10 (F : All P w K mg base cD c0 c1 c2 c3 c4 c5 c6 c7 c8 c9 c10 c11 c12 c13 c14 c15 c16 c17 c18 c19 c20 c21 c22) : c10 ≠ cD := fun z => (List.nodup_cons.mp F.nd).1 (by rw [← z]; simp)
theorem All.n11 (F : All P w K mg base cD c0 c1 c2 c3 c4 c5 c6 c7 c8 c9 c10 c11 c12 c13 c14 c15 c16 c17 c18 c19 c20 c21 c22) : c11 ≠ cD := fun z => (List.nodup_cons.mp F.nd).1 (by rw [← z]; simp)
theorem All.n12 (F : All P w K mg base cD c0 c1 c2 c3 c4 c5 c6 c7 c8 c9 c10 c11 c12 c13 c14 c15 c16 c17 c18 c19 c20 c21 c22) : c12 ≠ cD := fun z => (List.nodup_cons.mp F.nd).1 (by rw [← z]; simp)
theorem All.n13 (F : All P w K mg base cD c0 c1 c2 c3 c4 c5 c6 c7 c8 c9 c10 c11 c12 c13 c14 c15 c16 c17 c18 c19 c20 c21 c22) : c13 ≠ cD := fun z => (List.nodup_cons.mp F.nd).1 (by rw [← z]; simp)
theorem All.n14 (F : All P w K mg base cD c0 c1 c2 c3 c4 c5 c6 c7 c8 c9 c10 c11 c12 c13 c14 c15 c16 c17 c18 c19 c20 c21 c22) : c14 ≠ cD := fun z => (List.nodup_cons.mp F.nd).1 (by rw [← z]; simp)
theorem All.n15 (F : All P w K mg base cD c0 c1 c2 c3 c4 c5 c6 c7 c8 c9 c10 c11 c12 c13 c14 c15 c16 c17 c18 c19 c20 c21 c22) : c15 ≠ cD := fun z => (List.nodup_cons.mp F.nd).1 (by rw [← z]; simp)
theorem All.n16 (F : All P w K mg base cD c0 c1 c2 c3 c4 c5 c6 c7 c8 c9 c10 c11 c12 c13 c14 c15 c16 c17 c18 c19 c20 c21 c22) : c16 ≠ cD := fun z => (List.nodup_cons.mp F.nd).1 (by rw [← z]; simp)
theorem All.n17 (F : All P w K mg base cD c0 c1 c2 c3 c4 c5 c6 c7 c8 c9 c10 c11 c12 c13 c14 c15 c16 c17 c18 c19 c20 c21 c22) : c17 ≠ cD := fun z => (List.nodup_cons.mp F.nd).1 (by rw [← z]; simp)
theorem All.n18 (F : All P w K mg base cD c0 c1 c2 c3 c4 c5 c6 c7 c8 c9 c10 c11 c12 c13 c14 c15 c16 c17 c18 c19 c20 c21 c22) : c18 ≠ cD := fun z => (List.nodup_cons.mp F.nd).1 (by rw [← z]; simp)
theorem All.n19 (F : All P w K mg base cD c0 c1 c2 c3 c4 c5 c6 c7 c8 c9 c10 c11 c12 c13 c14 c15 c16 c17 c18 c19 c20 c21 c22) : c19 ≠ cD := fun z => (List.nodup_cons.mp F.nd).1 (by rw [← z]; simp)
theorem All.n20 (F : All P w K mg base cD c0 c1 c2 c3 c4 c5 c6 c7 c8 c9 c10 c11 c12 c13 c14 c15 c16 c17 c18 c19 c20 c21 c22) : c20 ≠ cD := fun z => (List.nodup_cons.mp F.nd).1 (by rw [← z]; simp)
theorem All.n21 (F : All P w K mg base cD c0 c1 c2 c3 c4 c5 c6 c7 c8 c9 c10 c11 c12 c13 c14 c15 c16 c17 c18 c19 c20 c21 c22) : c21 ≠ cD := fun z => (List.nodup_cons.mp F.nd).1 (by rw [← z]; simp)
theorem All.n22 (F : All P w K mg base cD c0 c1 c2 c3 c4 c5 c6 c7 c8 c9 c10 c11 c12 c13 c14 c15 c16 c17 c18 c19 c20 c21 c22) : c22 ≠ cD := fun z => (List.nodup_cons.mp F.nd).1 (by rw [← z]; simp)
def spKinds (cD c0 c1 c2 c3 c4 c5 c6 c7 c8 c9 c10 c11 c12 c13 c14 c15 c16 c17 c18 c19 c20 c21 c22 : Addr) (K : PySem.W.Frag) : DSp := fun ds μ Φ _ => ∃ (d : D) (C : Addr), ds = [d] ∧ IsErr d C ∧ ErrC K C ∧ XL K C (ownL cD) ∧ Φ (.lst (([c0, c1, c2, c3, c4, c5, c6, c7, c8, c9, c10, c11, c12, c13, c14, c15, c16, c17, c18, c19, c20, c21, c22].map fun c => decide (C = c)).map .bl)) μ
theorem ok_kinds (F : All P w K mg base cD c0 c1 c2 c3 c4 c5 c6 c7 c8 c9 c10 c11 c12 c13 c14 c15 c16 c17 c18 c19 c20 c21 c22) (Df : DefT K mg "_law_kinds" s_law_kinds ["_law_e"]) (m_isinstance : mg "isinstance" = none) : Cal P w K mg base 1 "_law_kinds" (spKinds cD c0 c1 c2 c3 c4 c5 c6 c7 c8 c9 c10 c11 c12 c13 c14 c15 c16 c17 c18 c19 c20 c21 c22 K) := by
  refine Df.cal (k := 0) sc_law_kinds (fun ds μ Φ Ψ ⟨d, C, e, _⟩ => by rw [e]; rfl) (fun ds μ Φ Ψ h => ⟨fun f cd A outer s H E G0 hr hp tk => ?_⟩)
  have hnd := sc_law_kinds.nd
  have nm0 : (cxD P w K mg base ["_law_e", "_law_first", "_law_bare"] "_law_kinds" s_law_kinds f cd A outer s H E).N[0]? = some ("_law_e" : Str) ∧ (("_law_e" : Str) == ("__debug__" : Str)) = false ∧ (("_law_e" : Str) == ("__classdict__" : Str)) = false := ⟨rfl, by decide, by decide⟩
  have nm1 : (cxD P w K mg base ["_law_e", "_law_first", "_law_bare"] "_law_kinds" s_law_kinds f cd A outer s H E).N[1]? = some ("_law_first" : Str) ∧ (("_law_first" : Str) == ("__debug__" : Str)) = false ∧ (("_law_first" : Str) == ("__classdict__" : Str)) = false := ⟨rfl, by decide, by decide⟩
  have nm2 : (cxD P w K mg base ["_law_e", "_law_first", "_law_bare"] "_law_kinds" s_law_kinds f cd A outer s H E).N[2]? = some ("_law_bare" : Str) ∧ (("_law_bare" : Str) == ("__debug__" : Str)) = false ∧ (("_law_bare" : Str) == ("__classdict__" : Str)) = false := ⟨rfl, by decide, by decide⟩
  have bn_isinstance : (cxD P w K mg base ["_law_e", "_law_first", "_law_bare"] "_law_kinds" s_law_kinds f cd A outer s H E).mg "isinstance" = none := m_isinstance
  obtain ⟨d, C, rfl, he, ec, xl, q⟩ := h
  refine s_cons (s_set (i := 1) ?_)
  refine d_lst ?_
  walk_at "dd"
  refine d_gc F.o0.g (fun _ => .ref _) ?_
  walk_at "dd"
  refine c_ise he ec F.gl (.own _) (kit_own xl F.o0.xl F.n0) ?_
  walk_at "dd"
  refine d_gc F.o1.g (fun _ => .ref _) ?_
  walk_at "dd"
  refine c_ise he ec F.gl (.own _) (kit_own xl F.o1.xl F.n1) ?_
  walk_at "dd"
  refine d_gc F.o2.g (fun _ => .ref _) ?_
  walk_at "dd"
  refine c_ise he ec F.gl (.own _) (kit_own xl F.o2.xl F.n2) ?_
  walk_at "dd"
  refine d_gc F.o3.g (fun _ => .ref _) ?_
  walk_at "dd"
  refine c_ise he ec F.gl (.own _) (kit_own xl F.o3.xl F.n3) ?_
  walk_at "dd"
  refine ⟨(show 4 ≤ sizeLine by decide), ?_⟩
  refine s_cons (s_set (i := 1) ?_)
  walk_at "dd"
  refine d_lst ?_
  walk_at "dd"
  refine d_gc F.o4.g (fun _ => .ref _) ?_
  walk_at "dd"
  refine c_ise he ec F.gl (.own _) (kit_own xl F.o4.xl F.n4) ?_
  walk_at "dd"
  refine d_gc F.o5.g (fun _ => .ref _) ?_
  walk_at "dd"
  refine c_ise he ec F.gl (.own _) (kit_own xl F.o5.xl F.n5) ?_
  walk_at "dd"
  refine d_gc F.o6.g (fun _ => .ref _) ?_
  walk_at "dd"
  refine c_ise he ec F.gl (.own _) (kit_own xl F.o6.xl F.n6) ?_
  walk_at "dd"
  refine ⟨(show 3 ≤ sizeLine by decide), ?_⟩
  refine o_cat ⟨(show 7 ≤ sizeLine by decide), ?_⟩
  refine s_cons (s_set (i := 1) ?_)
  walk_at "dd"
  refine d_lst ?_
  walk_at "dd"
  refine d_gc F.o7.g (fun _ => .ref _) ?_
  walk_at "dd"
  refine c_ise he ec F.gl (.own _) (kit_own xl F.o7.xl F.n7) ?_
  walk_at "dd"
  refine ⟨(show 1 ≤ sizeLine by decide), ?_⟩
  refine o_cat ⟨(show 8 ≤ sizeLine by decide), ?_⟩
  refine s_cons (s_set (i := 2) ?_)
  refine d_lst ?_
  walk_at "dd"
  refine d_gc F.o8.g (fun _ => .ref _) ?_
  walk_at "dd"
  refine c_ise he ec F.gl (.own _) (kit_own xl F.o8.xl F.n8) ?_
  walk_at "dd"
  refine d_gc F.o9.g (fun _ => .ref _) ?_
  walk_at "dd"
  refine c_ise he ec F.gl (.own _) (kit_own xl F.o9.xl F.n9) ?_
  walk_at "dd"
  refine d_gc F.o10.g (fun _ => .ref _) ?_
  walk_at "dd"
  refine c_ise he ec F.gl (.own _) (kit_own xl F.o10.xl F.n10) ?_
  walk_at "dd"
  refine d_gc F.o11.g (fun _ => .ref _) ?_
  walk_at "dd"
  refine c_ise he ec F.gl (.own _) (kit_own xl F.o11.xl F.n11) ?_
  walk_at "dd"
  refine ⟨(show 4 ≤ sizeLine by decide), ?_⟩
  refine s_cons (s_set (i := 2) ?_)
  walk_at "dd"
  refine d_lst ?_
  walk_at "dd"
  refine d_gc F.o12.g (fun _ => .ref _) ?_
  walk_at "dd"
  refine c_ise he ec F.gl (.own _) (kit_own xl F.o12.xl F.n12) ?_
  walk_at "dd"
  refine d_gc F.o13.g (fun _ => .ref _) ?_
  walk_at "dd"
  refine c_ise he ec F.gl (.own _) (kit_own xl F.o13.xl F.n13) ?_
  walk_at "dd"
  refine d_gc F.o14.g (fun _ => .ref _) ?_
  walk_at "dd"
  refine c_ise he ec F.gl (.own _) (kit_own xl F.o14.xl F.n14) ?_
  walk_at "dd"
  refine ⟨(show 3 ≤ sizeLine by decide), ?_⟩
  refine o_cat ⟨(show 7 ≤ sizeLine by decide), ?_⟩
  refine s_cons (s_set (i := 2) ?_)
  walk_at "dd"
  refine d_lst ?_
  walk_at "dd"
  refine d_gc F.o15.g (fun _ => .ref _) ?_
  walk_at "dd"
  refine c_ise he ec F.gl (.own _) (kit_own xl F.o15.xl F.n15) ?_
  walk_at "dd"
  refine d_gc F.o16.g (fun _ => .ref _) ?_
  walk_at "dd"
  refine c_ise he ec F.gl (.own _) (kit_own xl F.o16.xl F.n16) ?_
  walk_at "dd"
  refine d_gc F.o17.g (fun _ => .ref _) ?_
  walk_at "dd"
  refine c_ise he ec F.gl (.own _) (kit_own xl F.o17.xl F.n17) ?_
  walk_at "dd"
  refine d_gc F.o18.g (fun _ => .ref _) ?_
  walk_at "dd"
  refine c_ise he ec F.gl (.own _) (kit_own xl F.o18.xl F.n18) ?_
  walk_at "dd"
  refine ⟨(show 4 ≤ sizeLine by decide), ?_⟩
  refine o_cat ⟨(show 11 ≤ sizeLine by decide), ?_⟩
  refine s_cons (s_set (i := 2) ?_)
  walk_at "dd"
  refine d_lst ?_
  walk_at "dd"
  refine d_gc F.o19.g (fun _ => .ref _) ?_
  walk_at "dd"
  refine c_ise he ec F.gl (.own _) (kit_own xl F.o19.xl F.n19) ?_
  walk_at "dd"
  refine d_gc F.o20.g (fun _ => .ref _) ?_
  walk_at "dd"
  refine c_ise he ec F.gl (.own _) (kit_own xl F.o20.xl F.n20) ?_
  walk_at "dd"
  refine d_gc F.o21.g (fun _ => .ref _) ?_
  walk_at "dd"
  refine c_ise he ec F.gl (.own _) (kit_own xl F.o21.xl F.n21) ?_
  walk_at "dd"
  refine ⟨(show 3 ≤ sizeLine by decide), ?_⟩
  refine o_cat ⟨(show 14 ≤ sizeLine by decide), ?_⟩
  refine s_one (s_ret ?_)
  walk_at "dd"
  refine o_cat ⟨(show 22 ≤ sizeLine by decide), ?_⟩
  refine d_lst ?_
  walk_at "dd"
  refine d_gc F.o22.g (fun _ => .ref _) ?_
  walk_at "dd"
  refine c_ise he ec F.gl (.own _) (kit_own xl F.o22.xl F.n22) ?_
  walk_at "dd"
  refine ⟨(show 1 ≤ sizeLine by decide), ?_⟩
  refine o_cat ⟨(show 23 ≤ sizeLine by decide), ?_⟩
  exact q
def madeL (c0 c1 c2 c3 c4 c5 c6 c7 c8 c9 c10 c11 c12 c13 c14 c15 c16 c17 c18 c19 c20 c21 c22 : Addr) (th : D) : List (List D) := [[.exv c0 "line" th, .exv c0 "line" th], [.exv c1 "name" th, .exv c1 "name" th], [.exv c2 "bottom" th, .exv c2 "bottom" th], [.exv c3 "name" th, .exv c3 "name" th], [.exv c4 "group" th, .exv c4 "group" th], [.exv c5 "player" th, .exv c5 "player" th], [.exv c6 "players" th, .exv c6 "players" th], [.exv c7 "name" th, .exv c7 "name" th], [.exb c8], [.exb c9], [.exb c10], [.exb c11], [.exb c12], [.exb c13], [.exb c14], [.exb c15], [.exb c16], [.exb c17], [.exb c18], [.exb c19], [.exb c20], [.exb c21], [.exb c22]]
def spMade (c0 c1 c2 c3 c4 c5 c6 c7 c8 c9 c10 c11 c12 c13 c14 c15 c16 c17 c18 c19 c20 c21 c22 : Addr) : DSp := fun ds μ Φ _ => ∃ (j : Nat) (th : D) (es : List D), ds = [.int j, th] ∧ (madeL c0 c1 c2 c3 c4 c5 c6 c7 c8 c9 c10 c11 c12 c13 c14 c15 c16 c17 c18 c19 c20 c21 c22 th)[j]? = some es ∧ Φ (.lst es) μ
theorem ok_made (F : All P w K mg base cD c0 c1 c2 c3 c4 c5 c6 c7 c8 c9 c10 c11 c12 c13 c14 c15 c16 c17 c18 c19 c20 c21 c22) (Df : DefT K mg "_law_made" s_law_made ["_law_kind", "_law_thing"]) : Cal P w K mg base 3 "_law_made" (spMade c0 c1 c2 c3 c4 c5 c6 c7 c8 c9 c10 c11 c12 c13 c14 c15 c16 c17 c18 c19 c20 c21 c22) := by
  refine Df.cal (k := 2) sc_law_made (fun ds μ Φ Ψ ⟨j, th, es, e, _⟩ => by rw [e]; rfl) (fun ds μ Φ Ψ h => ⟨fun f cd A outer s H E G0 hr hp tk => ?_⟩)
  have hnd := sc_law_made.nd
  have nm0 : (cxD P w K mg base ["_law_kind", "_law_thing", "_law_made_here"] "_law_made" s_law_made f cd A outer s H E).N[0]? = some ("_law_kind" : Str) ∧ (("_law_kind" : Str) == ("__debug__" : Str)) = false ∧ (("_law_kind" : Str) == ("__classdict__" : Str)) = false := ⟨rfl, by decide, by decide⟩
  have nm1 : (cxD P w K mg base ["_law_kind", "_law_thing", "_law_made_here"] "_law_made" s_law_made f cd A outer s H E).N[1]? = some ("_law_thing" : Str) ∧ (("_law_thing" : Str) == ("__debug__" : Str)) = false ∧ (("_law_thing" : Str) == ("__classdict__" : Str)) = false := ⟨rfl, by decide, by decide⟩
  have nm2 : (cxD P w K mg base ["_law_kind", "_law_thing", "_law_made_here"] "_law_made" s_law_made f cd A outer s H E).N[2]? = some ("_law_made_here" : Str) ∧ (("_law_made_here" : Str) == ("__debug__" : Str)) = false ∧ (("_law_made_here" : Str) == ("__classdict__" : Str)) = false := ⟨rfl, by decide, by decide⟩
  obtain ⟨j, th, es, rfl, hj, q⟩ := h
  refine s_cons (s_set (i := 2) ?_)
  refine d_lst ?_
  refine da_cons ?_
  refine d_lst ?_
  refine da_cons ?_
  refine d_errv F.o0.T ?_
  walk_at "dd"
  refine d_errk F.o0.Tk ?_
  refine dk_cons ?_
  walk_at "dd"
  refine dk_nil ⟨_, rfl, ?_⟩
  walk_at "dd"
  refine ⟨(show 2 ≤ sizeLine by decide), ?_⟩
  refine da_cons ?_
  refine d_lst ?_
  refine da_cons ?_
  refine d_errv F.o1.T ?_
  walk_at "dd"
  refine d_errk F.o1.Tk ?_
  refine dk_cons ?_
  walk_at "dd"
  refine dk_nil ⟨_, rfl, ?_⟩
  walk_at "dd"
  refine ⟨(show 2 ≤ sizeLine by decide), ?_⟩
  walk_at "dd"
  refine ⟨(show 2 ≤ sizeLine by decide), ?_⟩
  refine s_cons (s_set (i := 2) ?_)
  walk_at "dd"
  refine d_lst ?_
  refine da_cons ?_
  refine d_lst ?_
  refine da_cons ?_
  refine d_errv F.o2.T ?_
  walk_at "dd"
  refine d_errk F.o2.Tk ?_
  refine dk_cons ?_
  walk_at "dd"
  refine dk_nil ⟨_, rfl, ?_⟩
  walk_at "dd"
  refine ⟨(show 2 ≤ sizeLine by decide), ?_⟩
  refine da_cons ?_
  refine d_lst ?_
  refine da_cons ?_
  refine d_errv F.o3.T ?_
  walk_at "dd"
  refine d_errk F.o3.Tk ?_
  refine dk_cons ?_
  walk_at "dd"
  refine dk_nil ⟨_, rfl, ?_⟩
  walk_at "dd"
  refine ⟨(show 2 ≤ sizeLine by decide), ?_⟩
  walk_at "dd"
  refine ⟨(show 2 ≤ sizeLine by decide), ?_⟩
  refine o_cat ⟨(show 4 ≤ sizeLine by decide), ?_⟩
  refine s_cons (s_set (i := 2) ?_)
  walk_at "dd"
  refine d_lst ?_
  refine da_cons ?_
  refine d_lst ?_
  refine da_cons ?_
  refine d_errv F.o4.T ?_
  walk_at "dd"
  refine d_errk F.o4.Tk ?_
  refine dk_cons ?_
  walk_at "dd"
  refine dk_nil ⟨_, rfl, ?_⟩
  walk_at "dd"
  refine ⟨(show 2 ≤ sizeLine by decide), ?_⟩
  refine da_cons ?_
  refine d_lst ?_
  refine da_cons ?_
  refine d_errv F.o5.T ?_
  walk_at "dd"
  refine d_errk F.o5.Tk ?_
  refine dk_cons ?_
  walk_at "dd"
  refine dk_nil ⟨_, rfl, ?_⟩
  walk_at "dd"
  refine ⟨(show 2 ≤ sizeLine by decide), ?_⟩
  walk_at "dd"
  refine ⟨(show 2 ≤ sizeLine by decide), ?_⟩
  refine o_cat ⟨(show 6 ≤ sizeLine by decide), ?_⟩
  refine s_cons (s_set (i := 2) ?_)
  walk_at "dd"
  refine d_lst ?_
  refine da_cons ?_
  refine d_lst ?_
  refine da_cons ?_
  refine d_errv F.o6.T ?_
  walk_at "dd"
  refine d_errk F.o6.Tk ?_
  refine dk_cons ?_
  walk_at "dd"
  refine dk_nil ⟨_, rfl, ?_⟩
  walk_at "dd"
  refine ⟨(show 2 ≤ sizeLine by decide), ?_⟩
  refine da_cons ?_
  refine d_lst ?_
  refine da_cons ?_
  refine d_errv F.o7.T ?_
  walk_at "dd"
  refine d_errk F.o7.Tk ?_
  refine dk_cons ?_
  walk_at "dd"
  refine dk_nil ⟨_, rfl, ?_⟩
  walk_at "dd"
  refine ⟨(show 2 ≤ sizeLine by decide), ?_⟩
  walk_at "dd"
  refine ⟨(show 2 ≤ sizeLine by decide), ?_⟩
  refine o_cat ⟨(show 8 ≤ sizeLine by decide), ?_⟩
  refine s_cons (s_set (i := 2) ?_)
  walk_at "dd"
  refine d_lst ?_
  refine da_cons ?_
  refine d_lst ?_
  refine da_cons ?_
  refine d_err0 PySem.F.excBase_ValueError F.o8.qx F.o8.gC F.o8.kC ?_
  walk_at "dd"
  refine ⟨(show 1 ≤ sizeLine by decide), ?_⟩
  refine da_cons ?_
  refine d_lst ?_
  refine da_cons ?_
  refine d_err0 PySem.F.excBase_ValueError F.o9.qx F.o9.gC F.o9.kC ?_
  walk_at "dd"
  refine ⟨(show 1 ≤ sizeLine by decide), ?_⟩
  refine da_cons ?_
  refine d_lst ?_
  refine da_cons ?_
  refine d_err0 PySem.F.excBase_ValueError F.o10.qx F.o10.gC F.o10.kC ?_
  walk_at "dd"
  refine ⟨(show 1 ≤ sizeLine by decide), ?_⟩
  refine da_cons ?_
  refine d_lst ?_
  refine da_cons ?_
  refine d_err0 PySem.F.excBase_ValueError F.o11.qx F.o11.gC F.o11.kC ?_
  walk_at "dd"
  refine ⟨(show 1 ≤ sizeLine by decide), ?_⟩
  refine da_cons ?_
  refine d_lst ?_
  refine da_cons ?_
  refine d_err0 PySem.F.excBase_ValueError F.o12.qx F.o12.gC F.o12.kC ?_
  walk_at "dd"
  refine ⟨(show 1 ≤ sizeLine by decide), ?_⟩
  refine da_cons ?_
  refine d_lst ?_
  refine da_cons ?_
  refine d_err0 PySem.F.excBase_ValueError F.o13.qx F.o13.gC F.o13.kC ?_
  walk_at "dd"
  refine ⟨(show 1 ≤ sizeLine by decide), ?_⟩
  walk_at "dd"
  refine ⟨(show 6 ≤ sizeLine by decide), ?_⟩
  refine o_cat ⟨(show 14 ≤ sizeLine by decide), ?_⟩
  refine s_cons (s_set (i := 2) ?_)
  walk_at "dd"
  refine d_lst ?_
  refine da_cons ?_
  refine d_lst ?_
  refine da_cons ?_
  refine d_err0 PySem.F.excBase_ValueError F.o14.qx F.o14.gC F.o14.kC ?_
  walk_at "dd"
  refine ⟨(show 1 ≤ sizeLine by decide), ?_⟩
  refine da_cons ?_
  refine d_lst ?_
  refine da_cons ?_
  refine d_err0 PySem.F.excBase_ValueError F.o15.qx F.o15.gC F.o15.kC ?_
  walk_at "dd"
  refine ⟨(show 1 ≤ sizeLine by decide), ?_⟩
  refine da_cons ?_
  refine d_lst ?_
  refine da_cons ?_
  refine d_err0 PySem.F.excBase_ValueError F.o16.qx F.o16.gC F.o16.kC ?_
  walk_at "dd"
  refine ⟨(show 1 ≤ sizeLine by decide), ?_⟩
  refine da_cons ?_
  refine d_lst ?_
  refine da_cons ?_
  refine d_err0 PySem.F.excBase_ValueError F.o17.qx F.o17.gC F.o17.kC ?_
  walk_at "dd"
  refine ⟨(show 1 ≤ sizeLine by decide), ?_⟩
  refine da_cons ?_
  refine d_lst ?_
  refine da_cons ?_
  refine d_err0 PySem.F.excBase_ValueError F.o18.qx F.o18.gC F.o18.kC ?_
  walk_at "dd"
  refine ⟨(show 1 ≤ sizeLine by decide), ?_⟩
  refine da_cons ?_
  refine d_lst ?_
  refine da_cons ?_
  refine d_err0 PySem.F.excBase_ValueError F.o19.qx F.o19.gC F.o19.kC ?_
  walk_at "dd"
  refine ⟨(show 1 ≤ sizeLine by decide), ?_⟩
  walk_at "dd"
  refine ⟨(show 6 ≤ sizeLine by decide), ?_⟩
  refine o_cat ⟨(show 20 ≤ sizeLine by decide), ?_⟩
  refine s_one (s_ret ?_)
  walk_at "dd"
  refine d_lst ?_
  refine da_cons ?_
  refine d_lst ?_
  refine da_cons ?_
  refine d_err0 PySem.F.excBase_ValueError F.o20.qx F.o20.gC F.o20.kC ?_
  walk_at "dd"
  refine ⟨(show 1 ≤ sizeLine by decide), ?_⟩
  refine da_cons ?_
  refine d_lst ?_
  refine da_cons ?_
  refine d_err0 PySem.F.excBase_ValueError F.o21.qx F.o21.gC F.o21.kC ?_
  walk_at "dd"
  refine ⟨(show 1 ≤ sizeLine by decide), ?_⟩
  refine da_cons ?_
  refine d_lst ?_
  refine da_cons ?_
  refine d_err0 PySem.F.excBase_ValueError F.o22.qx F.o22.gC F.o22.kC ?_
  walk_at "dd"
  refine ⟨(show 1 ≤ sizeLine by decide), ?_⟩
  walk_at "dd"
  refine ⟨(show 3 ≤ sizeLine by decide), ?_⟩
  refine o_cat ⟨(show 23 ≤ sizeLine by decide), ?_⟩
  walk_at "dd"
  refine x_lst (d := .lst es) ?_ q
  refine atI_nat ?_
  have e : ∀ {l : List D}, l = (madeL c0 c1 c2 c3 c4 c5 c6 c7 c8 c9 c10 c11 c12 c13 c14 c15 c16 c17 c18 c19 c20 c21 c22 th).map D.lst → l[j]? = some (.lst es) := fun h => by
    rw [h, List.getElem?_map, hj]
    rfl
  exact e rfl
/-- what was made -/
theorem made_at {th : D} {j : Nat} {es : List D} {e : D} (h : (madeL c0 c1 c2 c3 c4 c5 c6 c7 c8 c9 c10 c11 c12 c13 c14 c15 c16 c17 c18 c19 c20 c21 c22 th)[j]? = some es) (he : e ∈ es) (F : All P w K mg base cD c0 c1 c2 c3 c4 c5 c6 c7 c8 c9 c10 c11 c12 c13 c14 c15 c16 c17 c18 c19 c20 c21 c22) :
    ∃ C, [c0, c1, c2, c3, c4, c5, c6, c7, c8, c9, c10, c11, c12, c13, c14, c15, c16, c17, c18, c19, c20, c21, c22][j]? = some C ∧ IsErr e C ∧ ErrC K C ∧ XL K C (ownL cD) := by
  match j, h with
  | 0, h =>
    cases h
    rcases List.mem_cons.mp he with rfl | he
    · exact ⟨c0, rfl, .v _ _ _, F.o0.er, F.o0.xl⟩
    · rw [List.mem_singleton.mp he]
      exact ⟨c0, rfl, .v _ _ _, F.o0.er, F.o0.xl⟩
  | 1, h =>
    cases h
    rcases List.mem_cons.mp he with rfl | he
    · exact ⟨c1, rfl, .v _ _ _, F.o1.er, F.o1.xl⟩
    · rw [List.mem_singleton.mp he]
      exact ⟨c1, rfl, .v _ _ _, F.o1.er, F.o1.xl⟩
  | 2, h =>
    cases h
    rcases List.mem_cons.mp he with rfl | he
    · exact ⟨c2, rfl, .v _ _ _, F.o2.er, F.o2.xl⟩
    · rw [List.mem_singleton.mp he]
      exact ⟨c2, rfl, .v _ _ _, F.o2.er, F.o2.xl⟩
  | 3, h =>
    cases h
    rcases List.mem_cons.mp he with rfl | he
    · exact ⟨c3, rfl, .v _ _ _, F.o3.er, F.o3.xl⟩
    · rw [List.mem_singleton.mp he]
      exact ⟨c3, rfl, .v _ _ _, F.o3.er, F.o3.xl⟩
  | 4, h =>
    cases h
    rcases List.mem_cons.mp he with rfl | he
    · exact ⟨c4, rfl, .v _ _ _, F.o4.er, F.o4.xl⟩
    · rw [List.mem_singleton.mp he]
      exact ⟨c4, rfl, .v _ _ _, F.o4.er, F.o4.xl⟩
  | 5, h =>
    cases h
    rcases List.mem_cons.mp he with rfl | he
    · exact ⟨c5, rfl, .v _ _ _, F.o5.er, F.o5.xl⟩
    · rw [List.mem_singleton.mp he]
      exact ⟨c5, rfl, .v _ _ _, F.o5.er, F.o5.xl⟩
  | 6, h =>
    cases h
    rcases List.mem_cons.mp he with rfl | he
    · exact ⟨c6, rfl, .v _ _ _, F.o6.er, F.o6.xl⟩
    · rw [List.mem_singleton.mp he]
      exact ⟨c6, rfl, .v _ _ _, F.o6.er, F.o6.xl⟩
  | 7, h =>
    cases h
    rcases List.mem_cons.mp he with rfl | he
    · exact ⟨c7, rfl, .v _ _ _, F.o7.er, F.o7.xl⟩
    · rw [List.mem_singleton.mp he]
      exact ⟨c7, rfl, .v _ _ _, F.o7.er, F.o7.xl⟩
  | 8, h =>
    cases h
    rw [List.mem_singleton.mp he]
    exact ⟨c8, rfl, .b _, F.o8.er, F.o8.xl⟩
  | 9, h =>
    cases h
    rw [List.mem_singleton.mp he]
    exact ⟨c9, rfl, .b _, F.o9.er, F.o9.xl⟩
  | 10, h =>
    cases h
    rw [List.mem_singleton.mp he]
    exact ⟨c10, rfl, .b _, F.o10.er, F.o10.xl⟩
  | 11, h =>
    cases h
    rw [List.mem_singleton.mp he]
    exact ⟨c11, rfl, .b _, F.o11.er, F.o11.xl⟩
  | 12, h =>
    cases h
    rw [List.mem_singleton.mp he]
    exact ⟨c12, rfl, .b _, F.o12.er, F.o12.xl⟩
  | 13, h =>
    cases h
    rw [List.mem_singleton.mp he]
    exact ⟨c13, rfl, .b _, F.o13.er, F.o13.xl⟩
  | 14, h =>
    cases h
    rw [List.mem_singleton.mp he]
    exact ⟨c14, rfl, .b _, F.o14.er, F.o14.xl⟩
  | 15, h =>
    cases h
    rw [List.mem_singleton.mp he]
    exact ⟨c15, rfl, .b _, F.o15.er, F.o15.xl⟩
  | 16, h =>
    cases h
    rw [List.mem_singleton.mp he]
    exact ⟨c16, rfl, .b _, F.o16.er, F.o16.xl⟩
  | 17, h =>
    cases h
    rw [List.mem_singleton.mp he]
    exact ⟨c17, rfl, .b _, F.o17.er, F.o17.xl⟩
  | 18, h =>
    cases h
    rw [List.mem_singleton.mp he]
    exact ⟨c18, rfl, .b _, F.o18.er, F.o18.xl⟩
  | 19, h =>
    cases h
    rw [List.mem_singleton.mp he]
    exact ⟨c19, rfl, .b _, F.o19.er, F.o19.xl⟩
  | 20, h =>
    cases h
    rw [List.mem_singleton.mp he]
    exact ⟨c20, rfl, .b _, F.o20.er, F.o20.xl⟩
  | 21, h =>
    cases h
    rw [List.mem_singleton.mp he]
    exact ⟨c21, rfl, .b _, F.o21.er, F.o21.xl⟩
  | 22, h =>
    cases h
    rw [List.mem_singleton.mp he]
    exact ⟨c22, rfl, .b _, F.o22.er, F.o22.xl⟩
  | n + 23, h => cases h
def spField (c0 c1 c2 c3 c4 c5 c6 c7 c8 c9 c10 c11 c12 c13 c14 c15 c16 c17 c18 c19 c20 c21 c22 : Addr) : DSp := fun ds μ Φ _ => ∃ (j : Nat) (th : D) (es : List D) (e : D), ds = [.int j, e] ∧ j < 8 ∧ (madeL c0 c1 c2 c3 c4 c5 c6 c7 c8 c9 c10 c11 c12 c13 c14 c15 c16 c17 c18 c19 c20 c21 c22 th)[j]? = some es ∧ e ∈ es ∧ Φ th μ
theorem ok_field (F : All P w K mg base cD c0 c1 c2 c3 c4 c5 c6 c7 c8 c9 c10 c11 c12 c13 c14 c15 c16 c17 c18 c19 c20 c21 c22) (Df : DefT K mg "_law_field" s_law_field ["_law_kind", "_law_e"]) : Cal P w K mg base 1 "_law_field" (spField c0 c1 c2 c3 c4 c5 c6 c7 c8 c9 c10 c11 c12 c13 c14 c15 c16 c17 c18 c19 c20 c21 c22) := by
  refine Df.cal (k := 0) sc_law_field (fun ds μ Φ Ψ ⟨j, th, es, e, z, _⟩ => by rw [z]; rfl) (fun ds μ Φ Ψ h => ⟨fun f cd A outer s H E G0 hr hp tk => ?_⟩)
  have hnd := sc_law_field.nd
  have nm0 : (cxD P w K mg base ["_law_kind", "_law_e"] "_law_field" s_law_field f cd A outer s H E).N[0]? = some ("_law_kind" : Str) ∧ (("_law_kind" : Str) == ("__debug__" : Str)) = false ∧ (("_law_kind" : Str) == ("__classdict__" : Str)) = false := ⟨rfl, by decide, by decide⟩
  have nm1 : (cxD P w K mg base ["_law_kind", "_law_e"] "_law_field" s_law_field f cd A outer s H E).N[1]? = some ("_law_e" : Str) ∧ (("_law_e" : Str) == ("__debug__" : Str)) = false ∧ (("_law_e" : Str) == ("__classdict__" : Str)) = false := ⟨rfl, by decide, by decide⟩
  obtain ⟨j, th, es, e, rfl, hj, h2, h3, q⟩ := h
  match j, hj, h2 with
  | 0, _, h2 =>
    have ee : e = .exv c0 "line" th := by
      cases h2
      rcases List.mem_cons.mp h3 with h3 | h3
      · exact h3
      · exact List.mem_singleton.mp h3
    subst ee
    refine s_cons (s_if ?_)
    walk_at "dd"
    refine yes rfl (s_one (s_ret (d_vf ?_)))
    walk_at "dd"
    exact ⟨_, _, rfl, F.o0.T.xf, F.o0.T.noF, q⟩
  | 1, _, h2 =>
    have ee : e = .exv c1 "name" th := by
      cases h2
      rcases List.mem_cons.mp h3 with h3 | h3
      · exact h3
      · exact List.mem_singleton.mp h3
    subst ee
    refine s_cons (s_if ?_)
    walk_at "dd"
    refine no rfl ?_
    refine s_nil ?_
    refine s_cons (s_if ?_)
    walk_at "dd"
    refine d_lst ?_
    walk_at "dd"
    refine ⟨(show 3 ≤ sizeLine by decide), ?_⟩
    refine o_inL (by have := hr.un; omega) (.int _) (PyAll.ints (ns := [1, 3, 7])) rfl rfl ?_
    walk_at "dd"
    refine yes rfl (s_one (s_ret (d_vf ?_)))
    walk_at "dd"
    exact ⟨_, _, rfl, F.o1.T.xf, F.o1.T.noF, q⟩
  | 2, _, h2 =>
    have ee : e = .exv c2 "bottom" th := by
      cases h2
      rcases List.mem_cons.mp h3 with h3 | h3
      · exact h3
      · exact List.mem_singleton.mp h3
    subst ee
    refine s_cons (s_if ?_)
    walk_at "dd"
    refine no rfl ?_
    refine s_nil ?_
    refine s_cons (s_if ?_)
    walk_at "dd"
    refine d_lst ?_
    walk_at "dd"
    refine ⟨(show 3 ≤ sizeLine by decide), ?_⟩
    refine o_inL (by have := hr.un; omega) (.int _) (PyAll.ints (ns := [1, 3, 7])) rfl rfl ?_
    walk_at "dd"
    refine no rfl ?_
    refine s_nil ?_
    refine s_cons (s_if ?_)
    walk_at "dd"
    refine yes rfl (s_one (s_ret (d_vf ?_)))
    walk_at "dd"
    exact ⟨_, _, rfl, F.o2.T.xf, F.o2.T.noF, q⟩
  | 3, _, h2 =>
    have ee : e = .exv c3 "name" th := by
      cases h2
      rcases List.mem_cons.mp h3 with h3 | h3
      · exact h3
      · exact List.mem_singleton.mp h3
    subst ee
    refine s_cons (s_if ?_)
    walk_at "dd"
    refine no rfl ?_
    refine s_nil ?_
    refine s_cons (s_if ?_)
    walk_at "dd"
    refine d_lst ?_
    walk_at "dd"
    refine ⟨(show 3 ≤ sizeLine by decide), ?_⟩
    refine o_inL (by have := hr.un; omega) (.int _) (PyAll.ints (ns := [1, 3, 7])) rfl rfl ?_
    walk_at "dd"
    refine yes rfl (s_one (s_ret (d_vf ?_)))
    walk_at "dd"
    exact ⟨_, _, rfl, F.o3.T.xf, F.o3.T.noF, q⟩
  | 4, _, h2 =>
    have ee : e = .exv c4 "group" th := by
      cases h2
      rcases List.mem_cons.mp h3 with h3 | h3
      · exact h3
      · exact List.mem_singleton.mp h3
    subst ee
    refine s_cons (s_if ?_)
    walk_at "dd"
    refine no rfl ?_
    refine s_nil ?_
    refine s_cons (s_if ?_)
    walk_at "dd"
    refine d_lst ?_
    walk_at "dd"
    refine ⟨(show 3 ≤ sizeLine by decide), ?_⟩
    refine o_inL (by have := hr.un; omega) (.int _) (PyAll.ints (ns := [1, 3, 7])) rfl rfl ?_
    walk_at "dd"
    refine no rfl ?_
    refine s_nil ?_
    refine s_cons (s_if ?_)
    walk_at "dd"
    refine no rfl ?_
    refine s_nil ?_
    refine s_cons (s_if ?_)
    walk_at "dd"
    refine yes rfl (s_one (s_ret (d_vf ?_)))
    walk_at "dd"
    exact ⟨_, _, rfl, F.o4.T.xf, F.o4.T.noF, q⟩
  | 5, _, h2 =>
    have ee : e = .exv c5 "player" th := by
      cases h2
      rcases List.mem_cons.mp h3 with h3 | h3
      · exact h3
      · exact List.mem_singleton.mp h3
    subst ee
    refine s_cons (s_if ?_)
    walk_at "dd"
    refine no rfl ?_
    refine s_nil ?_
    refine s_cons (s_if ?_)
    walk_at "dd"
    refine d_lst ?_
    walk_at "dd"
    refine ⟨(show 3 ≤ sizeLine by decide), ?_⟩
    refine o_inL (by have := hr.un; omega) (.int _) (PyAll.ints (ns := [1, 3, 7])) rfl rfl ?_
    walk_at "dd"
    refine no rfl ?_
    refine s_nil ?_
    refine s_cons (s_if ?_)
    walk_at "dd"
    refine no rfl ?_
    refine s_nil ?_
    refine s_cons (s_if ?_)
    walk_at "dd"
    refine no rfl ?_
    refine s_nil ?_
    refine s_cons (s_if ?_)
    walk_at "dd"
    refine yes rfl (s_one (s_ret (d_vf ?_)))
    walk_at "dd"
    exact ⟨_, _, rfl, F.o5.T.xf, F.o5.T.noF, q⟩
  | 6, _, h2 =>
    have ee : e = .exv c6 "players" th := by
      cases h2
      rcases List.mem_cons.mp h3 with h3 | h3
      · exact h3
      · exact List.mem_singleton.mp h3
    subst ee
    refine s_cons (s_if ?_)
    walk_at "dd"
    refine no rfl ?_
    refine s_nil ?_
    refine s_cons (s_if ?_)
    walk_at "dd"
    refine d_lst ?_
    walk_at "dd"
    refine ⟨(show 3 ≤ sizeLine by decide), ?_⟩
    refine o_inL (by have := hr.un; omega) (.int _) (PyAll.ints (ns := [1, 3, 7])) rfl rfl ?_
    walk_at "dd"
    refine no rfl ?_
    refine s_nil ?_
    refine s_cons (s_if ?_)
    walk_at "dd"
    refine no rfl ?_
    refine s_nil ?_
    refine s_cons (s_if ?_)
    walk_at "dd"
    refine no rfl ?_
    refine s_nil ?_
    refine s_cons (s_if ?_)
    walk_at "dd"
    refine no rfl ?_
    refine s_nil ?_
    refine s_one (s_ret (d_vf ?_))
    walk_at "dd"
    exact ⟨_, _, rfl, F.o6.T.xf, F.o6.T.noF, q⟩
  | 7, _, h2 =>
    have ee : e = .exv c7 "name" th := by
      cases h2
      rcases List.mem_cons.mp h3 with h3 | h3
      · exact h3
      · exact List.mem_singleton.mp h3
    subst ee
    refine s_cons (s_if ?_)
    walk_at "dd"
    refine no rfl ?_
    refine s_nil ?_
    refine s_cons (s_if ?_)
    walk_at "dd"
    refine d_lst ?_
    walk_at "dd"
    refine ⟨(show 3 ≤ sizeLine by decide), ?_⟩
    refine o_inL (by have := hr.un; omega) (.int _) (PyAll.ints (ns := [1, 3, 7])) rfl rfl ?_
    walk_at "dd"
    refine yes rfl (s_one (s_ret (d_vf ?_)))
    walk_at "dd"
    exact ⟨_, _, rfl, F.o7.T.xf, F.o7.T.noF, q⟩
  | n + 8, hj, _ => exact absurd hj (by omega)
end
end K13

set_option maxHeartbeats 1600000
open PySem PySem.Spec PyProof.Rows L2 DL
namespace K13
section
variable {P : Program} {w : World} {K : PySem.W.Frag} {mg : Str → Option Value} {base : Heap}
theorem ok_pool (Df : DefT K mg "_law_pool" s_law_pool ["_law_script"]) (m_list : mg "list" = none) : Cal P w K mg base 1 "_law_pool" spPool := by
  refine Df.cal (k := 0) sc_law_pool (fun ds μ Φ Ψ ⟨ns, e, _⟩ => by rw [e]; rfl) (fun ds μ Φ Ψ h => ⟨fun f cd A outer s H E G0 hr hp tk => ?_⟩)
  have hnd := sc_law_pool.nd
  have nm0 : (cxD P w K mg base ["_law_script"] "_law_pool" s_law_pool f cd A outer s H E).N[0]? = some ("_law_script" : Str) ∧ (("_law_script" : Str) == ("__debug__" : Str)) = false ∧ (("_law_script" : Str) == ("__classdict__" : Str)) = false := ⟨rfl, by decide, by decide⟩
  have bn_list : (cxD P w K mg base ["_law_script"] "_law_pool" s_law_pool f cd A outer s H E).mg "list" = none := m_list
  obtain ⟨ns, rfl, hl, q⟩ := h
  refine s_one (s_ret (d_lstM ?_))
  walk_at "dd"
  refine c_listS ?_
  walk_at "dd"
  exact ⟨(show 3 ≤ sizeLine by decide), fun p hp => q p _ hp ⟨0, 0, ns, rfl, by omega, by omega, by omega, hl⟩⟩
theorem drawn_at {ns : List Int} {i : Int} (h : 0 ≤ i) : ∃ v : Int, atI (ns.map D.int ++ [.int 0]) (i.fmod (if ((ns.map D.int).length : Int) > 1 then ((ns.map D.int).length : Int) else 1)) = some (.int v) := by
  have hM : 0 < (if ((ns.map D.int).length : Int) > 1 then ((ns.map D.int).length : Int) else 1) := by split <;> omega
  obtain ⟨h1, h2⟩ := fmod_range (i := i) hM
  generalize hr : i.fmod (if ((ns.map D.int).length : Int) > 1 then ((ns.map D.int).length : Int) else 1) = r at h1 h2
  have h3 : r.toNat < (ns ++ [0]).length := by
    rw [List.length_append, List.length_singleton]
    rw [List.length_map] at h2
    split at h2 <;> omega
  have e : ns.map D.int ++ [.int 0] = (ns ++ [0]).map D.int := by rw [List.map_append]; rfl
  obtain ⟨j, rfl⟩ : ∃ j : Nat, r = (j : Int) := ⟨r.toNat, by omega⟩
  rw [Int.toNat_natCast] at h3
  refine ⟨(ns ++ [0])[j], ?_⟩
  rw [e]
  refine atI_nat ?_
  rw [List.getElem?_map, List.getElem?_eq_getElem h3]
  rfl
theorem ok_take (Df : DefT K mg "_law_take" s_law_take ["_law_pool_here", "_law_many"]) (m_int : mg "int" = none) (m_max : mg "max" = none) (m_len : mg "len" = none) : Cal P w K mg base 1 "_law_take" spTake := by
  refine Df.cal (k := 0) sc_law_take (fun ds μ Φ Ψ ⟨p, m, c, n, e, _⟩ => by rw [e]; rfl) (fun ds μ Φ Ψ h => ⟨fun f cd A outer s H E G0 hr hp tk => ?_⟩)
  have hnd := sc_law_take.nd
  have nm0 : (cxD P w K mg base ["_law_pool_here", "_law_many", "_law_at", "_law_drawn", "_law_mixed", "_law_digit"] "_law_take" s_law_take f cd A outer s H E).N[0]? = some ("_law_pool_here" : Str) ∧ (("_law_pool_here" : Str) == ("__debug__" : Str)) = false ∧ (("_law_pool_here" : Str) == ("__classdict__" : Str)) = false := ⟨rfl, by decide, by decide⟩
  have nm1 : (cxD P w K mg base ["_law_pool_here", "_law_many", "_law_at", "_law_drawn", "_law_mixed", "_law_digit"] "_law_take" s_law_take f cd A outer s H E).N[1]? = some ("_law_many" : Str) ∧ (("_law_many" : Str) == ("__debug__" : Str)) = false ∧ (("_law_many" : Str) == ("__classdict__" : Str)) = false := ⟨rfl, by decide, by decide⟩
  have nm2 : (cxD P w K mg base ["_law_pool_here", "_law_many", "_law_at", "_law_drawn", "_law_mixed", "_law_digit"] "_law_take" s_law_take f cd A outer s H E).N[2]? = some ("_law_at" : Str) ∧ (("_law_at" : Str) == ("__debug__" : Str)) = false ∧ (("_law_at" : Str) == ("__classdict__" : Str)) = false := ⟨rfl, by decide, by decide⟩
  have nm3 : (cxD P w K mg base ["_law_pool_here", "_law_many", "_law_at", "_law_drawn", "_law_mixed", "_law_digit"] "_law_take" s_law_take f cd A outer s H E).N[3]? = some ("_law_drawn" : Str) ∧ (("_law_drawn" : Str) == ("__debug__" : Str)) = false ∧ (("_law_drawn" : Str) == ("__classdict__" : Str)) = false := ⟨rfl, by decide, by decide⟩
  have nm4 : (cxD P w K mg base ["_law_pool_here", "_law_many", "_law_at", "_law_drawn", "_law_mixed", "_law_digit"] "_law_take" s_law_take f cd A outer s H E).N[4]? = some ("_law_mixed" : Str) ∧ (("_law_mixed" : Str) == ("__debug__" : Str)) = false ∧ (("_law_mixed" : Str) == ("__classdict__" : Str)) = false := ⟨rfl, by decide, by decide⟩
  have nm5 : (cxD P w K mg base ["_law_pool_here", "_law_many", "_law_at", "_law_drawn", "_law_mixed", "_law_digit"] "_law_take" s_law_take f cd A outer s H E).N[5]? = some ("_law_digit" : Str) ∧ (("_law_digit" : Str) == ("__debug__" : Str)) = false ∧ (("_law_digit" : Str) == ("__classdict__" : Str)) = false := ⟨rfl, by decide, by decide⟩
  have bn_int : (cxD P w K mg base ["_law_pool_here", "_law_many", "_law_at", "_law_drawn", "_law_mixed", "_law_digit"] "_law_take" s_law_take f cd A outer s H E).mg "int" = none := m_int
  have bn_max : (cxD P w K mg base ["_law_pool_here", "_law_many", "_law_at", "_law_drawn", "_law_mixed", "_law_digit"] "_law_take" s_law_take f cd A outer s H E).mg "max" = none := m_max
  have bn_len : (cxD P w K mg base ["_law_pool_here", "_law_many", "_law_at", "_law_drawn", "_law_mixed", "_law_digit"] "_law_take" s_law_take f cd A outer s H E).mg "len" = none := m_len
  obtain ⟨p, m, c, n, rfl, hm0, hm1, hμ, ⟨i, cur, ns, rfl, hi0, hin, hc0, hns⟩, hn, q⟩ := h
  have hm2 : m.natAbs < 2 ^ 200 := na_lt (by omega) hm1
  have hi1 : i.natAbs < 2 ^ 31 := by omega
  refine s_cut (fun δ' μ' => ∃ v2 v3 v4 v5 i' cur', δ' = [some (.ref p), some (.int m), v2, v3, v4, v5] ∧ μ' = updM μ p (.lst [.int i', .int cur', .lst (ns.map .int)]) ∧ 0 ≤ i' ∧ i' ≤ n + 1 ∧ 0 ≤ cur') ?_ ?_
  · refine s_if ?_
    walk_at "dd"
    refine x_mut hμ rfl ?_
    walk_at "dd"
    refine way (fun h0 => ?_) (fun h0 => ?_)
    · refine s_cons (s_set (i := 2) ?_)
      walk_at "dd"
      refine x_mut hμ rfl ?_
      refine s_cons (s_item ?_)
      walk_at "dd"
      refine ⟨p, 0, _, 0, rfl, rfl, hμ, rfl, ?_⟩
      refine s_cons (s_set (i := 3) ?_)
      walk_at "dd"
      refine x_mut updM_same rfl ?_
      refine d_lst ?_
      walk_at "dd"
      refine ⟨by decide, o_cat ⟨by rw [List.length_map]; show ns.length + 1 ≤ sizeLine; rw [sizeLine_eq]; omega, ?_⟩⟩
      walk_at "dd"
      refine x_mut updM_same rfl ?_
      walk_at "dd"
      refine o_mod ⟨?_, ?_⟩
      · split <;> omega
      obtain ⟨v, hv⟩ := drawn_at (ns := ns) hi0
      refine x_lst hv ?_
      refine s_cons (s_set (i := 4) ?_)
      walk_at "dd"
      refine o_mod ⟨by decide, ?_⟩
      walk_at "dd"
      refine o_mul ⟨mulOk (a := 13) (b := 31) (by decide) hi1 (by decide), ?_⟩
      walk_at "dd"
      have r1 := fmod_range (i := v) (j := 2147483647) (by decide)
      refine o_pow ⟨⟨by decide, by decide, by omega⟩, ?_⟩
      walk_at "dd"
      refine o_mod ⟨by decide, ?_⟩
      have r2 := fmod_range (i := (v.fmod 2147483647 + 7919 * i + 13) ^ (5 : Int).toNat) (j := 2147483647) (by decide)
      generalize (v.fmod 2147483647 + 7919 * i + 13) ^ (5 : Int).toNat = y at r2 ⊢
      refine s_cons (s_set (i := 4) ?_)
      walk_at "dd"
      refine o_mul ⟨mulOk (a := 17) (b := 31) (by decide) hi1 (by decide), ?_⟩
      walk_at "dd"
      refine o_pow ⟨⟨by decide, by decide, by omega⟩, ?_⟩
      walk_at "dd"
      refine o_mod ⟨by decide, ?_⟩
      generalize (y.fmod 2147483647 + 104729 * i + 29) ^ (3 : Int).toNat = z
      refine s_cons (s_if ?_)
      walk_at "dd"
      refine o_pow ⟨⟨by decide, by decide, by decide⟩, ?_⟩
      walk_at "dd"
      refine way (fun h1 => ?_) (fun h1 => ?_)
      · refine s_one (s_ret ?_)
        walk_at "dd"
        refine o_div ⟨⟨by decide, by decide⟩, ?_⟩
        walk_at "dd"
        refine o_mod ⟨by omega, ?_⟩
        have r3 := fmod_range (i := (z.fmod 2147483629).fdiv 11) hm0
        exact q _ _ r3.1 r3.2 ⟨i + 1, cur, ns, rfl, by omega, by omega, hc0, hns⟩
      · refine s_nil (s_one (s_item ?_))
        walk_at "dd"
        refine ⟨p, 1, _, 1, rfl, rfl, updM_same, rfl, ⟨_, _, _, _, i + 1, v, rfl, ?_, by omega, by omega, ?_⟩⟩
        · rw [updM_upd]
          rfl
        · have e18 : (10 : Int) ^ (18 : Int).toNat = 1000000000000000000 := by decide
          rw [e18] at h1
          omega
    · refine s_nil ⟨none, none, none, none, i, cur, rfl, ?_, hi0, by omega, hc0⟩
      funext a
      unfold updM
      split
      · rename_i e
        rw [e, hμ]
      · rfl
  · rintro δ' μ' ⟨v2, v3, v4, v5, i', cur', rfl, rfl, g1, g2, g3⟩
    refine s_cons (s_set (i := 5) ?_)
    walk_at "dd"
    refine x_mut updM_same rfl ?_
    walk_at "dd"
    refine o_mod ⟨by omega, ?_⟩
    have r3 := fmod_range (i := cur') hm0
    refine s_cons (s_item ?_)
    walk_at "dd"
    refine x_mut updM_same rfl ?_
    walk_at "dd"
    refine o_div ⟨divOk (by omega) hm2 (by decide), ?_⟩
    walk_at "dd"
    refine ⟨p, 1, _, 1, rfl, rfl, updM_same, rfl, ?_⟩
    refine s_one (s_ret ?_)
    walk_at "dd"
    rw [updM_upd]
    refine q _ _ r3.1 r3.2 ⟨i', cur'.fdiv m, ns, rfl, g1, by omega, ?_, hns⟩
    rw [Int.fdiv_eq_ediv_of_nonneg _ (Int.le_of_lt hm0)]
    exact Int.ediv_nonneg g3 (Int.le_of_lt hm0)
end
section
variable {P : Program} {w : World} {K : PySem.W.Frag} {mg : Str → Option Value} {base : Heap} {cD c0 c1 c2 c3 c4 c5 c6 c7 c8 c9 c10 c11 c12 c13 c14 c15 c16 c17 c18 c19 c20 c21 c22 : Addr}
/-- a thing that an error may carry here -/
def Thing (th : D) : Prop := ∃ (p : PyData) (t : String) (k : Bool), (∀ μ, Py μ th p) ∧ p.canLay0 = true ∧ p.depth ≤ 64 ∧ tyD th = some t ∧ kitB t "bool" = some k
def spSame : DSp := fun ds μ Φ _ => ∃ th : D, ds = [th, th] ∧ Thing th ∧ Φ (.bl true) μ
theorem ok_same (Df : DefT K mg "_law_same" s_law_same ["_law_one", "_law_other"]) (m_isinstance : mg "isinstance" = none) (m_bool : mg "bool" = none) : Cal P w K mg base 1 "_law_same" spSame := by
  refine Df.cal (k := 0) sc_law_same (fun ds μ Φ Ψ ⟨th, e, _⟩ => by rw [e]; rfl) (fun ds μ Φ Ψ h => ⟨fun f cd A outer s H E G0 hr hp tk => ?_⟩)
  have hnd := sc_law_same.nd
  have nm0 : (cxD P w K mg base ["_law_one", "_law_other"] "_law_same" s_law_same f cd A outer s H E).N[0]? = some ("_law_one" : Str) ∧ (("_law_one" : Str) == ("__debug__" : Str)) = false ∧ (("_law_one" : Str) == ("__classdict__" : Str)) = false := ⟨rfl, by decide, by decide⟩
  have nm1 : (cxD P w K mg base ["_law_one", "_law_other"] "_law_same" s_law_same f cd A outer s H E).N[1]? = some ("_law_other" : Str) ∧ (("_law_other" : Str) == ("__debug__" : Str)) = false ∧ (("_law_other" : Str) == ("__classdict__" : Str)) = false := ⟨rfl, by decide, by decide⟩
  have bn_isinstance : (cxD P w K mg base ["_law_one", "_law_other"] "_law_same" s_law_same f cd A outer s H E).mg "isinstance" = none := m_isinstance
  have bn_bool : (cxD P w K mg base ["_law_one", "_law_other"] "_law_same" s_law_same f cd A outer s H E).mg "bool" = none := m_bool
  obtain ⟨th, rfl, ⟨p, t, k, h1, h2, h3, h4, h5⟩, q⟩ := h
  refine s_one (s_ret (d_and ?_))
  walk_at "dd"
  refine o_same (hu64 hr) (h1 _) (h1 _) h2 h3 ?_
  refine bl_ex (wayT (d_one ?_))
  walk_at "dd"
  refine c_isi (k := k) ?_ h4 h5
  walk_at "dd"
  refine c_isi (k := k) ?_ h4 h5
  refine o_same (hu64 hr) (.bl k) (.bl k) rfl (Nat.le_of_ble_eq_true rfl) ?_
  exact q
theorem room64 {k : Nat} {A : Around} (r : L2H.RoomH k A) : A.units + 64 < cLine := by
  have := r.un
  omega
def spLaw : DSp := fun ds _ Φ _ => ∃ ns : List Int, ds = [.scr ns] ∧ ns.length ≤ 63 ∧ ∀ μ', Φ (.bl true) μ'
theorem kinds_eq {C : Addr} {j : Nat} {cs : List Addr} (nd : cs.Nodup) (h : cs[j]? = some C) : cs.map (fun c => decide (C = c)) = (List.range cs.length).map fun k : Nat => decide ((k : Int) = (j : Int)) := by
  refine List.ext_getElem? fun i => ?_
  rw [List.getElem?_map, List.getElem?_map]
  obtain ⟨hj, ej⟩ := List.getElem?_eq_some_iff.mp h
  by_cases hi : i < cs.length
  · rw [List.getElem?_eq_getElem hi, List.getElem?_range hi]
    show some (decide (C = cs[i])) = some (decide ((i : Int) = (j : Int)))
    congr 1
    by_cases e : i = j
    · subst e
      rw [decide_eq_true ej.symm, decide_eq_true rfl]
    · rw [decide_eq_false (by omega : ¬ (i : Int) = (j : Int))]
      refine decide_eq_false fun z => e ?_
      have pw := List.pairwise_iff_getElem.mp nd
      have z2 : cs[i] = cs[j] := z.symm.trans ej.symm
      rcases Nat.lt_trichotomy i j with y | y | y
      · exact absurd z2 (pw i j hi hj y)
      · exact y
      · exact absurd z2.symm (pw j i hj hi y)
  · rw [List.getElem?_eq_none (by omega), List.getElem?_eq_none (by rw [List.length_range]; omega)]
    rfl
theorem body_law (F : All P w K mg base cD c0 c1 c2 c3 c4 c5 c6 c7 c8 c9 c10 c11 c12 c13 c14 c15 c16 c17 c18 c19 c20 c21 c22) (Cp : Cal P w K mg base 1 "_law_pool" spPool) (Ct : Cal P w K mg base 1 "_law_take" spTake) (Ck : Cal P w K mg base 1 "_law_kinds" (spKinds cD c0 c1 c2 c3 c4 c5 c6 c7 c8 c9 c10 c11 c12 c13 c14 c15 c16 c17 c18 c19 c20 c21 c22 K)) (Cm : Cal P w K mg base 3 "_law_made" (spMade c0 c1 c2 c3 c4 c5 c6 c7 c8 c9 c10 c11 c12 c13 c14 c15 c16 c17 c18 c19 c20 c21 c22))
    (Cf : Cal P w K mg base 1 "_law_field" (spField c0 c1 c2 c3 c4 c5 c6 c7 c8 c9 c10 c11 c12 c13 c14 c15 c16 c17 c18 c19 c20 c21 c22)) (Cs : Cal P w K mg base 1 "_law_same" spSame) (m_range : mg "range" = none) (m_isinstance : mg "isinstance" = none) (m_ValueError : mg "ValueError" = none) :
    ∀ ds μ Φ Ψ, spLaw ds μ Φ Ψ → Body P w K mg base 3 ["_law_script", "_law_pool_here", "_law_number", "_law_thing", "_law_kind", "_law_e", "found", "_law_k"] "law" s_law ds μ Φ Ψ := by
  refine fun ds μ Φ Ψ h => ⟨fun f cd A outer s H E G0 hr hp tk => ?_⟩
  have hnd := sc_law.nd
  have nm0 : (cxD P w K mg base ["_law_script", "_law_pool_here", "_law_number", "_law_thing", "_law_kind", "_law_e", "found", "_law_k"] "law" s_law f cd A outer s H E).N[0]? = some ("_law_script" : Str) ∧ (("_law_script" : Str) == ("__debug__" : Str)) = false ∧ (("_law_script" : Str) == ("__classdict__" : Str)) = false := ⟨rfl, by decide, by decide⟩
  have nm1 : (cxD P w K mg base ["_law_script", "_law_pool_here", "_law_number", "_law_thing", "_law_kind", "_law_e", "found", "_law_k"] "law" s_law f cd A outer s H E).N[1]? = some ("_law_pool_here" : Str) ∧ (("_law_pool_here" : Str) == ("__debug__" : Str)) = false ∧ (("_law_pool_here" : Str) == ("__classdict__" : Str)) = false := ⟨rfl, by decide, by decide⟩
  have nm2 : (cxD P w K mg base ["_law_script", "_law_pool_here", "_law_number", "_law_thing", "_law_kind", "_law_e", "found", "_law_k"] "law" s_law f cd A outer s H E).N[2]? = some ("_law_number" : Str) ∧ (("_law_number" : Str) == ("__debug__" : Str)) = false ∧ (("_law_number" : Str) == ("__classdict__" : Str)) = false := ⟨rfl, by decide, by decide⟩
  have nm3 : (cxD P w K mg base ["_law_script", "_law_pool_here", "_law_number", "_law_thing", "_law_kind", "_law_e", "found", "_law_k"] "law" s_law f cd A outer s H E).N[3]? = some ("_law_thing" : Str) ∧ (("_law_thing" : Str) == ("__debug__" : Str)) = false ∧ (("_law_thing" : Str) == ("__classdict__" : Str)) = false := ⟨rfl, by decide, by decide⟩
  have nm4 : (cxD P w K mg base ["_law_script", "_law_pool_here", "_law_number", "_law_thing", "_law_kind", "_law_e", "found", "_law_k"] "law" s_law f cd A outer s H E).N[4]? = some ("_law_kind" : Str) ∧ (("_law_kind" : Str) == ("__debug__" : Str)) = false ∧ (("_law_kind" : Str) == ("__classdict__" : Str)) = false := ⟨rfl, by decide, by decide⟩
  have nm5 : (cxD P w K mg base ["_law_script", "_law_pool_here", "_law_number", "_law_thing", "_law_kind", "_law_e", "found", "_law_k"] "law" s_law f cd A outer s H E).N[5]? = some ("_law_e" : Str) ∧ (("_law_e" : Str) == ("__debug__" : Str)) = false ∧ (("_law_e" : Str) == ("__classdict__" : Str)) = false := ⟨rfl, by decide, by decide⟩
  have nm6 : (cxD P w K mg base ["_law_script", "_law_pool_here", "_law_number", "_law_thing", "_law_kind", "_law_e", "found", "_law_k"] "law" s_law f cd A outer s H E).N[6]? = some ("found" : Str) ∧ (("found" : Str) == ("__debug__" : Str)) = false ∧ (("found" : Str) == ("__classdict__" : Str)) = false := ⟨rfl, by decide, by decide⟩
  have nm7 : (cxD P w K mg base ["_law_script", "_law_pool_here", "_law_number", "_law_thing", "_law_kind", "_law_e", "found", "_law_k"] "law" s_law f cd A outer s H E).N[7]? = some ("_law_k" : Str) ∧ (("_law_k" : Str) == ("__debug__" : Str)) = false ∧ (("_law_k" : Str) == ("__classdict__" : Str)) = false := ⟨rfl, by decide, by decide⟩
  have bn_range : (cxD P w K mg base ["_law_script", "_law_pool_here", "_law_number", "_law_thing", "_law_kind", "_law_e", "found", "_law_k"] "law" s_law f cd A outer s H E).mg "range" = none := m_range
  have bn_isinstance : (cxD P w K mg base ["_law_script", "_law_pool_here", "_law_number", "_law_thing", "_law_kind", "_law_e", "found", "_law_k"] "law" s_law f cd A outer s H E).mg "isinstance" = none := m_isinstance
  have bn_ValueError : (cxD P w K mg base ["_law_script", "_law_pool_here", "_law_number", "_law_thing", "_law_kind", "_law_e", "found", "_law_k"] "law" s_law f cd A outer s H E).mg "ValueError" = none := m_ValueError
  obtain ⟨ns, rfl, hns, fin⟩ := h
  refine s_cons (s_set (i := 1) ?_)
  refine d_call Cp ?_
  walk_at "dd"
  refine ⟨ns, rfl, hns, fun p c hpn hP => ?_⟩
  refine s_cons (s_set (i := 2) ?_)
  walk_at "dd"
  refine d_call Ct ?_
  walk_at "dd"
  refine o_pow ⟨⟨by decide, by decide, by decide⟩, ?_⟩
  walk_at "dd"
  refine ⟨p, _, c, 0, rfl, by decide, by decide, updM_same, hP, by decide, fun z0 y1 a0 a1 hP1 => ?_⟩
  walk_at "dd"
  refine o_pow ⟨⟨by decide, by decide, by decide⟩, ?_⟩
  walk_at "dd"
  rw [updM_upd]
  generalize (z0 - (10 : Int) ^ (28 : Int).toNat) = nu
  refine s_cons (s_set (i := 3) ?_)
  walk_at "dd"
  refine d_lst ?_
  walk_at "dd"
  refine d_lst ?_
  walk_at "dd"
  refine d_lst ?_
  walk_at "dd"
  refine ⟨Nat.zero_le _, ?_⟩
  walk_at "dd"
  refine ⟨(show 2 ≤ sizeLine by decide), ?_⟩
  walk_at "dd"
  refine ⟨(show 2 ≤ sizeLine by decide), ?_⟩
  walk_at "dd"
  refine ⟨(show 7 ≤ sizeLine by decide), ?_⟩
  refine d_call Ct ?_
  walk_at "dd"
  refine ⟨p, 7, y1, 1, rfl, by decide, by decide, updM_same, hP1, by decide, fun z1 y2 b0 b1 hP2 => ?_⟩
  rw [updM_upd]
  obtain ⟨th, hth, hT⟩ : ∃ th, atI [D.int nu, .str (Str.ofString ""), .str (Str.ofString "a b"), .non, .bl true, .lst [.int nu, .lst []], .tup [.int 1, .int nu]] z1 = some th ∧ Thing th := by
    obtain ⟨j, rfl⟩ : ∃ j : Nat, z1 = (j : Int) := ⟨z1.toNat, by omega⟩
    have hj : j < 7 := by omega
    match j, hj with
    | 0, _ => exact ⟨_, rfl, _, _, false, fun μ => .int nu, by simp [PyData.canLay0, PyData.canLayAll0], by simp [PyData.depth, PyData.depthAll], rfl, by decide +kernel⟩
    | 1, _ => exact ⟨_, rfl, _, _, false, fun μ => .str _, (by rw [PyData.canLay0]; decide +kernel), by simp [PyData.depth, PyData.depthAll], rfl, by decide +kernel⟩
    | 2, _ => exact ⟨_, rfl, _, _, false, fun μ => .str _, (by rw [PyData.canLay0]; decide +kernel), by simp [PyData.depth, PyData.depthAll], rfl, by decide +kernel⟩
    | 3, _ => exact ⟨_, rfl, _, _, false, fun μ => .non, by simp [PyData.canLay0, PyData.canLayAll0], by simp [PyData.depth, PyData.depthAll], rfl, by decide +kernel⟩
    | 4, _ => exact ⟨_, rfl, _, _, true, fun μ => .bl true, by simp [PyData.canLay0, PyData.canLayAll0], by simp [PyData.depth, PyData.depthAll], rfl, by decide +kernel⟩
    | 5, _ => exact ⟨_, rfl, _, _, false, fun μ => .lst (.cons (.int nu) (.cons (.lst .nil) .nil)), by simp [PyData.canLay0, PyData.canLayAll0], by simp [PyData.depth, PyData.depthAll], rfl, by decide +kernel⟩
    | 6, _ => exact ⟨_, rfl, _, _, false, fun μ => .tup (.cons (.int 1) (.cons (.int nu) .nil)), by simp [PyData.canLay0, PyData.canLayAll0], by simp [PyData.depth, PyData.depthAll], rfl, by decide +kernel⟩
    | n + 7, hj => exact absurd hj (by omega)
  refine x_lst hth ?_
  generalize updM μ p y2 = μ1
  refine s_cut (fun δ μ' => ∃ v4 v5 v6 v7, δ = [some (.scr ns), some (.ref p), some (.int nu), some th, v4, v5, v6, v7]) ?_ ?_
  · refine s_forR ?_
    walk_at "dd"
    refine ⟨23, rfl, by omega, by omega, fun i δ μ' => ∃ v4 v5 v6 v7, δ = [some (.scr ns), some (.ref p), some (.int nu), some th, v4, v5, v6, v7], ⟨none, none, none, none, rfl⟩, ?_, fun _ _ h => h⟩
    rintro j δ' μ' hj ⟨v4, v5, v6, v7, rfl⟩
    refine g_name (i := 4) fun G1 e1 => ?_
    have hj2 : j < (madeL c0 c1 c2 c3 c4 c5 c6 c7 c8 c9 c10 c11 c12 c13 c14 c15 c16 c17 c18 c19 c20 c21 c22 th).length := hj
    obtain ⟨es, hes⟩ : ∃ es, (madeL c0 c1 c2 c3 c4 c5 c6 c7 c8 c9 c10 c11 c12 c13 c14 c15 c16 c17 c18 c19 c20 c21 c22 th)[j]? = some es := ⟨_, List.getElem?_eq_getElem hj2⟩
    refine s_one (s_forL (ds := es) ?_)
    refine d_call Cm ?_
    walk_at "dd"
    refine ⟨j, th, es, rfl, hes, ?_⟩
    refine ⟨rfl, fun i δ μ' => ∃ v5 v6 v7, δ = [some (.scr ns), some (.ref p), some (.int nu), some th, some (.int j), v5, v6, v7], ⟨v5, v6, v7, rfl⟩, ?_, fun δ' μ' ⟨v5, v6, v7, e⟩ => ⟨_, v5, v6, v7, e⟩⟩
    rintro i e δ' μ' he ⟨v5, v6, v7, rfl⟩
    have hmem : e ∈ es := List.mem_of_getElem? he
    obtain ⟨C, hC, hE, ec, xl⟩ := made_at hes hmem F
    refine g_name (i := 5) fun G2 e2 => ?_
    refine s_cons (s_if ?_)
    walk_at "dd"
    refine d_call Ck ?_
    walk_at "dd"
    refine ⟨e, C, rfl, hE, ec, xl, ?_⟩
    rw [kinds_eq (List.nodup_cons.mp F.nd).2 hC]
    refine d_fz ?_
    refine d_lcR (own := [("_law_k", 7)]) (vs := [7]) 7 ?_
    walk_at "dd"
    refine ⟨23, rfl, by decide, by decide, fun i acc μ2 => acc = ((List.range i).map fun k : Nat => decide ((k : Int) = (j : Int))).map D.bl, rfl, ?_, ?_⟩
    · rintro i acc μ2 qq hi rfl hqn
      refine ⟨by rw [List.length_map, List.length_map, List.length_range, sizeLine_eq]; omega, fun G1 s H0 C cl fp => ?_⟩
      walk_at "dd"
      refine ⟨μ2, rfl, hqn, ?_⟩
      show List.map D.bl _ ++ [D.bl (decide ((i : Int) = (j : Int)))] = List.map D.bl (List.map (fun k : Nat => decide ((k : Int) = (j : Int))) (List.range (i + 1)))
      rw [List.range_succ, List.map_append, List.map_append]
      rfl
    · rintro acc μ2 qq rfl hqn
      refine fz_ref hqn ?_
      refine o_sameN (hu64 hr) (.lst (py_bls _)) (.lst (py_bls _)) (cl_bls _) (dp_bls _) ?_
      walk_at "dd"
      refine no rfl ?_
      refine s_nil ?_
      refine s_cons (s_if (t_bool (tw_or ?_)))
      walk_at "dd"
      refine d_gc (v := .ref cD) ⟨_, F.gD, rfl⟩ (fun _ => .ref _) ?_
      walk_at "dd"
      refine c_ise hE ec F.gl (.own _) (kit_div xl F.xD) ?_
      walk_at "dd"
      refine orN rfl (tw_or1 ?_)
      walk_at "dd"
      refine d_ty (n := "ValueError") ?_
      walk_at "dd"
      refine c_ise hE ec F.gl (.ty _) (kit_val xl) ?_
      walk_at "dd"
      refine no rfl ?_
      refine s_nil ?_
      refine s_one (s_if (t_bool (tw_and ?_)))
      walk_at "dd"
      by_cases h8 : j < 8
      · refine ⟨fun _ => tw_and1 ?_, fun z => absurd z (by rw [decide_eq_true (by omega : (j : Int) < 8)]; simp)⟩
        walk_at "dd"
        refine d_call Cs ?_
        refine da_cons ?_
        refine d_call Cf ?_
        walk_at "dd"
        refine ⟨j, th, es, e, rfl, h8, hes, hmem, ?_⟩
        walk_at "dd"
        refine ⟨th, rfl, hT, ?_⟩
        walk_at "dd"
        exact no rfl (s_nil ⟨_, _, _, rfl⟩)
      · refine ⟨fun z => absurd z (by rw [decide_eq_false (by omega : ¬ (j : Int) < 8)]; simp), fun _ => ?_⟩
        exact no rfl (s_nil ⟨_, _, _, rfl⟩)
  rintro δ μ2 ⟨v4, v5, v6, v7, rfl⟩
  refine s_one (s_try 6 F.gD tk (fun pn xe hp2 tk2 => s_one (s_raise F.o4.T tk2 ?_)))
  walk_at "dd"
  refine ⟨true, exm_div F.o4.xl F.xD, fun _ x d oe pn2 hz hv => ?_, (fun z => by cases z), fun _ z => by unfold bareG at z; injection z with z _; injection z with z _; exact absurd z (by decide)⟩
  have hrh := L2H.roomH_mark hr (some (.ref x))
  refine s_one (s_ret (d_and ?_))
  refine db_isinstance ?_ m_isinstance rfl rfl rfl
  walk_at "dd"
  refine d_gc F.o4.g (fun _ => .ref _) ?_
  walk_at "dd"
  refine c_isx hz hv F.o4.er F.gl (.own _) (kit_own F.o4.xl F.o4.xl F.n4) ?_
  refine bl_ex (yes (decide_eq_true rfl) (d_one (d_cmp (d_errf (v := th) (gs := [("group", th)]) hz hv F.o4.T.xf F.o4.T.noF ?_))))
  walk_at "dd"
  refine ⟨rfl, by simp [List.lookup], ?_⟩
  walk_at "dd"
  obtain ⟨pd, t, k, g1, g2, g3, _⟩ := hT
  refine o_same (room64 hrh) (g1 _) (g1 _) g2 g3 ?_
  exact fin _
end
end K13

set_option maxHeartbeats 2000000
open PySem PySem.Spec PyProof.Rows L2 DL
namespace K13
section
variable {P : Program} {w : World} {K : PySem.W.Frag} {mg : Str → Option Value} {base h : Heap}
theorem ok_init_BadLine {C fI : Addr} {oc : Value} {od an : Option Addr} {osl : Array (Option Value)} {dV kV doc pm cdv ct : Value} (oex : OexC K C) (no : PySem.W.findIn K (.ref C) "line" = some none)
    (lk : K.lookup fI = some ⟨oc, od, .func (PySem.W.fnOf "__init__" "BadLine.__init__" (defArgs s_BadLine_init) (defBody s_BadLine_init) (defScope s_BadLine_init) dV kV doc pm an cdv ct), osl⟩) (c : PySem.W.codeIn K cdv "BadLine.__init__" = true) :
    FnOk P w K mg base (L2N.CX P w) 1 fI (PySem.W.fnOf "__init__" "BadLine.__init__" (defArgs s_BadLine_init) (defBody s_BadLine_init) (defScope s_BadLine_init) dV kV doc pm an cdv ct) ["self", "line"] (spInit K C "line") := by
  refine fn_of lk c sc_BadLine_init (fun vs H Q E h => ?_) (fun A outer s H vs Q E hr h => ?_)
  · obtain ⟨a, v, rfl, _⟩ := h
    rfl
  · obtain ⟨a, v, rfl, ha, q⟩ := h
    refine ⟨_, pss_one (ps_ost (pv 0) (pv 1)), ?_⟩
    exact ⟨_, rfl, _, rfl, a, C, rfl, oex, no, .inl ⟨ha, fun dx h1 h2 => q dx h1 h2⟩⟩
theorem ok_init_BadName {C fI : Addr} {oc : Value} {od an : Option Addr} {osl : Array (Option Value)} {dV kV doc pm cdv ct : Value} (oex : OexC K C) (no : PySem.W.findIn K (.ref C) "name" = some none)
    (lk : K.lookup fI = some ⟨oc, od, .func (PySem.W.fnOf "__init__" "BadName.__init__" (defArgs s_BadName_init) (defBody s_BadName_init) (defScope s_BadName_init) dV kV doc pm an cdv ct), osl⟩) (c : PySem.W.codeIn K cdv "BadName.__init__" = true) :
    FnOk P w K mg base (L2N.CX P w) 1 fI (PySem.W.fnOf "__init__" "BadName.__init__" (defArgs s_BadName_init) (defBody s_BadName_init) (defScope s_BadName_init) dV kV doc pm an cdv ct) ["self", "name"] (spInit K C "name") := by
  refine fn_of lk c sc_BadName_init (fun vs H Q E h => ?_) (fun A outer s H vs Q E hr h => ?_)
  · obtain ⟨a, v, rfl, _⟩ := h
    rfl
  · obtain ⟨a, v, rfl, ha, q⟩ := h
    refine ⟨_, pss_one (ps_ost (pv 0) (pv 1)), ?_⟩
    exact ⟨_, rfl, _, rfl, a, C, rfl, oex, no, .inl ⟨ha, fun dx h1 h2 => q dx h1 h2⟩⟩
theorem ok_init_BadRatio {C fI : Addr} {oc : Value} {od an : Option Addr} {osl : Array (Option Value)} {dV kV doc pm cdv ct : Value} (oex : OexC K C) (no : PySem.W.findIn K (.ref C) "bottom" = some none)
    (lk : K.lookup fI = some ⟨oc, od, .func (PySem.W.fnOf "__init__" "BadRatio.__init__" (defArgs s_BadRatio_init) (defBody s_BadRatio_init) (defScope s_BadRatio_init) dV kV doc pm an cdv ct), osl⟩) (c : PySem.W.codeIn K cdv "BadRatio.__init__" = true) :
    FnOk P w K mg base (L2N.CX P w) 1 fI (PySem.W.fnOf "__init__" "BadRatio.__init__" (defArgs s_BadRatio_init) (defBody s_BadRatio_init) (defScope s_BadRatio_init) dV kV doc pm an cdv ct) ["self", "bottom"] (spInit K C "bottom") := by
  refine fn_of lk c sc_BadRatio_init (fun vs H Q E h => ?_) (fun A outer s H vs Q E hr h => ?_)
  · obtain ⟨a, v, rfl, _⟩ := h
    rfl
  · obtain ⟨a, v, rfl, ha, q⟩ := h
    refine ⟨_, pss_one (ps_ost (pv 0) (pv 1)), ?_⟩
    exact ⟨_, rfl, _, rfl, a, C, rfl, oex, no, .inl ⟨ha, fun dx h1 h2 => q dx h1 h2⟩⟩
theorem ok_init_NameTaken {C fI : Addr} {oc : Value} {od an : Option Addr} {osl : Array (Option Value)} {dV kV doc pm cdv ct : Value} (oex : OexC K C) (no : PySem.W.findIn K (.ref C) "name" = some none)
    (lk : K.lookup fI = some ⟨oc, od, .func (PySem.W.fnOf "__init__" "NameTaken.__init__" (defArgs s_NameTaken_init) (defBody s_NameTaken_init) (defScope s_NameTaken_init) dV kV doc pm an cdv ct), osl⟩) (c : PySem.W.codeIn K cdv "NameTaken.__init__" = true) :
    FnOk P w K mg base (L2N.CX P w) 1 fI (PySem.W.fnOf "__init__" "NameTaken.__init__" (defArgs s_NameTaken_init) (defBody s_NameTaken_init) (defScope s_NameTaken_init) dV kV doc pm an cdv ct) ["self", "name"] (spInit K C "name") := by
  refine fn_of lk c sc_NameTaken_init (fun vs H Q E h => ?_) (fun A outer s H vs Q E hr h => ?_)
  · obtain ⟨a, v, rfl, _⟩ := h
    rfl
  · obtain ⟨a, v, rfl, ha, q⟩ := h
    refine ⟨_, pss_one (ps_ost (pv 0) (pv 1)), ?_⟩
    exact ⟨_, rfl, _, rfl, a, C, rfl, oex, no, .inl ⟨ha, fun dx h1 h2 => q dx h1 h2⟩⟩
theorem ok_init_NoGroup {C fI : Addr} {oc : Value} {od an : Option Addr} {osl : Array (Option Value)} {dV kV doc pm cdv ct : Value} (oex : OexC K C) (no : PySem.W.findIn K (.ref C) "group" = some none)
    (lk : K.lookup fI = some ⟨oc, od, .func (PySem.W.fnOf "__init__" "NoGroup.__init__" (defArgs s_NoGroup_init) (defBody s_NoGroup_init) (defScope s_NoGroup_init) dV kV doc pm an cdv ct), osl⟩) (c : PySem.W.codeIn K cdv "NoGroup.__init__" = true) :
    FnOk P w K mg base (L2N.CX P w) 1 fI (PySem.W.fnOf "__init__" "NoGroup.__init__" (defArgs s_NoGroup_init) (defBody s_NoGroup_init) (defScope s_NoGroup_init) dV kV doc pm an cdv ct) ["self", "group"] (spInit K C "group") := by
  refine fn_of lk c sc_NoGroup_init (fun vs H Q E h => ?_) (fun A outer s H vs Q E hr h => ?_)
  · obtain ⟨a, v, rfl, _⟩ := h
    rfl
  · obtain ⟨a, v, rfl, ha, q⟩ := h
    refine ⟨_, pss_one (ps_ost (pv 0) (pv 1)), ?_⟩
    exact ⟨_, rfl, _, rfl, a, C, rfl, oex, no, .inl ⟨ha, fun dx h1 h2 => q dx h1 h2⟩⟩
theorem ok_init_NoPlayer {C fI : Addr} {oc : Value} {od an : Option Addr} {osl : Array (Option Value)} {dV kV doc pm cdv ct : Value} (oex : OexC K C) (no : PySem.W.findIn K (.ref C) "player" = some none)
    (lk : K.lookup fI = some ⟨oc, od, .func (PySem.W.fnOf "__init__" "NoPlayer.__init__" (defArgs s_NoPlayer_init) (defBody s_NoPlayer_init) (defScope s_NoPlayer_init) dV kV doc pm an cdv ct), osl⟩) (c : PySem.W.codeIn K cdv "NoPlayer.__init__" = true) :
    FnOk P w K mg base (L2N.CX P w) 1 fI (PySem.W.fnOf "__init__" "NoPlayer.__init__" (defArgs s_NoPlayer_init) (defBody s_NoPlayer_init) (defScope s_NoPlayer_init) dV kV doc pm an cdv ct) ["self", "player"] (spInit K C "player") := by
  refine fn_of lk c sc_NoPlayer_init (fun vs H Q E h => ?_) (fun A outer s H vs Q E hr h => ?_)
  · obtain ⟨a, v, rfl, _⟩ := h
    rfl
  · obtain ⟨a, v, rfl, ha, q⟩ := h
    refine ⟨_, pss_one (ps_ost (pv 0) (pv 1)), ?_⟩
    exact ⟨_, rfl, _, rfl, a, C, rfl, oex, no, .inl ⟨ha, fun dx h1 h2 => q dx h1 h2⟩⟩
theorem ok_init_TooMany {C fI : Addr} {oc : Value} {od an : Option Addr} {osl : Array (Option Value)} {dV kV doc pm cdv ct : Value} (oex : OexC K C) (no : PySem.W.findIn K (.ref C) "players" = some none)
    (lk : K.lookup fI = some ⟨oc, od, .func (PySem.W.fnOf "__init__" "TooMany.__init__" (defArgs s_TooMany_init) (defBody s_TooMany_init) (defScope s_TooMany_init) dV kV doc pm an cdv ct), osl⟩) (c : PySem.W.codeIn K cdv "TooMany.__init__" = true) :
    FnOk P w K mg base (L2N.CX P w) 1 fI (PySem.W.fnOf "__init__" "TooMany.__init__" (defArgs s_TooMany_init) (defBody s_TooMany_init) (defScope s_TooMany_init) dV kV doc pm an cdv ct) ["self", "players"] (spInit K C "players") := by
  refine fn_of lk c sc_TooMany_init (fun vs H Q E h => ?_) (fun A outer s H vs Q E hr h => ?_)
  · obtain ⟨a, v, rfl, _⟩ := h
    rfl
  · obtain ⟨a, v, rfl, ha, q⟩ := h
    refine ⟨_, pss_one (ps_ost (pv 0) (pv 1)), ?_⟩
    exact ⟨_, rfl, _, rfl, a, C, rfl, oex, no, .inl ⟨ha, fun dx h1 h2 => q dx h1 h2⟩⟩
theorem ok_init_UnknownName {C fI : Addr} {oc : Value} {od an : Option Addr} {osl : Array (Option Value)} {dV kV doc pm cdv ct : Value} (oex : OexC K C) (no : PySem.W.findIn K (.ref C) "name" = some none)
    (lk : K.lookup fI = some ⟨oc, od, .func (PySem.W.fnOf "__init__" "UnknownName.__init__" (defArgs s_UnknownName_init) (defBody s_UnknownName_init) (defScope s_UnknownName_init) dV kV doc pm an cdv ct), osl⟩) (c : PySem.W.codeIn K cdv "UnknownName.__init__" = true) :
    FnOk P w K mg base (L2N.CX P w) 1 fI (PySem.W.fnOf "__init__" "UnknownName.__init__" (defArgs s_UnknownName_init) (defBody s_UnknownName_init) (defScope s_UnknownName_init) dV kV doc pm an cdv ct) ["self", "name"] (spInit K C "name") := by
  refine fn_of lk c sc_UnknownName_init (fun vs H Q E h => ?_) (fun A outer s H vs Q E hr h => ?_)
  · obtain ⟨a, v, rfl, _⟩ := h
    rfl
  · obtain ⟨a, v, rfl, ha, q⟩ := h
    refine ⟨_, pss_one (ps_ost (pv 0) (pv 1)), ?_⟩
    exact ⟨_, rfl, _, rfl, a, C, rfl, oex, no, .inl ⟨ha, fun dx h1 h2 => q dx h1 h2⟩⟩
theorem all_mk {fa cD ND fL c0 c1 c2 c3 c4 c5 c6 c7 c8 c9 c10 c11 c12 c13 c14 c15 c16 c17 c18 c19 c20 c21 c22 N0 N1 N2 N3 N4 N5 N6 N7 N8 N9 N10 N11 N12 N13 N14 N15 N16 N17 N18 N19 N20 N21 N22 fI0 fI1 fI2 fI3 fI4 fI5 fI6 fI7 f0 f1 f2 f3 f4 f5 : Addr} (KI : K.In h) (G : h.Ns mainGlobals mg) (hfa : mg "law" = some (.ref fa))
    {nm_D q_D : Str} {bs_D : List Value} {sn_D : List Str} {sub_D : List Value} {ab_D : Bool} {col_D : Option Bool} {dd_D : Option Addr} {m0_D m1_D m2_D m3_D m5_D : Option Value}
    {nm_0 q_0 : Str} {bs_0 : List Value} {sn_0 : List Str} {sub_0 : List Value} {ab_0 : Bool} {col_0 : Option Bool} {dd_0 : Option Addr} {m0_0 m1_0 m2_0 m3_0 m5_0 : Option Value}
    {nm_1 q_1 : Str} {bs_1 : List Value} {sn_1 : List Str} {sub_1 : List Value} {ab_1 : Bool} {col_1 : Option Bool} {dd_1 : Option Addr} {m0_1 m1_1 m2_1 m3_1 m5_1 : Option Value}
    {nm_2 q_2 : Str} {bs_2 : List Value} {sn_2 : List Str} {sub_2 : List Value} {ab_2 : Bool} {col_2 : Option Bool} {dd_2 : Option Addr} {m0_2 m1_2 m2_2 m3_2 m5_2 : Option Value}
    {nm_3 q_3 : Str} {bs_3 : List Value} {sn_3 : List Str} {sub_3 : List Value} {ab_3 : Bool} {col_3 : Option Bool} {dd_3 : Option Addr} {m0_3 m1_3 m2_3 m3_3 m5_3 : Option Value}
    {nm_4 q_4 : Str} {bs_4 : List Value} {sn_4 : List Str} {sub_4 : List Value} {ab_4 : Bool} {col_4 : Option Bool} {dd_4 : Option Addr} {m0_4 m1_4 m2_4 m3_4 m5_4 : Option Value}
    {nm_5 q_5 : Str} {bs_5 : List Value} {sn_5 : List Str} {sub_5 : List Value} {ab_5 : Bool} {col_5 : Option Bool} {dd_5 : Option Addr} {m0_5 m1_5 m2_5 m3_5 m5_5 : Option Value}
    {nm_6 q_6 : Str} {bs_6 : List Value} {sn_6 : List Str} {sub_6 : List Value} {ab_6 : Bool} {col_6 : Option Bool} {dd_6 : Option Addr} {m0_6 m1_6 m2_6 m3_6 m5_6 : Option Value}
    {nm_7 q_7 : Str} {bs_7 : List Value} {sn_7 : List Str} {sub_7 : List Value} {ab_7 : Bool} {col_7 : Option Bool} {dd_7 : Option Addr} {m0_7 m1_7 m2_7 m3_7 m5_7 : Option Value}
    {nm_8 q_8 : Str} {bs_8 : List Value} {sn_8 : List Str} {sub_8 : List Value} {ab_8 : Bool} {col_8 : Option Bool} {dd_8 : Option Addr} {m0_8 m1_8 m2_8 m3_8 m5_8 : Option Value}
    {nm_9 q_9 : Str} {bs_9 : List Value} {sn_9 : List Str} {sub_9 : List Value} {ab_9 : Bool} {col_9 : Option Bool} {dd_9 : Option Addr} {m0_9 m1_9 m2_9 m3_9 m5_9 : Option Value}
    {nm_10 q_10 : Str} {bs_10 : List Value} {sn_10 : List Str} {sub_10 : List Value} {ab_10 : Bool} {col_10 : Option Bool} {dd_10 : Option Addr} {m0_10 m1_10 m2_10 m3_10 m5_10 : Option Value}
    {nm_11 q_11 : Str} {bs_11 : List Value} {sn_11 : List Str} {sub_11 : List Value} {ab_11 : Bool} {col_11 : Option Bool} {dd_11 : Option Addr} {m0_11 m1_11 m2_11 m3_11 m5_11 : Option Value}
    {nm_12 q_12 : Str} {bs_12 : List Value} {sn_12 : List Str} {sub_12 : List Value} {ab_12 : Bool} {col_12 : Option Bool} {dd_12 : Option Addr} {m0_12 m1_12 m2_12 m3_12 m5_12 : Option Value}
    {nm_13 q_13 : Str} {bs_13 : List Value} {sn_13 : List Str} {sub_13 : List Value} {ab_13 : Bool} {col_13 : Option Bool} {dd_13 : Option Addr} {m0_13 m1_13 m2_13 m3_13 m5_13 : Option Value}
    {nm_14 q_14 : Str} {bs_14 : List Value} {sn_14 : List Str} {sub_14 : List Value} {ab_14 : Bool} {col_14 : Option Bool} {dd_14 : Option Addr} {m0_14 m1_14 m2_14 m3_14 m5_14 : Option Value}
    {nm_15 q_15 : Str} {bs_15 : List Value} {sn_15 : List Str} {sub_15 : List Value} {ab_15 : Bool} {col_15 : Option Bool} {dd_15 : Option Addr} {m0_15 m1_15 m2_15 m3_15 m5_15 : Option Value}
    {nm_16 q_16 : Str} {bs_16 : List Value} {sn_16 : List Str} {sub_16 : List Value} {ab_16 : Bool} {col_16 : Option Bool} {dd_16 : Option Addr} {m0_16 m1_16 m2_16 m3_16 m5_16 : Option Value}
    {nm_17 q_17 : Str} {bs_17 : List Value} {sn_17 : List Str} {sub_17 : List Value} {ab_17 : Bool} {col_17 : Option Bool} {dd_17 : Option Addr} {m0_17 m1_17 m2_17 m3_17 m5_17 : Option Value}
    {nm_18 q_18 : Str} {bs_18 : List Value} {sn_18 : List Str} {sub_18 : List Value} {ab_18 : Bool} {col_18 : Option Bool} {dd_18 : Option Addr} {m0_18 m1_18 m2_18 m3_18 m5_18 : Option Value}
    {nm_19 q_19 : Str} {bs_19 : List Value} {sn_19 : List Str} {sub_19 : List Value} {ab_19 : Bool} {col_19 : Option Bool} {dd_19 : Option Addr} {m0_19 m1_19 m2_19 m3_19 m5_19 : Option Value}
    {nm_20 q_20 : Str} {bs_20 : List Value} {sn_20 : List Str} {sub_20 : List Value} {ab_20 : Bool} {col_20 : Option Bool} {dd_20 : Option Addr} {m0_20 m1_20 m2_20 m3_20 m5_20 : Option Value}
    {nm_21 q_21 : Str} {bs_21 : List Value} {sn_21 : List Str} {sub_21 : List Value} {ab_21 : Bool} {col_21 : Option Bool} {dd_21 : Option Addr} {m0_21 m1_21 m2_21 m3_21 m5_21 : Option Value}
    {nm_22 q_22 : Str} {bs_22 : List Value} {sn_22 : List Str} {sub_22 : List Value} {ab_22 : Bool} {col_22 : Option Bool} {dd_22 : Option Addr} {m0_22 m1_22 m2_22 m3_22 m5_22 : Option Value}
    {odI0 anI0 odI1 anI1 odI2 anI2 odI3 anI3 odI4 anI4 odI5 anI5 odI6 anI6 odI7 anI7 odL anL od0 an0 od1 an1 od2 an2 od3 an3 od4 an4 od5 an5 : Option Addr} {slI0 slI1 slI2 slI3 slI4 slI5 slI6 slI7 slL sl0 sl1 sl2 sl3 sl4 sl5 : Array (Option Value)} {ocI0 kVI0 dcI0 pmI0 cdI0 ctI0 ocI1 kVI1 dcI1 pmI1 cdI1 ctI1 ocI2 kVI2 dcI2 pmI2 cdI2 ctI2 ocI3 kVI3 dcI3 pmI3 cdI3 ctI3 ocI4 kVI4 dcI4 pmI4 cdI4 ctI4 ocI5 kVI5 dcI5 pmI5 cdI5 ctI5 ocI6 kVI6 dcI6 pmI6 cdI6 ctI6 ocI7 kVI7 dcI7 pmI7 cdI7 ctI7 ocL kVL dcL pmL cdL ctL oc0 kV0 dc0 pm0 cd0 ct0 oc1 kV1 dc1 pm1 cd1 ct1 oc2 kV2 dc2 pm2 cd2 ct2 oc3 kV3 dc3 pm3 cd3 ct3 oc4 kV4 dc4 pm4 cd4 ct4 oc5 kV5 dc5 pm5 cd5 ct5 : Value}
    (aD : PySem.W.nsIn K mainGlobals "DivisionError" = some (some (.ref cD)))
    (xLD : K.lookup cD = some (excClassObj nm_D q_D cD ND bs_D [.type "ValueError", .type "Exception", .type "BaseException", .type "object"] true sn_D sub_D ab_D col_D dd_D m0_D m1_D m2_D m3_D m5_D "ValueError.__new__"))
    (aC0 : PySem.W.nsIn K mainGlobals "BadLine" = some (some (.ref c0)))
    (xL0 : K.lookup c0 = some (excClassObj nm_0 q_0 c0 N0 bs_0 [.ref cD, .type "ValueError", .type "Exception", .type "BaseException", .type "object"] true sn_0 sub_0 ab_0 col_0 dd_0 m0_0 m1_0 m2_0 m3_0 m5_0 "ValueError.__new__"))
    (sa0 : PySem.W.findIn K (.ref c0) "__setattr__" = some (some (.builtin "object.__setattr__")))
    (ga0 : PySem.W.findIn K (.ref c0) "__getattribute__" = some (some (.builtin "BaseException.__getattribute__")))
    (gg0 : PySem.W.findIn K (.ref c0) "__getattr__" = some none)
    (ac0 : PySem.W.findIn K (.ref c0) "__class__" = some (some (.builtin "object.__class__")))
    (nb0 : PySem.W.findIn K (.ref c0) "line" = some none)
    (aI0 : PySem.W.findIn K (.ref c0) "__init__" = some (some (.ref fI0)))
    (tI0 : PySem.W.typeIn K (.ref fI0) = some (.type "function"))
    (lI0 : K.lookup fI0 = some ⟨ocI0, odI0, .func (PySem.W.fnOf "__init__" "BadLine.__init__" (defArgs s_BadLine_init) (defBody s_BadLine_init) (defScope s_BadLine_init) .none kVI0 dcI0 pmI0 anI0 cdI0 ctI0), slI0⟩)
    (cI0 : PySem.W.codeIn K cdI0 "BadLine.__init__" = true)
    (kC0 : PySem.W.keepIn K (.ref c0) = true)
    (aC1 : PySem.W.nsIn K mainGlobals "BadName" = some (some (.ref c1)))
    (xL1 : K.lookup c1 = some (excClassObj nm_1 q_1 c1 N1 bs_1 [.ref cD, .type "ValueError", .type "Exception", .type "BaseException", .type "object"] true sn_1 sub_1 ab_1 col_1 dd_1 m0_1 m1_1 m2_1 m3_1 m5_1 "ValueError.__new__"))
    (sa1 : PySem.W.findIn K (.ref c1) "__setattr__" = some (some (.builtin "object.__setattr__")))
    (ga1 : PySem.W.findIn K (.ref c1) "__getattribute__" = some (some (.builtin "BaseException.__getattribute__")))
    (gg1 : PySem.W.findIn K (.ref c1) "__getattr__" = some none)
    (ac1 : PySem.W.findIn K (.ref c1) "__class__" = some (some (.builtin "object.__class__")))
    (nb1 : PySem.W.findIn K (.ref c1) "name" = some none)
    (aI1 : PySem.W.findIn K (.ref c1) "__init__" = some (some (.ref fI1)))
    (tI1 : PySem.W.typeIn K (.ref fI1) = some (.type "function"))
    (lI1 : K.lookup fI1 = some ⟨ocI1, odI1, .func (PySem.W.fnOf "__init__" "BadName.__init__" (defArgs s_BadName_init) (defBody s_BadName_init) (defScope s_BadName_init) .none kVI1 dcI1 pmI1 anI1 cdI1 ctI1), slI1⟩)
    (cI1 : PySem.W.codeIn K cdI1 "BadName.__init__" = true)
    (kC1 : PySem.W.keepIn K (.ref c1) = true)
    (aC2 : PySem.W.nsIn K mainGlobals "BadRatio" = some (some (.ref c2)))
    (xL2 : K.lookup c2 = some (excClassObj nm_2 q_2 c2 N2 bs_2 [.ref cD, .type "ValueError", .type "Exception", .type "BaseException", .type "object"] true sn_2 sub_2 ab_2 col_2 dd_2 m0_2 m1_2 m2_2 m3_2 m5_2 "ValueError.__new__"))
    (sa2 : PySem.W.findIn K (.ref c2) "__setattr__" = some (some (.builtin "object.__setattr__")))
    (ga2 : PySem.W.findIn K (.ref c2) "__getattribute__" = some (some (.builtin "BaseException.__getattribute__")))
    (gg2 : PySem.W.findIn K (.ref c2) "__getattr__" = some none)
    (ac2 : PySem.W.findIn K (.ref c2) "__class__" = some (some (.builtin "object.__class__")))
    (nb2 : PySem.W.findIn K (.ref c2) "bottom" = some none)
    (aI2 : PySem.W.findIn K (.ref c2) "__init__" = some (some (.ref fI2)))
    (tI2 : PySem.W.typeIn K (.ref fI2) = some (.type "function"))
    (lI2 : K.lookup fI2 = some ⟨ocI2, odI2, .func (PySem.W.fnOf "__init__" "BadRatio.__init__" (defArgs s_BadRatio_init) (defBody s_BadRatio_init) (defScope s_BadRatio_init) .none kVI2 dcI2 pmI2 anI2 cdI2 ctI2), slI2⟩)
    (cI2 : PySem.W.codeIn K cdI2 "BadRatio.__init__" = true)
    (kC2 : PySem.W.keepIn K (.ref c2) = true)
    (aC3 : PySem.W.nsIn K mainGlobals "NameTaken" = some (some (.ref c3)))
    (xL3 : K.lookup c3 = some (excClassObj nm_3 q_3 c3 N3 bs_3 [.ref cD, .type "ValueError", .type "Exception", .type "BaseException", .type "object"] true sn_3 sub_3 ab_3 col_3 dd_3 m0_3 m1_3 m2_3 m3_3 m5_3 "ValueError.__new__"))
    (sa3 : PySem.W.findIn K (.ref c3) "__setattr__" = some (some (.builtin "object.__setattr__")))
    (ga3 : PySem.W.findIn K (.ref c3) "__getattribute__" = some (some (.builtin "BaseException.__getattribute__")))
    (gg3 : PySem.W.findIn K (.ref c3) "__getattr__" = some none)
    (ac3 : PySem.W.findIn K (.ref c3) "__class__" = some (some (.builtin "object.__class__")))
    (nb3 : PySem.W.findIn K (.ref c3) "name" = some none)
    (aI3 : PySem.W.findIn K (.ref c3) "__init__" = some (some (.ref fI3)))
    (tI3 : PySem.W.typeIn K (.ref fI3) = some (.type "function"))
    (lI3 : K.lookup fI3 = some ⟨ocI3, odI3, .func (PySem.W.fnOf "__init__" "NameTaken.__init__" (defArgs s_NameTaken_init) (defBody s_NameTaken_init) (defScope s_NameTaken_init) .none kVI3 dcI3 pmI3 anI3 cdI3 ctI3), slI3⟩)
    (cI3 : PySem.W.codeIn K cdI3 "NameTaken.__init__" = true)
    (kC3 : PySem.W.keepIn K (.ref c3) = true)
    (aC4 : PySem.W.nsIn K mainGlobals "NoGroup" = some (some (.ref c4)))
    (xL4 : K.lookup c4 = some (excClassObj nm_4 q_4 c4 N4 bs_4 [.ref cD, .type "ValueError", .type "Exception", .type "BaseException", .type "object"] true sn_4 sub_4 ab_4 col_4 dd_4 m0_4 m1_4 m2_4 m3_4 m5_4 "ValueError.__new__"))
    (sa4 : PySem.W.findIn K (.ref c4) "__setattr__" = some (some (.builtin "object.__setattr__")))
    (ga4 : PySem.W.findIn K (.ref c4) "__getattribute__" = some (some (.builtin "BaseException.__getattribute__")))
    (gg4 : PySem.W.findIn K (.ref c4) "__getattr__" = some none)
    (ac4 : PySem.W.findIn K (.ref c4) "__class__" = some (some (.builtin "object.__class__")))
    (nb4 : PySem.W.findIn K (.ref c4) "group" = some none)
    (aI4 : PySem.W.findIn K (.ref c4) "__init__" = some (some (.ref fI4)))
    (tI4 : PySem.W.typeIn K (.ref fI4) = some (.type "function"))
    (lI4 : K.lookup fI4 = some ⟨ocI4, odI4, .func (PySem.W.fnOf "__init__" "NoGroup.__init__" (defArgs s_NoGroup_init) (defBody s_NoGroup_init) (defScope s_NoGroup_init) .none kVI4 dcI4 pmI4 anI4 cdI4 ctI4), slI4⟩)
    (cI4 : PySem.W.codeIn K cdI4 "NoGroup.__init__" = true)
    (kC4 : PySem.W.keepIn K (.ref c4) = true)
    (aC5 : PySem.W.nsIn K mainGlobals "NoPlayer" = some (some (.ref c5)))
    (xL5 : K.lookup c5 = some (excClassObj nm_5 q_5 c5 N5 bs_5 [.ref cD, .type "ValueError", .type "Exception", .type "BaseException", .type "object"] true sn_5 sub_5 ab_5 col_5 dd_5 m0_5 m1_5 m2_5 m3_5 m5_5 "ValueError.__new__"))
    (sa5 : PySem.W.findIn K (.ref c5) "__setattr__" = some (some (.builtin "object.__setattr__")))
    (ga5 : PySem.W.findIn K (.ref c5) "__getattribute__" = some (some (.builtin "BaseException.__getattribute__")))
    (gg5 : PySem.W.findIn K (.ref c5) "__getattr__" = some none)
    (ac5 : PySem.W.findIn K (.ref c5) "__class__" = some (some (.builtin "object.__class__")))
    (nb5 : PySem.W.findIn K (.ref c5) "player" = some none)
    (aI5 : PySem.W.findIn K (.ref c5) "__init__" = some (some (.ref fI5)))
    (tI5 : PySem.W.typeIn K (.ref fI5) = some (.type "function"))
    (lI5 : K.lookup fI5 = some ⟨ocI5, odI5, .func (PySem.W.fnOf "__init__" "NoPlayer.__init__" (defArgs s_NoPlayer_init) (defBody s_NoPlayer_init) (defScope s_NoPlayer_init) .none kVI5 dcI5 pmI5 anI5 cdI5 ctI5), slI5⟩)
    (cI5 : PySem.W.codeIn K cdI5 "NoPlayer.__init__" = true)
    (kC5 : PySem.W.keepIn K (.ref c5) = true)
    (aC6 : PySem.W.nsIn K mainGlobals "TooMany" = some (some (.ref c6)))
    (xL6 : K.lookup c6 = some (excClassObj nm_6 q_6 c6 N6 bs_6 [.ref cD, .type "ValueError", .type "Exception", .type "BaseException", .type "object"] true sn_6 sub_6 ab_6 col_6 dd_6 m0_6 m1_6 m2_6 m3_6 m5_6 "ValueError.__new__"))
    (sa6 : PySem.W.findIn K (.ref c6) "__setattr__" = some (some (.builtin "object.__setattr__")))
    (ga6 : PySem.W.findIn K (.ref c6) "__getattribute__" = some (some (.builtin "BaseException.__getattribute__")))
    (gg6 : PySem.W.findIn K (.ref c6) "__getattr__" = some none)
    (ac6 : PySem.W.findIn K (.ref c6) "__class__" = some (some (.builtin "object.__class__")))
    (nb6 : PySem.W.findIn K (.ref c6) "players" = some none)
    (aI6 : PySem.W.findIn K (.ref c6) "__init__" = some (some (.ref fI6)))
    (tI6 : PySem.W.typeIn K (.ref fI6) = some (.type "function"))
    (lI6 : K.lookup fI6 = some ⟨ocI6, odI6, .func (PySem.W.fnOf "__init__" "TooMany.__init__" (defArgs s_TooMany_init) (defBody s_TooMany_init) (defScope s_TooMany_init) .none kVI6 dcI6 pmI6 anI6 cdI6 ctI6), slI6⟩)
    (cI6 : PySem.W.codeIn K cdI6 "TooMany.__init__" = true)
    (kC6 : PySem.W.keepIn K (.ref c6) = true)
    (aC7 : PySem.W.nsIn K mainGlobals "UnknownName" = some (some (.ref c7)))
    (xL7 : K.lookup c7 = some (excClassObj nm_7 q_7 c7 N7 bs_7 [.ref cD, .type "ValueError", .type "Exception", .type "BaseException", .type "object"] true sn_7 sub_7 ab_7 col_7 dd_7 m0_7 m1_7 m2_7 m3_7 m5_7 "ValueError.__new__"))
    (sa7 : PySem.W.findIn K (.ref c7) "__setattr__" = some (some (.builtin "object.__setattr__")))
    (ga7 : PySem.W.findIn K (.ref c7) "__getattribute__" = some (some (.builtin "BaseException.__getattribute__")))
    (gg7 : PySem.W.findIn K (.ref c7) "__getattr__" = some none)
    (ac7 : PySem.W.findIn K (.ref c7) "__class__" = some (some (.builtin "object.__class__")))
    (nb7 : PySem.W.findIn K (.ref c7) "name" = some none)
    (aI7 : PySem.W.findIn K (.ref c7) "__init__" = some (some (.ref fI7)))
    (tI7 : PySem.W.typeIn K (.ref fI7) = some (.type "function"))
    (lI7 : K.lookup fI7 = some ⟨ocI7, odI7, .func (PySem.W.fnOf "__init__" "UnknownName.__init__" (defArgs s_UnknownName_init) (defBody s_UnknownName_init) (defScope s_UnknownName_init) .none kVI7 dcI7 pmI7 anI7 cdI7 ctI7), slI7⟩)
    (cI7 : PySem.W.codeIn K cdI7 "UnknownName.__init__" = true)
    (kC7 : PySem.W.keepIn K (.ref c7) = true)
    (aC8 : PySem.W.nsIn K mainGlobals "BadAmounts" = some (some (.ref c8)))
    (xL8 : K.lookup c8 = some (excClassObj nm_8 q_8 c8 N8 bs_8 [.ref cD, .type "ValueError", .type "Exception", .type "BaseException", .type "object"] true sn_8 sub_8 ab_8 col_8 dd_8 m0_8 m1_8 m2_8 m3_8 m5_8 "ValueError.__new__"))
    (xB8 : PySem.W.excIn K c8 [.type "ValueError", .type "Exception", .type "BaseException", .type "object"] "ValueError.__new__" = true)
    (ga8 : PySem.W.findIn K (.ref c8) "__getattribute__" = some (some (.builtin "BaseException.__getattribute__")))
    (gg8 : PySem.W.findIn K (.ref c8) "__getattr__" = some none)
    (ac8 : PySem.W.findIn K (.ref c8) "__class__" = some (some (.builtin "object.__class__")))
    (kC8 : PySem.W.keepIn K (.ref c8) = true)
    (aC9 : PySem.W.nsIn K mainGlobals "BadGains" = some (some (.ref c9)))
    (xL9 : K.lookup c9 = some (excClassObj nm_9 q_9 c9 N9 bs_9 [.ref cD, .type "ValueError", .type "Exception", .type "BaseException", .type "object"] true sn_9 sub_9 ab_9 col_9 dd_9 m0_9 m1_9 m2_9 m3_9 m5_9 "ValueError.__new__"))
    (xB9 : PySem.W.excIn K c9 [.type "ValueError", .type "Exception", .type "BaseException", .type "object"] "ValueError.__new__" = true)
    (ga9 : PySem.W.findIn K (.ref c9) "__getattribute__" = some (some (.builtin "BaseException.__getattribute__")))
    (gg9 : PySem.W.findIn K (.ref c9) "__getattr__" = some none)
    (ac9 : PySem.W.findIn K (.ref c9) "__class__" = some (some (.builtin "object.__class__")))
    (kC9 : PySem.W.keepIn K (.ref c9) = true)
    (aC10 : PySem.W.nsIn K mainGlobals "BadLinks" = some (some (.ref c10)))
    (xL10 : K.lookup c10 = some (excClassObj nm_10 q_10 c10 N10 bs_10 [.ref cD, .type "ValueError", .type "Exception", .type "BaseException", .type "object"] true sn_10 sub_10 ab_10 col_10 dd_10 m0_10 m1_10 m2_10 m3_10 m5_10 "ValueError.__new__"))
    (xB10 : PySem.W.excIn K c10 [.type "ValueError", .type "Exception", .type "BaseException", .type "object"] "ValueError.__new__" = true)
    (ga10 : PySem.W.findIn K (.ref c10) "__getattribute__" = some (some (.builtin "BaseException.__getattribute__")))
    (gg10 : PySem.W.findIn K (.ref c10) "__getattr__" = some none)
    (ac10 : PySem.W.findIn K (.ref c10) "__class__" = some (some (.builtin "object.__class__")))
    (kC10 : PySem.W.keepIn K (.ref c10) = true)
    (aC11 : PySem.W.nsIn K mainGlobals "BadOrder" = some (some (.ref c11)))
    (xL11 : K.lookup c11 = some (excClassObj nm_11 q_11 c11 N11 bs_11 [.ref cD, .type "ValueError", .type "Exception", .type "BaseException", .type "object"] true sn_11 sub_11 ab_11 col_11 dd_11 m0_11 m1_11 m2_11 m3_11 m5_11 "ValueError.__new__"))
    (xB11 : PySem.W.excIn K c11 [.type "ValueError", .type "Exception", .type "BaseException", .type "object"] "ValueError.__new__" = true)
    (ga11 : PySem.W.findIn K (.ref c11) "__getattribute__" = some (some (.builtin "BaseException.__getattribute__")))
    (gg11 : PySem.W.findIn K (.ref c11) "__getattr__" = some none)
    (ac11 : PySem.W.findIn K (.ref c11) "__class__" = some (some (.builtin "object.__class__")))
    (kC11 : PySem.W.keepIn K (.ref c11) = true)
    (aC12 : PySem.W.nsIn K mainGlobals "BadPlayers" = some (some (.ref c12)))
    (xL12 : K.lookup c12 = some (excClassObj nm_12 q_12 c12 N12 bs_12 [.ref cD, .type "ValueError", .type "Exception", .type "BaseException", .type "object"] true sn_12 sub_12 ab_12 col_12 dd_12 m0_12 m1_12 m2_12 m3_12 m5_12 "ValueError.__new__"))
    (xB12 : PySem.W.excIn K c12 [.type "ValueError", .type "Exception", .type "BaseException", .type "object"] "ValueError.__new__" = true)
    (ga12 : PySem.W.findIn K (.ref c12) "__getattribute__" = some (some (.builtin "BaseException.__getattribute__")))
    (gg12 : PySem.W.findIn K (.ref c12) "__getattr__" = some none)
    (ac12 : PySem.W.findIn K (.ref c12) "__class__" = some (some (.builtin "object.__class__")))
    (kC12 : PySem.W.keepIn K (.ref c12) = true)
    (aC13 : PySem.W.nsIn K mainGlobals "BadProgram" = some (some (.ref c13)))
    (xL13 : K.lookup c13 = some (excClassObj nm_13 q_13 c13 N13 bs_13 [.ref cD, .type "ValueError", .type "Exception", .type "BaseException", .type "object"] true sn_13 sub_13 ab_13 col_13 dd_13 m0_13 m1_13 m2_13 m3_13 m5_13 "ValueError.__new__"))
    (xB13 : PySem.W.excIn K c13 [.type "ValueError", .type "Exception", .type "BaseException", .type "object"] "ValueError.__new__" = true)
    (ga13 : PySem.W.findIn K (.ref c13) "__getattribute__" = some (some (.builtin "BaseException.__getattribute__")))
    (gg13 : PySem.W.findIn K (.ref c13) "__getattr__" = some none)
    (ac13 : PySem.W.findIn K (.ref c13) "__class__" = some (some (.builtin "object.__class__")))
    (kC13 : PySem.W.keepIn K (.ref c13) = true)
    (aC14 : PySem.W.nsIn K mainGlobals "BadShares" = some (some (.ref c14)))
    (xL14 : K.lookup c14 = some (excClassObj nm_14 q_14 c14 N14 bs_14 [.ref cD, .type "ValueError", .type "Exception", .type "BaseException", .type "object"] true sn_14 sub_14 ab_14 col_14 dd_14 m0_14 m1_14 m2_14 m3_14 m5_14 "ValueError.__new__"))
    (xB14 : PySem.W.excIn K c14 [.type "ValueError", .type "Exception", .type "BaseException", .type "object"] "ValueError.__new__" = true)
    (ga14 : PySem.W.findIn K (.ref c14) "__getattribute__" = some (some (.builtin "BaseException.__getattribute__")))
    (gg14 : PySem.W.findIn K (.ref c14) "__getattr__" = some none)
    (ac14 : PySem.W.findIn K (.ref c14) "__class__" = some (some (.builtin "object.__class__")))
    (kC14 : PySem.W.keepIn K (.ref c14) = true)
    (aC15 : PySem.W.nsIn K mainGlobals "BadText" = some (some (.ref c15)))
    (xL15 : K.lookup c15 = some (excClassObj nm_15 q_15 c15 N15 bs_15 [.ref cD, .type "ValueError", .type "Exception", .type "BaseException", .type "object"] true sn_15 sub_15 ab_15 col_15 dd_15 m0_15 m1_15 m2_15 m3_15 m5_15 "ValueError.__new__"))
    (xB15 : PySem.W.excIn K c15 [.type "ValueError", .type "Exception", .type "BaseException", .type "object"] "ValueError.__new__" = true)
    (ga15 : PySem.W.findIn K (.ref c15) "__getattribute__" = some (some (.builtin "BaseException.__getattribute__")))
    (gg15 : PySem.W.findIn K (.ref c15) "__getattr__" = some none)
    (ac15 : PySem.W.findIn K (.ref c15) "__class__" = some (some (.builtin "object.__class__")))
    (kC15 : PySem.W.keepIn K (.ref c15) = true)
    (aC16 : PySem.W.nsIn K mainGlobals "BadWorths" = some (some (.ref c16)))
    (xL16 : K.lookup c16 = some (excClassObj nm_16 q_16 c16 N16 bs_16 [.ref cD, .type "ValueError", .type "Exception", .type "BaseException", .type "object"] true sn_16 sub_16 ab_16 col_16 dd_16 m0_16 m1_16 m2_16 m3_16 m5_16 "ValueError.__new__"))
    (xB16 : PySem.W.excIn K c16 [.type "ValueError", .type "Exception", .type "BaseException", .type "object"] "ValueError.__new__" = true)
    (ga16 : PySem.W.findIn K (.ref c16) "__getattribute__" = some (some (.builtin "BaseException.__getattribute__")))
    (gg16 : PySem.W.findIn K (.ref c16) "__getattr__" = some none)
    (ac16 : PySem.W.findIn K (.ref c16) "__class__" = some (some (.builtin "object.__class__")))
    (kC16 : PySem.W.keepIn K (.ref c16) = true)
    (aC17 : PySem.W.nsIn K mainGlobals "Mismatch" = some (some (.ref c17)))
    (xL17 : K.lookup c17 = some (excClassObj nm_17 q_17 c17 N17 bs_17 [.ref cD, .type "ValueError", .type "Exception", .type "BaseException", .type "object"] true sn_17 sub_17 ab_17 col_17 dd_17 m0_17 m1_17 m2_17 m3_17 m5_17 "ValueError.__new__"))
    (xB17 : PySem.W.excIn K c17 [.type "ValueError", .type "Exception", .type "BaseException", .type "object"] "ValueError.__new__" = true)
    (ga17 : PySem.W.findIn K (.ref c17) "__getattribute__" = some (some (.builtin "BaseException.__getattribute__")))
    (gg17 : PySem.W.findIn K (.ref c17) "__getattr__" = some none)
    (ac17 : PySem.W.findIn K (.ref c17) "__class__" = some (some (.builtin "object.__class__")))
    (kC17 : PySem.W.keepIn K (.ref c17) = true)
    (aC18 : PySem.W.nsIn K mainGlobals "NotCalm" = some (some (.ref c18)))
    (xL18 : K.lookup c18 = some (excClassObj nm_18 q_18 c18 N18 bs_18 [.ref cD, .type "ValueError", .type "Exception", .type "BaseException", .type "object"] true sn_18 sub_18 ab_18 col_18 dd_18 m0_18 m1_18 m2_18 m3_18 m5_18 "ValueError.__new__"))
    (xB18 : PySem.W.excIn K c18 [.type "ValueError", .type "Exception", .type "BaseException", .type "object"] "ValueError.__new__" = true)
    (ga18 : PySem.W.findIn K (.ref c18) "__getattribute__" = some (some (.builtin "BaseException.__getattribute__")))
    (gg18 : PySem.W.findIn K (.ref c18) "__getattr__" = some none)
    (ac18 : PySem.W.findIn K (.ref c18) "__class__" = some (some (.builtin "object.__class__")))
    (kC18 : PySem.W.keepIn K (.ref c18) = true)
    (aC19 : PySem.W.nsIn K mainGlobals "NotDivision" = some (some (.ref c19)))
    (xL19 : K.lookup c19 = some (excClassObj nm_19 q_19 c19 N19 bs_19 [.ref cD, .type "ValueError", .type "Exception", .type "BaseException", .type "object"] true sn_19 sub_19 ab_19 col_19 dd_19 m0_19 m1_19 m2_19 m3_19 m5_19 "ValueError.__new__"))
    (xB19 : PySem.W.excIn K c19 [.type "ValueError", .type "Exception", .type "BaseException", .type "object"] "ValueError.__new__" = true)
    (ga19 : PySem.W.findIn K (.ref c19) "__getattribute__" = some (some (.builtin "BaseException.__getattribute__")))
    (gg19 : PySem.W.findIn K (.ref c19) "__getattr__" = some none)
    (ac19 : PySem.W.findIn K (.ref c19) "__class__" = some (some (.builtin "object.__class__")))
    (kC19 : PySem.W.keepIn K (.ref c19) = true)
    (aC20 : PySem.W.nsIn K mainGlobals "NotFamily" = some (some (.ref c20)))
    (xL20 : K.lookup c20 = some (excClassObj nm_20 q_20 c20 N20 bs_20 [.ref cD, .type "ValueError", .type "Exception", .type "BaseException", .type "object"] true sn_20 sub_20 ab_20 col_20 dd_20 m0_20 m1_20 m2_20 m3_20 m5_20 "ValueError.__new__"))
    (xB20 : PySem.W.excIn K c20 [.type "ValueError", .type "Exception", .type "BaseException", .type "object"] "ValueError.__new__" = true)
    (ga20 : PySem.W.findIn K (.ref c20) "__getattribute__" = some (some (.builtin "BaseException.__getattribute__")))
    (gg20 : PySem.W.findIn K (.ref c20) "__getattr__" = some none)
    (ac20 : PySem.W.findIn K (.ref c20) "__class__" = some (some (.builtin "object.__class__")))
    (kC20 : PySem.W.keepIn K (.ref c20) = true)
    (aC21 : PySem.W.nsIn K mainGlobals "NothingToRedo" = some (some (.ref c21)))
    (xL21 : K.lookup c21 = some (excClassObj nm_21 q_21 c21 N21 bs_21 [.ref cD, .type "ValueError", .type "Exception", .type "BaseException", .type "object"] true sn_21 sub_21 ab_21 col_21 dd_21 m0_21 m1_21 m2_21 m3_21 m5_21 "ValueError.__new__"))
    (xB21 : PySem.W.excIn K c21 [.type "ValueError", .type "Exception", .type "BaseException", .type "object"] "ValueError.__new__" = true)
    (ga21 : PySem.W.findIn K (.ref c21) "__getattribute__" = some (some (.builtin "BaseException.__getattribute__")))
    (gg21 : PySem.W.findIn K (.ref c21) "__getattr__" = some none)
    (ac21 : PySem.W.findIn K (.ref c21) "__class__" = some (some (.builtin "object.__class__")))
    (kC21 : PySem.W.keepIn K (.ref c21) = true)
    (aC22 : PySem.W.nsIn K mainGlobals "NothingToUndo" = some (some (.ref c22)))
    (xL22 : K.lookup c22 = some (excClassObj nm_22 q_22 c22 N22 bs_22 [.ref cD, .type "ValueError", .type "Exception", .type "BaseException", .type "object"] true sn_22 sub_22 ab_22 col_22 dd_22 m0_22 m1_22 m2_22 m3_22 m5_22 "ValueError.__new__"))
    (xB22 : PySem.W.excIn K c22 [.type "ValueError", .type "Exception", .type "BaseException", .type "object"] "ValueError.__new__" = true)
    (ga22 : PySem.W.findIn K (.ref c22) "__getattribute__" = some (some (.builtin "BaseException.__getattribute__")))
    (gg22 : PySem.W.findIn K (.ref c22) "__getattr__" = some none)
    (ac22 : PySem.W.findIn K (.ref c22) "__class__" = some (some (.builtin "object.__class__")))
    (kC22 : PySem.W.keepIn K (.ref c22) = true)
    (sg : PySem.W.specialIn K (.builtin "object.__class__") "__get__" = some (some (.builtin "getset_descriptor.__get__")))
    (tkk : PySem.W.takesIn K (.builtin "object.__class__") = some true)
    (nd : (cD :: [c0, c1, c2, c3, c4, c5, c6, c7, c8, c9, c10, c11, c12, c13, c14, c15, c16, c17, c18, c19, c20, c21, c22]).Nodup)
    (aL : PySem.W.nsIn K mainGlobals "law" = some (some (.ref fL)))
    (lL : K.lookup fL = some ⟨ocL, odL, .func (PySem.W.fnOf "law" "law" (defArgs s_law) (defBody s_law) (defScope s_law) .none kVL dcL pmL anL cdL ctL), slL⟩)
    (cL : PySem.W.codeIn K cdL "law" = true)
    (a0 : PySem.W.nsIn K mainGlobals "_law_pool" = some (some (.ref f0)))
    (l0 : K.lookup f0 = some ⟨oc0, od0, .func (PySem.W.fnOf "_law_pool" "_law_pool" (defArgs s_law_pool) (defBody s_law_pool) (defScope s_law_pool) .none kV0 dc0 pm0 an0 cd0 ct0), sl0⟩)
    (c_0 : PySem.W.codeIn K cd0 "_law_pool" = true)
    (k_0 : PySem.W.keepIn K (.ref f0) = true)
    (a1 : PySem.W.nsIn K mainGlobals "_law_take" = some (some (.ref f1)))
    (l1 : K.lookup f1 = some ⟨oc1, od1, .func (PySem.W.fnOf "_law_take" "_law_take" (defArgs s_law_take) (defBody s_law_take) (defScope s_law_take) .none kV1 dc1 pm1 an1 cd1 ct1), sl1⟩)
    (c_1 : PySem.W.codeIn K cd1 "_law_take" = true)
    (k_1 : PySem.W.keepIn K (.ref f1) = true)
    (a2 : PySem.W.nsIn K mainGlobals "_law_kinds" = some (some (.ref f2)))
    (l2 : K.lookup f2 = some ⟨oc2, od2, .func (PySem.W.fnOf "_law_kinds" "_law_kinds" (defArgs s_law_kinds) (defBody s_law_kinds) (defScope s_law_kinds) .none kV2 dc2 pm2 an2 cd2 ct2), sl2⟩)
    (c_2 : PySem.W.codeIn K cd2 "_law_kinds" = true)
    (k_2 : PySem.W.keepIn K (.ref f2) = true)
    (a3 : PySem.W.nsIn K mainGlobals "_law_made" = some (some (.ref f3)))
    (l3 : K.lookup f3 = some ⟨oc3, od3, .func (PySem.W.fnOf "_law_made" "_law_made" (defArgs s_law_made) (defBody s_law_made) (defScope s_law_made) .none kV3 dc3 pm3 an3 cd3 ct3), sl3⟩)
    (c_3 : PySem.W.codeIn K cd3 "_law_made" = true)
    (k_3 : PySem.W.keepIn K (.ref f3) = true)
    (a4 : PySem.W.nsIn K mainGlobals "_law_field" = some (some (.ref f4)))
    (l4 : K.lookup f4 = some ⟨oc4, od4, .func (PySem.W.fnOf "_law_field" "_law_field" (defArgs s_law_field) (defBody s_law_field) (defScope s_law_field) .none kV4 dc4 pm4 an4 cd4 ct4), sl4⟩)
    (c_4 : PySem.W.codeIn K cd4 "_law_field" = true)
    (k_4 : PySem.W.keepIn K (.ref f4) = true)
    (a5 : PySem.W.nsIn K mainGlobals "_law_same" = some (some (.ref f5)))
    (l5 : K.lookup f5 = some ⟨oc5, od5, .func (PySem.W.fnOf "_law_same" "_law_same" (defArgs s_law_same) (defBody s_law_same) (defScope s_law_same) .none kV5 dc5 pm5 an5 cd5 ct5), sl5⟩)
    (c_5 : PySem.W.codeIn K cd5 "_law_same" = true)
    (k_5 : PySem.W.keepIn K (.ref f5) = true)
    (z_list : PySem.W.nsIn K mainGlobals "list" = some none)
    (z_int : PySem.W.nsIn K mainGlobals "int" = some none)
    (z_max : PySem.W.nsIn K mainGlobals "max" = some none)
    (z_len : PySem.W.nsIn K mainGlobals "len" = some none)
    (z_range : PySem.W.nsIn K mainGlobals "range" = some none)
    (z_isinstance : PySem.W.nsIn K mainGlobals "isinstance" = some none)
    (z_bool : PySem.W.nsIn K mainGlobals "bool" = some none)
    (z_ValueError : PySem.W.nsIn K mainGlobals "ValueError" = some none) :
    ∃ fd : FuncData, (∀ (s : Shared) (v : Value), BindsTo s fd ⟨[v], []⟩ [("_law_script", v)]) ∧ ∀ base : Heap, K.In base → base.Ns mainGlobals mg → FnOk P w K mg base (L2N.CX P w) 4 fa fd ["_law_script"] (liftSp K spLaw) := by
  have e := hfa.symm.trans (PySem.W.mg_of KI G aL)
  cases e
  have m_list := PySem.W.mg_none_of KI G z_list
  have m_int := PySem.W.mg_none_of KI G z_int
  have m_max := PySem.W.mg_none_of KI G z_max
  have m_len := PySem.W.mg_none_of KI G z_len
  have m_range := PySem.W.mg_none_of KI G z_range
  have m_isinstance := PySem.W.mg_none_of KI G z_isinstance
  have m_bool := PySem.W.mg_none_of KI G z_bool
  have m_ValueError := PySem.W.mg_none_of KI G z_ValueError
  have D_law_pool : DefT K mg "_law_pool" s_law_pool ["_law_script"] := deft KI G a0 l0 c_0 k_0 fun _ _ _ _ _ _ us hl => match us, hl with | [_], _ => rfl
  have D_law_take : DefT K mg "_law_take" s_law_take ["_law_pool_here", "_law_many"] := deft KI G a1 l1 c_1 k_1 fun _ _ _ _ _ _ us hl => match us, hl with | [_, _], _ => rfl
  have D_law_kinds : DefT K mg "_law_kinds" s_law_kinds ["_law_e"] := deft KI G a2 l2 c_2 k_2 fun _ _ _ _ _ _ us hl => match us, hl with | [_], _ => rfl
  have D_law_made : DefT K mg "_law_made" s_law_made ["_law_kind", "_law_thing"] := deft KI G a3 l3 c_3 k_3 fun _ _ _ _ _ _ us hl => match us, hl with | [_, _], _ => rfl
  have D_law_field : DefT K mg "_law_field" s_law_field ["_law_kind", "_law_e"] := deft KI G a4 l4 c_4 k_4 fun _ _ _ _ _ _ us hl => match us, hl with | [_, _], _ => rfl
  have D_law_same : DefT K mg "_law_same" s_law_same ["_law_one", "_law_other"] := deft KI G a5 l5 c_5 k_5 fun _ _ _ _ _ _ us hl => match us, hl with | [_, _], _ => rfl
  have XD : XL K cD baseL := ⟨⟨nm_D, q_D, _, bs_D, sn_D, sub_D, ab_D, col_D, dd_D, m0_D, m1_D, m2_D, m3_D, m5_D, xLD⟩⟩
  have X0 : XL K c0 (ownL cD) := ⟨⟨nm_0, q_0, _, bs_0, sn_0, sub_0, ab_0, col_0, dd_0, m0_0, m1_0, m2_0, m3_0, m5_0, xL0⟩⟩
  have E0 : ErrC K c0 := X0.err ga0 gg0 ac0
  have X1 : XL K c1 (ownL cD) := ⟨⟨nm_1, q_1, _, bs_1, sn_1, sub_1, ab_1, col_1, dd_1, m0_1, m1_1, m2_1, m3_1, m5_1, xL1⟩⟩
  have E1 : ErrC K c1 := X1.err ga1 gg1 ac1
  have X2 : XL K c2 (ownL cD) := ⟨⟨nm_2, q_2, _, bs_2, sn_2, sub_2, ab_2, col_2, dd_2, m0_2, m1_2, m2_2, m3_2, m5_2, xL2⟩⟩
  have E2 : ErrC K c2 := X2.err ga2 gg2 ac2
  have X3 : XL K c3 (ownL cD) := ⟨⟨nm_3, q_3, _, bs_3, sn_3, sub_3, ab_3, col_3, dd_3, m0_3, m1_3, m2_3, m3_3, m5_3, xL3⟩⟩
  have E3 : ErrC K c3 := X3.err ga3 gg3 ac3
  have X4 : XL K c4 (ownL cD) := ⟨⟨nm_4, q_4, _, bs_4, sn_4, sub_4, ab_4, col_4, dd_4, m0_4, m1_4, m2_4, m3_4, m5_4, xL4⟩⟩
  have E4 : ErrC K c4 := X4.err ga4 gg4 ac4
  have X5 : XL K c5 (ownL cD) := ⟨⟨nm_5, q_5, _, bs_5, sn_5, sub_5, ab_5, col_5, dd_5, m0_5, m1_5, m2_5, m3_5, m5_5, xL5⟩⟩
  have E5 : ErrC K c5 := X5.err ga5 gg5 ac5
  have X6 : XL K c6 (ownL cD) := ⟨⟨nm_6, q_6, _, bs_6, sn_6, sub_6, ab_6, col_6, dd_6, m0_6, m1_6, m2_6, m3_6, m5_6, xL6⟩⟩
  have E6 : ErrC K c6 := X6.err ga6 gg6 ac6
  have X7 : XL K c7 (ownL cD) := ⟨⟨nm_7, q_7, _, bs_7, sn_7, sub_7, ab_7, col_7, dd_7, m0_7, m1_7, m2_7, m3_7, m5_7, xL7⟩⟩
  have E7 : ErrC K c7 := X7.err ga7 gg7 ac7
  have X8 : XL K c8 (ownL cD) := ⟨⟨nm_8, q_8, _, bs_8, sn_8, sub_8, ab_8, col_8, dd_8, m0_8, m1_8, m2_8, m3_8, m5_8, xL8⟩⟩
  have E8 : ErrC K c8 := X8.err ga8 gg8 ac8
  have X9 : XL K c9 (ownL cD) := ⟨⟨nm_9, q_9, _, bs_9, sn_9, sub_9, ab_9, col_9, dd_9, m0_9, m1_9, m2_9, m3_9, m5_9, xL9⟩⟩
  have E9 : ErrC K c9 := X9.err ga9 gg9 ac9
  have X10 : XL K c10 (ownL cD) := ⟨⟨nm_10, q_10, _, bs_10, sn_10, sub_10, ab_10, col_10, dd_10, m0_10, m1_10, m2_10, m3_10, m5_10, xL10⟩⟩
  have E10 : ErrC K c10 := X10.err ga10 gg10 ac10
  have X11 : XL K c11 (ownL cD) := ⟨⟨nm_11, q_11, _, bs_11, sn_11, sub_11, ab_11, col_11, dd_11, m0_11, m1_11, m2_11, m3_11, m5_11, xL11⟩⟩
  have E11 : ErrC K c11 := X11.err ga11 gg11 ac11
  have X12 : XL K c12 (ownL cD) := ⟨⟨nm_12, q_12, _, bs_12, sn_12, sub_12, ab_12, col_12, dd_12, m0_12, m1_12, m2_12, m3_12, m5_12, xL12⟩⟩
  have E12 : ErrC K c12 := X12.err ga12 gg12 ac12
  have X13 : XL K c13 (ownL cD) := ⟨⟨nm_13, q_13, _, bs_13, sn_13, sub_13, ab_13, col_13, dd_13, m0_13, m1_13, m2_13, m3_13, m5_13, xL13⟩⟩
  have E13 : ErrC K c13 := X13.err ga13 gg13 ac13
  have X14 : XL K c14 (ownL cD) := ⟨⟨nm_14, q_14, _, bs_14, sn_14, sub_14, ab_14, col_14, dd_14, m0_14, m1_14, m2_14, m3_14, m5_14, xL14⟩⟩
  have E14 : ErrC K c14 := X14.err ga14 gg14 ac14
  have X15 : XL K c15 (ownL cD) := ⟨⟨nm_15, q_15, _, bs_15, sn_15, sub_15, ab_15, col_15, dd_15, m0_15, m1_15, m2_15, m3_15, m5_15, xL15⟩⟩
  have E15 : ErrC K c15 := X15.err ga15 gg15 ac15
  have X16 : XL K c16 (ownL cD) := ⟨⟨nm_16, q_16, _, bs_16, sn_16, sub_16, ab_16, col_16, dd_16, m0_16, m1_16, m2_16, m3_16, m5_16, xL16⟩⟩
  have E16 : ErrC K c16 := X16.err ga16 gg16 ac16
  have X17 : XL K c17 (ownL cD) := ⟨⟨nm_17, q_17, _, bs_17, sn_17, sub_17, ab_17, col_17, dd_17, m0_17, m1_17, m2_17, m3_17, m5_17, xL17⟩⟩
  have E17 : ErrC K c17 := X17.err ga17 gg17 ac17
  have X18 : XL K c18 (ownL cD) := ⟨⟨nm_18, q_18, _, bs_18, sn_18, sub_18, ab_18, col_18, dd_18, m0_18, m1_18, m2_18, m3_18, m5_18, xL18⟩⟩
  have E18 : ErrC K c18 := X18.err ga18 gg18 ac18
  have X19 : XL K c19 (ownL cD) := ⟨⟨nm_19, q_19, _, bs_19, sn_19, sub_19, ab_19, col_19, dd_19, m0_19, m1_19, m2_19, m3_19, m5_19, xL19⟩⟩
  have E19 : ErrC K c19 := X19.err ga19 gg19 ac19
  have X20 : XL K c20 (ownL cD) := ⟨⟨nm_20, q_20, _, bs_20, sn_20, sub_20, ab_20, col_20, dd_20, m0_20, m1_20, m2_20, m3_20, m5_20, xL20⟩⟩
  have E20 : ErrC K c20 := X20.err ga20 gg20 ac20
  have X21 : XL K c21 (ownL cD) := ⟨⟨nm_21, q_21, _, bs_21, sn_21, sub_21, ab_21, col_21, dd_21, m0_21, m1_21, m2_21, m3_21, m5_21, xL21⟩⟩
  have E21 : ErrC K c21 := X21.err ga21 gg21 ac21
  have X22 : XL K c22 (ownL cD) := ⟨⟨nm_22, q_22, _, bs_22, sn_22, sub_22, ab_22, col_22, dd_22, m0_22, m1_22, m2_22, m3_22, m5_22, xL22⟩⟩
  have E22 : ErrC K c22 := X22.err ga22 gg22 ac22
  have oex0 : OexC K c0 := ⟨⟨nm_0, q_0, _, bs_0, _, sn_0, sub_0, ab_0, col_0, dd_0, m0_0, m1_0, m2_0, m3_0, m5_0, xL0, rfl⟩, sa0, sub_base X0, X0.ty, kC0⟩
  have oex1 : OexC K c1 := ⟨⟨nm_1, q_1, _, bs_1, _, sn_1, sub_1, ab_1, col_1, dd_1, m0_1, m1_1, m2_1, m3_1, m5_1, xL1, rfl⟩, sa1, sub_base X1, X1.ty, kC1⟩
  have oex2 : OexC K c2 := ⟨⟨nm_2, q_2, _, bs_2, _, sn_2, sub_2, ab_2, col_2, dd_2, m0_2, m1_2, m2_2, m3_2, m5_2, xL2, rfl⟩, sa2, sub_base X2, X2.ty, kC2⟩
  have oex3 : OexC K c3 := ⟨⟨nm_3, q_3, _, bs_3, _, sn_3, sub_3, ab_3, col_3, dd_3, m0_3, m1_3, m2_3, m3_3, m5_3, xL3, rfl⟩, sa3, sub_base X3, X3.ty, kC3⟩
  have oex4 : OexC K c4 := ⟨⟨nm_4, q_4, _, bs_4, _, sn_4, sub_4, ab_4, col_4, dd_4, m0_4, m1_4, m2_4, m3_4, m5_4, xL4, rfl⟩, sa4, sub_base X4, X4.ty, kC4⟩
  have oex5 : OexC K c5 := ⟨⟨nm_5, q_5, _, bs_5, _, sn_5, sub_5, ab_5, col_5, dd_5, m0_5, m1_5, m2_5, m3_5, m5_5, xL5, rfl⟩, sa5, sub_base X5, X5.ty, kC5⟩
  have oex6 : OexC K c6 := ⟨⟨nm_6, q_6, _, bs_6, _, sn_6, sub_6, ab_6, col_6, dd_6, m0_6, m1_6, m2_6, m3_6, m5_6, xL6, rfl⟩, sa6, sub_base X6, X6.ty, kC6⟩
  have oex7 : OexC K c7 := ⟨⟨nm_7, q_7, _, bs_7, _, sn_7, sub_7, ab_7, col_7, dd_7, m0_7, m1_7, m2_7, m3_7, m5_7, xL7, rfl⟩, sa7, sub_base X7, X7.ty, kC7⟩
  refine ⟨PySem.W.fnOf "law" "law" (defArgs s_law) (defBody s_law) (defScope s_law) .none kVL dcL pmL anL cdL ctL, fun s v => .of_eq rfl, fun base _ _ => ?_⟩
  have O0 : Own P w K mg base cD "BadLine" "line" c0 := by
    have gi := PySem.W.mg_of KI G aC0
    have FI := ok_init_BadLine (P := P) (w := w) (mg := mg) (base := base) oex0 nb0 lI0 cI0
    exact ⟨⟨gi, oex0, nb0, E0.xf, exm_self X0, fI0, _, aI0, tI0, FI, .all fun us hl => match us, hl with | [_, _], _ => rfl⟩, ⟨gi, oex0, fI0, _, aI0, tI0, FI, fun s a u => .of_eq rfl⟩, X0, E0⟩
  have O1 : Own P w K mg base cD "BadName" "name" c1 := by
    have gi := PySem.W.mg_of KI G aC1
    have FI := ok_init_BadName (P := P) (w := w) (mg := mg) (base := base) oex1 nb1 lI1 cI1
    exact ⟨⟨gi, oex1, nb1, E1.xf, exm_self X1, fI1, _, aI1, tI1, FI, .all fun us hl => match us, hl with | [_, _], _ => rfl⟩, ⟨gi, oex1, fI1, _, aI1, tI1, FI, fun s a u => .of_eq rfl⟩, X1, E1⟩
  have O2 : Own P w K mg base cD "BadRatio" "bottom" c2 := by
    have gi := PySem.W.mg_of KI G aC2
    have FI := ok_init_BadRatio (P := P) (w := w) (mg := mg) (base := base) oex2 nb2 lI2 cI2
    exact ⟨⟨gi, oex2, nb2, E2.xf, exm_self X2, fI2, _, aI2, tI2, FI, .all fun us hl => match us, hl with | [_, _], _ => rfl⟩, ⟨gi, oex2, fI2, _, aI2, tI2, FI, fun s a u => .of_eq rfl⟩, X2, E2⟩
  have O3 : Own P w K mg base cD "NameTaken" "name" c3 := by
    have gi := PySem.W.mg_of KI G aC3
    have FI := ok_init_NameTaken (P := P) (w := w) (mg := mg) (base := base) oex3 nb3 lI3 cI3
    exact ⟨⟨gi, oex3, nb3, E3.xf, exm_self X3, fI3, _, aI3, tI3, FI, .all fun us hl => match us, hl with | [_, _], _ => rfl⟩, ⟨gi, oex3, fI3, _, aI3, tI3, FI, fun s a u => .of_eq rfl⟩, X3, E3⟩
  have O4 : Own P w K mg base cD "NoGroup" "group" c4 := by
    have gi := PySem.W.mg_of KI G aC4
    have FI := ok_init_NoGroup (P := P) (w := w) (mg := mg) (base := base) oex4 nb4 lI4 cI4
    exact ⟨⟨gi, oex4, nb4, E4.xf, exm_self X4, fI4, _, aI4, tI4, FI, .all fun us hl => match us, hl with | [_, _], _ => rfl⟩, ⟨gi, oex4, fI4, _, aI4, tI4, FI, fun s a u => .of_eq rfl⟩, X4, E4⟩
  have O5 : Own P w K mg base cD "NoPlayer" "player" c5 := by
    have gi := PySem.W.mg_of KI G aC5
    have FI := ok_init_NoPlayer (P := P) (w := w) (mg := mg) (base := base) oex5 nb5 lI5 cI5
    exact ⟨⟨gi, oex5, nb5, E5.xf, exm_self X5, fI5, _, aI5, tI5, FI, .all fun us hl => match us, hl with | [_, _], _ => rfl⟩, ⟨gi, oex5, fI5, _, aI5, tI5, FI, fun s a u => .of_eq rfl⟩, X5, E5⟩
  have O6 : Own P w K mg base cD "TooMany" "players" c6 := by
    have gi := PySem.W.mg_of KI G aC6
    have FI := ok_init_TooMany (P := P) (w := w) (mg := mg) (base := base) oex6 nb6 lI6 cI6
    exact ⟨⟨gi, oex6, nb6, E6.xf, exm_self X6, fI6, _, aI6, tI6, FI, .all fun us hl => match us, hl with | [_, _], _ => rfl⟩, ⟨gi, oex6, fI6, _, aI6, tI6, FI, fun s a u => .of_eq rfl⟩, X6, E6⟩
  have O7 : Own P w K mg base cD "UnknownName" "name" c7 := by
    have gi := PySem.W.mg_of KI G aC7
    have FI := ok_init_UnknownName (P := P) (w := w) (mg := mg) (base := base) oex7 nb7 lI7 cI7
    exact ⟨⟨gi, oex7, nb7, E7.xf, exm_self X7, fI7, _, aI7, tI7, FI, .all fun us hl => match us, hl with | [_, _], _ => rfl⟩, ⟨gi, oex7, fI7, _, aI7, tI7, FI, fun s a u => .of_eq rfl⟩, X7, E7⟩
  have O8 : Bar K mg cD "BadAmounts" c8 := ⟨PySem.W.mg_of KI G aC8, xB8, kC8, X8, E8⟩
  have O9 : Bar K mg cD "BadGains" c9 := ⟨PySem.W.mg_of KI G aC9, xB9, kC9, X9, E9⟩
  have O10 : Bar K mg cD "BadLinks" c10 := ⟨PySem.W.mg_of KI G aC10, xB10, kC10, X10, E10⟩
  have O11 : Bar K mg cD "BadOrder" c11 := ⟨PySem.W.mg_of KI G aC11, xB11, kC11, X11, E11⟩
  have O12 : Bar K mg cD "BadPlayers" c12 := ⟨PySem.W.mg_of KI G aC12, xB12, kC12, X12, E12⟩
  have O13 : Bar K mg cD "BadProgram" c13 := ⟨PySem.W.mg_of KI G aC13, xB13, kC13, X13, E13⟩
  have O14 : Bar K mg cD "BadShares" c14 := ⟨PySem.W.mg_of KI G aC14, xB14, kC14, X14, E14⟩
  have O15 : Bar K mg cD "BadText" c15 := ⟨PySem.W.mg_of KI G aC15, xB15, kC15, X15, E15⟩
  have O16 : Bar K mg cD "BadWorths" c16 := ⟨PySem.W.mg_of KI G aC16, xB16, kC16, X16, E16⟩
  have O17 : Bar K mg cD "Mismatch" c17 := ⟨PySem.W.mg_of KI G aC17, xB17, kC17, X17, E17⟩
  have O18 : Bar K mg cD "NotCalm" c18 := ⟨PySem.W.mg_of KI G aC18, xB18, kC18, X18, E18⟩
  have O19 : Bar K mg cD "NotDivision" c19 := ⟨PySem.W.mg_of KI G aC19, xB19, kC19, X19, E19⟩
  have O20 : Bar K mg cD "NotFamily" c20 := ⟨PySem.W.mg_of KI G aC20, xB20, kC20, X20, E20⟩
  have O21 : Bar K mg cD "NothingToRedo" c21 := ⟨PySem.W.mg_of KI G aC21, xB21, kC21, X21, E21⟩
  have O22 : Bar K mg cD "NothingToUndo" c22 := ⟨PySem.W.mg_of KI G aC22, xB22, kC22, X22, E22⟩
  have F : All P w K mg base cD c0 c1 c2 c3 c4 c5 c6 c7 c8 c9 c10 c11 c12 c13 c14 c15 c16 c17 c18 c19 c20 c21 c22 := ⟨O0, O1, O2, O3, O4, O5, O6, O7, O8, O9, O10, O11, O12, O13, O14, O15, O16, O17, O18, O19, O20, O21, O22, PySem.W.mg_of KI G aD, XD, ⟨sg, tkk⟩, nd⟩
  have Cpool := ok_pool (P := P) (w := w) (base := base) D_law_pool m_list
  have Ct := ok_take (P := P) (w := w) (base := base) D_law_take m_int m_max m_len
  have Ck := ok_kinds F D_law_kinds m_isinstance
  have Cm := ok_made F D_law_made
  have Cf := ok_field F D_law_field
  have Cs := ok_same (P := P) (w := w) (base := base) D_law_same m_isinstance m_bool
  exact cal_fn lL cL sc_law (fun ds μ Φ Ψ ⟨ns, e, _⟩ => by rw [e]; rfl) (body_law F Cpool Ct Ck Cm Cf Cs m_range m_isinstance m_ValueError)
end
end K13

open PySem PySem.Spec PyProof.Rows L2 DL
set_option maxHeartbeats 0 in
theorem PySem.Challenge.cw_leastcomplaint_k13_error_classes_holds : PySem.Challenge.rw_leastcomplaint_k13_error_classes.Holds := by
  w_on; o_law; k_head; (case hw => w_witness2)
  k_fill
  refine L2.walk_of (l := PySem.Challenge.rw_leastcomplaint_k13_error_classes) (n := 63) (k := 4) (x := "_law_script") (CX := fun w => L2N.CX (PySem.Challenge.rw_leastcomplaint_k13_error_classes).prog w) (sp := fun w => liftSp _ K13.spLaw) rfl (by decide) rfl ⟨rfl, by decide, by decide⟩ (fun w h Y => PySem.W.kIn_of Y) ?F (fun _ _ a ns hl _ hS => lift_law hS ⟨ns, rfl, hl, fun _ => rfl⟩) (fun w H s e s' z => cx_none H s e s' z)
  case F =>
    intro w mg fa h KI G hmg
    refine' K13.all_mk KI G hmg ?aD ?xLD ?aC0 ?xL0 ?sa0 ?ga0 ?gg0 ?ac0 ?nb0 ?aI0 ?tI0 ?lI0 ?cI0 ?kC0 ?aC1 ?xL1 ?sa1 ?ga1 ?gg1 ?ac1 ?nb1 ?aI1 ?tI1 ?lI1 ?cI1 ?kC1 ?aC2 ?xL2 ?sa2 ?ga2 ?gg2 ?ac2 ?nb2 ?aI2 ?tI2 ?lI2 ?cI2 ?kC2 ?aC3 ?xL3 ?sa3 ?ga3 ?gg3 ?ac3 ?nb3 ?aI3 ?tI3 ?lI3 ?cI3 ?kC3 ?aC4 ?xL4 ?sa4 ?ga4 ?gg4 ?ac4 ?nb4 ?aI4 ?tI4 ?lI4 ?cI4 ?kC4 ?aC5 ?xL5 ?sa5 ?ga5 ?gg5 ?ac5 ?nb5 ?aI5 ?tI5 ?lI5 ?cI5 ?kC5 ?aC6 ?xL6 ?sa6 ?ga6 ?gg6 ?ac6 ?nb6 ?aI6 ?tI6 ?lI6 ?cI6 ?kC6 ?aC7 ?xL7 ?sa7 ?ga7 ?gg7 ?ac7 ?nb7 ?aI7 ?tI7 ?lI7 ?cI7 ?kC7 ?aC8 ?xL8 ?xB8 ?ga8 ?gg8 ?ac8 ?kC8 ?aC9 ?xL9 ?xB9 ?ga9 ?gg9 ?ac9 ?kC9 ?aC10 ?xL10 ?xB10 ?ga10 ?gg10 ?ac10 ?kC10 ?aC11 ?xL11 ?xB11 ?ga11 ?gg11 ?ac11 ?kC11 ?aC12 ?xL12 ?xB12 ?ga12 ?gg12 ?ac12 ?kC12 ?aC13 ?xL13 ?xB13 ?ga13 ?gg13 ?ac13 ?kC13 ?aC14 ?xL14 ?xB14 ?ga14 ?gg14 ?ac14 ?kC14 ?aC15 ?xL15 ?xB15 ?ga15 ?gg15 ?ac15 ?kC15 ?aC16 ?xL16 ?xB16 ?ga16 ?gg16 ?ac16 ?kC16 ?aC17 ?xL17 ?xB17 ?ga17 ?gg17 ?ac17 ?kC17 ?aC18 ?xL18 ?xB18 ?ga18 ?gg18 ?ac18 ?kC18 ?aC19 ?xL19 ?xB19 ?ga19 ?gg19 ?ac19 ?kC19 ?aC20 ?xL20 ?xB20 ?ga20 ?gg20 ?ac20 ?kC20 ?aC21 ?xL21 ?xB21 ?ga21 ?gg21 ?ac21 ?kC21 ?aC22 ?xL22 ?xB22 ?ga22 ?gg22 ?ac22 ?kC22 ?sg ?tkk ?nd ?aL ?lL ?cL ?a0 ?l0 ?c_0 ?k_0 ?a1 ?l1 ?c_1 ?k_1 ?a2 ?l2 ?c_2 ?k_2 ?a3 ?l3 ?c_3 ?k_3 ?a4 ?l4 ?c_4 ?k_4 ?a5 ?l5 ?c_5 ?k_5 ?z_list ?z_int ?z_max ?z_len ?z_range ?z_isinstance ?z_bool ?z_ValueError
    (case aD => k_is)
    (case xLD => k_is)
    (case aC0 => k_is)
    (case xL0 => k_is)
    (case sa0 => k_is)
    (case ga0 => k_is)
    (case gg0 => k_is)
    (case ac0 => k_is)
    (case nb0 => k_is)
    (case aI0 => k_is)
    (case tI0 => k_is)
    (case lI0 => k_is)
    (case cI0 => k_is)
    (case kC0 => k_is)
    (case aC1 => k_is)
    (case xL1 => k_is)
    (case sa1 => k_is)
    (case ga1 => k_is)
    (case gg1 => k_is)
    (case ac1 => k_is)
    (case nb1 => k_is)
    (case aI1 => k_is)
    (case tI1 => k_is)
    (case lI1 => k_is)
    (case cI1 => k_is)
    (case kC1 => k_is)
    (case aC2 => k_is)
    (case xL2 => k_is)
    (case sa2 => k_is)
    (case ga2 => k_is)
    (case gg2 => k_is)
    (case ac2 => k_is)
    (case nb2 => k_is)
    (case aI2 => k_is)
    (case tI2 => k_is)
    (case lI2 => k_is)
    (case cI2 => k_is)
    (case kC2 => k_is)
    (case aC3 => k_is)
    (case xL3 => k_is)
    (case sa3 => k_is)
    (case ga3 => k_is)
    (case gg3 => k_is)
    (case ac3 => k_is)
    (case nb3 => k_is)
    (case aI3 => k_is)
    (case tI3 => k_is)
    (case lI3 => k_is)
    (case cI3 => k_is)
    (case kC3 => k_is)
    (case aC4 => k_is)
    (case xL4 => k_is)
    (case sa4 => k_is)
    (case ga4 => k_is)
    (case gg4 => k_is)
    (case ac4 => k_is)
    (case nb4 => k_is)
    (case aI4 => k_is)
    (case tI4 => k_is)
    (case lI4 => k_is)
    (case cI4 => k_is)
    (case kC4 => k_is)
    (case aC5 => k_is)
    (case xL5 => k_is)
    (case sa5 => k_is)
    (case ga5 => k_is)
    (case gg5 => k_is)
    (case ac5 => k_is)
    (case nb5 => k_is)
    (case aI5 => k_is)
    (case tI5 => k_is)
    (case lI5 => k_is)
    (case cI5 => k_is)
    (case kC5 => k_is)
    (case aC6 => k_is)
    (case xL6 => k_is)
    (case sa6 => k_is)
    (case ga6 => k_is)
    (case gg6 => k_is)
    (case ac6 => k_is)
    (case nb6 => k_is)
    (case aI6 => k_is)
    (case tI6 => k_is)
    (case lI6 => k_is)
    (case cI6 => k_is)
    (case kC6 => k_is)
    (case aC7 => k_is)
    (case xL7 => k_is)
    (case sa7 => k_is)
    (case ga7 => k_is)
    (case gg7 => k_is)
    (case ac7 => k_is)
    (case nb7 => k_is)
    (case aI7 => k_is)
    (case tI7 => k_is)
    (case lI7 => k_is)
    (case cI7 => k_is)
    (case kC7 => k_is)
    (case aC8 => k_is)
    (case xL8 => k_is)
    (case xB8 => k_exc)
    (case ga8 => k_is)
    (case gg8 => k_is)
    (case ac8 => k_is)
    (case kC8 => k_is)
    (case aC9 => k_is)
    (case xL9 => k_is)
    (case xB9 => k_exc)
    (case ga9 => k_is)
    (case gg9 => k_is)
    (case ac9 => k_is)
    (case kC9 => k_is)
    (case aC10 => k_is)
    (case xL10 => k_is)
    (case xB10 => k_exc)
    (case ga10 => k_is)
    (case gg10 => k_is)
    (case ac10 => k_is)
    (case kC10 => k_is)
    (case aC11 => k_is)
    (case xL11 => k_is)
    (case xB11 => k_exc)
    (case ga11 => k_is)
    (case gg11 => k_is)
    (case ac11 => k_is)
    (case kC11 => k_is)
    (case aC12 => k_is)
    (case xL12 => k_is)
    (case xB12 => k_exc)
    (case ga12 => k_is)
    (case gg12 => k_is)
    (case ac12 => k_is)
    (case kC12 => k_is)
    (case aC13 => k_is)
    (case xL13 => k_is)
    (case xB13 => k_exc)
    (case ga13 => k_is)
    (case gg13 => k_is)
    (case ac13 => k_is)
    (case kC13 => k_is)
    (case aC14 => k_is)
    (case xL14 => k_is)
    (case xB14 => k_exc)
    (case ga14 => k_is)
    (case gg14 => k_is)
    (case ac14 => k_is)
    (case kC14 => k_is)
    (case aC15 => k_is)
    (case xL15 => k_is)
    (case xB15 => k_exc)
    (case ga15 => k_is)
    (case gg15 => k_is)
    (case ac15 => k_is)
    (case kC15 => k_is)
    (case aC16 => k_is)
    (case xL16 => k_is)
    (case xB16 => k_exc)
    (case ga16 => k_is)
    (case gg16 => k_is)
    (case ac16 => k_is)
    (case kC16 => k_is)
    (case aC17 => k_is)
    (case xL17 => k_is)
    (case xB17 => k_exc)
    (case ga17 => k_is)
    (case gg17 => k_is)
    (case ac17 => k_is)
    (case kC17 => k_is)
    (case aC18 => k_is)
    (case xL18 => k_is)
    (case xB18 => k_exc)
    (case ga18 => k_is)
    (case gg18 => k_is)
    (case ac18 => k_is)
    (case kC18 => k_is)
    (case aC19 => k_is)
    (case xL19 => k_is)
    (case xB19 => k_exc)
    (case ga19 => k_is)
    (case gg19 => k_is)
    (case ac19 => k_is)
    (case kC19 => k_is)
    (case aC20 => k_is)
    (case xL20 => k_is)
    (case xB20 => k_exc)
    (case ga20 => k_is)
    (case gg20 => k_is)
    (case ac20 => k_is)
    (case kC20 => k_is)
    (case aC21 => k_is)
    (case xL21 => k_is)
    (case xB21 => k_exc)
    (case ga21 => k_is)
    (case gg21 => k_is)
    (case ac21 => k_is)
    (case kC21 => k_is)
    (case aC22 => k_is)
    (case xL22 => k_is)
    (case xB22 => k_exc)
    (case ga22 => k_is)
    (case gg22 => k_is)
    (case ac22 => k_is)
    (case kC22 => k_is)
    (case sg => k_is)
    (case tkk => k_is)
    (case aL => k_is)
    (case lL => k_is)
    (case cL => k_is)
    (case a0 => k_is)
    (case l0 => k_is)
    (case c_0 => k_is)
    (case k_0 => k_is)
    (case a1 => k_is)
    (case l1 => k_is)
    (case c_1 => k_is)
    (case k_1 => k_is)
    (case a2 => k_is)
    (case l2 => k_is)
    (case c_2 => k_is)
    (case k_2 => k_is)
    (case a3 => k_is)
    (case l3 => k_is)
    (case c_3 => k_is)
    (case k_3 => k_is)
    (case a4 => k_is)
    (case l4 => k_is)
    (case c_4 => k_is)
    (case k_4 => k_is)
    (case a5 => k_is)
    (case l5 => k_is)
    (case c_5 => k_is)
    (case k_5 => k_is)
    (case z_list => k_is)
    (case z_int => k_is)
    (case z_max => k_is)
    (case z_len => k_is)
    (case z_range => k_is)
    (case z_isinstance => k_is)
    (case z_bool => k_is)
    (case z_ValueError => k_is)
    (case nd => decide)

