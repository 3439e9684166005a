import PyProof.Rows.All
import Wide.All
import OpenK.AllK
import Wide.FinOn
import HandS.ForMost
import HandS.Exc
import HandS.TryOnly
import HandS.ExcOwn
import HandS.ExcInit
import HandS.ExcField
import HandS.WordsExc
import HandS.IsInst
import HandS.Wide
import HandS.Defaults
import HandS.ExcValue
import HandS.ExcCtx
import HandS.HotCalls
import HandS.ExcInitHot
import HandS.StrMore
import HandS.WideBits
import HandS.Codes
import HandS.Walk
import HandS.Zip
import HandS.TupSets
import HandS.SortRule
import HandS.SortInts
import KE.KEqDict
import HandS.DictComp
import HandS.DictTup
import HandS.TupLen
import KE.KDictPairs
import HandS.Star
import HandS.Conv
import HandS.List
import KE.KOpsOwn
import HandS.OwnEq
import HandS.TupAny
import HandS.IterVal
import HandS.Style
import HandS.Finally
import KE.KDictCopyH
import HandS.Deep
import HandS.CallSlots
import HandS.SortKw
import KE.KDictDisplayH
import HandS.Flow
import KE.GoesMore
import PyProof.EnumMake
import KE.SortData
import KE.KDictZip
import KE.GoesZip
import KE.KTupSum
import PySem.Challenge.RW_leastcomplaint_k35_blended_divisions
set_option Elab.async false
set_option linter.all false
set_option maxRecDepth 100000
set_option maxHeartbeats 4000000
namespace DL
open PySem PySem.Spec PyProof.Rows L2

/-! ### data: what a value is, all the way down; what may change stands by its address -/
inductive D where
  | non | bl (b : Bool) | int (i : Int) | str (x : Str) | lst (ds : List D) | tup (ds : List D)
  | dct (kvs : List (List Key × D)) | scr (ns : List Int) | ref (a : Addr) | ty (n : String) | exc (a C d : Addr) (gs : List (Str × D))
  | exv (C : Addr) (f : Str) (d : D) | exb (C : Addr) | obj (C : Addr) (fs : List (Str × D)) | lck (o : Obj) (ws : List (List Key × V)) (kvs : List (List Key × D)) | dck (kvs : List (Key × D))
abbrev Mu := Addr → Option D
def Sub (G H : Hp) : Prop := ∀ a o, G a = some o → H a = some o
theorem Sub.refl (G : Hp) : Sub G G := fun _ _ h => h
theorem Sub.trans {G H I : Hp} (a : Sub G H) (b : Sub H I) : Sub G I := fun x o h => b x o (a x o h)

mutual
inductive Rp (K : PySem.W.Frag) (G : Hp) : V → D → Prop
  | non : Rp K G .non .non
  | bl (b : Bool) : Rp K G (.bl b) (.bl b)
  | int (i : Int) : Rp K G (.int i) (.int i)
  | str (x : Str) : Rp K G (.str x) (.str x)
  | ref (a : Addr) : Rp K G (.ref a) (.ref a)
  | ty (n : String) : Rp K G (.ty n) (.ty n)
  | exc {a C d : Addr} {fs : List (Str × V)} {gs : List (Str × D)} : G d = some (.xd fs) → RpFs K G fs gs → Rp K G (.ref a) (.exc a C d gs)
  | exv {a C dd : Addr} {f : Str} {v : V} {d : D} : G a = some (exo a C (some dd)) → G dd = some (exd dd [(f, v)]) → Rp K G v d → Rp K G (.ref a) (.exv C f d)
  | exb {a C : Addr} : G a = some (ExO (.ref C) a) → Rp K G (.ref a) (.exb C)
  | scr {a : Addr} {ns : List Int} : SqL K G a (ns.map V.int) → Rp K G (.ref a) (.scr ns)
  | lst {a : Addr} {xs : List V} {ds : List D} : G a = some (.lst xs) → RpAll K G xs ds → Rp K G (.ref a) (.lst ds)
  | tup {a : Addr} {xs : List V} {ds : List D} : G a = some (.tup xs) → RpAll K G xs ds → Rp K G (.ref a) (.tup ds)
  | dct {a : Addr} {o : Obj} {xs : List (List Key × V)} {ds : List (List Key × D)} : G a = some (.frz o (.dT xs)) → RpKv K G xs ds → Rp K G (.ref a) (.dct ds)
  | obj {a C dx : Addr} {fs : List (Str × V)} {gs : List (Str × D)} : G a = some (.ins C dx fs) → RpFs K G fs gs → Rp K G (.ref a) (.obj C gs)
  | dck {a : Addr} {o : Obj} {xs : List (Key × V)} {ds : List (Key × D)} : G a = some (.frz o (.dK xs)) → RpKw K G xs ds → Rp K G (.ref a) (.dck ds)
inductive RpAll (K : PySem.W.Frag) (G : Hp) : List V → List D → Prop
  | nil : RpAll K G [] []
  | cons {v : V} {vs : List V} {d : D} {ds : List D} : Rp K G v d → RpAll K G vs ds → RpAll K G (v :: vs) (d :: ds)
inductive RpFs (K : PySem.W.Frag) (G : Hp) : List (Str × V) → List (Str × D) → Prop
  | nil : RpFs K G [] []
  | cons {k : Str} {v : V} {vs : List (Str × V)} {d : D} {ds : List (Str × D)} : Rp K G v d → RpFs K G vs ds → RpFs K G ((k, v) :: vs) ((k, d) :: ds)
inductive RpKv (K : PySem.W.Frag) (G : Hp) : List (List Key × V) → List (List Key × D) → Prop
  | nil : RpKv K G [] []
  | cons {k : List Key} {v : V} {vs : List (List Key × V)} {d : D} {ds : List (List Key × D)} : Rp K G v d → RpKv K G vs ds → RpKv K G ((k, v) :: vs) ((k, d) :: ds)
inductive RpKw (K : PySem.W.Frag) (G : Hp) : List (Key × V) → List (Key × D) → Prop
  | nil : RpKw K G [] []
  | cons {k : Key} {v : V} {vs : List (Key × V)} {d : D} {ds : List (Key × D)} : Rp K G v d → RpKw K G vs ds → RpKw K G ((k, v) :: vs) ((k, d) :: ds)
end
theorem seq_sub {K : PySem.W.Frag} {G H : Hp} {a : Addr} {xs : List V} (e : Sub G H) (h : SqL K G a xs) : SqL K H a xs := by
  rcases h with (h | ⟨o, h⟩) | h
  · exact .inl (.inl (e _ _ h))
  · exact .inl (.inr ⟨o, e _ _ h⟩)
  · exact .inr h
section
variable {K : PySem.W.Frag} {G H : Hp}
mutual
theorem Rp.mono (e : Sub G H) : ∀ {v : V} {d : D}, Rp K G v d → Rp K H v d
  | _, _, .non => .non
  | _, _, .bl b => .bl b
  | _, _, .int i => .int i
  | _, _, .str x => .str x
  | _, _, .ref a => .ref a
  | _, _, .ty n => .ty n
  | _, _, .exc h r => .exc (e _ _ h) (RpFs.mono e r)
  | _, _, .exv h i r => .exv (e _ _ h) (e _ _ i) (Rp.mono e r)
  | _, _, .exb h => .exb (e _ _ h)
  | _, _, .scr h => .scr (seq_sub e h)
  | _, _, .lst h r => .lst (e _ _ h) (RpAll.mono e r)
  | _, _, .tup h r => .tup (e _ _ h) (RpAll.mono e r)
  | _, _, .dct h r => .dct (e _ _ h) (RpKv.mono e r)
  | _, _, .obj h r => .obj (e _ _ h) (RpFs.mono e r)
  | _, _, .dck h r => .dck (e _ _ h) (RpKw.mono e r)
theorem RpAll.mono (e : Sub G H) : ∀ {vs : List V} {ds : List D}, RpAll K G vs ds → RpAll K H vs ds
  | _, _, .nil => .nil
  | _, _, .cons a r => .cons (Rp.mono e a) (RpAll.mono e r)
theorem RpFs.mono (e : Sub G H) : ∀ {vs : List (Str × V)} {ds : List (Str × D)}, RpFs K G vs ds → RpFs K H vs ds
  | _, _, .nil => .nil
  | _, _, .cons a r => .cons (Rp.mono e a) (RpFs.mono e r)
theorem RpKv.mono (e : Sub G H) : ∀ {vs : List (List Key × V)} {ds : List (List Key × D)}, RpKv K G vs ds → RpKv K H vs ds
  | _, _, .nil => .nil
  | _, _, .cons a r => .cons (Rp.mono e a) (RpKv.mono e r)
theorem RpKw.mono (e : Sub G H) : ∀ {vs : List (Key × V)} {ds : List (Key × D)}, RpKw K G vs ds → RpKw K H vs ds
  | _, _, .nil => .nil
  | _, _, .cons a r => .cons (Rp.mono e a) (RpKw.mono e r)
end
theorem RpFs.lookup : ∀ {vs : List (Str × V)} {ds : List (Str × D)} {f : Str} {d : D}, RpFs K G vs ds → ds.lookup f = some d → ∃ v, vs.lookup f = some v ∧ Rp K G v d
  | _, _, _, _, .nil, e => by simp at e
  | (k, v) :: vs, (_, d') :: ds, f, d, .cons r t, e => by
    by_cases q : (f == k) = true
    · rw [List.lookup_cons, q] at e
      cases e
      exact ⟨v, by rw [List.lookup_cons, q], r⟩
    · have q' : (f == k) = false := by simpa using q
      rw [List.lookup_cons, q'] at e
      obtain ⟨u, h1, h2⟩ := RpFs.lookup t e
      exact ⟨u, by rw [List.lookup_cons, q']; exact h1, h2⟩
theorem RpAll.length : ∀ {vs : List V} {ds : List D}, RpAll K G vs ds → vs.length = ds.length
  | _, _, .nil => rfl
  | _, _, .cons _ r => congrArg (· + 1) r.length
theorem RpAll.get : ∀ {vs : List V} {ds : List D} {i : Nat} {d : D}, RpAll K G vs ds → ds[i]? = some d → ∃ v, vs[i]? = some v ∧ Rp K G v d
  | _, _, _, _, .nil, e => by simp at e
  | _, _, 0, _, .cons r _, e => by simp at e; subst e; exact ⟨_, rfl, r⟩
  | _, _, i + 1, d, .cons _ t, e => by
    obtain ⟨u, h1, h2⟩ := RpAll.get (i := i) (d := d) t (by simpa using e)
    exact ⟨u, by simpa using h1, h2⟩
theorem RpAll.append : ∀ {vs ws : List V} {ds es : List D}, RpAll K G vs ds → RpAll K G ws es → RpAll K G (vs ++ ws) (ds ++ es)
  | _, _, _, _, .nil, s => s
  | _, _, _, _, .cons r t, s => .cons r (RpAll.append t s)
theorem RpAll.take : ∀ {vs : List V} {ds : List D} (n : Nat), RpAll K G vs ds → RpAll K G (vs.take n) (ds.take n)
  | _, _, 0, _ => .nil
  | _, _, _ + 1, .nil => .nil
  | _, _, n + 1, .cons r t => .cons r (RpAll.take n t)
theorem RpAll.drop : ∀ {vs : List V} {ds : List D} (n : Nat), RpAll K G vs ds → RpAll K G (vs.drop n) (ds.drop n)
  | _, _, 0, r => r
  | _, _, _ + 1, .nil => .nil
  | _, _, n + 1, .cons _ t => RpAll.drop n t
theorem RpAll.set {x : V} {d : D} (r : Rp K G x d) : ∀ {xs : List V} {us : List D} (i : Nat), RpAll K G xs us → RpAll K G (xs.set i x) (us.set i d)
  | _, _, _, .nil => .nil
  | _, _, 0, .cons _ t => .cons r t
  | _, _, i + 1, .cons q t => .cons q (RpAll.set r i t)
theorem RpAll.rep {xs : List V} {us : List D} (r : RpAll K G xs us) : ∀ n : Nat, RpAll K G (List.replicate n xs).flatten (List.replicate n us).flatten
  | 0 => .nil
  | n + 1 => by
    rw [List.replicate_succ, List.replicate_succ, List.flatten_cons, List.flatten_cons]
    exact r.append (RpAll.rep r n)
theorem RpAll.ints : ∀ {vs : List V} {ns : List Int}, RpAll K G vs (ns.map D.int) → vs = ns.map V.int
  | _, [], .nil => rfl
  | _, _ :: _, .cons (.int _) r => congrArg _ r.ints
theorem RpAll.of_ints : ∀ {ns : List Int}, RpAll K G (ns.map V.int) (ns.map D.int)
  | [] => .nil
  | n :: _ => .cons (.int n) RpAll.of_ints
end

/-- the part of the heap that stays: all but what may change -/
def Im (μ : Mu) (H : Hp) : Hp := fun a => if (μ a).isSome then none else H a
theorem im_sub {μ : Mu} {H H' : Hp} (e : Sub H H') : Sub (Im μ H) (Im μ H') := fun a o h => by
  unfold Im at h ⊢
  split at h
  · cases h
  · rename_i q
    rw [if_neg q]
    exact e a o h
theorem im_all {μ : Mu} {H : Hp} : Sub (Im μ H) H := fun a o h => by
  unfold Im at h
  split at h
  · cases h
  · exact h
def updM (μ : Mu) (a : Addr) (c : D) : Mu := fun b => if b = a then some c else μ b
theorem updM_same {μ : Mu} {a : Addr} {c : D} : updM μ a c a = some c := if_pos rfl
theorem updM_ne {μ : Mu} {a b : Addr} {c : D} (h : b ≠ a) : updM μ a c b = μ b := if_neg h
def Ct (K : PySem.W.Frag) (G : Hp) : Option HO → D → Prop
  | some (.lst vs), .lst ds => RpAll K G vs ds
  | some (.dT vs), .dct ds => RpKv K G vs ds
  | some (.frz o (.dT vs)), .lck o' ws ds => o = o' ∧ vs = ws ∧ RpKv K G vs ds
  | some (.ins C _ vs), .obj C' ds => C' = C ∧ RpFs K G vs ds
  | some (.dK vs), .dck ds => RpKw K G vs ds
  | _, _ => False
theorem Ct.mono {K : PySem.W.Frag} {G H : Hp} (e : Sub G H) : ∀ {o : Option HO} {c : D}, Ct K G o c → Ct K H o c := fun {o c} h => by
  unfold Ct at h ⊢
  split at h
  · exact RpAll.mono e h
  · exact RpKv.mono e h
  · exact ⟨h.1, h.2.1, RpKv.mono e h.2.2⟩
  · exact ⟨h.1, RpFs.mono e h.2⟩
  · exact RpKw.mono e h
  · exact h.elim
theorem Ct.some {K : PySem.W.Frag} {G : Hp} {o : Option HO} {c : D} (h : Ct K G o c) : ∃ u, o = Option.some u := by
  unfold Ct at h
  split at h
  · exact ⟨_, rfl⟩
  · exact ⟨_, rfl⟩
  · exact ⟨_, rfl⟩
  · exact ⟨_, rfl⟩
  · exact ⟨_, rfl⟩
  · exact h.elim
def MuOk (K : PySem.W.Frag) (μ : Mu) (H : Hp) : Prop := ∀ p c, μ p = some c → Ct K (Im μ H) (H p) c
theorem MuOk.lst {K : PySem.W.Frag} {μ : Mu} {H : Hp} {p : Addr} {ds : List D} (m : MuOk K μ H) (h : μ p = some (.lst ds)) : ∃ vs, H p = some (.lst vs) ∧ RpAll K (Im μ H) vs ds := by
  have q := m p _ h
  unfold Ct at q
  split at q
  · rename_i e1 e2
    cases e2
    exact ⟨_, e1, q⟩
  · rename_i e1 e2
    cases e2
  · rename_i e1 e2
    cases e2
  · rename_i e1 e2
    cases e2
  · rename_i e1 e2
    cases e2
  · exact q.elim
theorem MuOk.dct {K : PySem.W.Frag} {μ : Mu} {H : Hp} {p : Addr} {ds : List (List Key × D)} (m : MuOk K μ H) (h : μ p = some (.dct ds)) : ∃ vs, H p = some (.dT vs) ∧ RpKv K (Im μ H) vs ds := by
  have q := m p _ h
  unfold Ct at q
  split at q
  · rename_i e1 e2
    cases e2
  · rename_i e1 e2
    cases e2
    exact ⟨_, e1, q⟩
  · rename_i e1 e2
    cases e2
  · rename_i e1 e2
    cases e2
  · rename_i e1 e2
    cases e2
  · exact q.elim
theorem MuOk.lck {K : PySem.W.Frag} {μ : Mu} {H : Hp} {p : Addr} {o : Obj} {ws : List (List Key × V)} {ds : List (List Key × D)} (m : MuOk K μ H) (h : μ p = some (.lck o ws ds)) : H p = some (.frz o (.dT ws)) ∧ RpKv K (Im μ H) ws ds := by
  have q := m p _ h
  unfold Ct at q
  split at q
  · rename_i e1 e2
    cases e2
  · rename_i e1 e2
    cases e2
  · rename_i e1 e2
    cases e2
    obtain ⟨rfl, rfl, q⟩ := q
    exact ⟨e1, q⟩
  · rename_i e1 e2
    cases e2
  · rename_i e1 e2
    cases e2
  · exact q.elim
theorem MuOk.obj {K : PySem.W.Frag} {μ : Mu} {H : Hp} {p C : Addr} {ds : List (Str × D)} (m : MuOk K μ H) (h : μ p = some (.obj C ds)) : ∃ dx vs, H p = some (.ins C dx vs) ∧ RpFs K (Im μ H) vs ds := by
  have q := m p _ h
  unfold Ct at q
  split at q
  · rename_i e1 e2
    cases e2
  · rename_i e1 e2
    cases e2
  · rename_i e1 e2
    cases e2
  · rename_i e1 e2
    cases e2
    obtain ⟨rfl, q⟩ := q
    exact ⟨_, _, e1, q⟩
  · rename_i e1 e2
    cases e2
  · exact q.elim
theorem MuOk.dck {K : PySem.W.Frag} {μ : Mu} {H : Hp} {p : Addr} {ds : List (Key × D)} (m : MuOk K μ H) (h : μ p = some (.dck ds)) : ∃ vs, H p = some (.dK vs) ∧ RpKw K (Im μ H) vs ds := by
  have q := m p _ h
  unfold Ct at q
  split at q
  · rename_i e1 e2
    cases e2
  · rename_i e1 e2
    cases e2
  · rename_i e1 e2
    cases e2
  · rename_i e1 e2
    cases e2
  · rename_i e1 e2
    cases e2
    exact ⟨_, e1, q⟩
  · exact q.elim
/-- all that H holds stays, so what may change is as it was -/
theorem MuOk.ext {K : PySem.W.Frag} {μ : Mu} {H H' : Hp} (m : MuOk K μ H) (e : Sub H H') : MuOk K μ H' := fun p c h => by
  have q := m p c h
  obtain ⟨u, hu⟩ := q.some
  rw [e _ _ hu]
  rw [hu] at q
  exact q.mono (im_sub e)
theorem sub_new {H : Hp} {p : Addr} {o : HO} (h : H p = none) : Sub H (upd H p o) := fun a u e => by
  rw [upd_ne (ne_of_none e h)]
  exact e
theorem mu_free {K : PySem.W.Frag} {μ : Mu} {H : Hp} {p : Addr} (m : MuOk K μ H) (h : H p = none) : μ p = none := by
  cases e : μ p with
  | none => rfl
  | some c =>
    obtain ⟨u, hu⟩ := (m p c e).some
    rw [h] at hu
    cases hu
/-- one of what may change has changed -/
theorem im_upd {μ : Mu} {H : Hp} {p : Addr} {c : D} {o : HO} (h : (μ p).isSome = true) : Im (updM μ p c) (upd H p o) = Im μ H := by
  funext a
  unfold Im updM upd
  by_cases e : a = p
  · subst e
    rw [if_pos rfl, if_pos rfl, if_pos h]
    rfl
  · rw [if_neg e, if_neg e]
/-- a new one -/
theorem im_new {μ : Mu} {H : Hp} {p : Addr} {c : D} {o : HO} (h : H p = none) : Im (updM μ p c) (upd H p o) = Im μ H := by
  funext a
  unfold Im updM upd
  by_cases e : a = p
  · subst e
    rw [if_pos rfl, if_pos rfl, h, ite_self]
    rfl
  · rw [if_neg e, if_neg e]
theorem MuOk.upd {K : PySem.W.Frag} {μ : Mu} {H : Hp} {p : Addr} {c : D} {o : HO} (m : MuOk K μ H) (hi : Im (updM μ p c) (L2.upd H p o) = Im μ H) (hc : Ct K (Im μ H) (some o) c) : MuOk K (updM μ p c) (L2.upd H p o) := fun q c' h => by
  rw [hi]
  by_cases e : q = p
  · subst e
    rw [updM_same] at h
    cases h
    rw [upd_same]
    exact hc
  · rw [updM_ne e] at h
    rw [upd_ne e]
    exact m q c' h

/-! ### the state: slots, what may change, over a base that stays -/
structure Bd (K : PySem.W.Frag) (G0 : Hp) (δ : List (Option D)) (μ : Mu) (σ : L2.St) (H : Hp) : Prop where
  len : σ.length = δ.length
  sl : ∀ (i : Nat) d, δ[i]? = some (some d) → ∃ v, σ[i]? = some (some v) ∧ Rp K (Im μ H) v d
  mu : MuOk K μ H
  base : Sub G0 (Im μ H)
section
variable {K : PySem.W.Frag} {G0 G1 H H' : Hp} {δ : List (Option D)} {μ μ' : Mu} {σ : L2.St}
theorem Bd.step (B : Bd K G0 δ μ σ H) (m : MuOk K μ' H') (e : Sub (Im μ H) (Im μ' H')) : Bd K G0 δ μ' σ H' :=
  ⟨B.len, fun i d h => let ⟨v, h1, h2⟩ := B.sl i d h; ⟨v, h1, h2.mono e⟩, m, B.base.trans e⟩
theorem Bd.ext (B : Bd K G0 δ μ σ H) (e : Sub H H') : Bd K G0 δ μ σ H' := B.step (B.mu.ext e) (im_sub e)
theorem Bd.set (B : Bd K G0 δ μ σ H) {i : Nat} {v : V} {d : D} (r : Rp K (Im μ H) v d) : Bd K G0 (δ.set i (some d)) μ (σ.set i (some v)) H := by
  refine ⟨by rw [List.length_set, List.length_set, B.len], fun j e h => ?_, B.mu, B.base⟩
  by_cases q : i = j
  · subst q
    rw [List.getElem?_set] at h
    rw [if_pos rfl] at h
    split at h
    · rename_i hl
      cases h
      refine ⟨v, ?_, r⟩
      rw [List.getElem?_set, if_pos rfl, if_pos (by rw [B.len]; exact hl)]
    · cases h
  · rw [List.getElem?_set_ne q] at h
    obtain ⟨w, h1, h2⟩ := B.sl j e h
    exact ⟨w, by rw [List.getElem?_set_ne q]; exact h1, h2⟩
theorem Bd.rebase (B : Bd K G0 δ μ σ H) : Bd K (Im μ H) δ μ σ H := ⟨B.len, B.sl, B.mu, Sub.refl _⟩
theorem Bd.weaken (B : Bd K G1 δ μ σ H) (e : Sub G0 G1) : Bd K G0 δ μ σ H := ⟨B.len, B.sl, B.mu, e.trans B.base⟩
end
end DL

namespace DL
open PySem PySem.Spec PyProof.Rows L2

/-! ### canonical readings -/
section
variable (X : Cx)
def wE (e : Expr) : TE := fun σ H Q => ∀ pins s, Inv X pins σ H s → wpAny (model X.prog X.w) X.A (eval e X.env) (EP X pins σ Q) X.xe s
def wT (e : Expr) : TT := fun σ H Q => ∀ pins s, Inv X pins σ H s → wpAny (model X.prog X.w) X.A (isTrue e X.env (eval e X.env)) (TP X pins σ Q) X.xe s
def wW (e : Expr) : TT := fun σ H Q => ∀ (whole : Sem Value) pins s, Inv X pins σ H s → wpAny (model X.prog X.w) X.A (isTrue e X.env whole) (TP X pins σ Q) X.xe s
def wA (es : List Expr) : TA := fun σ H Q => ∀ (pos : Pos) pins s, Inv X pins σ H s → wpAny (model X.prog X.w) X.A (spliced (backTo pos (starEach es X.env))) (AP X pins σ Q) X.xe s
def wK (kws : List Keyword) : TA := fun σ H Q => ∀ (pos : Pos) pins s, Inv X pins σ H s → wpAny (model X.prog X.w) X.A (evalAll ((backToKw pos (keywordEach kws X.env)).map (·.2))) (AP X pins σ Q) X.xe s
def wS (st : Stmt) : TS := fun D σ H => ∀ pins s, Inv X pins σ H s → wpAny (model X.prog X.w) X.A (exec st X.env) (SP X pins D) X.xe s
def wSs (st : List Stmt) : TS := fun D σ H => ∀ pins s, Inv X pins σ H s → wpAny (model X.prog X.w) X.A (execs st X.env) (SP X pins D) X.xe s
/-- a two-place operation by itself -/
def wOp (f : Value → Value → Sem Value) : R2 := fun x y H Q => ∀ (pins : List (Addr × Obj)) (s : Shared) (σ : L2.St) (v u : Value), Inv X pins σ H s → RelV x v → RelV y u → wpAny (model X.prog X.w) X.A (f v u) (EP X pins σ Q) X.xe s
def wUn (f : Value → Sem Value) : V → Hp → VK → Prop := fun x H Q => ∀ (pins : List (Addr × Obj)) (s : Shared) (σ : L2.St) (v : Value), Inv X pins σ H s → RelV x v → wpAny (model X.prog X.w) X.A (f v) (EP X pins σ Q) X.xe s
def wCall (f : Value) : List V → Hp → VK → Prop := fun xs H Q => ∀ (pins : List (Addr × Obj)) (s : Shared) (σ : L2.St) (us : List Value), Inv X pins σ H s → Vals xs us → wpAny (model X.prog X.w) X.A (call f us) (EP X pins σ Q) X.xe s
def wIx : R2 := fun x y H Q => ∀ (value slice : Expr) (pins : List (Addr × Obj)) (s : Shared) (σ : L2.St) (v u : Value), Inv X pins σ H s → RelV x v → RelV y u → subscripted slice false v u = operate [v, u] (getItem v u) → wpAny (model X.prog X.w) X.A (subscriptTail value slice v u) (EP X pins σ Q) X.xe s
end
section
variable {X : Cx} {e a b : Expr} {σ : L2.St} {H : Hp} {pos : Pos}
theorem pe_w : PE X e (wE X e) := ⟨fun pins s _ _ _ I h => h pins s I⟩
theorem pt_w : PT X e (wT X e) := ⟨fun pins s _ _ _ I h => h pins s I⟩
theorem pw_w : PW X e (wW X e) := ⟨fun wh pins s _ _ _ I h => h wh pins s I⟩
theorem pa_w {es : List Expr} : PA X es (wA X es) := ⟨fun p pins s _ _ _ I h => h p pins s I⟩
theorem pk_w {es : List Keyword} : PK X es (wK X es) := ⟨fun p pins s _ _ _ I h => h p pins s I⟩
theorem ps_w {st : Stmt} : PS X st (wS X st) := ⟨fun pins s _ _ _ I h => h pins s I⟩
theorem pss_w {st : List Stmt} : PSs X st (wSs X st) := ⟨fun pins s _ _ _ I h => h pins s I⟩
theorem op_w {f : Value → Value → Sem Value} : OpR X f (wOp X f) := fun pins s σ _ _ _ v u _ I r1 r2 h => h pins s σ v u I r1 r2
theorem un_w {f : Value → Sem Value} : UnR X f (wUn X f) := fun pins s σ _ _ v _ I r h => h pins s σ v I r
theorem call_w {f : Value} : CallR X f (wCall X f) := fun pins s σ _ _ us _ I r h => h pins s σ us I r
theorem ix_w : IxR X (wIx X) := fun ve se pins s σ _ _ _ v u _ I r1 r2 h hs => h ve se pins s σ v u I r1 r2 hs
theorem wE_of {t : TE} {Q : VK} (h : PE X e t) (q : t σ H Q) : wE X e σ H Q := fun pins s I => h.run pins s σ H Q I q
theorem wT_of {t : TT} {Q : Bool → Hp → Prop} (h : PT X e t) (q : t σ H Q) : wT X e σ H Q := fun pins s I => h.run pins s σ H Q I q
theorem wW_of {t : TT} {Q : Bool → Hp → Prop} (h : PW X e t) (q : t σ H Q) : wW X e σ H Q := fun wh pins s I => h.run wh pins s σ H Q I q
theorem wA_of {t : TA} {es : List Expr} {Q : List V → Hp → Prop} (h : PA X es t) (q : t σ H Q) : wA X es σ H Q := fun p pins s I => h.run p pins s σ H Q I q
theorem wK_of {t : TA} {es : List Keyword} {Q : List V → Hp → Prop} (h : PK X es t) (q : t σ H Q) : wK X es σ H Q := fun p pins s I => h.run p pins s σ H Q I q
theorem wS_of {t : TS} {st : Stmt} {E : Ends} (h : PS X st t) (q : t E σ H) : wS X st E σ H := fun pins s I => h.run pins s σ H E I q
theorem wSs_of {t : TS} {st : List Stmt} {E : Ends} (h : PSs X st t) (q : t E σ H) : wSs X st E σ H := fun pins s I => h.run pins s σ H E I q
theorem wOp_of {f : Value → Value → Sem Value} {r : R2} {x y : V} {Q : VK} (h : OpR X f r) (q : r x y H Q) : wOp X f x y H Q := fun pins s σ v u I r1 r2 => h pins s σ H x y v u Q I r1 r2 q
theorem wUn_of {f : Value → Sem Value} {r : V → Hp → VK → Prop} {x : V} {Q : VK} (h : UnR X f r) (q : r x H Q) : wUn X f x H Q := fun pins s σ v I r1 => h pins s σ H x v Q I r1 q
theorem wCall_of {f : Value} {r : List V → Hp → VK → Prop} {xs : List V} {Q : VK} (h : CallR X f r) (q : r xs H Q) : wCall X f xs H Q := fun pins s σ us I r1 => h pins s σ H xs us Q I r1 q
theorem wIx_of {r : R2} {x y : V} {Q : VK} (h : IxR X r) (q : r x y H Q) : wIx X x y H Q := fun ve se pins s σ v u I r1 r2 hs => h ve se pins s σ H x y v u Q I r1 r2 q hs
end

/-! ### data's judgements -/
/-- what is wanted of data -/
abbrev DK := D → Mu → Prop
/-- behind a value that is d -/
def KP (K : PySem.W.Frag) (μ : Mu) (H : Hp) (Φ : DK) (Q : VK) : Prop :=
  ∀ v H2 d μ2, Φ d μ2 → MuOk K μ2 H2 → Sub (Im μ H) (Im μ2 H2) → Rp K (Im μ2 H2) v d → Q v H2
def dE (X : Cx) (G0 : Hp) (e : Expr) (δ : List (Option D)) (μ : Mu) (Φ : DK) : Prop := ∀ σ H, Bd X.K G0 δ μ σ H → ∀ Q, KP X.K μ H Φ Q → wE X e σ H Q
def dT (X : Cx) (G0 : Hp) (e : Expr) (δ : List (Option D)) (μ : Mu) (Φ : Bool → Mu → Prop) : Prop := ∀ σ H, Bd X.K G0 δ μ σ H → ∀ Q : Bool → Hp → Prop,
  (∀ b H2 μ2, Φ b μ2 → MuOk X.K μ2 H2 → Sub (Im μ H) (Im μ2 H2) → Q b H2) → wT X e σ H Q
def dW (X : Cx) (G0 : Hp) (e : Expr) (δ : List (Option D)) (μ : Mu) (Φ : Bool → Mu → Prop) : Prop := ∀ σ H, Bd X.K G0 δ μ σ H → ∀ Q : Bool → Hp → Prop,
  (∀ b H2 μ2, Φ b μ2 → MuOk X.K μ2 H2 → Sub (Im μ H) (Im μ2 H2) → Q b H2) → wW X e σ H Q
abbrev DKs := List D → Mu → Prop
def KPs (K : PySem.W.Frag) (μ : Mu) (H : Hp) (Φ : DKs) (Q : List V → Hp → Prop) : Prop :=
  ∀ vs H2 ds μ2, Φ ds μ2 → MuOk K μ2 H2 → Sub (Im μ H) (Im μ2 H2) → RpAll K (Im μ2 H2) vs ds → Q vs H2
def dA (X : Cx) (G0 : Hp) (es : List Expr) (δ : List (Option D)) (μ : Mu) (Φ : DKs) : Prop := ∀ σ H, Bd X.K G0 δ μ σ H → ∀ Q, KPs X.K μ H Φ Q → wA X es σ H Q
def dKw (X : Cx) (G0 : Hp) (es : List Keyword) (δ : List (Option D)) (μ : Mu) (Φ : DKs) : Prop := ∀ σ H, Bd X.K G0 δ μ σ H → ∀ Q, KPs X.K μ H Φ Q → wK X es σ H Q
/-- an operation on data -/
def dOp (X : Cx) (f : Value → Value → Sem Value) (x y : D) (μ : Mu) (Φ : DK) : Prop := ∀ v u H, Rp X.K (Im μ H) v x → Rp X.K (Im μ H) u y → MuOk X.K μ H → ∀ Q, KP X.K μ H Φ Q → wOp X f v u H Q
def dUn (X : Cx) (f : Value → Sem Value) (x : D) (μ : Mu) (Φ : DK) : Prop := ∀ v H, Rp X.K (Im μ H) v x → MuOk X.K μ H → ∀ Q, KP X.K μ H Φ Q → wUn X f v H Q
def dCall (X : Cx) (f : Value) (xs : List D) (μ : Mu) (Φ : DK) : Prop := ∀ vs H, RpAll X.K (Im μ H) vs xs → MuOk X.K μ H → ∀ Q, KP X.K μ H Φ Q → wCall X f vs H Q
def dIx (X : Cx) (x y : D) (μ : Mu) (Φ : DK) : Prop := ∀ v u H, Rp X.K (Im μ H) v x → Rp X.K (Im μ H) u y → MuOk X.K μ H → ∀ Q, KP X.K μ H Φ Q → wIx X v u H Q

section
variable {X : Cx} {G0 : Hp} {e a b : Expr} {δ : List (Option D)} {μ : Mu} {Φ : DK} {pos : Pos} {K : PySem.W.Frag} {H H1 : Hp} {Q : VK}
theorem KP.val (k : KP K μ H Φ Q) {v : V} {d : D} (m : MuOk K μ H) (q : Φ d μ) (r : Rp K (Im μ H) v d) : Q v H := k v H d μ q m (Sub.refl _) r
theorem KP.after {μ1 : Mu} (k : KP K μ H Φ Q) (s : Sub (Im μ H) (Im μ1 H1)) : KP K μ1 H1 Φ Q := fun v H2 d μ2 q m e r => k v H2 d μ2 q m (s.trans e) r
theorem Bd.now {σ : L2.St} {μ1 : Mu} (B : Bd K G0 δ μ σ H) (m : MuOk K μ1 H1) (e : Sub (Im μ H) (Im μ1 H1)) : Bd K (Im μ1 H1) δ μ1 σ H1 := (B.step m e).rebase
theorem dE.go (h : dE X G0 e δ μ Φ) {σ : L2.St} (B : Bd X.K G0 δ μ σ H) (k : KP X.K μ H Φ Q) : wE X e σ H Q := h σ H B Q k
theorem dE.imp {Ψ : DK} (h : dE X G0 e δ μ Φ) (i : ∀ d μ, Φ d μ → Ψ d μ) : dE X G0 e δ μ Ψ := fun σ H B Q k => h σ H B Q fun v H2 d μ2 q m e r => k v H2 d μ2 (i d μ2 q) m e r
theorem dT.imp {Φ Ψ : Bool → Mu → Prop} (h : dT X G0 e δ μ Φ) (i : ∀ d μ, Φ d μ → Ψ d μ) : dT X G0 e δ μ Ψ := fun σ H B Q k => h σ H B Q fun b H2 μ2 q m e => k b H2 μ2 (i b μ2 q) m e

theorem d_int {i j} (q : Φ (.int i) μ) : dE X G0 (.Constant (.int i) j pos) δ μ Φ := fun σ H B Q k => wE_of pe_int (k.val B.mu q (.int i))
theorem d_bl {i j} (q : Φ (.bl i) μ) : dE X G0 (.Constant (.bool i) j pos) δ μ Φ := fun σ H B Q k => wE_of pe_bl (k.val B.mu q (.bl i))
theorem d_non {j} (q : Φ .non μ) : dE X G0 (.Constant .none j pos) δ μ Φ := fun σ H B Q k => wE_of pe_non (k.val B.mu q .non)
theorem d_str {i j} (q : Φ (.str i) μ) : dE X G0 (.Constant (.str i) j pos) δ μ Φ := fun σ H B Q k => wE_of pe_str (k.val B.mu q (.str i))
theorem d_var (i : Nat) {x : Str} {d : D} (hd : δ[i]? = some (some d)) (q : Φ d μ) (hN : X.N[i]? = some x := by rfl) (hv : Vis X.env.scope x := by first | exact Or.inl rfl | exact Or.inr (Or.inl rfl) | exact Or.inr (Or.inr rfl)) (hb : (x == ("__debug__" : Str)) = false := by decide)
    (hcd : (x == ("__classdict__" : Str)) = false := by decide) : dE X G0 (.Name x pos) δ μ Φ := fun σ H B Q k => by
  obtain ⟨v, h1, r⟩ := B.sl i d hd
  exact wE_of (pe_var hN hv hb hcd) ⟨v, h1, k.val B.mu q r⟩
theorem d_op {op : Operator} (h : dE X G0 a δ μ fun x μ1 => dE X G0 b δ μ1 fun y μ2 => dOp X (binaryOp op) x y μ2 Φ) : dE X G0 (.BinOp a op b pos) δ μ Φ := fun σ H B Q k => by
  refine wE_of (pe_op op_w pe_w pe_w) ?_
  refine h σ H B _ fun v H1 x μ1 hx m1 e1 r1 => ?_
  refine hx σ H1 (B.step m1 e1) _ fun u H2 y μ2 hy m2 e2 r2 => ?_
  exact hy v u H2 (r1.mono e2) r2 m2 Q (k.after (e1.trans e2))
theorem d_un {op : UnaryOp} (h : dE X G0 a δ μ fun x μ1 => dUn X (unaryOp op) x μ1 Φ) : dE X G0 (.UnaryOp op a pos) δ μ Φ := fun σ H B Q k => by
  refine wE_of (pe_un un_w pe_w) ?_
  refine h σ H B _ fun v H1 x μ1 hx m1 e1 r1 => ?_
  exact hx v H1 r1 m1 Q (k.after e1)
theorem d_cmp {op : CmpOp} (h : dE X G0 a δ μ fun x μ1 => dE X G0 b δ μ1 fun y μ2 => dOp X (compareOp op) x y μ2 Φ) (hm : behindInMarks op b = false := by first | exact nomark _ | rfl) : dE X G0 (.Compare a [op] [b] pos) δ μ Φ := fun σ H B Q k => by
  refine wE_of (pe_cmpR op_w pe_w pe_w hm) ?_
  refine h σ H B _ fun v H1 x μ1 hx m1 e1 r1 => ?_
  refine hx σ H1 (B.step m1 e1) _ fun u H2 y μ2 hy m2 e2 r2 => ?_
  exact hy v u H2 (r1.mono e2) r2 m2 Q (k.after (e1.trans e2))
theorem d_ix (h : dE X G0 a δ μ fun x μ1 => dE X G0 b δ μ1 fun y μ2 => dIx X x y μ2 Φ) (hs : PlainIx b := by exact fun _ _ => rfl) : dE X G0 (.Subscript a b pos) δ μ Φ := fun σ H B Q k => by
  refine wE_of (pe_ix ix_w pe_w pe_w hs) ?_
  refine h σ H B _ fun v H1 x μ1 hx m1 e1 r1 => ?_
  refine hx σ H1 (B.step m1 e1) _ fun u H2 y μ2 hy m2 e2 r2 => ?_
  exact hy v u H2 (r1.mono e2) r2 m2 Q (k.after (e1.trans e2))
theorem da_nil {Φ : DKs} (q : Φ [] μ) : dA X G0 [] δ μ Φ := fun σ H B Q k => wA_of pa_nil (k [] H [] μ q B.mu (Sub.refl _) .nil)
theorem da_cons {es : List Expr} {Φ : DKs} (h : dE X G0 e δ μ fun x μ1 => dA X G0 es δ μ1 fun xs μ2 => Φ (x :: xs) μ2) (hs : starEach (e :: es) X.env = (false, eval e X.env) :: starEach es X.env := by rfl) : dA X G0 (e :: es) δ μ Φ := fun σ H B Q k => by
  refine wA_of (pa_cons pe_w pa_w hs) ?_
  refine h σ H B _ fun v H1 x μ1 hx m1 e1 r1 => ?_
  refine hx σ H1 (B.step m1 e1) _ fun vs H2 xs μ2 hy m2 e2 r2 => ?_
  exact k _ H2 _ μ2 hy m2 (e1.trans e2) (.cons (r1.mono e2) r2)
theorem dk_nil {Φ : DKs} (q : Φ [] μ) : dKw X G0 [] δ μ Φ := fun σ H B Q k => wK_of pk_nil (k [] H [] μ q B.mu (Sub.refl _) .nil)
theorem dk_cons {nm : Option Str} {kpos : Pos} {es : List Keyword} {Φ : DKs} (h : dE X G0 e δ μ fun x μ1 => dKw X G0 es δ μ1 fun xs μ2 => Φ (x :: xs) μ2) : dKw X G0 (⟨nm, e, kpos⟩ :: es) δ μ Φ := fun σ H B Q k => by
  refine wK_of (pk_cons pe_w pk_w) ?_
  refine h σ H B _ fun v H1 x μ1 hx m1 e1 r1 => ?_
  refine hx σ H1 (B.step m1 e1) _ fun vs H2 xs μ2 hy m2 e2 r2 => ?_
  exact k _ H2 _ μ2 hy m2 (e1.trans e2) (.cons (r1.mono e2) r2)
theorem mu_sub {p : Addr} {o : HO} (h : H p = none) : Sub (Im μ H) (Im μ (upd H p o)) := im_sub (sub_new h)
theorem KP.new (k : KP K μ H Φ Q) (m : MuOk K μ H) {p : Addr} (hp : H p = none) {o : HO} {d : D} (q : Φ d μ) (r : Rp K (Im μ (upd H p o)) (.ref p) d) : Q (.ref p) (upd H p o) :=
  k _ _ d μ q (m.ext (sub_new hp)) (mu_sub hp) r
theorem im_at {p : Addr} {o : HO} (m : MuOk K μ H) (hp : H p = none) : Im μ (upd H p o) p = some o := by
  unfold Im
  rw [mu_free m hp, upd_same]
  rfl
theorem rp_lst {p : Addr} {xs : List V} {ds : List D} (m : MuOk K μ H) (hp : H p = none) (r : RpAll K (Im μ H) xs ds) : Rp K (Im μ (upd H p (.lst xs))) (.ref p) (.lst ds) := .lst (im_at m hp) (r.mono (mu_sub hp))
theorem rp_tup {p : Addr} {xs : List V} {ds : List D} (m : MuOk K μ H) (hp : H p = none) (r : RpAll K (Im μ H) xs ds) : Rp K (Im μ (upd H p (.tup xs))) (.ref p) (.tup ds) := .tup (im_at m hp) (r.mono (mu_sub hp))
/-- a display -/
theorem d_lst {es : List Expr} (h : dA X G0 es δ μ fun xs μ1 => xs.length ≤ sizeLine ∧ Φ (.lst xs) μ1) : dE X G0 (.List es pos) δ μ Φ := fun σ H B Q k => by
  refine wE_of (pe_lst pa_w) ?_
  refine h σ H B _ fun vs H1 xs μ1 ⟨hl, q⟩ m1 e1 r1 => ?_
  exact ⟨by rw [r1.length]; exact hl, fun p hp => (k.after e1).new m1 hp q (rp_lst m1 hp r1)⟩
theorem d_tup {x1} {es : List Expr} (h : dA X G0 es δ μ fun xs μ1 => xs.length ≤ sizeLine ∧ Φ (.tup xs) μ1) : dE X G0 (.Tuple es x1 pos) δ μ Φ := fun σ H B Q k => by
  refine wE_of (pe_tup pa_w) ?_
  refine h σ H B _ fun vs H1 xs μ1 ⟨hl, q⟩ m1 e1 r1 => ?_
  exact ⟨by rw [r1.length]; exact hl, fun p hp => (k.after e1).new m1 hp q (rp_tup m1 hp r1)⟩
/-- a new list that may change -/
theorem KP.newM (k : KP K μ H Φ Q) (m : MuOk K μ H) {p : Addr} (hp : H p = none) {xs : List V} {ds : List D} (r : RpAll K (Im μ H) xs ds) (q : ∀ p, μ p = none → Φ (.ref p) (updM μ p (.lst ds))) : Q (.ref p) (upd H p (.lst xs)) := by
  have e : Im (updM μ p (.lst ds)) (upd H p (.lst xs)) = Im μ H := im_new hp
  exact k _ _ _ _ (q p (mu_free m hp)) (m.upd e r) (by rw [e]; exact Sub.refl _) (.ref p)
theorem d_lstM {es : List Expr} (h : dA X G0 es δ μ fun xs μ1 => xs.length ≤ sizeLine ∧ ∀ p, μ1 p = none → Φ (.ref p) (updM μ1 p (.lst xs))) : dE X G0 (.List es pos) δ μ Φ := fun σ H B Q k => by
  refine wE_of (pe_lst pa_w) ?_
  refine h σ H B _ fun vs H1 xs μ1 ⟨hl, q⟩ m1 e1 r1 => ?_
  exact ⟨by rw [r1.length]; exact hl, fun p hp => (k.after e1).newM m1 hp r1 q⟩

/-! ### operations on data -/
section
variable {i j : Int} {xs ys : List D} {x y : Str} {p : Addr}
theorem rp_int {v : V} {G : Hp} (r : Rp K G v (.int i)) : v = .int i := by cases r; rfl
theorem rp_str {v : V} {G : Hp} (r : Rp K G v (.str x)) : v = .str x := by cases r; rfl
theorem rp_bl {v : V} {G : Hp} {c : Bool} (r : Rp K G v (.bl c)) : v = .bl c := by cases r; rfl
theorem rp_non {v : V} {G : Hp} (r : Rp K G v .non) : v = .non := by cases r; rfl
theorem op_int {f : Value → Value → Sem Value} {C : Int → Int → Prop} {g : Int → Int → Int} (h : OpR X f (rI C fun i j => .int (g i j))) (c : C i j) (q : Φ (.int (g i j)) μ) : dOp X f (.int i) (.int j) μ Φ := fun v u H r1 r2 m Q k => by
  rw [rp_int r1, rp_int r2]
  exact wOp_of h ⟨i, j, rfl, rfl, c, k.val m q (.int _)⟩
theorem op_int0 {f : Value → Value → Sem Value} {g : Int → Int → Int} (h : OpR X f (rI0 fun i j => .int (g i j))) (q : Φ (.int (g i j)) μ) : dOp X f (.int i) (.int j) μ Φ := fun v u H r1 r2 m Q k => by
  rw [rp_int r1, rp_int r2]
  exact wOp_of h ⟨i, j, rfl, rfl, k.val m q (.int _)⟩
theorem op_intB {f : Value → Value → Sem Value} {g : Int → Int → Bool} (h : OpR X f (rI0 fun i j => .bl (g i j))) (q : Φ (.bl (g i j)) μ) : dOp X f (.int i) (.int j) μ Φ := fun v u H r1 r2 m Q k => by
  rw [rp_int r1, rp_int r2]
  exact wOp_of h ⟨i, j, rfl, rfl, k.val m q (.bl _)⟩
theorem o_add (q : Φ (.int (i + j)) μ) : dOp X (binaryOp .Add) (.int i) (.int j) μ Φ := op_int0 op_add q
theorem o_sub (q : Φ (.int (i - j)) μ) : dOp X (binaryOp .Sub) (.int i) (.int j) μ Φ := op_int0 op_sub q
theorem o_mul (q : CMulW i j ∧ Φ (.int (i * j)) μ) : dOp X (binaryOp .Mult) (.int i) (.int j) μ Φ := op_int op_mulW q.1 q.2
theorem o_mod (q : j ≠ 0 ∧ Φ (.int (i.fmod j)) μ) : dOp X (binaryOp .Mod) (.int i) (.int j) μ Φ := op_int op_modN q.1 q.2
theorem o_pow (q : CPow i j ∧ Φ (.int (i ^ j.toNat)) μ) : dOp X (binaryOp .Pow) (.int i) (.int j) μ Φ := op_int op_pow q.1 q.2
def CDivX (_ j : Int) : Prop := j ≠ 0 ∧ j.natAbs.log2 < 9000
theorem op_fdivX : OpR X (binaryOp .FloorDiv) (rI CDivX fun i j => .int (i.fdiv j)) := opI fun i j _ _ _ _ _ hc q => floordiv_int hc.1 q (.inl (PyProof.noPylong_of_log2 hc.2))
theorem o_div (q : CDivX i j ∧ Φ (.int (i.fdiv j)) μ) : dOp X (binaryOp .FloorDiv) (.int i) (.int j) μ Φ := op_int op_fdivX q.1 q.2
theorem o_lt (q : Φ (.bl (decide (i < j))) μ) : dOp X (compareOp .Lt) (.int i) (.int j) μ Φ := op_intB op_lt q
theorem o_le (q : Φ (.bl (decide (i ≤ j))) μ) : dOp X (compareOp .LtE) (.int i) (.int j) μ Φ := op_intB op_le q
theorem o_gt (q : Φ (.bl (decide (j < i))) μ) : dOp X (compareOp .Gt) (.int i) (.int j) μ Φ := op_intB op_gt q
theorem o_ge (q : Φ (.bl (decide (j ≤ i))) μ) : dOp X (compareOp .GtE) (.int i) (.int j) μ Φ := op_intB op_ge q
theorem o_eq (q : Φ (.bl (decide (i = j))) μ) : dOp X (compareOp .Eq) (.int i) (.int j) μ Φ := fun v u H r1 r2 m Q k => by
  rw [rp_int r1, rp_int r2]
  refine wOp_of op_eq ⟨rfl, k.val m q ?_⟩
  rw [show decide (V.int i = V.int j) = decide (i = j) from decide_eq_decide.mpr ⟨V.int.inj, congrArg _⟩]
  exact .bl _
theorem o_ne (q : Φ (.bl (!decide (i = j))) μ) : dOp X (compareOp .NotEq) (.int i) (.int j) μ Φ := fun v u H r1 r2 m Q k => by
  rw [rp_int r1, rp_int r2]
  refine wOp_of op_ne ⟨rfl, k.val m q ?_⟩
  rw [show decide (V.int i = V.int j) = decide (i = j) from decide_eq_decide.mpr ⟨V.int.inj, congrArg _⟩]
  exact .bl _
theorem o_eqS (q : Φ (.bl (decide (x = y))) μ) : dOp X (compareOp .Eq) (.str x) (.str y) μ Φ := fun v u H r1 r2 m Q k => by
  rw [rp_str r1, rp_str r2]
  refine wOp_of op_eq ⟨rfl, k.val m q ?_⟩
  rw [show decide (V.str x = V.str y) = decide (x = y) from decide_eq_decide.mpr ⟨V.str.inj, congrArg _⟩]
  exact .bl _
theorem o_neS (q : Φ (.bl (!decide (x = y))) μ) : dOp X (compareOp .NotEq) (.str x) (.str y) μ Φ := fun v u H r1 r2 m Q k => by
  rw [rp_str r1, rp_str r2]
  refine wOp_of op_ne ⟨rfl, k.val m q ?_⟩
  rw [show decide (V.str x = V.str y) = decide (x = y) from decide_eq_decide.mpr ⟨V.str.inj, congrArg _⟩]
  exact .bl _
theorem o_addS (q : x.length + y.length ≤ sizeLine ∧ Φ (.str (x ++ y)) μ) : dOp X (binaryOp .Add) (.str x) (.str y) μ Φ := fun v u H r1 r2 m Q k => by
  rw [rp_str r1, rp_str r2]
  exact wOp_of op_add_str ⟨x, y, rfl, rfl, q.1, k.val m q.2 (.str _)⟩
theorem o_neg (q : Φ (.int (-i)) μ) : dUn X (unaryOp .USub) (.int i) μ Φ := fun v H r m Q k => by
  rw [rp_int r]
  exact wUn_of un_neg ⟨i, rfl, k.val m q (.int _)⟩
theorem rp_lst_at {v : V} (r : Rp K (Im μ H) v (.lst xs)) : ∃ a vs, v = .ref a ∧ H a = some (.lst vs) ∧ RpAll K (Im μ H) vs xs := by
  cases r with
  | lst h r => exact ⟨_, _, rfl, im_all _ _ h, r⟩
theorem rp_tup_at {v : V} (r : Rp K (Im μ H) v (.tup xs)) : ∃ a vs, v = .ref a ∧ H a = some (.tup vs) ∧ RpAll K (Im μ H) vs xs := by
  cases r with
  | tup h r => exact ⟨_, _, rfl, im_all _ _ h, r⟩
theorem rp_ref {v : V} {G : Hp} (r : Rp K G v (.ref p)) : v = .ref p := by cases r; rfl
theorem o_cat (q : xs.length + ys.length ≤ sizeLine ∧ Φ (.lst (xs ++ ys)) μ) : dOp X (binaryOp .Add) (.lst xs) (.lst ys) μ Φ := fun v u H r1 r2 m Q k => by
  obtain ⟨a, vs, rfl, ha, ra⟩ := rp_lst_at r1
  obtain ⟨b, ws, rfl, hb, rb⟩ := rp_lst_at r2
  exact wOp_of op_cat ⟨a, b, vs, ws, rfl, rfl, ha, hb, by rw [ra.length, rb.length]; exact q.1, fun p hp => k.new m hp q.2 (rp_lst m hp (ra.append rb))⟩
/-- a list that may change, and one that stays -/
theorem o_catM (h : μ p = some (.lst xs)) (q : xs.length + ys.length ≤ sizeLine ∧ Φ (.lst (xs ++ ys)) μ) : dOp X (binaryOp .Add) (.ref p) (.lst ys) μ Φ := fun v u H r1 r2 m Q k => by
  cases rp_ref r1
  obtain ⟨vs, ha, ra⟩ := m.lst h
  obtain ⟨b, ws, rfl, hb, rb⟩ := rp_lst_at r2
  exact wOp_of op_cat ⟨p, b, vs, ws, rfl, rfl, ha, hb, by rw [ra.length, rb.length]; exact q.1, fun p hp => k.new m hp q.2 (rp_lst m hp (ra.append rb))⟩
theorem o_rep (q : -(2 ^ 63) ≤ j ∧ j < 2 ^ 63 ∧ xs.length * j.toNat ≤ sizeLine ∧ Φ (.lst (List.replicate j.toNat xs).flatten) μ) : dOp X (binaryOp .Mult) (.lst xs) (.int j) μ Φ := fun v u H r1 r2 m Q k => by
  obtain ⟨a, vs, rfl, ha, ra⟩ := rp_lst_at r1
  rw [rp_int r2]
  exact wOp_of op_rep ⟨a, j, vs, rfl, rfl, ha, q.1, q.2.1, by rw [ra.length]; exact q.2.2.1, fun p hp => k.new m hp q.2.2.2 (rp_lst m hp (ra.rep _))⟩
theorem atI_rp {G : Hp} {vs : List V} {d : D} (r : RpAll K G vs xs) (h : atI xs i = some d) : ∃ v, atI vs i = some v ∧ Rp K G v d := by
  unfold atI at h ⊢
  rw [r.length]
  cases e : ixN xs.length i with
  | none => rw [e] at h; cases h
  | some j =>
    rw [e] at h
    exact r.get h
theorem x_lst {d : D} (h : atI xs i = some d) (q : Φ d μ) : dIx X (.lst xs) (.int i) μ Φ := fun v u H r1 r2 m Q k => by
  obtain ⟨a, vs, rfl, ha, ra⟩ := rp_lst_at r1
  rw [rp_int r2]
  obtain ⟨v, hv, rv⟩ := atI_rp ra h
  exact wIx_of ix_list ⟨a, vs, i, v, rfl, rfl, SqL.of ha, hv, k.val m q rv⟩
theorem x_tup {d : D} (h : atI xs i = some d) (q : Φ d μ) : dIx X (.tup xs) (.int i) μ Φ := fun v u H r1 r2 m Q k => by
  obtain ⟨a, vs, rfl, ha, ra⟩ := rp_tup_at r1
  rw [rp_int r2]
  obtain ⟨v, hv, rv⟩ := atI_rp ra h
  exact wIx_of ix_tup ⟨a, vs, i, v, rfl, rfl, SqT.of ha, hv, k.val m q rv⟩
theorem x_mut {d : D} (hp : μ p = some (.lst xs)) (h : atI xs i = some d) (q : Φ d μ) : dIx X (.ref p) (.int i) μ Φ := fun v u H r1 r2 m Q k => by
  cases rp_ref r1
  obtain ⟨vs, ha, ra⟩ := m.lst hp
  rw [rp_int r2]
  obtain ⟨v, hv, rv⟩ := atI_rp ra h
  exact wIx_of ix_list ⟨p, vs, i, v, rfl, rfl, SqL.of ha, hv, k.val m q rv⟩
end
end
end DL

namespace DL
open PySem PySem.Spec PyProof.Rows L2

/-! ### truth, tests -/
/-- a datum's truth -/
def Tr : D → Mu → Bool → Prop
  | .non, _, b => b = false
  | .bl c, _, b => b = c
  | .int i, _, b => b = (i != 0)
  | .str x, _, b => x.length ≤ sizeLine ∧ b = ((x.length : Int) != 0)
  | .lst ds, _, b => b = !ds.isEmpty
  | .tup ds, _, b => b = !ds.isEmpty
  | .ref p, μ, b => ∃ ds, μ p = some (.lst ds) ∧ b = !ds.isEmpty
  | _, _, _ => False
section
variable {X : Cx} {G0 : Hp} {e a b c : Expr} {es rest : List Expr} {δ : List (Option D)} {μ : Mu} {Φ : DK} {pos : Pos} {K : PySem.W.Frag} {H : Hp} {Q : VK} {Θ : Bool → Mu → Prop}
theorem RpAll.isEmpty {G : Hp} {vs : List V} {ds : List D} (r : RpAll K G vs ds) : vs.isEmpty = ds.isEmpty := by cases r <;> rfl
theorem tr_ok {v : V} {d : D} {k : Bool} (r : Rp K (Im μ H) v d) (m : MuOk K μ H) (h : Tr d μ k) : TruV K v H k := by
  cases r with
  | non => exact h
  | bl b => exact h
  | int i => exact h
  | str x => exact h
  | ref p =>
    obtain ⟨ds, hp, e⟩ := h
    obtain ⟨vs, ha, ra⟩ := m.lst hp
    exact .inl ⟨vs, SqL.of ha, by rw [ra.isEmpty]; exact e⟩
  | scr h1 => exact h.elim
  | ty n => exact h.elim
  | exc h1 _ => exact h.elim
  | exv h1 _ _ => exact h.elim
  | exb h1 => exact h.elim
  | lst h1 r => exact .inl ⟨_, SqL.of (im_all _ _ h1), by rw [r.isEmpty]; exact h⟩
  | tup h1 r => exact .inr (.inl ⟨_, SqT.of (im_all _ _ h1), by rw [r.isEmpty]; exact h⟩)
  | dct h1 r => exact h.elim
  | obj h1 r => exact h.elim
  | dck h1 r => exact h.elim
theorem t_val (h : dE X G0 e δ μ fun d μ1 => ∃ k, Tr d μ1 k ∧ Θ k μ1) (he : ∀ whole, isTrue e X.env whole = (do let v ← whole; standAt e.pos; holding [v] (truthy v)) := by intro _; rfl) : dT X G0 e δ μ Θ := fun σ H B Q k => by
  refine wT_of (pt_truth pe_w he) ?_
  refine h σ H B _ fun v H1 d μ1 ⟨c, t, q⟩ m1 e1 r1 => ?_
  exact ⟨c, tr_ok r1 m1 t, k c H1 μ1 q m1 e1⟩
theorem t_not (h : dT X G0 e δ μ fun k μ1 => Θ (!k) μ1) : dT X G0 (.UnaryOp .Not e pos) δ μ Θ := fun σ H B Q k => by
  refine wT_of (pt_not pt_w) ?_
  exact h σ H B _ fun c H1 μ1 q m1 e1 => k _ H1 μ1 q m1 e1
theorem tw_and1 (h : dT X G0 e δ μ Θ) : dW X G0 (.BoolOp .And [e] pos) δ μ Θ := fun σ H B Q k => wW_of (pw_and1 pt_w) (h σ H B Q k)
theorem tw_or1 (h : dT X G0 e δ μ Θ) : dW X G0 (.BoolOp .Or [e] pos) δ μ Θ := fun σ H B Q k => wW_of (pw_or1 pt_w) (h σ H B Q k)
theorem tw_and (h : dT X G0 a δ μ fun k μ1 => (k = true → dW X G0 (.BoolOp .And (b :: rest) pos) δ μ1 Θ) ∧ (k = false → Θ false μ1)) : dW X G0 (.BoolOp .And (a :: b :: rest) pos) δ μ Θ := fun σ H B Q k => by
  refine wW_of (pw_and pt_w pw_w) ?_
  refine h σ H B _ fun c H1 μ1 ⟨q1, q2⟩ m1 e1 => ?_
  cases c with
  | true => exact iteT (q1 rfl σ H1 (B.step m1 e1) Q fun c H2 μ2 q m2 e2 => k c H2 μ2 q m2 (e1.trans e2))
  | false => exact iteF (k _ H1 μ1 (q2 rfl) m1 e1)
theorem tw_or (h : dT X G0 a δ μ fun k μ1 => (k = false → dW X G0 (.BoolOp .Or (b :: rest) pos) δ μ1 Θ) ∧ (k = true → Θ true μ1)) : dW X G0 (.BoolOp .Or (a :: b :: rest) pos) δ μ Θ := fun σ H B Q k => by
  refine wW_of (pw_or pt_w pw_w) ?_
  refine h σ H B _ fun c H1 μ1 ⟨q1, q2⟩ m1 e1 => ?_
  cases c with
  | true => exact iteT (k _ H1 μ1 (q2 rfl) m1 e1)
  | false => exact iteF (q1 rfl σ H1 (B.step m1 e1) Q fun c H2 μ2 q m2 e2 => k c H2 μ2 q m2 (e1.trans e2))
theorem t_bool {op : BoolOp} (h : dW X G0 (.BoolOp op es pos) δ μ Θ) : dT X G0 (.BoolOp op es pos) δ μ Θ := fun σ H B Q k => wT_of (PW.pt pw_w) (h σ H B Q k)
/-- and, or, not as values -/
theorem d_not (h : dE X G0 e δ μ fun d μ1 => ∃ k, d = .bl k ∧ Φ (.bl (!k)) μ1) : dE X G0 (.UnaryOp .Not e pos) δ μ Φ := fun σ H B Q k => by
  refine wE_of (pe_not pe_w) ?_
  refine h σ H B _ fun v H1 d μ1 ⟨c, e, q⟩ m1 e1 r1 => ?_
  subst e
  exact ⟨c, rp_bl r1, (k.after e1).val m1 q (.bl _)⟩
theorem d_one {op} (h : dE X G0 e δ μ Φ) : dE X G0 (.BoolOp op [e] pos) δ μ Φ := fun σ H B Q k => wE_of (pe_one pe_w) (h σ H B Q k)
theorem d_and (h : dE X G0 a δ μ fun d μ1 => ∃ k, d = .bl k ∧ (k = true → dE X G0 (.BoolOp .And (b :: rest) pos) δ μ1 Φ) ∧ (k = false → Φ (.bl false) μ1)) : dE X G0 (.BoolOp .And (a :: b :: rest) pos) δ μ Φ := fun σ H B Q k => by
  refine wE_of (pe_and pe_w pe_w) ?_
  refine h σ H B _ fun v H1 d μ1 ⟨c, e, q1, q2⟩ m1 e1 r1 => ?_
  subst e
  refine ⟨c, rp_bl r1, ?_⟩
  cases c with
  | true => exact iteT (q1 rfl σ H1 (B.step m1 e1) Q (k.after e1))
  | false => exact iteF ((k.after e1).val m1 (q2 rfl) (.bl _))
theorem d_or (h : dE X G0 a δ μ fun d μ1 => ∃ k, d = .bl k ∧ (k = false → dE X G0 (.BoolOp .Or (b :: rest) pos) δ μ1 Φ) ∧ (k = true → Φ (.bl true) μ1)) : dE X G0 (.BoolOp .Or (a :: b :: rest) pos) δ μ Φ := fun σ H B Q k => by
  refine wE_of (pe_or pe_w pe_w) ?_
  refine h σ H B _ fun v H1 d μ1 ⟨c, e, q1, q2⟩ m1 e1 r1 => ?_
  subst e
  refine ⟨c, rp_bl r1, ?_⟩
  cases c with
  | true => exact iteT ((k.after e1).val m1 (q2 rfl) (.bl _))
  | false => exact iteF (q1 rfl σ H1 (B.step m1 e1) Q (k.after e1))
theorem d_if (h : dT X G0 c δ μ fun k μ1 => (k = true → dE X G0 a δ μ1 Φ) ∧ (k = false → dE X G0 b δ μ1 Φ)) : dE X G0 (.IfExp c a b pos) δ μ Φ := fun σ H B Q k => by
  refine wE_of (pe_ifExp pt_w pe_w pe_w) ?_
  refine h σ H B _ fun c H1 μ1 ⟨q1, q2⟩ m1 e1 => ?_
  cases c with
  | true => exact iteT (q1 rfl σ H1 (B.step m1 e1) Q (k.after e1))
  | false => exact iteF (q2 rfl σ H1 (B.step m1 e1) Q (k.after e1))

/-! ### calls of built-ins -/
theorem d_callB {x : Str} {id : String} {p : Pos} (ha : dA X G0 (e :: es) δ μ fun xs μ1 => dCall X (.builtin id) xs μ1 Φ) (hm : X.mg x = none := by assumption) (hv : bootBuiltins x = some (.builtin id) := by exact (by decide +kernel)) (hg : Gl X x := by rfl) (hn : x ≠ "__name__" := by decide) (hdb : (x == ("__debug__" : Str)) = false := by decide)
    (he : starEach (e :: es) X.env = (false, eval e X.env) :: starEach es X.env := by rfl) (hpl : (backTo pos (starEach es X.env)).any (·.1) = false := by rfl) : dE X G0 (.Call (.Name x p) (e :: es) [] pos) δ μ Φ := fun σ H B Q k => by
  refine wE_of (pe_callB call_w hg hm hv pa_w hn hdb he hpl) ?_
  refine ha σ H B _ fun vs H1 xs μ1 q m1 e1 r1 => ?_
  exact q vs H1 r1 m1 Q (k.after e1)
theorem d_callTy {x : Str} {T : String} {p : Pos} (ha : dA X G0 (e :: es) δ μ fun xs μ1 => dCall X (.type T) xs μ1 Φ) (hm : X.mg x = none := by assumption) (hv : bootBuiltins x = some (.type T) := by exact (by decide +kernel)) (hg : Gl X x := by rfl) (hn : x ≠ "__name__" := by decide) (hdb : (x == ("__debug__" : Str)) = false := by decide)
    (he : starEach (e :: es) X.env = (false, eval e X.env) :: starEach es X.env := by rfl) (hpl : (backTo pos (starEach es X.env)).any (·.1) = false := by rfl) : dE X G0 (.Call (.Name x p) (e :: es) [] pos) δ μ Φ := fun σ H B Q k => by
  refine wE_of (pe_callTy call_w hg hm hv pa_w hn hdb he hpl) ?_
  refine ha σ H B _ fun vs H1 xs μ1 q m1 e1 r1 => ?_
  exact q vs H1 r1 m1 Q (k.after e1)
section
variable {i j : Int} {xs ys : List D} {x y : Str} {p : Addr} {d : D}
theorem rp1 {G : Hp} {vs : List V} (r : RpAll K G vs [d]) : ∃ v, vs = [v] ∧ Rp K G v d := by
  cases r with
  | cons a t => cases t; exact ⟨_, rfl, a⟩
theorem rp2 {G : Hp} {vs : List V} {d' : D} (r : RpAll K G vs [d, d']) : ∃ v u, vs = [v, u] ∧ Rp K G v d ∧ Rp K G u d' := by
  cases r with
  | cons a t =>
    obtain ⟨u, rfl, b⟩ := rp1 t
    exact ⟨_, _, rfl, a, b⟩
theorem c_abs (q : Φ (.int (if i < 0 then -i else i)) μ) : dCall X (.builtin "abs") [.int i] μ Φ := fun vs H r m Q k => by
  obtain ⟨v, rfl, a⟩ := rp1 r
  cases rp_int a
  exact wCall_of call_abs ⟨i, rfl, k.val m q (.int _)⟩
theorem c_max2 (q : Φ (.int (if j > i then j else i)) μ) (hc : X.calm = true := by rfl) : dCall X (.builtin "max") [.int i, .int j] μ Φ := fun vs H r m Q k => by
  obtain ⟨v, u, rfl, a, b⟩ := rp2 r
  cases rp_int a
  cases rp_int b
  exact wCall_of (call_max2 hc) ⟨i, j, rfl, k.val m q (.int _)⟩
theorem c_min2 (q : Φ (.int (if j < i then j else i)) μ) (hc : X.calm = true := by rfl) : dCall X (.builtin "min") [.int i, .int j] μ Φ := fun vs H r m Q k => by
  obtain ⟨v, u, rfl, a, b⟩ := rp2 r
  cases rp_int a
  cases rp_int b
  exact wCall_of (call_min2 hc) ⟨i, j, rfl, k.val m q (.int _)⟩
theorem c_int (q : Φ (.int i) μ) : dCall X (.type "int") [.int i] μ Φ := fun vs H r m Q k => by
  obtain ⟨v, rfl, a⟩ := rp1 r
  cases rp_int a
  exact wCall_of call_int1 (.inl ⟨i, rfl, k.val m q (.int _)⟩)
theorem c_intB {c : Bool} (q : Φ (.int (if c then 1 else 0)) μ) : dCall X (.type "int") [.bl c] μ Φ := fun vs H r m Q k => by
  obtain ⟨v, rfl, a⟩ := rp1 r
  cases rp_bl a
  exact wCall_of call_int1 (.inr ⟨c, rfl, k.val m q (.int _)⟩)
theorem c_lenL (q : Φ (.int xs.length) μ) : dCall X (.builtin "len") [.lst xs] μ Φ := fun vs H r m Q k => by
  obtain ⟨v, rfl, a⟩ := rp1 r
  obtain ⟨c, ws, rfl, ha, ra⟩ := rp_lst_at a
  exact wCall_of call_len_seq ⟨c, ws, rfl, .inl (SqL.of ha), by rw [ra.length]; exact k.val m q (.int _)⟩
theorem c_lenT (q : Φ (.int xs.length) μ) : dCall X (.builtin "len") [.tup xs] μ Φ := fun vs H r m Q k => by
  obtain ⟨v, rfl, a⟩ := rp1 r
  obtain ⟨c, ws, rfl, ha, ra⟩ := rp_tup_at a
  exact wCall_of call_len_seq ⟨c, ws, rfl, .inr (SqT.of ha), by rw [ra.length]; exact k.val m q (.int _)⟩
theorem c_lenM (h : μ p = some (.lst xs)) (q : Φ (.int xs.length) μ) : dCall X (.builtin "len") [.ref p] μ Φ := fun vs H r m Q k => by
  obtain ⟨v, rfl, a⟩ := rp1 r
  cases rp_ref a
  obtain ⟨ws, ha, ra⟩ := m.lst h
  exact wCall_of call_len_seq ⟨p, ws, rfl, .inl (SqL.of ha), by rw [ra.length]; exact k.val m q (.int _)⟩
theorem c_lenS (h : x.length ≤ sizeLine) (q : Φ (.int x.length) μ) : dCall X (.builtin "len") [.str x] μ Φ := fun vs H r m Q k => by
  obtain ⟨v, rfl, a⟩ := rp1 r
  cases rp_str a
  exact wCall_of call_len_str ⟨x, rfl, h, k.val m q (.int _)⟩
/-- list(..): a copy that stays; one that may change -/
theorem c_listS {ns : List Int} (q : Φ (.lst (ns.map .int)) μ) : dCall X (.type "list") [.scr ns] μ Φ := fun vs H r m Q k => by
  obtain ⟨v, rfl, a⟩ := rp1 r
  cases a with
  | scr h => exact wCall_of call_list_of ⟨_, _, rfl, .inl (seq_sub im_all h), fun l hl => k.new m hl q (rp_lst m hl .of_ints)⟩
theorem c_listL (q : Φ (.lst xs) μ) : dCall X (.type "list") [.lst xs] μ Φ := fun vs H r m Q k => by
  obtain ⟨v, rfl, a⟩ := rp1 r
  obtain ⟨a, ws, rfl, ha, ra⟩ := rp_lst_at a
  exact wCall_of call_list_of ⟨_, _, rfl, .inl (SqL.of ha), fun l hl => k.new m hl q (rp_lst m hl ra)⟩
theorem c_listT (q : Φ (.lst xs) μ) : dCall X (.type "list") [.tup xs] μ Φ := fun vs H r m Q k => by
  obtain ⟨v, rfl, a⟩ := rp1 r
  obtain ⟨a, ws, rfl, ha, ra⟩ := rp_tup_at a
  exact wCall_of call_list_of ⟨_, _, rfl, .inr (SqT.of ha), fun l hl => k.new m hl q (rp_lst m hl ra)⟩
theorem c_listM (h : μ p = some (.lst xs)) (q : Φ (.lst xs) μ) : dCall X (.type "list") [.ref p] μ Φ := fun vs H r m Q k => by
  obtain ⟨v, rfl, a⟩ := rp1 r
  cases rp_ref a
  obtain ⟨ws, ha, ra⟩ := m.lst h
  exact wCall_of call_list_of ⟨_, _, rfl, .inl (SqL.of ha), fun l hl => k.new m hl q (rp_lst m hl ra)⟩
theorem c_listLN (q : ∀ l, μ l = none → Φ (.ref l) (updM μ l (.lst xs))) : dCall X (.type "list") [.lst xs] μ Φ := fun vs H r m Q k => by
  obtain ⟨v, rfl, a⟩ := rp1 r
  obtain ⟨a, ws, rfl, ha, ra⟩ := rp_lst_at a
  exact wCall_of call_list_of ⟨_, _, rfl, .inl (SqL.of ha), fun l hl => k.newM m hl ra q⟩
theorem c_listTN (q : ∀ l, μ l = none → Φ (.ref l) (updM μ l (.lst xs))) : dCall X (.type "list") [.tup xs] μ Φ := fun vs H r m Q k => by
  obtain ⟨v, rfl, a⟩ := rp1 r
  obtain ⟨a, ws, rfl, ha, ra⟩ := rp_tup_at a
  exact wCall_of call_list_of ⟨_, _, rfl, .inr (SqT.of ha), fun l hl => k.newM m hl ra q⟩
theorem c_tupL (q : Φ (.tup xs) μ) : dCall X (.type "tuple") [.lst xs] μ Φ := fun vs H r m Q k => by
  obtain ⟨v, rfl, a⟩ := rp1 r
  obtain ⟨a, ws, rfl, ha, ra⟩ := rp_lst_at a
  exact wCall_of call_tuple_of ⟨_, _, rfl, .inl ⟨SqL.of ha, fun l hl => k.new m hl q (rp_tup m hl ra)⟩⟩
theorem c_tupT (q : Φ (.tup xs) μ) : dCall X (.type "tuple") [.tup xs] μ Φ := fun vs H r m Q k => by
  obtain ⟨v, rfl, a⟩ := rp1 r
  obtain ⟨b, ws, e, ha, ra⟩ := rp_tup_at a
  subst e
  exact wCall_of call_tuple_of ⟨_, _, rfl, .inr ⟨SqT.of ha, k.val m q a⟩⟩
end
end

/-! ### == at any depth -/
mutual
inductive Py (μ : Mu) : D → PyData → Prop
  | non : Py μ .non .none
  | bl (b : Bool) : Py μ (.bl b) (.bool b)
  | int (i : Int) : Py μ (.int i) (.int i)
  | str (x : Str) : Py μ (.str x) (.str x)
  | lst {ds : List D} {ps : List PyData} : PyAll μ ds ps → Py μ (.lst ds) (.list ps)
  | tup {ds : List D} {ps : List PyData} : PyAll μ ds ps → Py μ (.tup ds) (.tuple ps)
  | ref {p : Addr} {ds : List D} {ps : List PyData} : μ p = some (.lst ds) → PyAll μ ds ps → Py μ (.ref p) (.list ps)
inductive PyAll (μ : Mu) : List D → List PyData → Prop
  | nil : PyAll μ [] []
  | cons {d : D} {ds : List D} {p : PyData} {ps : List PyData} : Py μ d p → PyAll μ ds ps → PyAll μ (d :: ds) (p :: ps)
end
theorem PyAll.ints {μ : Mu} : ∀ {ns : List Int}, PyAll μ (ns.map D.int) (ns.map PyData.int)
  | [] => .nil
  | n :: _ => .cons (.int n) PyAll.ints
section
variable {X : Cx} {G0 : Hp} {μ : Mu} {Φ : DK} {K : PySem.W.Frag} {H : Hp}
mutual
theorem Py.dp (m : MuOk K μ H) : ∀ {d : D} {p : PyData}, Py μ d p → ∀ {v : V}, Rp K (Im μ H) v d → Dp K H v p
  | _, _, .non, _, .non => .non
  | _, _, .bl b, _, .bl _ => .bl b
  | _, _, .int i, _, .int _ => .int i
  | _, _, .str x, _, .str _ => .str x
  | _, _, .lst h, _, .lst a r => .lst (SqL.of (im_all _ _ a)) (PyAll.dp m h r)
  | _, _, .tup h, _, .tup a r => .tup (SqT.of (im_all _ _ a)) (PyAll.dp m h r)
  | _, _, .ref (p := p) e h, v, r => by
    obtain ⟨vs, ha, ra⟩ := m.lst e
    have q := rp_ref r
    subst q
    exact .lst (SqL.of ha) (PyAll.dp m h ra)
theorem PyAll.dp (m : MuOk K μ H) : ∀ {ds : List D} {ps : List PyData}, PyAll μ ds ps → ∀ {vs : List V}, RpAll K (Im μ H) vs ds → DpAll K H vs ps
  | _, _, .nil, _, .nil => .nil
  | _, _, .cons h t, _, .cons a r => .cons (Py.dp m h a) (PyAll.dp m t r)
end
theorem o_eqD {x y : D} {p q : PyData} (hu : X.A.units + 64 < cLine) (hx : Py μ x p) (hy : Py μ y q) (sp : SeqAt.shaped p = true) (sq : SeqAt.shaped q = true) (k : Φ (.bl (PyData.eqv p q)) μ) : dOp X (compareOp .Eq) x y μ Φ := fun v u H r1 r2 m Q kk =>
  wOp_of (op_eqD hu) ⟨p, q, hx.dp m r1, hy.dp m r2, sp, sq, kk.val m k (.bl _)⟩
theorem o_neD {x y : D} {p q : PyData} (hu : X.A.units + 64 < cLine) (hx : Py μ x p) (hy : Py μ y q) (sp : SeqAt.shaped p = true) (sq : SeqAt.shaped q = true) (k : Φ (.bl (!PyData.eqv p q)) μ) : dOp X (compareOp .NotEq) x y μ Φ := fun v u H r1 r2 m Q kk =>
  wOp_of (op_neD hu) ⟨p, q, hx.dp m r1, hy.dp m r2, sp, sq, kk.val m k (.bl _)⟩
/-- is None, is not None -/
theorem o_isN {x : D} {b : Bool} (hb : b = (match x with | .non => true | _ => false)) (k : Φ (.bl b) μ) : dOp X (compareOp .Is) x .non μ Φ := fun v u H r1 r2 m Q kk => by
  cases rp_non r2
  refine wOp_of op_isN ⟨rfl, kk.val m k ?_⟩
  have e : decide (v = V.non) = b := by
    subst hb
    cases r1 <;> rfl
  rw [e]
  exact .bl _
theorem o_notN {x : D} {b : Bool} (hb : b = (match x with | .non => false | _ => true)) (k : Φ (.bl b) μ) : dOp X (compareOp .IsNot) x .non μ Φ := fun v u H r1 r2 m Q kk => by
  cases rp_non r2
  refine wOp_of op_notN ⟨rfl, kk.val m k ?_⟩
  have e : (!decide (v = V.non)) = b := by
    subst hb
    cases r1 <;> rfl
  rw [e]
  exact .bl _
end

/-! ### statements -/
structure DEnds where
  nx : List (Option D) → Mu → Prop
  rt : DK
  bk : List (Option D) → Mu → Prop := fun _ _ => False
  ct : List (Option D) → Mu → Prop := fun _ _ => False
def dEn (K : PySem.W.Frag) (G0 : Hp) (E : DEnds) : Ends where
  nx := fun σ H => ∃ δ μ, E.nx δ μ ∧ Bd K G0 δ μ σ H
  rt := fun v H => ∃ d μ, E.rt d μ ∧ MuOk K μ H ∧ Sub G0 (Im μ H) ∧ Rp K (Im μ H) v d
  bk := fun σ H => ∃ δ μ, E.bk δ μ ∧ Bd K G0 δ μ σ H
  ct := fun σ H => ∃ δ μ, E.ct δ μ ∧ Bd K G0 δ μ σ H
def dS (X : Cx) (G0 : Hp) (st : Stmt) (δ : List (Option D)) (μ : Mu) (E : DEnds) : Prop := ∀ σ H, Bd X.K G0 δ μ σ H → wS X st (dEn X.K G0 E) σ H
def dSs (X : Cx) (G0 : Hp) (st : List Stmt) (δ : List (Option D)) (μ : Mu) (E : DEnds) : Prop := ∀ σ H, Bd X.K G0 δ μ σ H → wSs X st (dEn X.K G0 E) σ H
/-- D's ends are D' 's -/
structure Ends.Le (D D' : Ends) : Prop where
  nx : ∀ σ H, D.nx σ H → D'.nx σ H
  rt : ∀ v H, D.rt v H → D'.rt v H
  bk : ∀ σ H, D.bk σ H → D'.bk σ H
  ct : ∀ σ H, D.ct σ H → D'.ct σ H
section
variable {X : Cx} {G0 G1 : Hp} {st : Stmt} {sts rest : List Stmt} {δ : List (Option D)} {μ : Mu} {E E' : DEnds} {e a b c : Expr} {pos : Pos} {σ : L2.St} {H : Hp}
theorem SP.le {D D' : Ends} {pins : List (Addr × Obj)} (l : Ends.Le D D') {f : Flow} {s : Shared} (h : SP X pins D f s) : SP X pins D' f s := by
  cases f with
  | next => obtain ⟨σ, H, I, q⟩ := h; exact ⟨σ, H, I, l.nx _ _ q⟩
  | brk => obtain ⟨σ, H, I, q⟩ := h; exact ⟨σ, H, I, l.bk _ _ q⟩
  | cont => obtain ⟨σ, H, I, q⟩ := h; exact ⟨σ, H, I, l.ct _ _ q⟩
  | ret u => obtain ⟨v, σ, H, I, r, q⟩ := h; exact ⟨v, σ, H, I, r, l.rt _ _ q⟩
theorem wS_mono {D D' : Ends} (l : Ends.Le D D') (h : wS X st D σ H) : wS X st D' σ H := fun pins s I => thn (h pins s I) fun _ _ q => SP.le l q
theorem wSs_mono {D D' : Ends} (l : Ends.Le D D') (h : wSs X sts D σ H) : wSs X sts D' σ H := fun pins s I => thn (h pins s I) fun _ _ q => SP.le l q
theorem dEn_rt {K : PySem.W.Frag} {v : V} {d : D} {μ : Mu} (q : E.rt d μ) (m : MuOk K μ H) (e : Sub G0 (Im μ H)) (r : Rp K (Im μ H) v d) : (dEn K G0 E).rt v H := ⟨d, μ, q, m, e, r⟩
theorem s_nil (q : E.nx δ μ) : dSs X G0 [] δ μ E := fun σ H B => wSs_of pss_nil ⟨δ, μ, q, B⟩
theorem s_cons (h : dS X G0 st δ μ { E with nx := fun δ' μ' => dSs X G0 rest δ' μ' E }) : dSs X G0 (st :: rest) δ μ E := fun σ H B => by
  refine wSs_of (pss_cons ps_w pss_w) ?_
  refine wS_mono (D := dEn X.K G0 { E with nx := fun δ' μ' => dSs X G0 rest δ' μ' E }) ⟨fun σ' H' q => ?_, fun _ _ q => q, fun _ _ q => q, fun _ _ q => q⟩ (h σ H B)
  obtain ⟨δ', μ', q, B'⟩ := q
  exact q σ' H' B'
theorem s_one (h : dS X G0 st δ μ E) : dSs X G0 [st] δ μ E := fun σ H B => wSs_of (pss_one ps_w) (h σ H B)
theorem s_set {i : Nat} {x : Str} {pos' : Pos} (h : dE X G0 e δ μ fun d μ' => E.nx (δ.set i (some d)) μ') (hN : X.N.Nodup := by assumption) (hi : X.N[i]? = some x := by rfl) (hx : Loc X.env.scope x := by first | exact Or.inl rfl | exact Or.inr rfl) (hs : swapsWith e (some (.Name x pos')) pos.line X.env = pure false := by rfl)
    (hf : X.fn x = true ∨ X.env.scope.names.lookup x = some .local := by first | exact .inl rfl | exact .inr rfl) : dS X G0 (.Assign [.Name x pos'] e pos) δ μ E := fun σ H B => by
  refine wS_of (ps_set (i := i) hN hi hx pe_w hs hf) ?_
  refine h.go B fun v H1 d μ1 q m1 e1 r1 => ?_
  exact ⟨_, μ1, q, (B.step m1 e1).set r1⟩
theorem s_expr (h : dE X G0 e δ μ fun _ μ' => E.nx δ μ') (hs : swapsWith e none pos.line X.env = pure false := by rfl) : dS X G0 (.Expr e pos) δ μ E := fun σ H B => by
  refine wS_of (ps_expr pe_w hs) ?_
  refine h.go B fun v H1 d μ1 q m1 e1 r1 => ?_
  exact ⟨δ, μ1, q, B.step m1 e1⟩
theorem s_ret (h : dE X G0 e δ μ E.rt) : dS X G0 (.Return (some e) pos) δ μ E := fun σ H B => by
  refine wS_of (ps_ret pe_w) ?_
  refine h.go B fun v H1 d μ1 q m1 e1 r1 => ?_
  exact ⟨d, μ1, q, m1, B.base.trans e1, r1⟩
theorem s_retN (q : E.rt .non μ) : dS X G0 (.Return none pos) δ μ E := fun σ H B => wS_of ps_retN ⟨.non, μ, q, B.mu, B.base, .non⟩
theorem s_pass (q : E.nx δ μ) : dS X G0 (.Pass pos) δ μ E := fun σ H B => wS_of ps_pass ⟨δ, μ, q, B⟩
theorem s_break (q : E.bk δ μ) : dS X G0 (.Break pos) δ μ E := fun σ H B => wS_of ps_break ⟨δ, μ, q, B⟩
theorem s_cont (q : E.ct δ μ) : dS X G0 (.Continue pos) δ μ E := fun σ H B => wS_of ps_continue ⟨δ, μ, q, B⟩
theorem s_if {x y : List Stmt} (h : dT X G0 c δ μ fun k μ1 => (k = true → dSs X G0 x δ μ1 E) ∧ (k = false → dSs X G0 y δ μ1 E)) : dS X G0 (.If c x y pos) δ μ E := fun σ H B => by
  refine wS_of (ps_if pt_w pss_w pss_w) ?_
  refine h σ H B _ fun c H1 μ1 ⟨q1, q2⟩ m1 e1 => ?_
  cases c with
  | true => exact iteT (q1 rfl σ H1 (B.step m1 e1))
  | false => exact iteF (q2 rfl σ H1 (B.step m1 e1))
theorem s_aug {i : Nat} {x : Str} {op : Operator} {pos' : Pos} {d0 : D} (hd : δ[i]? = some (some d0)) (h : dE X G0 e δ μ fun d μ' => dOp X (inplaceOp op) d0 d μ' fun r μ2 => E.nx (δ.set i (some r)) μ2) (hN : X.N.Nodup := by assumption) (hi : X.N[i]? = some x := by rfl) (hx : Loc X.env.scope x := by first | exact Or.inl rfl | exact Or.inr rfl)
    (hf : X.fn x = true ∨ X.env.scope.names.lookup x = some .local := by first | exact .inl rfl | exact .inr rfl) : dS X G0 (.AugAssign (.Name x pos') op e pos) δ μ E := fun σ H B => by
  obtain ⟨v0, h0, r0⟩ := B.sl i d0 hd
  refine wS_of (ps_aug (i := i) (ti := wOp X (inplaceOp op)) hN hi hx pe_w (fun pins s σ H x y v u Q I rx ry q => op_w pins s σ H x y v u Q I rx ry q) hf) ⟨v0, h0, ?_⟩
  refine h.go B fun v H1 d μ1 q m1 e1 r1 => ?_
  refine q v0 v H1 (r0.mono e1) r1 m1 _ fun w H2 d2 μ2 q2 m2 e2 r2 => ?_
  exact ⟨_, μ2, q2, (B.step m2 (e1.trans e2)).set r2⟩
/-- x, y = e1, e2 -/
theorem s_par {i j : Nat} {x y : Str} {px py pt : Pos} {kt k2 pt2} (h : dA X G0 [a, b] δ μ fun ds μ' => ∃ d1 d2, ds = [d1, d2] ∧ E.nx ((δ.set i (some d1)).set j (some d2)) μ') (hN : X.N.Nodup := by assumption) (hc : X.calm = true := by rfl) (hi : X.N[i]? = some x := by rfl) (hj : X.N[j]? = some y := by rfl) (hij : i ≠ j := by decide)
    (hx : X.env.scope.names.lookup x = some .local := by rfl) (hy : X.env.scope.names.lookup y = some .local := by rfl)
    (hw : swappedStores [.Tuple [.Name x px, .Name y py] kt pt] (.Tuple [a, b] k2 pt2) X.env = pure (some [x, y]) := by rfl)
    (hs : swapsWithSole [.Tuple [.Name x px, .Name y py] kt pt] (.Tuple [a, b] k2 pt2) pos.line X.env = pure false := by rfl) :
    dS X G0 (.Assign [.Tuple [.Name x px, .Name y py] kt pt] (.Tuple [a, b] k2 pt2) pos) δ μ E := fun σ H B => by
  refine wS_of (ps_par hc hN hi hj hij hx hy pa_w hw hs) ?_
  refine h σ H B _ fun vs H1 ds μ1 ⟨d1, d2, ed, q⟩ m1 e1 r1 => ?_
  subst ed
  obtain ⟨v, w, rfl, r1, r2⟩ := rp2 r1
  exact ⟨v, w, rfl, _, μ1, q, ((B.step m1 e1).set r1).set r2⟩
/-- p[i] = e, p a list that may change -/
theorem s_item {o ix : Expr} {tpos : Pos} (h : dE X G0 e δ μ fun d μ1 => dE X G0 o δ μ1 fun dd μ2 => dE X G0 ix δ μ2 fun di μ3 => ∃ p k ds j, dd = .ref p ∧ di = .int k ∧ μ3 p = some (.lst ds) ∧ ixN ds.length k = some j ∧ E.nx δ (updM μ3 p (.lst (ds.set j d))))
    (ha : ∀ v, assign (.Subscript o ix tpos) X.env v = (do
      let ov ← holding [v] (eval o X.env)
      let iv ← holding [v, ov] (eval ix X.env)
      standAt tpos
      holding [v, ov, iv] (setItem ov iv v)
      release [v, ov, iv] []) := by intro _; rfl)
    (hs : swapsWithSole [.Subscript o ix tpos] e pos.line X.env = pure false := by rfl) (hw : swappedStores [.Subscript o ix tpos] e X.env = pure none := by rfl) (h1 : (assignEach [.Subscript o ix tpos] X.env).map (·.2) = [assign (.Subscript o ix tpos) X.env] := by rfl) :
    dS X G0 (.Assign [.Subscript o ix tpos] e pos) δ μ E := fun σ H B => by
  refine wS_of (ps_asg pe_w (pg_sub pe_w pe_w set_list ha) hs hw h1) ?_
  refine h.go B fun v H1 d μ1 q1 m1 e1 r1 => ?_
  refine q1.go (B.step m1 e1) fun vo H2 dd μ2 q2 m2 e2 r2 => ?_
  refine q2.go (B.step m2 (e1.trans e2)) fun vi H3 di μ3 q3 m3 e3 r3 => ?_
  obtain ⟨p, k, ds, j, rfl, rfl, hp, hj, q⟩ := q3
  cases rp_ref r2
  cases rp_int r3
  obtain ⟨vs, ha, ra⟩ := m3.lst hp
  have hi : Im (updM μ3 p (.lst (ds.set j d))) (upd H3 p (.lst (vs.set j v))) = Im μ3 H3 := im_upd (by rw [hp]; rfl)
  refine ⟨p, vs, k, j, rfl, rfl, ha, by rw [ra.length]; exact hj, δ, _, q, B.step (m3.upd hi (RpAll.set (r1.mono (e2.trans e3)) j ra)) ?_⟩
  rw [hi]
  exact e1.trans (e2.trans e3)
/-- xs.append(e) -/
theorem d_append {o : Expr} {apos : Pos} {Φ : DK} (h : dE X G0 o δ μ fun dd μ1 => ∃ p, dd = .ref p ∧ (∃ ds, μ1 p = some (.lst ds)) ∧ dE X G0 e δ μ1 fun d μ2 => ∃ ds, μ2 p = some (.lst ds) ∧ ds.length < sizeLine ∧ Φ .non (updM μ2 p (.lst (ds ++ [d]))))
    (hbase : attributeBase o "append" X.env (eval o X.env) = eval o X.env := by rfl)
    (hfew : ((backTo pos (starEach [e] X.env)).all (fun x => !x.1) && (backToKw pos (keywordEach [] X.env)).all (fun x => x.1.isSome)
      && decide ([e].length + ([] : List Keyword).length + (if ([] : List Keyword).isEmpty then 0 else 1) < 30)) = true := by rfl) (hline : (apos.endLine == pos.line) = true := by rfl) (hst : starEach [e] X.env = (false, eval e X.env) :: starEach [] X.env := by rfl) : dE X G0 (.Call (.Attribute o "append" apos) [e] [] pos) δ μ Φ := fun σ H B Q k => by
  refine wE_of (pe_bm PySem.F.plainAttrs_list PySem.F.slot_list_append PySem.F.type_list_append mt_append pe_w (pa_cons pe_w pa_nil hst) (hbase := hbase) (hfew := hfew) (hline := hline) (hs := hst)) ?_
  refine h σ H B _ fun vo H1 dd μ1 q1 m1 e1 r1 => ?_
  obtain ⟨p, rfl, ⟨ds, hp⟩, q1⟩ := q1
  cases rp_ref r1
  obtain ⟨vs, ha, ra⟩ := m1.lst hp
  refine ⟨.inl ⟨rfl, vs, SqL.of ha⟩, ?_⟩
  refine q1.go (B.step m1 e1) fun v H2 d μ2 q2 m2 e2 r2 => ?_
  obtain ⟨ds, hp, hl, q⟩ := q2
  obtain ⟨vs, ha, ra⟩ := m2.lst hp
  have hi : Im (updM μ2 p (.lst (ds ++ [d]))) (upd H2 p (.lst (vs ++ [v]))) = Im μ2 H2 := im_upd (by rw [hp]; rfl)
  refine ⟨p, vs, v, rfl, rfl, ha, by rw [ra.length]; exact hl, k _ _ _ _ q (m2.upd hi (ra.append (.cons r2 .nil))) ?_ .non⟩
  rw [hi]
  exact e1.trans e2
end
end DL

namespace DL
open PySem PySem.Spec PyProof.Rows L2

/-! ### loops -/
section
variable {X : Cx} {G0 G1 : Hp} {st : Stmt} {sts body : List Stmt} {δ : List (Option D)} {μ : Mu} {E E' : DEnds} {e a b c it tg : Expr} {pos : Pos} {σ : L2.St} {H : Hp}
/-- what stores an item into the target -/
def dG (X : Cx) (tg : Expr) (d : D) (δ : List (Option D)) (μ : Mu) (Ψ : List (Option D) → Prop) : Prop := ∀ (K : PySem.W.Frag), K = X.K → ∀ G0 σ H v, Bd X.K G0 δ μ σ H → Rp X.K (Im μ H) v d → ∀ Q : L2.St → Hp → Prop, (∀ δ' σ', Ψ δ' → Bd X.K G0 δ' μ σ' H → Q σ' H) →
  ∀ pins s u, Inv X pins σ H s → RelV v u → wpAny (model X.prog X.w) X.A (assign tg X.env u) (fun _ s' => ∃ σ' H', Inv X pins σ' H' s' ∧ Q σ' H') X.xe s
def gW (X : Cx) (tg : Expr) : TG := fun v σ H Q => ∀ pins s u, Inv X pins σ H s → RelV v u → wpAny (model X.prog X.w) X.A (assign tg X.env u) (fun _ s' => ∃ σ' H', Inv X pins σ' H' s' ∧ Q σ' H') X.xe s
theorem pg_w : PG X tg (gW X tg) := ⟨fun pins s σ H v u Q I r h => h pins s u I r⟩
theorem gW_of {t : TG} {v : V} {Q : L2.St → Hp → Prop} (h : PG X tg t) (q : t v σ H Q) : gW X tg v σ H Q := fun pins s u I r => h.run pins s σ H v u Q I r q
/-- the target's store, on data -/
def dTg (X : Cx) (tg : Expr) (d : D) (δ : List (Option D)) (Ψ : List (Option D) → Prop) : Prop := ∀ G0 μ σ H v, Bd X.K G0 δ μ σ H → Rp X.K (Im μ H) v d → ∀ Q : L2.St → Hp → Prop, (∀ δ' σ', Ψ δ' → Bd X.K G0 δ' μ σ' H → Q σ' H) → gW X tg v σ H Q
theorem g_name {i : Nat} {x : Str} {d : D} {Ψ : List (Option D) → Prop} (h : Ψ (δ.set i (some d))) (hN : X.N.Nodup := by assumption) (hi : X.N[i]? = some x := by rfl) (hx : Loc X.env.scope x := by first | exact Or.inl rfl | exact Or.inr rfl) (hf : X.fn x = true ∨ X.env.scope.names.lookup x = some .local := by first | exact .inl rfl | exact .inr rfl) : dTg X (.Name x pos) d δ Ψ := fun G0 μ σ H v B r Q k =>
  gW_of (pg_name (i := i) hN hi hx hf) (k _ _ h (B.set r))
/-- a, b = a tuple of two -/
theorem g_pair {i j : Nat} {x y : Str} {px py : Pos} {kk : Nat} {d1 d2 : D} {Ψ : List (Option D) → Prop} (h : Ψ ((δ.set i (some d1)).set j (some d2))) (hN : X.N.Nodup := by assumption) (hc : X.calm = true := by rfl) (hi : X.N[i]? = some x := by rfl) (hj : X.N[j]? = some y := by rfl) (hx : Loc X.env.scope x := by first | exact Or.inl rfl | exact Or.inr rfl) (hy : Loc X.env.scope y := by first | exact Or.inl rfl | exact Or.inr rfl)
    (hf : X.fn x = true ∨ X.env.scope.names.lookup x = some .local := by first | exact .inl rfl | exact .inr rfl) (hf2 : X.fn y = true ∨ X.env.scope.names.lookup y = some .local := by first | exact .inl rfl | exact .inr rfl)
    (hs1 : (assignEach [.Name x px, .Name y py] X.env).map (·.2) = assign (.Name x px) X.env :: (assignEach [.Name y py] X.env).map (·.2) := by rfl) (hs2 : (assignEach [.Name y py] X.env).map (·.2) = assign (.Name y py) X.env :: (assignEach [] X.env).map (·.2) := by rfl)
    (hn : (assignEach [.Name x px, .Name y py] X.env).length = 2 := by rfl) (hst : (assignEach [.Name x px, .Name y py] X.env).findIdx? (·.1) = none := by rfl) : dTg X (.Tuple [.Name x px, .Name y py] kk pos) (.tup [d1, d2]) δ Ψ := fun G0 μ σ H v B r Q k => by
  refine gW_of (pg_tup (n := 2) hc (pgs_cons (pg_name (i := i) hN hi hx hf) (pgs_cons (pg_name (i := j) hN hj hy hf2) pgs_nil hs2) hs1) hn hst) ?_
  obtain ⟨p, vs, rfl, ha, ra⟩ := rp_tup_at r
  obtain ⟨v1, v2, rfl, r1, r2⟩ := rp2 ra
  exact ⟨p, [v1, v2], rfl, SqT.of ha, rfl, v1, [v2], rfl, v2, [], rfl, rfl, k _ _ h ((B.set r1).set r2)⟩
/-- what a for walks: a list that stays -/
theorem s_forL {ds : List D} (h : dE X G0 it δ μ fun d μ1 => d = .lst ds ∧ ∃ Pv : Nat → List (Option D) → Mu → Prop, Pv 0 δ μ1 ∧
      (∀ (i : Nat) d δ' μ', ds[i]? = some d → Pv i δ' μ' → dTg X tg d δ' fun δ2 => ∀ G1, Sub G0 G1 → dSs X G1 body δ2 μ' { E with nx := Pv (i + 1), ct := Pv (i + 1), bk := E.nx }) ∧ ∀ δ' μ', Pv ds.length δ' μ' → E.nx δ' μ')
    (hp : PassesOwn (model X.prog X.w) X.A X.env X.xe := by assumption) (hc : X.calm = true := by rfl) (hs : ∀ x, foldedSetIterable it X.env x = pure x := by intro _; rfl) : dS X G0 (.For tg it body [] pos) δ μ E := fun σ H B => by
  refine wS_of (ps_for hp hc (pi_list pe_w) pg_w pss_w hs) ?_
  refine h.go B fun v H1 d μ1 ⟨ed, Pv, p0, turn, fin⟩ m1 e1 r1 => ?_
  subst ed
  obtain ⟨a, vs, rfl, hG, ra⟩ : ∃ a vs, v = .ref a ∧ Im μ1 H1 a = some (.lst vs) ∧ RpAll X.K (Im μ1 H1) vs ds := by
    cases r1 with
    | lst h r => exact ⟨_, _, rfl, h, r⟩
  have B1 := B.step m1 e1
  refine ⟨a, rfl, ⟨vs, SqL.of (im_all _ _ hG)⟩, for_list (xs := vs) (fun i σ' H' => ∃ δ' μ', Pv i δ' μ' ∧ Bd X.K (Im μ1 H1) δ' μ' σ' H') ⟨δ, μ1, p0, B1.rebase⟩ (fun i σ' H' _ ⟨δ', μ', _, B'⟩ => SqL.of (im_all _ _ (B'.base _ _ hG))) (fun i x σ' H' hx ⟨δ', μ', hP, B'⟩ => ?_) (fun σ' H' ⟨δ', μ', hP, B'⟩ => ?_)⟩
  · have hi : i < ds.length := by rw [← ra.length]; exact (List.getElem?_eq_some_iff.mp hx).1
    obtain ⟨w', hw, rw'⟩ := ra.get (List.getElem?_eq_getElem hi)
    rw [hw] at hx
    cases hx
    refine turn i _ δ' μ' (List.getElem?_eq_getElem hi) hP (Im μ1 H1) μ' σ' H' x B' (rw'.mono B'.base) _ fun δ2 σ2 q B2 => ?_
    refine wSs_mono ?_ (q (Im μ1 H1) B1.base σ2 H' B2)
    exact ⟨fun _ _ q => q, fun v H ⟨d, μ, q, m, e, r⟩ => ⟨d, μ, q, m, B1.base.trans e, r⟩, fun _ _ ⟨δ, μ, q, B⟩ => ⟨δ, μ, q, B.weaken B1.base⟩, fun _ _ q => q⟩
  · rw [ra.length] at hP
    exact ⟨δ', μ', fin δ' μ' hP, B'.weaken B1.base⟩
/-- a tuple -/
theorem s_forT {ds : List D} (h : dE X G0 it δ μ fun d μ1 => d = .tup ds ∧ ∃ Pv : Nat → List (Option D) → Mu → Prop, Pv 0 δ μ1 ∧
      (∀ (i : Nat) d δ' μ', ds[i]? = some d → Pv i δ' μ' → dTg X tg d δ' fun δ2 => ∀ G1, Sub G0 G1 → dSs X G1 body δ2 μ' { E with nx := Pv (i + 1), ct := Pv (i + 1), bk := E.nx }) ∧ ∀ δ' μ', Pv ds.length δ' μ' → E.nx δ' μ')
    (hp : PassesOwn (model X.prog X.w) X.A X.env X.xe := by assumption) (hc : X.calm = true := by rfl) (hs : ∀ x, foldedSetIterable it X.env x = pure x := by intro _; rfl) : dS X G0 (.For tg it body [] pos) δ μ E := fun σ H B => by
  refine wS_of (ps_for hp hc (pi_tup pe_w) pg_w pss_w hs) ?_
  refine h.go B fun v H1 d μ1 ⟨ed, Pv, p0, turn, fin⟩ m1 e1 r1 => ?_
  subst ed
  obtain ⟨a, vs, rfl, hG, ra⟩ : ∃ a vs, v = .ref a ∧ Im μ1 H1 a = some (.tup vs) ∧ RpAll X.K (Im μ1 H1) vs ds := by
    cases r1 with
    | tup h r => exact ⟨_, _, rfl, h, r⟩
  have B1 := B.step m1 e1
  refine ⟨a, rfl, ⟨vs, SqT.of (im_all _ _ hG)⟩, for_tup (xs := vs) (fun i σ' H' => ∃ δ' μ', Pv i δ' μ' ∧ Bd X.K (Im μ1 H1) δ' μ' σ' H') ⟨δ, μ1, p0, B1.rebase⟩ (fun i σ' H' _ ⟨δ', μ', _, B'⟩ => SqT.of (im_all _ _ (B'.base _ _ hG))) (fun i x σ' H' hx ⟨δ', μ', hP, B'⟩ => ?_) (fun σ' H' ⟨δ', μ', hP, B'⟩ => ?_)⟩
  · have hi : i < ds.length := by rw [← ra.length]; exact (List.getElem?_eq_some_iff.mp hx).1
    obtain ⟨w', hw, rw'⟩ := ra.get (List.getElem?_eq_getElem hi)
    rw [hw] at hx
    cases hx
    refine turn i _ δ' μ' (List.getElem?_eq_getElem hi) hP (Im μ1 H1) μ' σ' H' x B' (rw'.mono B'.base) _ fun δ2 σ2 q B2 => ?_
    refine wSs_mono ?_ (q (Im μ1 H1) B1.base σ2 H' B2)
    exact ⟨fun _ _ q => q, fun v H ⟨d, μ, q, m, e, r⟩ => ⟨d, μ, q, m, B1.base.trans e, r⟩, fun _ _ ⟨δ, μ, q, B⟩ => ⟨δ, μ, q, B.weaken B1.base⟩, fun _ _ q => q⟩
  · rw [ra.length] at hP
    exact ⟨δ', μ', fin δ' μ' hP, B'.weaken B1.base⟩
/-- for x in range(n) -/
theorem s_forR {a : Expr} {p : Pos} (h : dA X G0 [a] δ μ fun ds μ1 => ∃ n : Int, ds = [.int n] ∧ n < 2 ^ 62 ∧ -(2 ^ 62) ≤ n ∧ ∃ Pv : Nat → List (Option D) → Mu → Prop, Pv 0 δ μ1 ∧
      (∀ (i : Nat) δ' μ', i < n.toNat → Pv i δ' μ' → dTg X tg (.int i) δ' fun δ2 => ∀ G1, Sub G0 G1 → dSs X G1 body δ2 μ' { E with nx := Pv (i + 1), ct := Pv (i + 1), bk := E.nx }) ∧ ∀ δ' μ', Pv n.toNat δ' μ' → E.nx δ' μ')
    (hp : PassesOwn (model X.prog X.w) X.A X.env X.xe := by assumption) (hm : X.mg "range" = none := by assumption) (hc : X.calm = true := by rfl) (hg : Gl X "range" := by rfl) (hs : starEach [a] X.env = [(false, eval a X.env)] := by rfl) (hs2 : ∀ x, foldedSetIterable (.Call (.Name "range" p) [a] [] pos) X.env x = pure x := by intro _; rfl) {pos2 : Pos} :
    dS X G0 (.For tg (.Call (.Name "range" p) [a] [] pos) body [] pos2) δ μ E := fun σ H B => by
  refine wS_of (ps_for hp hc (pi_range1 hg hm pa_w hs) pg_w pss_w hs2) ?_
  refine h σ H B _ fun vs H1 ds μ1 ⟨n, ed, b1, b2, Pv, p0, turn, fin⟩ m1 e1 r1 => ?_
  subst ed
  obtain ⟨v, rfl, r2⟩ := rp1 r1
  cases rp_int r2
  have B1 := B.step m1 e1
  refine ⟨n, rfl, b2, b1, for_range (lo := 0) (n := n.toNat) (fun i σ' H' => ∃ δ' μ', Pv i δ' μ' ∧ Bd X.K (Im μ1 H1) δ' μ' σ' H') ⟨δ, μ1, p0, B1.rebase⟩ (fun i σ' H' hi ⟨δ', μ', hP, B'⟩ => ?_) (fun σ' H' ⟨δ', μ', hP, B'⟩ => ?_)⟩
  · have e0 : (0 : Int) + (i : Int) = (i : Int) := Int.zero_add _
    rw [e0]
    refine turn i δ' μ' hi hP (Im μ1 H1) μ' σ' H' _ B' (.int _) _ fun δ2 σ2 q B2 => ?_
    refine wSs_mono ?_ (q (Im μ1 H1) B1.base σ2 H' B2)
    exact ⟨fun _ _ q => q, fun v H ⟨d, μ, q, m, e, r⟩ => ⟨d, μ, q, m, B1.base.trans e, r⟩, fun _ _ ⟨δ, μ, q, B⟩ => ⟨δ, μ, q, B.weaken B1.base⟩, fun _ _ q => q⟩
  · exact ⟨δ', μ', fin δ' μ' hP, B'.weaken B1.base⟩
/-- while, by a word and a number that falls -/
theorem s_while (Pv : List (Option D) → Mu → Prop) (ms : List (Option D) → Mu → Nat) (h0 : Pv δ μ)
    (hs : ∀ δ' μ', Pv δ' μ' → dT X G0 c δ' μ' fun k μ2 => (k = true → dSs X G0 body δ' μ2 { E with nx := fun δ3 μ3 => Pv δ3 μ3 ∧ ms δ3 μ3 < ms δ' μ', ct := fun δ3 μ3 => Pv δ3 μ3 ∧ ms δ3 μ3 < ms δ' μ', bk := E.nx }) ∧ (k = false → E.nx δ' μ2))
    (hp : PassesOwn (model X.prog X.w) X.A X.env X.xe := by assumption) : dS X G0 (.While c body [] pos) δ μ E := fun σ H B => by
  refine wS_of (ps_while hp pt_w pss_w) ?_
  refine ⟨fun m σ' H' => ∃ δ' μ', m = ms δ' μ' ∧ Pv δ' μ' ∧ Bd X.K G0 δ' μ' σ' H', ⟨_, δ, μ, rfl, h0, B⟩, fun m σ' H' ⟨δ', μ', em, hP, B'⟩ => ?_⟩
  subst em
  refine hs δ' μ' hP σ' H' B' _ fun k H1 μ2 ⟨q1, q2⟩ m1 e1 => ?_
  have B2 := B'.step m1 e1
  cases k with
  | true =>
    rw [if_pos rfl]
    refine ⟨fun σ3 H3 => ∃ δ3 μ3, (Pv δ3 μ3 ∧ ms δ3 μ3 < ms δ' μ') ∧ Bd X.K G0 δ3 μ3 σ3 H3, fun σ3 H3 ⟨δ3, μ3, ⟨p3, l3⟩, B3⟩ => ⟨_, l3, δ3, μ3, rfl, p3, B3⟩, q1 rfl σ' H1 B2⟩
  | false =>
    rw [if_neg Bool.false_ne_true]
    exact ⟨δ', μ2, q2 rfl, B2⟩
end

/-! ### defs -/
/-- an error that leaves: its class, what its own dict holds -/
abbrev DX := Addr → List (Str × D) → Mu → Prop
/-- a def's promise: arguments, what may change, what is wanted of its value, of its error -/
abbrev DSp := List D → Mu → DK → DX → Prop
/-- an error as it stands: its class, its dict, what this holds -/
def ErrAt (K : PySem.W.Frag) (μ : Mu) (H : Hp) (C d : Addr) (gs : List (Str × D)) : Prop := ∀ a, Rp K (Im μ H) (.ref a) (.exc a C d gs)
/-- an error that carries nothing: no own dict -/
def bareG : List (Str × D) := [("", .non)]
def KX (K : PySem.W.Frag) (μ : Mu) (H : Hp) (Ψ : DX) (E : XK) : Prop :=
  (∀ (C d : Addr) H2 gs μ2, Ψ C gs μ2 → MuOk K μ2 H2 → Sub (Im μ H) (Im μ2 H2) → ErrAt K μ2 H2 C d gs → E (.ref C) (some d) H2) ∧
  ∀ (C : Addr) H2 μ2, Ψ C bareG μ2 → MuOk K μ2 H2 → Sub (Im μ H) (Im μ2 H2) → E (.ref C) none H2
def liftSp (K : PySem.W.Frag) (sp : DSp) : Sp := fun vs H Q E => ∃ ds μ Φ Ψ, RpAll K (Im μ H) vs ds ∧ MuOk K μ H ∧ sp ds μ Φ Ψ ∧ KP K μ H Φ Q ∧ KX K μ H Ψ E
abbrev NoX : DX := fun _ _ _ => False
/-- a def that stands, and may be called -/
structure Cal (P : Program) (w : World) (K : PySem.W.Frag) (mg : Str → Option Value) (base : Heap) (k : Nat) (x : Str) (sp : DSp) : Prop where
  ex : ∃ (f : Addr) (fd : FuncData) (ps : List Str), FnOk P w K mg base (L2N.CX P w) k f fd ps (liftSp K sp) ∧ mg x = some (.ref f) ∧ PySem.W.keepIn K (.ref f) = true ∧ Binds K fd ps []
theorem passN {X : Cx} : Passes (L2N.CX X.prog X.w) X E0 := fun _ _ _ _ _ _ _ h => by
  obtain ⟨_, _, _, _, _, _, _, _, _, _, _, _, z⟩ := h
  exact z.elim
/-- errors are taken: what Ψ says of one, at the slots as they stand, is what is wanted -/
def dTk (X : Cx) (G0 : Hp) (Ψ : List (Option D) → DX) : Prop := ∃ W, L2N.Takes X W ∧ (∀ (C d : Addr) δ σ H2 gs μ2, Ψ δ C gs μ2 → Bd X.K G0 δ μ2 σ H2 → ErrAt X.K μ2 H2 C d gs → W (.ref C) (some d) σ H2) ∧
  ∀ (C : Addr) δ σ H2 μ2, Ψ δ C bareG μ2 → Bd X.K G0 δ μ2 σ H2 → W (.ref C) none σ H2
theorem dTk.mono {X : Cx} {G0 G1 : Hp} {Ψ : List (Option D) → DX} (t : dTk X G0 Ψ) (e : Sub G0 G1) : dTk X G1 Ψ := by
  obtain ⟨W, tk, h, h0⟩ := t
  exact ⟨W, tk, fun C d δ σ H2 gs μ2 q B => h C d δ σ H2 gs μ2 q (B.weaken e), fun C δ σ H2 μ2 q B => h0 C δ σ H2 μ2 q (B.weaken e)⟩
section
variable {X : Cx} {G0 : Hp} {δ : List (Option D)} {μ : Mu} {Φ : DK} {pos : Pos} {e : Expr} {es : List Expr}
theorem noX {K : PySem.W.Frag} {μ : Mu} {H : Hp} {E : XK} : KX K μ H NoX E := ⟨fun _ _ _ _ _ h => h.elim, fun _ _ _ h => h.elim⟩
theorem d_call {j k : Nat} {x : Str} {sp : DSp} {p : Pos} (C : Cal X.prog X.w X.K X.mg X.base j x sp) (ha : dA X G0 (e :: es) δ μ fun xs μ1 => sp xs μ1 Φ NoX) (hr : Room k X.A := by assumption) (hj : j ≤ k := by decide) (hg : Gl X x := by rfl) (hdb : (x == ("__debug__" : Str)) = false := by decide)
    (he : starEach (e :: es) X.env = (false, eval e X.env) :: starEach es X.env := by rfl) (hpl : (backTo pos (starEach es X.env)).any (·.1) = false := by rfl) : dE X G0 (.Call (.Name x p) (e :: es) [] pos) δ μ Φ := fun σ H B Q kk => by
  obtain ⟨f, fd, ps, F, hm, hk, hb⟩ := C.ex
  refine wE_of (pe_call F (hr.mono hj) hg hm hk hb .nil passN pa_w hdb he hpl) ?_
  refine ha σ H B _ fun vs H1 xs μ1 q m1 e1 r1 => ?_
  rw [List.append_nil]
  exact ⟨xs, μ1, Φ, NoX, r1, m1, q, kk.after e1, noX⟩
/-- the same where an error is taken -/
theorem d_callX {j k : Nat} {x : Str} {sp : DSp} {p : Pos} {Ψ : List (Option D) → DX} (C : Cal X.prog X.w X.K X.mg X.base j x sp) (tk : dTk X G0 Ψ) (ha : dA X G0 (e :: es) δ μ fun xs μ1 => sp xs μ1 Φ (Ψ δ)) (hr : Room k X.A := by assumption) (hj : j ≤ k := by decide) (hg : Gl X x := by rfl) (hdb : (x == ("__debug__" : Str)) = false := by decide)
    (he : starEach (e :: es) X.env = (false, eval e X.env) :: starEach es X.env := by rfl) (hpl : (backTo pos (starEach es X.env)).any (·.1) = false := by rfl) : dE X G0 (.Call (.Name x p) (e :: es) [] pos) δ μ Φ := fun σ H B Q kk => by
  obtain ⟨f, fd, ps, F, hm, hk, hb⟩ := C.ex
  obtain ⟨W, tw, tq⟩ := tk
  refine wE_of (pe_callS F (hr.mono hj) hg hm hk hb (fun σ => L2N.passAt tw σ) pa_w hdb he hpl) ?_
  refine ha σ H B _ fun vs H1 xs μ1 q m1 e1 r1 => ?_
  exact ⟨xs, μ1, Φ, Ψ δ, r1, m1, q, kk.after e1, fun C d H2 gs μ2 q2 m2 e2 er => tq.1 C d δ σ H2 gs μ2 q2 (B.step m2 (e1.trans e2)) er, fun C H2 μ2 q2 m2 e2 => tq.2 C δ σ H2 μ2 q2 (B.step m2 (e1.trans e2))⟩
end
/-- the slots at a def's start -/
def dst (N : List Str) (ds : List D) : List (Option D) := ds.map some ++ List.replicate (N.length - ds.length) none
theorem rp_slots {K : PySem.W.Frag} {G : Hp} : ∀ {vs : List V} {ds : List D} {n : Nat} (i : Nat) (d : D), RpAll K G vs ds → (ds.map some ++ List.replicate n none)[i]? = some (some d) → ∃ v, (vs.map some ++ List.replicate n none)[i]? = some (some v) ∧ Rp K G v d
  | _, _, n, i, d, .nil, h => by
    simp [List.getElem?_replicate] at h
  | _, _, n, 0, d, .cons (v := v) r t, h => by
    have e : _ = d := Option.some.inj (Option.some.inj h)
    subst e
    exact ⟨v, rfl, r⟩
  | _, _, n, i + 1, d, .cons r t, h => rp_slots i d t h
theorem bd_start {K : PySem.W.Frag} {μ : Mu} {H : Hp} {N : List Str} {vs : List V} {ds : List D} (r : RpAll K (Im μ H) vs ds) (m : MuOk K μ H) : Bd K (Im μ H) (dst N ds) μ (L2.start N vs) H := by
  refine ⟨?_, fun i d h => ?_, m, Sub.refl _⟩
  · unfold dst L2.start
    simp [r.length]
  · unfold dst at h
    unfold L2.start
    rw [r.length]
    exact rp_slots i d r h
section
variable {P : Program} {w : World} {K : PySem.W.Frag} {mg : Str → Option Value} {base : Heap}
/-- the context of a def's body -/
abbrev cxD (P : Program) (w : World) (K : PySem.W.Frag) (mg : Str → Option Value) (base : Heap) (N : List Str) (qual : Str) (st : Stmt) (f : Addr) (cd : Value) (A : Around) (outer : List Env) (s : Shared) (H : Hp) (E : XK) : Cx :=
  cxOf (L2N.CX P w) P w K mg base N qual (defScope st) f cd A outer s H E
/-- a def's body, on data -/
structure Body (P : Program) (w : World) (K : PySem.W.Frag) (mg : Str → Option Value) (base : Heap) (k : Nat) (N : List Str) (qual : Str) (st : Stmt) (ds : List D) (μ : Mu) (Φ : DK) (Ψ : DX) : Prop where
  go : ∀ (f : Addr) (cd : Value) (A : Around) (outer : List Env) (s : Shared) (H : Hp) (E : XK) (G0 : Hp), Room k (cxD P w K mg base N qual st f cd A outer s H E).A → PassesOwn (model P w) (cxD P w K mg base N qual st f cd A outer s H E).A (cxD P w K mg base N qual st f cd A outer s H E).env (cxD P w K mg base N qual st f cd A outer s H E).xe →
    dTk (cxD P w K mg base N qual st f cd A outer s H E) G0 (fun _ => Ψ) → dSs (cxD P w K mg base N qual st f cd A outer s H E) G0 (defBody st) (dst N ds) μ { nx := fun _ μ' => Φ .non μ', rt := Φ }
theorem cal_fn {x qual : Str} {st : Stmt} {f : Addr} {N ps : List Str} {k : Nat} {sp : DSp} {oc : Value} {od : Option Addr} {dV kV doc pm : Value} {an : Option Addr} {cdv ct : Value} {osl : Array (Option Value)}
    (lk : K.lookup f = some ⟨oc, od, .func (PySem.W.fnOf x qual (defArgs st) (defBody st) (defScope st) dV kV doc pm an cdv ct), osl⟩) (hcd : PySem.W.codeIn K cdv qual = true) (S : FnScope N ps (defScope st)) (len : ∀ ds μ Φ Ψ, sp ds μ Φ Ψ → ds.length = ps.length)
    (h : ∀ ds μ Φ Ψ, sp ds μ Φ Ψ → Body P w K mg base k N qual st ds μ Φ Ψ) : FnOk P w K mg base (L2N.CX P w) (k + 1) f (PySem.W.fnOf x qual (defArgs st) (defBody st) (defScope st) dV kV doc pm an cdv ct) ps (liftSp K sp) := by
  refine fn_of lk hcd S (fun vs H Q E hs => ?_) (fun A outer s H vs Q E hr hs => ?_)
  · obtain ⟨ds, μ, Φ, Ψ, r, _, q, _⟩ := hs
    rw [r.length]
    exact len ds μ Φ Ψ q
  · obtain ⟨ds, μ, Φ, Ψ, r, m, q, kk, kx⟩ := hs
    refine ⟨_, pss_w, ?_⟩
    have B := bd_start (N := N) r m
    refine wSs_mono (D := dEn K (Im μ H) { nx := fun _ μ' => Φ .non μ', rt := Φ }) ⟨fun σ' H' ⟨δ', μ', q', B'⟩ => ?_, fun v H' ⟨d, μ', q', m', e', r'⟩ => kk v H' d μ' q' m' e' r', fun _ _ ⟨_, _, q', _⟩ => q'.elim, fun _ _ ⟨_, _, q', _⟩ => q'.elim⟩
      ((h ds μ Φ Ψ q).go f cdv A outer s H E (Im μ H) hr (passes_of rfl) ⟨_, L2N.takes_of rfl rfl rfl rfl, fun C d δ σ H2 gs μ2 q2 B2 er => kx.1 C d H2 gs μ2 q2 B2.mu B2.base er, fun C δ σ H2 μ2 q2 B2 => kx.2 C H2 μ2 q2 B2.mu B2.base⟩ _ H B)
    exact kk .non H' .non μ' q' B'.mu B'.base .non
theorem cal_of {x qual : Str} {st : Stmt} {f : Addr} {fd : FuncData} {N ps : List Str} {k : Nat} {sp : DSp} (F : Fun K x qual st f fd) (hm : mg x = some (.ref f)) (hb : Binds K fd ps []) (S : FnScope N ps (defScope st)) (len : ∀ ds μ Φ Ψ, sp ds μ Φ Ψ → ds.length = ps.length)
    (h : ∀ ds μ Φ Ψ, sp ds μ Φ Ψ → Body P w K mg base k N qual st ds μ Φ Ψ) : Cal P w K mg base (k + 1) x sp := by
  obtain ⟨oc, od, kV, doc, pm, an, cdv, ct, osl, rfl, lk, hcd⟩ := F.ex
  exact ⟨f, _, ps, cal_fn lk hcd S len h, hm, F.kp, hb⟩
end
end DL

namespace DL
open PySem PySem.Spec PyProof.Rows L2
/-- a def of the text, as it stands behind the top -/
structure DefT (K : PySem.W.Frag) (mg : Str → Option Value) (x : Str) (st : Stmt) (ps : List Str) : Prop where
  ex : ∃ (f : Addr) (fd : FuncData), Fun K x x st f fd ∧ mg x = some (.ref f) ∧ Binds K fd ps []
section
variable {P : Program} {w : World} {K : PySem.W.Frag} {mg : Str → Option Value} {base : Heap}
theorem DefT.cal {x : Str} {st : Stmt} {N ps : List Str} {k : Nat} {sp : DSp} (D : DefT K mg x st ps) (S : FnScope N ps (defScope st)) (len : ∀ ds μ Φ Ψ, sp ds μ Φ Ψ → ds.length = ps.length)
    (h : ∀ ds μ Φ Ψ, sp ds μ Φ Ψ → Body P w K mg base k N x st ds μ Φ Ψ) : Cal P w K mg base (k + 1) x sp := by
  obtain ⟨f, fd, F, hm, hb⟩ := D.ex
  exact cal_of F hm hb S len h
theorem Cal.mono {x : Str} {j k : Nat} {sp : DSp} (C : Cal P w K mg base j x sp) (h : j ≤ k) : Cal P w K mg base k x sp := by
  obtain ⟨f, fd, ps, F, r⟩ := C.ex
  exact ⟨f, fd, ps, F.mono h, r⟩
end
section
variable {X : Cx} {G0 : Hp} {e a b c : Expr} {es rest : List Expr} {δ : List (Option D)} {μ : Mu} {Φ : DK} {pos : Pos} {K : PySem.W.Frag} {H : Hp} {Q : VK} {Θ : Bool → Mu → Prop}
theorem d_v {i : Nat} {x : Str} {d : D} (hN : X.N[i]? = some x ∧ (x == ("__debug__" : Str)) = false ∧ (x == ("__classdict__" : Str)) = false) (hd : δ[i]? = some (some d)) (hv : Vis X.env.scope x) (q : Φ d μ) : dE X G0 (.Name x pos) δ μ Φ := d_var i hd q hN.1 hv hN.2.1 hN.2.2
theorem t_cmp {op : CmpOp} (h : dE X G0 a δ μ fun x μ1 => dE X G0 b δ μ1 fun y μ2 => dOp X (compareOp op) x y μ2 fun d μ3 => ∃ k, d = .bl k ∧ Θ k μ3) (hm : behindInMarks op b = false := by first | exact nomark _ | rfl) : dT X G0 (.Compare a [op] [b] pos) δ μ Θ := fun σ H B Q k => by
  refine wT_of (pt_cmpR op_w pe_w pe_w hm) ?_
  refine h σ H B _ fun v H1 x μ1 hx m1 e1 r1 => ?_
  refine hx σ H1 (B.step m1 e1) _ fun u H2 y μ2 hy m2 e2 r2 => ?_
  refine hy v u H2 (r1.mono e2) r2 m2 _ fun w H3 d μ3 ⟨c, ed, q⟩ m3 e3 r3 => ?_
  subst ed
  exact ⟨c, rp_bl r3, k c H3 μ3 q m3 ((e1.trans e2).trans e3)⟩
theorem tr_bl {k : Bool} {P : Bool → Prop} (q : P k) : ∃ c, Tr (.bl k) μ c ∧ P c := ⟨k, rfl, q⟩
theorem tr_int {i : Int} (q : Θ (i != 0) μ) : ∃ c, Tr (.int i) μ c ∧ Θ c μ := ⟨_, rfl, q⟩
theorem tr_lst {xs : List D} (q : Θ (!xs.isEmpty) μ) : ∃ c, Tr (.lst xs) μ c ∧ Θ c μ := ⟨_, rfl, q⟩
theorem bl_ex {k : Bool} {P : Bool → Prop} (q : P k) : ∃ c, D.bl k = .bl c ∧ P c := ⟨k, rfl, q⟩
/-- a test on what is known: each way with its fact -/
theorem way {p : Prop} [Decidable p] {A B : Prop} (h1 : p → A) (h2 : ¬ p → B) : (decide p = true → A) ∧ (decide p = false → B) := ⟨fun h => h1 (of_decide_eq_true h), fun h => h2 (of_decide_eq_false h)⟩
theorem wayN {p : Prop} [Decidable p] {A B : Prop} (h1 : ¬ p → A) (h2 : p → B) : ((!decide p) = true → A) ∧ ((!decide p) = false → B) :=
  ⟨fun h => h1 (fun z => by rw [decide_eq_true z] at h; cases h), fun h => h2 (by cases e : decide p with | true => exact of_decide_eq_true e | false => rw [e] at h; cases h)⟩
theorem way2 {k : Bool} {A B : Prop} (h1 : k = true → A) (h2 : k = false → B) : (k = true → A) ∧ (k = false → B) := ⟨h1, h2⟩
theorem wayT {A B : Prop} (h : A) : (true = true → A) ∧ (true = false → B) := ⟨fun _ => h, fun h => (nomatch h)⟩
theorem wayF {A B : Prop} (h : B) : (false = true → A) ∧ (false = false → B) := ⟨fun h => (nomatch h), fun _ => h⟩
theorem wayT' {A B : Prop} (h : A) : (true = false → B) ∧ (true = true → A) := ⟨fun h => (nomatch h), fun _ => h⟩
/-- names of built-in classes as values -/
theorem hu64 {k : Nat} (hr : Room k X.A) : X.A.units + 64 < cLine := hr.units
end
end DL

namespace DL
open PySem PySem.Spec PyProof.Rows L2
/-! ### isinstance -/
def tyD : D → Option String
  | .non => some "NoneType"
  | .bl _ => some "bool"
  | .int _ => some "int"
  | .str _ => some "str"
  | .lst _ => some "list"
  | .tup _ => some "tuple"
  | .dck _ => some "dict"
  | _ => none
section
variable {X : Cx} {G0 : Hp} {e a b c : Expr} {es rest : List Expr} {δ : List (Option D)} {μ : Mu} {Φ : DK} {pos : Pos} {K : PySem.W.Frag} {H : Hp} {Q : VK} {Θ : Bool → Mu → Prop}
theorem d_ty {x : Str} {n : String} (q : Φ (.ty n) μ) (hm : X.mg x = none := by assumption) (hv : bootBuiltins x = some (.type n) := by exact (by decide +kernel)) (hg : Gl X x := by rfl) (hn : x ≠ "__name__" := by decide) (hd : (x == ("__debug__" : Str)) = false := by decide) : dE X G0 (.Name x pos) δ μ Φ := fun σ H B Q k =>
  wE_of (pe_bltn (v := .ty n) hg hm hv rfl hn hd) (k.val B.mu q (.ty n))
theorem ty_rp {v : V} {d : D} {t : String} (r : Rp K (Im μ H) v d) (h : tyD d = some t) : TyX K H v (.type t) := by
  cases r with
  | non => cases h; exact .base .non
  | bl b => cases h; exact .base (.bl b)
  | int i => cases h; exact .base (.int i)
  | str x => cases h; exact .base (.str x)
  | ref p => cases h
  | ty n => cases h
  | exc h1 _ => cases h
  | exv h1 _ _ => cases h
  | exb h1 => cases h
  | scr h1 => cases h
  | lst h1 _ => cases h; exact .base (.lst (im_all _ _ h1))
  | tup h1 _ => cases h; exact .base (.tup (im_all _ _ h1))
  | dct h1 _ => cases h
  | obj h1 _ => cases h
  | dck h1 _ => cases h; exact .fDict (im_all _ _ h1)
theorem c_isi {d : D} {t n : String} {k : Bool} (q : Φ (.bl k) μ) (ht : tyD d = some t := by rfl) (hk : kitB t n = some k := by exact (by decide +kernel)) : dCall X (.builtin "isinstance") [d, .ty n] μ Φ := fun vs H r m Q kk => by
  obtain ⟨v, u, rfl, a, b⟩ := rp2 r
  cases b
  exact wCall_of call_isi ⟨v, .ty n, .type t, .type n, k, rfl, .ty n, ty_rp a ht, kit_ty hk, kk.val m q (.bl _)⟩
theorem c_isiM {p : Addr} {ds : List D} {n : String} {k : Bool} (hp : μ p = some (.lst ds)) (q : Φ (.bl k) μ) (hk : kitB "list" n = some k := by exact (by decide +kernel)) : dCall X (.builtin "isinstance") [.ref p, .ty n] μ Φ := fun vs H r m Q kk => by
  obtain ⟨v, u, rfl, a, b⟩ := rp2 r
  cases b
  cases rp_ref a
  obtain ⟨ws, ha, _⟩ := m.lst hp
  exact wCall_of call_isi ⟨_, .ty n, .type "list", .type n, k, rfl, .ty n, .base (.lst ha), kit_ty hk, kk.val m q (.bl _)⟩
end

/-! ### what may change, and stays from now on -/
section
variable {X : Cx} {G0 : Hp} {e a b c it elt : Expr} {es rest : List Expr} {δ : List (Option D)} {μ : Mu} {Φ : DK} {pos : Pos} {K : PySem.W.Frag} {H : Hp} {Q : VK}
theorem im_drop {μ : Mu} {p : Addr} {c : D} {H : Hp} : Sub (Im (updM μ p c) H) (Im μ H) := fun a o h => by
  unfold Im at h ⊢
  by_cases q : (μ a).isSome = true
  · have z : (updM μ p c a).isSome = true := by
      unfold updM
      split
      · rfl
      · exact q
    rw [if_pos z] at h
    cases h
  · rw [if_neg q]
    split at h
    · cases h
    · exact h
theorem MuOk.drop {p : Addr} {c : D} (m : MuOk K (updM μ p c) H) (h : μ p = none) : MuOk K μ H := fun q c' hq => by
  have ne : q ≠ p := fun e => by
    rw [e, h] at hq
    cases hq
  exact (m q c' ((updM_ne ne).trans hq)).mono im_drop
theorem frz_rp {p : Addr} {ds : List D} (m : MuOk K (updM μ p (.lst ds)) H) (h : μ p = none) : Rp K (Im μ H) (.ref p) (.lst ds) := by
  obtain ⟨vs, ha, ra⟩ := m.lst updM_same
  refine .lst (xs := vs) ?_ (ra.mono im_drop)
  unfold Im
  rw [h]
  exact ha
/-- a value, or a new list that stays from now on -/
def Fz (Φ : DK) : DK := fun d μ => Φ d μ ∨ ∃ p ds μ2, d = .ref p ∧ μ = updM μ2 p (.lst ds) ∧ μ2 p = none ∧ Φ (.lst ds) μ2
theorem KP.fz (k : KP K μ H Φ Q) : KP K μ H (Fz Φ) Q := fun v H2 d μ2 q m e r => by
  rcases q with q | ⟨p, ds, μ3, rfl, rfl, hp, q⟩
  · exact k v H2 d μ2 q m e r
  · cases rp_ref r
    exact k _ H2 _ μ3 q (m.drop hp) (e.trans im_drop) (frz_rp m hp)
theorem d_fz (h : dE X G0 e δ μ (Fz Φ)) : dE X G0 e δ μ Φ := fun σ H B Q k => h σ H B Q k.fz
theorem fz_ref {p : Addr} {ds : List D} (hp : μ p = none) (q : Φ (.lst ds) μ) : Fz Φ (.ref p) (updM μ p (.lst ds)) := .inr ⟨p, ds, μ, rfl, rfl, hp, q⟩
theorem updM_upd {μ : Mu} {p : Addr} {c d : D} : updM (updM μ p c) p d = updM μ p d := by
  funext a
  unfold updM
  split <;> rfl
theorem updM_comm {μ : Mu} {p q : Addr} {c d : D} (h : p ≠ q) : updM (updM μ p c) q d = updM (updM μ q d) p c := by
  funext a
  unfold updM
  by_cases e1 : a = p
  · subst e1
    rw [if_neg h, if_pos rfl, if_pos rfl]
  · rw [if_neg e1, if_neg e1]
/-! ### comprehensions -/
def wipeD (δ : List (Option D)) : List Nat → List (Option D)
  | [] => δ
  | v :: vs => (wipeD δ vs).set v none
theorem wipe_at {α : Type} {σ : List (Option α)} : ∀ {vs : List Nat} {f : List Nat → List (Option α)}, (f [] = σ) → (∀ v vs, f (v :: vs) = (f vs).set v none) → ∀ i, (f vs)[i]? = if i ∈ vs then (σ[i]?).map (fun _ => none) else σ[i]?
  | [], f, h0, _, i => by rw [h0, if_neg (List.not_mem_nil)]
  | v :: vs, f, h0, hs, i => by
    have ih := wipe_at (vs := vs) h0 hs i
    rw [hs, List.getElem?_set]
    by_cases e : v = i
    · subst e
      rw [if_pos rfl, if_pos (show v ∈ v :: vs from List.mem_cons_self)]
      have l : (f vs).length = σ.length := by
        clear ih
        induction vs with
        | nil => rw [h0]
        | cons u us ih2 => rw [hs, List.length_set, ih2]
      by_cases hl : v < (f vs).length
      · rw [if_pos hl, List.getElem?_eq_getElem (by rw [← l]; exact hl)]
        rfl
      · rw [if_neg hl, List.getElem?_eq_none (by rw [← l]; omega)]
        rfl
    · rw [if_neg e, ih]
      by_cases q : i ∈ vs
      · rw [if_pos q, if_pos (List.mem_cons_of_mem _ q)]
      · rw [if_neg q, if_neg (by intro z; rcases List.mem_cons.mp z with z | z; exact e z.symm; exact q z)]
theorem wipe_get (σ : L2.St) (vs : List Nat) (i : Nat) : (wipe σ vs)[i]? = if i ∈ vs then (σ[i]?).map (fun _ => none) else σ[i]? := wipe_at (f := wipe σ) rfl (fun _ _ => rfl) i
theorem wipeD_get (δ : List (Option D)) (vs : List Nat) (i : Nat) : (wipeD δ vs)[i]? = if i ∈ vs then (δ[i]?).map (fun _ => none) else δ[i]? := wipe_at (f := wipeD δ) rfl (fun _ _ => rfl) i
theorem wipeD_length (δ : List (Option D)) : ∀ vs : List Nat, (wipeD δ vs).length = δ.length
  | [] => rfl
  | v :: vs => by
    show ((wipeD δ vs).set v none).length = δ.length
    rw [List.length_set, wipeD_length δ vs]
theorem wipe_set {σ : L2.St} {vs : List Nat} {j : Nat} {o : Option V} (h : j ∈ vs) : wipe (σ.set j o) vs = wipe σ vs := by
  refine List.ext_getElem? fun i => ?_
  rw [wipe_get, wipe_get]
  by_cases q : i ∈ vs
  · rw [if_pos q, if_pos q, List.getElem?_set]
    by_cases e : j = i
    · subst e
      rw [if_pos rfl]
      by_cases l : j < σ.length
      · rw [if_pos l, List.getElem?_eq_getElem l]
        rfl
      · rw [if_neg l, List.getElem?_eq_none (by omega)]
    · rw [if_neg e]
  · rw [if_neg q, if_neg q, List.getElem?_set_ne]
    intro e
    exact q (e ▸ h)
theorem wipe_wipe {σ : L2.St} {vs : List Nat} : wipe (wipe σ vs) vs = wipe σ vs := by
  refine List.ext_getElem? fun i => ?_
  rw [wipe_get, wipe_get]
  by_cases q : i ∈ vs
  · rw [if_pos q, if_pos q]
    cases σ[i]? <;> rfl
  · rw [if_neg q, if_neg q]
theorem Bd.wipe {G0 : Hp} {σ : L2.St} (B : Bd K G0 δ μ σ H) (vs : List Nat) : Bd K G0 (wipeD δ vs) μ (L2.wipe σ vs) H := by
  refine ⟨by rw [wipe_length, wipeD_length, B.len], fun i d h => ?_, B.mu, B.base⟩
  rw [wipeD_get] at h
  by_cases q : i ∈ vs
  · rw [if_pos q] at h
    cases e : δ[i]? with
    | none => rw [e] at h; cases h
    | some o => rw [e] at h; cases h
  · rw [if_neg q] at h
    obtain ⟨v, h1, h2⟩ := B.sl i d h
    exact ⟨v, by rw [wipe_get, if_neg q]; exact h1, h2⟩
/-- a block's context -/
abbrev BX (X : Cx) (scope : Scope) (s : Shared) (H : Hp) (C : Addr) (cl : List (Str × Addr)) (fp : List Addr) : Cx := X.blk s H scope (compEnvC scope cl C X.env) fp
def wEs (X : Cx) (scope : Scope) (e : Expr) : TE := fun σ H Q => ∀ s H0 C cl fp, wE (BX X scope s H0 C cl fp) e σ H Q
def wTs (X : Cx) (scope : Scope) (e : Expr) : TT := fun σ H Q => ∀ s H0 C cl fp, wT (BX X scope s H0 C cl fp) e σ H Q
/-- an element, whatever the block -/
def dEs (X : Cx) (scope : Scope) (e : Expr) (δ : List (Option D)) (μ : Mu) (Φ : DK) : Prop := ∀ G1 s H0 C cl fp, dE (BX X scope s H0 C cl fp) G1 e δ μ Φ
def dTs (X : Cx) (scope : Scope) (e : Expr) (δ : List (Option D)) (μ : Mu) (Θ : Bool → Mu → Prop) : Prop := ∀ G1 s H0 C cl fp, dT (BX X scope s H0 C cl fp) G1 e δ μ Θ
/-- a turn of a comprehension without a test: the list so far stands at p -/
def LcTurn (X : Cx) (scope : Scope) (elt : Expr) (p : Addr) (acc : List D) (δ2 : List (Option D)) (μ : Mu) (N : List D → Mu → Prop) : Prop :=
  acc.length < sizeLine ∧ dEs X scope elt δ2 (updM μ p (.lst acc)) fun r μ3 => ∃ μ4, μ3 = updM μ4 p (.lst acc) ∧ μ4 p = none ∧ N (acc ++ [r]) μ4
theorem lc_turn {scope : Scope} {p : Addr} {acc : List D} {δ0 δ2 : List (Option D)} {σ0 σ2 : L2.St} {G1 : Hp} {Nx : List D → Mu → Prop} (B : Bd X.K G1 δ2 (updM μ p (.lst acc)) σ2 H) (B0 : Bd X.K G1 δ0 (updM μ p (.lst acc)) σ0 H) (h : LcTurn X scope elt p acc δ2 μ Nx) :
    tYes σ2 H fun b H3 => if b = true then wEs X scope elt σ2 H3 fun y H4 => ∃ ws, H4 p = some (.lst ws) ∧ ws.length < sizeLine ∧ ∃ acc' μ', Nx acc' μ' ∧ μ' p = none ∧ Bd X.K G1 δ0 (updM μ' p (.lst acc')) σ0 (upd H4 p (.lst (ws ++ [y]))) else ∃ acc' μ', Nx acc' μ' ∧ μ' p = none ∧ Bd X.K G1 δ0 (updM μ' p (.lst acc')) σ0 H3 := by
  unfold tYes
  dsimp only
  rw [if_pos rfl]
  intro s H0 C cl fp
  refine h.2 G1 s H0 C cl fp σ2 H B _ fun y H4 r μ3 q m4 e4 r4 => ?_
  obtain ⟨μ4, rfl, hp, hN⟩ := q
  obtain ⟨ws, ha, ra⟩ := m4.lst updM_same
  have hi : Im (updM μ4 p (.lst (acc ++ [r]))) (upd H4 p (.lst (ws ++ [y]))) = Im (updM μ4 p (.lst acc)) H4 := by
    rw [← updM_upd (c := .lst acc)]
    exact im_upd (by rw [updM_same]; rfl)
  have m5 : MuOk X.K (updM μ4 p (.lst (acc ++ [r]))) (upd H4 p (.lst (ws ++ [y]))) := by
    rw [← updM_upd (c := .lst acc)]
    refine m4.upd ?_ (ra.append (.cons r4 .nil))
    rw [updM_upd]
    exact hi
  exact ⟨ws, ha, by rw [ra.length]; exact h.1, _, _, hN, hp, B0.step m5 (by rw [hi]; exact e4)⟩
theorem lc_end {p : Addr} {acc : List D} {δ0 : List (Option D)} {σ0 : L2.St} {H' : Hp} {μ' : Mu} (k : KP X.K μ H Φ Q) (hp : μ' p = none) (q : Φ (.ref p) (updM μ' p (.lst acc))) (B : Bd X.K (Im μ H) δ0 (updM μ' p (.lst acc)) σ0 H') : Q (.ref p) H' :=
  k _ H' _ _ q B.mu B.base (.ref p)
/-- [e for x in a list] -/
theorem d_lcL {x : Str} {scope : Scope} {tp cp : Pos} {own : List (Str × Nat)} {vs : List Nat} (j : Nat)
    (h : dE X G0 it δ μ fun d μ1 => ∃ ds, d = .lst ds ∧ ∃ Pv : Nat → List D → Mu → Prop, Pv 0 [] μ1 ∧ (∀ (i : Nat) d acc μ2 p, ds[i]? = some d → Pv i acc μ2 → μ2 p = none → LcTurn X scope elt p acc ((wipeD δ vs).set j (some d)) μ2 (Pv (i + 1))) ∧ ∀ acc μ2 p, Pv ds.length acc μ2 → μ2 p = none → Φ (.ref p) (updM μ2 p (.lst acc)))
    (hb : blkC X.N X.env.scope scope own = true := by kernel_rfl) (hj : j ∈ vs := by decide) (hv : own.map (·.2) = vs := by rfl) (hN : X.N.Nodup := by assumption) (hc : X.calm = true := by rfl)
    (hi : X.N[j]? = some x := by rfl) (hx : ∀ s H C cl fp, Loc (BX X scope s H C cl fp).env.scope x := by first | exact fun _ _ _ _ _ => Or.inl rfl | exact fun _ _ _ _ _ => Or.inr rfl) (hf : ∀ s H C cl fp, (BX X scope s H C cl fp).fn x = true ∨ (BX X scope s H C cl fp).env.scope.names.lookup x = some .local := by first | exact fun _ _ _ _ _ => .inr rfl | exact fun _ _ _ _ _ => .inl rfl)
    (hs : ∀ x, foldedSetIterable it X.env x = pure x := by intro _; rfl) : dE X G0 (.ListComp elt [⟨.Name x tp, it, [], 0⟩] scope cp) δ μ Φ := fun σ H B Q k => by
  refine wE_of (pe_lc hc hN (pi_list pe_w) (blkOk_by hb) (fun s H C cl fp => pg_name (i := j) hN hi (hx s H C cl fp) (hf s H C cl fp)) (fun _ _ _ _ _ => pts_nil) (fun s H C cl fp => (⟨fun pins s' σ' H' Q' I q => q s H C cl fp pins s' I⟩ : PE _ _ (wEs X scope elt))) hs) ?_
  rw [hv]
  refine h σ H B _ fun v H1 d μ1 q m1 e1 r1 => ?_
  obtain ⟨ds, rfl, Pv, p0, turn, fin⟩ := q
  obtain ⟨a, ws, rfl, hG, ra⟩ : ∃ a ws, v = .ref a ∧ Im μ1 H1 a = some (.lst ws) ∧ RpAll X.K (Im μ1 H1) ws ds := by
    cases r1 with
    | lst h r => exact ⟨_, _, rfl, h, r⟩
  have B1 := (B.step m1 e1).wipe vs
  refine ⟨a, rfl, ⟨ws, SqL.of (im_all _ _ hG)⟩, fun p hp => ?_⟩
  have hi0 : Im (updM μ1 p (.lst [])) (upd H1 p (.lst [])) = Im μ1 H1 := im_new hp
  have B2 : Bd X.K (Im μ1 H1) (wipeD δ vs) (updM μ1 p (.lst [])) (L2.wipe σ vs) (upd H1 p (.lst [])) := B1.rebase.step (m1.upd hi0 .nil) (by rw [hi0]; exact Sub.refl _)
  refine lc_list (xs := ws) (fun i H' => ∃ acc μ2, Pv i acc μ2 ∧ μ2 p = none ∧ Bd X.K (Im μ1 H1) (wipeD δ vs) (updM μ2 p (.lst acc)) (L2.wipe σ vs) H') ⟨[], μ1, p0, mu_free m1 hp, B2⟩ (fun i H' _ ⟨acc, μ2, _, _, B'⟩ => SqL.of (im_all _ _ (B'.base _ _ hG))) (fun i y H' hy ⟨acc, μ2, hP, hp2, B'⟩ => ?_) (fun H' ⟨acc, μ2, hP, hp2, B'⟩ => ?_)
  · have hl : i < ds.length := by rw [← ra.length]; exact (List.getElem?_eq_some_iff.mp hy).1
    obtain ⟨w', hw, rw'⟩ := ra.get (List.getElem?_eq_getElem hl)
    rw [hw] at hy
    cases hy
    refine ⟨by rw [wipe_set hj, wipe_wipe], ?_⟩
    exact lc_turn (B'.set (rw'.mono B'.base)) B' (turn i _ acc μ2 p (List.getElem?_eq_getElem hl) hP hp2)
  · rw [ra.length] at hP
    exact lc_end (k.after e1) hp2 (fin acc μ2 p hP hp2) B'
/-- [e for x in a tuple] -/
theorem d_lcT {x : Str} {scope : Scope} {tp cp : Pos} {own : List (Str × Nat)} {vs : List Nat} (j : Nat)
    (h : dE X G0 it δ μ fun d μ1 => ∃ ds, d = .tup ds ∧ ∃ Pv : Nat → List D → Mu → Prop, Pv 0 [] μ1 ∧ (∀ (i : Nat) d acc μ2 p, ds[i]? = some d → Pv i acc μ2 → μ2 p = none → LcTurn X scope elt p acc ((wipeD δ vs).set j (some d)) μ2 (Pv (i + 1))) ∧ ∀ acc μ2 p, Pv ds.length acc μ2 → μ2 p = none → Φ (.ref p) (updM μ2 p (.lst acc)))
    (hb : blkC X.N X.env.scope scope own = true := by kernel_rfl) (hj : j ∈ vs := by decide) (hv : own.map (·.2) = vs := by rfl) (hN : X.N.Nodup := by assumption) (hc : X.calm = true := by rfl)
    (hi : X.N[j]? = some x := by rfl) (hx : ∀ s H C cl fp, Loc (BX X scope s H C cl fp).env.scope x := by first | exact fun _ _ _ _ _ => Or.inl rfl | exact fun _ _ _ _ _ => Or.inr rfl) (hf : ∀ s H C cl fp, (BX X scope s H C cl fp).fn x = true ∨ (BX X scope s H C cl fp).env.scope.names.lookup x = some .local := by first | exact fun _ _ _ _ _ => .inr rfl | exact fun _ _ _ _ _ => .inl rfl)
    (hs : ∀ x, foldedSetIterable it X.env x = pure x := by intro _; rfl) : dE X G0 (.ListComp elt [⟨.Name x tp, it, [], 0⟩] scope cp) δ μ Φ := fun σ H B Q k => by
  refine wE_of (pe_lc hc hN (pi_tup pe_w) (blkOk_by hb) (fun s H C cl fp => pg_name (i := j) hN hi (hx s H C cl fp) (hf s H C cl fp)) (fun _ _ _ _ _ => pts_nil) (fun s H C cl fp => (⟨fun pins s' σ' H' Q' I q => q s H C cl fp pins s' I⟩ : PE _ _ (wEs X scope elt))) hs) ?_
  rw [hv]
  refine h σ H B _ fun v H1 d μ1 q m1 e1 r1 => ?_
  obtain ⟨ds, rfl, Pv, p0, turn, fin⟩ := q
  obtain ⟨a, ws, rfl, hG, ra⟩ : ∃ a ws, v = .ref a ∧ Im μ1 H1 a = some (.tup ws) ∧ RpAll X.K (Im μ1 H1) ws ds := by
    cases r1 with
    | tup h r => exact ⟨_, _, rfl, h, r⟩
  have B1 := (B.step m1 e1).wipe vs
  refine ⟨a, rfl, ⟨ws, SqT.of (im_all _ _ hG)⟩, fun p hp => ?_⟩
  have hi0 : Im (updM μ1 p (.lst [])) (upd H1 p (.lst [])) = Im μ1 H1 := im_new hp
  have B2 : Bd X.K (Im μ1 H1) (wipeD δ vs) (updM μ1 p (.lst [])) (L2.wipe σ vs) (upd H1 p (.lst [])) := B1.rebase.step (m1.upd hi0 .nil) (by rw [hi0]; exact Sub.refl _)
  refine lc_tup (xs := ws) (fun i H' => ∃ acc μ2, Pv i acc μ2 ∧ μ2 p = none ∧ Bd X.K (Im μ1 H1) (wipeD δ vs) (updM μ2 p (.lst acc)) (L2.wipe σ vs) H') ⟨[], μ1, p0, mu_free m1 hp, B2⟩ (fun i H' _ ⟨acc, μ2, _, _, B'⟩ => SqT.of (im_all _ _ (B'.base _ _ hG))) (fun i y H' hy ⟨acc, μ2, hP, hp2, B'⟩ => ?_) (fun H' ⟨acc, μ2, hP, hp2, B'⟩ => ?_)
  · have hl : i < ds.length := by rw [← ra.length]; exact (List.getElem?_eq_some_iff.mp hy).1
    obtain ⟨w', hw, rw'⟩ := ra.get (List.getElem?_eq_getElem hl)
    rw [hw] at hy
    cases hy
    refine ⟨by rw [wipe_set hj, wipe_wipe], ?_⟩
    exact lc_turn (B'.set (rw'.mono B'.base)) B' (turn i _ acc μ2 p (List.getElem?_eq_getElem hl) hP hp2)
  · rw [ra.length] at hP
    exact lc_end (k.after e1) hp2 (fin acc μ2 p hP hp2) B'
/-- [e for x in range(n)] -/
theorem d_lcR {x : Str} {scope : Scope} {rp ip tp cp : Pos} {own : List (Str × Nat)} {vs : List Nat} (j : Nat)
    (h : dA X G0 [a] δ μ fun ns μ1 => ∃ n : Int, ns = [.int n] ∧ n < 2 ^ 62 ∧ -(2 ^ 62) ≤ n ∧ ∃ Pv : Nat → List D → Mu → Prop, Pv 0 [] μ1 ∧ (∀ (i : Nat) acc μ2 p, i < n.toNat → Pv i acc μ2 → μ2 p = none → LcTurn X scope elt p acc ((wipeD δ vs).set j (some (.int i))) μ2 (Pv (i + 1))) ∧ ∀ acc μ2 p, Pv n.toNat acc μ2 → μ2 p = none → Φ (.ref p) (updM μ2 p (.lst acc)))
    (hb : blkC X.N X.env.scope scope own = true := by kernel_rfl) (hj : j ∈ vs := by decide) (hv : own.map (·.2) = vs := by rfl) (hN : X.N.Nodup := by assumption) (hc : X.calm = true := by rfl)
    (hi : X.N[j]? = some x := by rfl) (hx : ∀ s H C cl fp, Loc (BX X scope s H C cl fp).env.scope x := by first | exact fun _ _ _ _ _ => Or.inl rfl | exact fun _ _ _ _ _ => Or.inr rfl) (hf : ∀ s H C cl fp, (BX X scope s H C cl fp).fn x = true ∨ (BX X scope s H C cl fp).env.scope.names.lookup x = some .local := by first | exact fun _ _ _ _ _ => .inr rfl | exact fun _ _ _ _ _ => .inl rfl)
    (hm : X.mg "range" = none := by assumption) (hg : Gl X "range" := by rfl) (hst : starEach [a] X.env = [(false, eval a X.env)] := by rfl)
    (hs : ∀ x, foldedSetIterable (.Call (.Name "range" rp) [a] [] ip) X.env x = pure x := by intro _; rfl) : dE X G0 (.ListComp elt [⟨.Name x tp, .Call (.Name "range" rp) [a] [] ip, [], 0⟩] scope cp) δ μ Φ := fun σ H B Q k => by
  refine wE_of (pe_lc hc hN (pi_range1 hg hm pa_w hst) (blkOk_by hb) (fun s H C cl fp => pg_name (i := j) hN hi (hx s H C cl fp) (hf s H C cl fp)) (fun _ _ _ _ _ => pts_nil) (fun s H C cl fp => (⟨fun pins s' σ' H' Q' I q => q s H C cl fp pins s' I⟩ : PE _ _ (wEs X scope elt))) hs) ?_
  rw [hv]
  refine h σ H B _ fun vs' H1 ds μ1 q m1 e1 r1 => ?_
  obtain ⟨n, rfl, b1, b2, Pv, p0, turn, fin⟩ := q
  obtain ⟨v, rfl, r2⟩ := rp1 r1
  cases rp_int r2
  have B1 := (B.step m1 e1).wipe vs
  refine ⟨n, rfl, b2, b1, fun p hp => ?_⟩
  have hi0 : Im (updM μ1 p (.lst [])) (upd H1 p (.lst [])) = Im μ1 H1 := im_new hp
  have B2 : Bd X.K (Im μ1 H1) (wipeD δ vs) (updM μ1 p (.lst [])) (L2.wipe σ vs) (upd H1 p (.lst [])) := B1.rebase.step (m1.upd hi0 .nil) (by rw [hi0]; exact Sub.refl _)
  refine lc_range (lo := 0) (n := n.toNat) (fun i H' => ∃ acc μ2, Pv i acc μ2 ∧ μ2 p = none ∧ Bd X.K (Im μ1 H1) (wipeD δ vs) (updM μ2 p (.lst acc)) (L2.wipe σ vs) H') ⟨[], μ1, p0, mu_free m1 hp, B2⟩ (fun i H' hl ⟨acc, μ2, hP, hp2, B'⟩ => ?_) (fun H' ⟨acc, μ2, hP, hp2, B'⟩ => ?_)
  · refine ⟨by rw [wipe_set hj, wipe_wipe], ?_⟩
    have e0 : (0 : Int) + (i : Int) = (i : Int) := Int.zero_add _
    rw [e0]
    exact lc_turn (B'.set (.int _)) B' (turn i acc μ2 p hl hP hp2)
  · exact lc_end (k.after e1) hp2 (fin acc μ2 p hP hp2) B'
end

/-! ### built-ins by name -/
section
variable {X : Cx} {G0 : Hp} {e : Expr} {es : List Expr} {δ : List (Option D)} {μ : Mu} {Φ : DK} {pos p : Pos}
theorem bb_abs : bootBuiltins "abs" = some (.builtin "abs") := by decide +kernel
theorem db_abs (ha : dA X G0 (e :: es) δ μ fun xs μ1 => dCall X (.builtin "abs") xs μ1 Φ) (hm : X.mg "abs" = none := by assumption) (hg : Gl X "abs" := by rfl) (he : starEach (e :: es) X.env = (false, eval e X.env) :: starEach es X.env := by rfl) (hpl : (backTo pos (starEach es X.env)).any (·.1) = false := by rfl) :
    dE X G0 (.Call (.Name "abs" p) (e :: es) [] pos) δ μ Φ := d_callB ha hm bb_abs hg (by decide) (by decide) he hpl
theorem bb_len : bootBuiltins "len" = some (.builtin "len") := by decide +kernel
theorem db_len (ha : dA X G0 (e :: es) δ μ fun xs μ1 => dCall X (.builtin "len") xs μ1 Φ) (hm : X.mg "len" = none := by assumption) (hg : Gl X "len" := by rfl) (he : starEach (e :: es) X.env = (false, eval e X.env) :: starEach es X.env := by rfl) (hpl : (backTo pos (starEach es X.env)).any (·.1) = false := by rfl) :
    dE X G0 (.Call (.Name "len" p) (e :: es) [] pos) δ μ Φ := d_callB ha hm bb_len hg (by decide) (by decide) he hpl
theorem bb_max : bootBuiltins "max" = some (.builtin "max") := by decide +kernel
theorem db_max (ha : dA X G0 (e :: es) δ μ fun xs μ1 => dCall X (.builtin "max") xs μ1 Φ) (hm : X.mg "max" = none := by assumption) (hg : Gl X "max" := by rfl) (he : starEach (e :: es) X.env = (false, eval e X.env) :: starEach es X.env := by rfl) (hpl : (backTo pos (starEach es X.env)).any (·.1) = false := by rfl) :
    dE X G0 (.Call (.Name "max" p) (e :: es) [] pos) δ μ Φ := d_callB ha hm bb_max hg (by decide) (by decide) he hpl
theorem bb_min : bootBuiltins "min" = some (.builtin "min") := by decide +kernel
theorem db_min (ha : dA X G0 (e :: es) δ μ fun xs μ1 => dCall X (.builtin "min") xs μ1 Φ) (hm : X.mg "min" = none := by assumption) (hg : Gl X "min" := by rfl) (he : starEach (e :: es) X.env = (false, eval e X.env) :: starEach es X.env := by rfl) (hpl : (backTo pos (starEach es X.env)).any (·.1) = false := by rfl) :
    dE X G0 (.Call (.Name "min" p) (e :: es) [] pos) δ μ Φ := d_callB ha hm bb_min hg (by decide) (by decide) he hpl
theorem bb_isinstance : bootBuiltins "isinstance" = some (.builtin "isinstance") := by decide +kernel
theorem db_isinstance (ha : dA X G0 (e :: es) δ μ fun xs μ1 => dCall X (.builtin "isinstance") xs μ1 Φ) (hm : X.mg "isinstance" = none := by assumption) (hg : Gl X "isinstance" := by rfl) (he : starEach (e :: es) X.env = (false, eval e X.env) :: starEach es X.env := by rfl) (hpl : (backTo pos (starEach es X.env)).any (·.1) = false := by rfl) :
    dE X G0 (.Call (.Name "isinstance" p) (e :: es) [] pos) δ μ Φ := d_callB ha hm bb_isinstance hg (by decide) (by decide) he hpl
theorem bb_sum : bootBuiltins "sum" = some (.builtin "sum") := by decide +kernel
theorem db_sum (ha : dA X G0 (e :: es) δ μ fun xs μ1 => dCall X (.builtin "sum") xs μ1 Φ) (hm : X.mg "sum" = none := by assumption) (hg : Gl X "sum" := by rfl) (he : starEach (e :: es) X.env = (false, eval e X.env) :: starEach es X.env := by rfl) (hpl : (backTo pos (starEach es X.env)).any (·.1) = false := by rfl) :
    dE X G0 (.Call (.Name "sum" p) (e :: es) [] pos) δ μ Φ := d_callB ha hm bb_sum hg (by decide) (by decide) he hpl
theorem bb_sorted : bootBuiltins "sorted" = some (.builtin "sorted") := by decide +kernel
theorem db_sorted (ha : dA X G0 (e :: es) δ μ fun xs μ1 => dCall X (.builtin "sorted") xs μ1 Φ) (hm : X.mg "sorted" = none := by assumption) (hg : Gl X "sorted" := by rfl) (he : starEach (e :: es) X.env = (false, eval e X.env) :: starEach es X.env := by rfl) (hpl : (backTo pos (starEach es X.env)).any (·.1) = false := by rfl) :
    dE X G0 (.Call (.Name "sorted" p) (e :: es) [] pos) δ μ Φ := d_callB ha hm bb_sorted hg (by decide) (by decide) he hpl
theorem bb_all : bootBuiltins "all" = some (.builtin "all") := by decide +kernel
theorem db_all (ha : dA X G0 (e :: es) δ μ fun xs μ1 => dCall X (.builtin "all") xs μ1 Φ) (hm : X.mg "all" = none := by assumption) (hg : Gl X "all" := by rfl) (he : starEach (e :: es) X.env = (false, eval e X.env) :: starEach es X.env := by rfl) (hpl : (backTo pos (starEach es X.env)).any (·.1) = false := by rfl) :
    dE X G0 (.Call (.Name "all" p) (e :: es) [] pos) δ μ Φ := d_callB ha hm bb_all hg (by decide) (by decide) he hpl
theorem bb_any : bootBuiltins "any" = some (.builtin "any") := by decide +kernel
theorem db_any (ha : dA X G0 (e :: es) δ μ fun xs μ1 => dCall X (.builtin "any") xs μ1 Φ) (hm : X.mg "any" = none := by assumption) (hg : Gl X "any" := by rfl) (he : starEach (e :: es) X.env = (false, eval e X.env) :: starEach es X.env := by rfl) (hpl : (backTo pos (starEach es X.env)).any (·.1) = false := by rfl) :
    dE X G0 (.Call (.Name "any" p) (e :: es) [] pos) δ μ Φ := d_callB ha hm bb_any hg (by decide) (by decide) he hpl
theorem bb_int : bootBuiltins "int" = some (.type "int") := by decide +kernel
theorem db_int (ha : dA X G0 (e :: es) δ μ fun xs μ1 => dCall X (.type "int") xs μ1 Φ) (hm : X.mg "int" = none := by assumption) (hg : Gl X "int" := by rfl) (he : starEach (e :: es) X.env = (false, eval e X.env) :: starEach es X.env := by rfl) (hpl : (backTo pos (starEach es X.env)).any (·.1) = false := by rfl) :
    dE X G0 (.Call (.Name "int" p) (e :: es) [] pos) δ μ Φ := d_callTy ha hm bb_int hg (by decide) (by decide) he hpl
theorem dt_int (q : Φ (.ty "int") μ) (hm : X.mg "int" = none := by assumption) (hg : Gl X "int" := by rfl) : dE X G0 (.Name "int" pos) δ μ Φ := d_ty q hm bb_int hg (by decide) (by decide)
theorem bb_bool : bootBuiltins "bool" = some (.type "bool") := by decide +kernel
theorem db_bool (ha : dA X G0 (e :: es) δ μ fun xs μ1 => dCall X (.type "bool") xs μ1 Φ) (hm : X.mg "bool" = none := by assumption) (hg : Gl X "bool" := by rfl) (he : starEach (e :: es) X.env = (false, eval e X.env) :: starEach es X.env := by rfl) (hpl : (backTo pos (starEach es X.env)).any (·.1) = false := by rfl) :
    dE X G0 (.Call (.Name "bool" p) (e :: es) [] pos) δ μ Φ := d_callTy ha hm bb_bool hg (by decide) (by decide) he hpl
theorem dt_bool (q : Φ (.ty "bool") μ) (hm : X.mg "bool" = none := by assumption) (hg : Gl X "bool" := by rfl) : dE X G0 (.Name "bool" pos) δ μ Φ := d_ty q hm bb_bool hg (by decide) (by decide)
theorem bb_list : bootBuiltins "list" = some (.type "list") := by decide +kernel
theorem db_list (ha : dA X G0 (e :: es) δ μ fun xs μ1 => dCall X (.type "list") xs μ1 Φ) (hm : X.mg "list" = none := by assumption) (hg : Gl X "list" := by rfl) (he : starEach (e :: es) X.env = (false, eval e X.env) :: starEach es X.env := by rfl) (hpl : (backTo pos (starEach es X.env)).any (·.1) = false := by rfl) :
    dE X G0 (.Call (.Name "list" p) (e :: es) [] pos) δ μ Φ := d_callTy ha hm bb_list hg (by decide) (by decide) he hpl
theorem dt_list (q : Φ (.ty "list") μ) (hm : X.mg "list" = none := by assumption) (hg : Gl X "list" := by rfl) : dE X G0 (.Name "list" pos) δ μ Φ := d_ty q hm bb_list hg (by decide) (by decide)
theorem bb_tuple : bootBuiltins "tuple" = some (.type "tuple") := by decide +kernel
theorem db_tuple (ha : dA X G0 (e :: es) δ μ fun xs μ1 => dCall X (.type "tuple") xs μ1 Φ) (hm : X.mg "tuple" = none := by assumption) (hg : Gl X "tuple" := by rfl) (he : starEach (e :: es) X.env = (false, eval e X.env) :: starEach es X.env := by rfl) (hpl : (backTo pos (starEach es X.env)).any (·.1) = false := by rfl) :
    dE X G0 (.Call (.Name "tuple" p) (e :: es) [] pos) δ μ Φ := d_callTy ha hm bb_tuple hg (by decide) (by decide) he hpl
theorem dt_tuple (q : Φ (.ty "tuple") μ) (hm : X.mg "tuple" = none := by assumption) (hg : Gl X "tuple" := by rfl) : dE X G0 (.Name "tuple" pos) δ μ Φ := d_ty q hm bb_tuple hg (by decide) (by decide)
theorem bb_dict : bootBuiltins "dict" = some (.type "dict") := by decide +kernel
theorem db_dict (ha : dA X G0 (e :: es) δ μ fun xs μ1 => dCall X (.type "dict") xs μ1 Φ) (hm : X.mg "dict" = none := by assumption) (hg : Gl X "dict" := by rfl) (he : starEach (e :: es) X.env = (false, eval e X.env) :: starEach es X.env := by rfl) (hpl : (backTo pos (starEach es X.env)).any (·.1) = false := by rfl) :
    dE X G0 (.Call (.Name "dict" p) (e :: es) [] pos) δ μ Φ := d_callTy ha hm bb_dict hg (by decide) (by decide) he hpl
theorem dt_dict (q : Φ (.ty "dict") μ) (hm : X.mg "dict" = none := by assumption) (hg : Gl X "dict" := by rfl) : dE X G0 (.Name "dict" pos) δ μ Φ := d_ty q hm bb_dict hg (by decide) (by decide)
end
end DL

namespace DL
open PySem PySem.Spec PyProof.Rows L2
/-! ### errors of the text's own classes that carry one thing -/
/-- what __init__ does: the thing goes to the error's own dict -/
def spInit (K : PySem.W.Frag) (C : Addr) (f : Str) : Sp := fun vs H Q _ => ∃ (a : Addr) (v : V), vs = [.ref a, v] ∧ H a = some (exo a C none) ∧
  ∀ dx, H dx = none → dx ≠ a → Q .non (upd (upd H dx (exd dx [(f, v)])) a (exo a C (some dx)))
structure ExcT (P : Program) (w : World) (K : PySem.W.Frag) (mg : Str → Option Value) (base : Heap) (x f : Str) (C : Addr) : Prop where
  gC : mg x = some (.ref C)
  oex : OexC K C
  noF : PySem.W.findIn K (.ref C) f = some none
  xf : XfC K C
  exm : PySem.W.exmOne K (.ref C) (.ref C) = some true
  init : ∃ (fI : Addr) (fd : FuncData), PySem.W.findIn K (.ref C) "__init__" = some (some (.ref fI)) ∧ PySem.W.typeIn K (.ref fI) = some (.type "function") ∧
    FnOk P w K mg base (L2N.CX P w) 1 fI fd ["self", f] (spInit K C f) ∧ Binds K fd ["self", f] []
section
variable {X : Cx} {CX : CXT} {x : Str} {e : Expr} {es : List Expr} {ta : TA} {p pos : Pos} {C fI : Addr} {k : Nat} {fd : FuncData} {ps : List Str} {sp : Sp}
/-- the making of such an error, where nothing is handled: its context is None -/
theorem made_err (T : OexC X.K C) (jC : PySem.W.findIn X.K (.ref C) "__init__" = some (some (.ref fI))) (jI : PySem.W.typeIn X.K (.ref fI) = some (.type "function"))
    (F1 : FnOk X.prog X.w X.K X.mg X.base CX k fI fd ps sp) (hr : Room (k + 1) X.A) (hb : Binds X.K fd ps []) (hx : Passes CX X (fun _ _ _ => False)) (hg : Gl X x) (hm : X.mg x = some (.ref C)) (ha : PA X (e :: es) ta)
    (hdb : (x == ("__debug__" : Str)) = false) (he : starEach (e :: es) X.env = (false, eval e X.env) :: starEach es X.env) (hpl : (backTo pos (starEach es X.env)).any (·.1) = false) :
    L2N.PMk X (.Call (.Name x p) (e :: es) [] pos) (tMkO C sp [] ta) := by
  intro pins st0 σ0 Ha Q0 Ia hta
  obtain ⟨c1, c2, c3, c4, bmr, c6, c7, c8, c9, c10, c11, c12, c13, c14, c15, hcls, hbm⟩ := T.cls
  refine wpAny_Call_Name_kw (ld_glob Ia hg hm ?_ hdb)
  refine PySem.W.callWith_K (h₀ := X.base) Ia.ok.mod.kin T.kC (thn (ha.run pos pins st0 σ0 Ha _ Ia hta) fun us st1 ⟨vs, Hb, Ib, rvs, hz, qb⟩ => ⟨Ib.kIn, ?_⟩) he hpl
  obtain ⟨hp, gg, dw, tk, oo⟩ := st1
  have kept : ∀ b o, hp.get? b = some o → ((hp.push (PySem.W.kdv_tup us)).push (PySem.HandSPX.excO C hp.objs.size)).get? b = some o := fun b o z => Heap.get?_push_of_some _ (Heap.get?_push_of_some _ z)
  have here : ((hp.push (PySem.W.kdv_tup us)).push (PySem.HandSPX.excO C hp.objs.size)).get? (hp.objs.size + 1) = some (PySem.HandSPX.excO C hp.objs.size) := by heap_get
  have free1 : Hb (hp.objs.size + 1) = none := Ib.hok.fresh (Nat.le_succ _)
  have prom := qb (hp.objs.size + 1) free1
  rw [List.append_nil] at prom
  have Ic : Inv X pins σ0 (upd Hb (hp.objs.size + 1) (exo (hp.objs.size + 1) C none)) ⟨(hp.push (PySem.W.kdv_tup us)).push (PySem.HandSPX.excO C hp.objs.size), gg, dw, tk, oo⟩ :=
    Ib.laid (t' := tk) kept (Nat.le_succ _) (exo_ok here)
  have rel : Vals (V.ref (hp.objs.size + 1) :: vs) (Value.ref (hp.objs.size + 1) :: us) := .cons rfl rvs
  have hlen : (Value.ref (hp.objs.size + 1) :: us).length = ps.length := by
    have z := rel.length
    rw [F1.len _ _ _ _ prom] at z
    exact z.symm
  have hsz : us.length ≤ sizeLine := by
    rw [← Paired.length rvs, sizeLine_eq]
    omega
  have bnd := hb _ (Value.ref (hp.objs.size + 1) :: us) Ic.kIn (by rw [List.append_nil]; exact hlen)
  rw [List.append_nil] at bnd
  refine wpAny_call (PySem.HandSPX.call_own F.excBase_ValueError (fun Y => PySem.HandSPX.refsVE_contains Y bmr hbm) (Ib.kIn _ _ hcls) (PySem.W.looks_findIn Ib.kIn jC) (fun self => PySem.W.bind_fn Ib.kIn self jI) hsz
    (codeAny_mono (F1.run _ X.stack _ _ ⟨Value.ref (hp.objs.size + 1) :: us, []⟩ _ _ _ (fun _ _ _ => False) (hr.make C us []) (Ic.env0.make C us []) bnd rel prom) fun r st2 back => ?_))
  cases r with
  | error er => exact hx pins σ0 _ _ er st2 Ic back
  | ok fl =>
    cases fl with
    | ret u =>
      obtain ⟨v, Hc, os2, bare2, un2, hok2, rv, ev, d, fs, ea, ed, hd1, q2⟩ := back
      subst ev
      obtain ⟨h2, g2, d2, t2, os'⟩ := st2
      obtain ⟨t0, G, J, kG, ge, hoe, na⟩ := mk_end0 (d2 := d2) (t2 := t2) Ib (Nat.le_succ _) kept un2 hok2 os2 bare2 ea ed hd1
      exact ⟨rv, hp.objs.size + 1, _, _, ⟨G, g2, d2, t2, os'⟩, _, .ref C, some d, rfl, J, kG, ge, hoe, ⟨rfl, rfl, fun w hw => by cases hw; rfl⟩, rfl, rfl, na, rfl, bare2, raises_own T.exC T.tyC, q2⟩
    | next => exact False.elim back
    | brk => exact False.elim back
    | cont => exact False.elim back
end
section
variable {X : Cx} {G0 : Hp} {e : Expr} {δ : List (Option D)} {μ : Mu} {pos p pos2 : Pos} {E : DEnds} {Ψ : List (Option D) → DX} {x f : Str} {C : Addr}
/-- raise X(e) -/
theorem s_raise (T : ExcT X.prog X.w X.K X.mg X.base x f C) (tk : dTk X G0 Ψ) (h : dE X G0 e δ μ fun d μ1 => Ψ δ C [(f, d)] μ1) {k : Nat} (hr : Room k X.A := by assumption) (hk : 2 ≤ k := by decide) (hc : X.calm = true := by rfl) (hg : Gl X x := by rfl) (hdb : (x == ("__debug__" : Str)) = false := by decide)
    (he : starEach (e :: []) X.env = (false, eval e X.env) :: starEach [] X.env := by rfl) (hpl : (backTo pos (starEach [] X.env)).any (·.1) = false := by rfl) : dS X G0 (.Raise (some (.Call (.Name x p) [e] [] pos)) none pos2) δ μ E := fun σ H B => by
  obtain ⟨fI, fd, i1, i2, i3, i4⟩ := T.init
  obtain ⟨W, tw, tq⟩ := tk
  refine wS_of (L2N.ps_raise hc tw (made_err T.oex i1 i2 i3 (hr.mono hk) i4 passN hg T.gC (pa_cons pe_w pa_nil he) hdb he hpl)) ?_
  refine h.go B fun v H1 d μ1 q m1 e1 r1 => ?_
  refine ⟨by show 1 ≤ 1000; decide, fun a ha => ⟨a, v, rfl, upd_same, fun dx hdx hne => ⟨rfl, dx, [(f, v)], upd_same, ?_, ?_, ?_⟩⟩⟩
  · rw [upd_ne hne, upd_same]
  · rw [upd_ne hne] at hdx
    exact hdx
  · have hdx1 : H1 dx = none := by
      rw [upd_ne hne] at hdx
      exact hdx
    have eH : upd (del (upd (upd (upd H1 a (exo a C none)) dx (exd dx [(f, v)])) a (exo a C (some dx))) a) dx (.xd [(f, v)]) = upd H1 dx (.xd [(f, v)]) := by
      funext b
      by_cases b1 : b = dx
      · rw [b1, upd_same, upd_same]
      · rw [upd_ne b1, upd_ne b1]
        by_cases b2 : b = a
        · rw [b2, del_same, ha]
        · rw [del_ne b2, upd_ne b2, upd_ne b1, upd_ne b2]
    rw [eH]
    have B1 := (B.step m1 e1).ext (sub_new (o := .xd [(f, v)]) hdx1)
    refine tq.1 C dx δ σ _ [(f, d)] μ1 q B1 fun b => .exc (fs := [(f, v)]) ?_ (.cons (r1.mono (mu_sub hdx1)) .nil)
    unfold Im
    rw [mu_free m1 hdx1, upd_same]
    rfl
/-! ### try .. except X as n -/
/-- e.f, e the error that the suite holds -/
theorem d_errf {a d : Addr} {oe : Obj} {pn : List (Addr × Obj)} {gs : List (Str × D)} {v : D} {Φ : DK} (hz : L2N.Zn (.ref C) (some d) oe) (hf : ∃ vs, oe.data = .fields vs) (xf : XfC X.K C) (no : PySem.W.findIn X.K (.ref C) f = some none)
    (he : dE (X.suite a ((a, oe) :: pn)) G0 e δ μ fun x μ1 => x = .exc a C d gs ∧ gs.lookup f = some v ∧ Φ v μ1) (hb : attributeBase e f X.env (eval e X.env) = eval e X.env := by rfl) : dE (X.suite a ((a, oe) :: pn)) G0 (.Attribute e f pos) δ μ Φ := fun σ H B Q k => by
  refine wE_of (pe_xf (cls := .ref C) (d := some d) xf no hz.zc hf pe_w hb) ?_
  refine he σ H B _ fun u H1 x μ1 q m1 e1 r1 => ?_
  obtain ⟨ex, hl, q⟩ := q
  subst ex
  cases r1 with
  | exc h r =>
    obtain ⟨w, hw, rw'⟩ := r.lookup hl
    exact ⟨rfl, rfl, d, _, w, rfl, im_all _ _ h, hw, (k.after e1).val m1 q rw'⟩
theorem hot_suite {a : Addr} {cls : Value} {d : Option Addr} {oe : Obj} {pn : List (Addr × Obj)} (hz : L2N.Zn cls d oe) (hf : ∃ vs, oe.data = .fields vs) : L2H.HotC (X.suite a ((a, oe) :: pn)) := by
  obtain ⟨vs, hd⟩ := hf
  exact ⟨(a, oe), ⟨rfl, vs, hd, hz.2.2 vs hd⟩, List.mem_cons_self⟩
/-- what the body's errors come to -/
def TryX (X : Cx) (G0 : Hp) (C : Addr) (i : Nat) (ss : List Stmt) (E : DEnds) (Ψ : List (Option D) → DX) : List (Option D) → DX := fun δ' C' gs μ' => ∃ b, PySem.W.exmOne X.K (.ref C') (.ref C) = some b ∧
  (b = true → ∀ (a d : Addr) (oe : Obj) (pn : List (Addr × Obj)), L2N.Zn (.ref C') (some d) oe → (∃ vs, oe.data = .fields vs) →
    dSs (X.suite a ((a, oe) :: pn)) G0 ss (δ'.set i (some (.exc a C' d gs))) μ' { nx := fun δ μ => E.nx (δ.set i none) μ, rt := E.rt, bk := fun δ μ => E.bk (δ.set i none) μ, ct := fun δ μ => E.ct (δ.set i none) μ }) ∧ (b = false → Ψ δ' C' gs μ') ∧
  (b = true → gs = bareG → ∀ (a : Addr) (oe : Obj) (pn : List (Addr × Obj)), L2N.Zn (.ref C') none oe → (∃ vs, oe.data = .fields vs) →
    dSs (X.suite a ((a, oe) :: pn)) G0 ss (δ'.set i (some (.ref a))) μ' { nx := fun δ μ => E.nx (δ.set i none) μ, rt := E.rt, bk := fun δ μ => E.bk (δ.set i none) μ, ct := fun δ μ => E.ct (δ.set i none) μ })
theorem Bd.none {K : PySem.W.Frag} {H : Hp} {σ : L2.St} (B : Bd K G0 δ μ σ H) (i : Nat) : Bd K G0 (δ.set i Option.none) μ (σ.set i Option.none) H := by
  refine ⟨by rw [List.length_set, List.length_set, B.len], fun j d h => ?_, B.mu, B.base⟩
  by_cases q : i = j
  · subst q
    rw [List.getElem?_set, if_pos rfl] at h
    split at h
    · cases h
    · cases h
  · rw [List.getElem?_set_ne q] at h
    obtain ⟨v, h1, h2⟩ := B.sl j d h
    exact ⟨v, by rw [List.getElem?_set_ne q]; exact h1, h2⟩
theorem s_try (i : Nat) {n : Str} {body : List Stmt} {b0 : Stmt} {suite : List Stmt} {np pos' : Pos} (hm : X.mg x = some (.ref C)) (tk : dTk X G0 Ψ)
    (hb : ∀ (pn : List (Addr × Obj)) (xe : Value → Shared → Prop), PassesOwn (model X.prog X.w) X.A X.env xe → dTk (X.tr pn xe) G0 (TryX X G0 C i (b0 :: suite) E Ψ) → dSs (X.tr pn xe) G0 body δ μ E)
    (hN : X.N.Nodup := by assumption) (hi : X.N[i]? = some n := by rfl) (hln : X.env.kindOf n = some .local := by rfl) (hg : Gl X x := by rfl) (hdb : (x == ("__debug__" : Str)) = false := by decide)
    (hs : X.stack = X.env :: X.outer := by rfl) (hf : X.env.frame = some X.env.locals := by rfl) : dS X G0 (.Try body [.ExceptHandler (some (.Name x np)) (some n) (b0 :: suite) pos'] [] [] pos) δ μ E := fun σ H B => by
  obtain ⟨Wo, tw, tq⟩ := tk
  refine wS_of (L2N.ps_try_as (i := i) (tb := fun W D σ H => ∀ pn xe, L2N.Takes (X.tr pn xe) W → PassesOwn (model X.prog X.w) X.A X.env xe → wSs (X.tr pn xe) body D σ H)
    (ts := fun a cls d D σ H => ∀ oe pn, L2N.Zn cls d oe → (∃ vs, oe.data = .fields vs) → wSs (X.suite a ((a, oe) :: pn)) (b0 :: suite) D σ H) hs hf hN hi hln ⟨hg, hdb, .inl hm⟩ tw
    (fun W pn xe tk' hp => ⟨fun pins s σ' H' D I q => q pn xe tk' hp pins s I⟩) (fun a oe cls d pn hz hv => ⟨fun pins s σ' H' D I q => q oe pn hz hv pins s I⟩)) ?_
  intro pn xe tk' hp
  refine hb pn xe hp ⟨_, tk', fun C' d δ' σ' H2 gs μ2 q B2 er => ?_, fun C' δ' σ' H2 μ2 q B2 => ?_⟩ σ H B
  · obtain ⟨b, hx, h1, h2, _⟩ := q
    refine ⟨b, hx, fun eb a ha oe pn' hz hv => ?_, fun eb => tq.1 C' d δ' σ' H2 gs μ2 (h2 eb) B2 er⟩
    refine wSs_mono ?_ (h1 eb a d oe pn' hz hv _ H2 (B2.set (er a)))
    exact ⟨fun σ3 H3 ⟨δ3, μ3, q3, B3⟩ => ⟨_, μ3, q3, B3.none i⟩, fun _ _ q => q, fun σ3 H3 ⟨δ3, μ3, q3, B3⟩ => ⟨_, μ3, q3, B3.none i⟩, fun σ3 H3 ⟨δ3, μ3, q3, B3⟩ => ⟨_, μ3, q3, B3.none i⟩⟩
  · obtain ⟨b, hx, _, h2, h3⟩ := q
    refine ⟨b, hx, fun eb a ha oe pn' hz hv => ?_, fun eb => tq.2 C' δ' σ' H2 μ2 (h2 eb) B2⟩
    refine wSs_mono ?_ (h3 eb rfl a oe pn' hz hv _ H2 (B2.set (.ref a)))
    exact ⟨fun σ3 H3 ⟨δ3, μ3, q3, B3⟩ => ⟨_, μ3, q3, B3.none i⟩, fun _ _ q => q, fun σ3 H3 ⟨δ3, μ3, q3, B3⟩ => ⟨_, μ3, q3, B3.none i⟩, fun σ3 H3 ⟨δ3, μ3, q3, B3⟩ => ⟨_, μ3, q3, B3.none i⟩⟩
/-! ### errors that carry nothing -/
structure BareT (K : PySem.W.Frag) (mg : Str → Option Value) (x : Str) (C : Addr) : Prop where
  gC : mg x = some (.ref C)
  exB : ∃ bmB B newId initId, PySem.ExcBaseFacts B newId initId bmB ∧ PySem.W.excIn K C bmB newId = true
  kC : PySem.W.keepIn K (.ref C) = true
  exC : PySem.W.subIn K (.ref C) (.type "BaseException") = some true
  tyC : PySem.W.typeIn K (.ref C) = some (.type "type")
  exm : PySem.W.exmOne K (.ref C) (.ref C) = some true
theorem bare_err (T : BareT X.K X.mg x C) (hg : Gl X x) (hdb : (x == ("__debug__" : Str)) = false) : L2N.PMk X (.Call (.Name x p) [] [] pos) (fun _ H Q => Q (.ref C) none H) := by
  obtain ⟨bmB, Bn, newId, initId, F, qx⟩ := T.exB
  intro pins s σ H Q I h
  refine wpAny_Call_Name_kw (ld_glob I hg T.gC ?_ hdb)
  refine PySem.W.callWith_K0 I.kIn T.kC ?_
  show wpAny _ _ (call (.ref C) []) _ _ _
  obtain ⟨bm, N, nm, qn, bs, hdct, sn, sub, ab, col, dd, k0, k1, k2, k3, k5, mN, hC, hN, hni, TT⟩ := exc_obj I.kIn qx
  refine wpAny_call_exc_subT F TT hC hN hni (fun h' e hm => ?_) (by show 0 ≤ sizeLine; rw [sizeLine_eq]; omega)
  exact L2N.mk_of I hm (raises_own T.exC T.tyC) h (I.hok.gone hm.new)
/-- raise X() -/
theorem s_raise0 (T : BareT X.K X.mg x C) (tk : dTk X G0 Ψ) (h : Ψ δ C bareG μ) (hc : X.calm = true := by rfl) (hg : Gl X x := by rfl) (hdb : (x == ("__debug__" : Str)) = false := by decide) : dS X G0 (.Raise (some (.Call (.Name x p) [] [] pos)) none pos2) δ μ E := fun σ H B => by
  obtain ⟨W, tw, tq⟩ := tk
  refine wS_of (L2N.ps_raise hc tw (bare_err T hg hdb)) ?_
  exact tq.2 C δ σ H μ h B
/-- try .. except X: .. (no name) -/
def TryN (X : Cx) (G0 : Hp) (C : Addr) (ss : List Stmt) (E : DEnds) (Ψ : List (Option D) → DX) : List (Option D) → DX := fun δ' C' gs μ' => ∃ b, PySem.W.exmOne X.K (.ref C') (.ref C) = some b ∧
  (b = true → ∀ (a : Addr) (d : Option Addr) (oe : Obj) (pn : List (Addr × Obj)), L2N.Zn (.ref C') d oe → (∃ vs, oe.data = .fields vs) → dSs (X.suite a ((a, oe) :: pn)) G0 ss δ' μ' E) ∧ (b = false → Ψ δ' C' gs μ')
theorem s_tryN {body : List Stmt} {b0 : Stmt} {suite : List Stmt} {np pos' : Pos} (hm : X.mg x = some (.ref C)) (tk : dTk X G0 Ψ)
    (hb : ∀ (pn : List (Addr × Obj)) (xe : Value → Shared → Prop), PassesOwn (model X.prog X.w) X.A X.env xe → dTk (X.tr pn xe) G0 (TryN X G0 C (b0 :: suite) E Ψ) → dSs (X.tr pn xe) G0 body δ μ E)
    (hg : Gl X x := by rfl) (hdb : (x == ("__debug__" : Str)) = false := by decide)
    (hs : X.stack = X.env :: X.outer := by rfl) (hf : X.env.frame = some X.env.locals := by rfl) : dS X G0 (.Try body [.ExceptHandler (some (.Name x np)) none (b0 :: suite) pos'] [] [] pos) δ μ E := fun σ H B => by
  obtain ⟨Wo, tw, tq⟩ := tk
  refine wS_of (L2N.ps_try_many (tb := fun W D σ H => ∀ pn xe, L2N.Takes (X.tr pn xe) W → PassesOwn (model X.prog X.w) X.A X.env xe → wSs (X.tr pn xe) body D σ H) hs hf tw
    (fun W pn xe tk' hp => ⟨fun pins s σ' H' D I q => q pn xe tk' hp pins s I⟩)
    (.cons (ts := fun a cls d D σ H => ∀ oe pn, L2N.Zn cls d oe → (∃ vs, oe.data = .fields vs) → wSs (X.suite a ((a, oe) :: pn)) (b0 :: suite) D σ H) ⟨hg, hdb, .inl hm⟩ (fun a oe cls d pn hz hv => ⟨fun pins s σ' H' D I q => q oe pn hz hv pins s I⟩) .nil)) ?_
  intro pn xe tk' hp
  refine hb pn xe hp ⟨_, tk', fun C' d δ' σ' H2 gs μ2 q B2 er => ?_, fun C' δ' σ' H2 μ2 q B2 => ?_⟩ σ H B
  · obtain ⟨b, hx, h1, h2⟩ := q
    exact ⟨b, hx, fun eb a ha oe pn' hz hv => h1 eb a _ oe pn' hz hv σ' H2 B2, fun eb => tq.1 C' d δ' σ' H2 gs μ2 (h2 eb) B2 er⟩
  · obtain ⟨b, hx, h1, h2⟩ := q
    exact ⟨b, hx, fun eb a ha oe pn' hz hv => h1 eb a _ oe pn' hz hv σ' H2 B2, fun eb => tq.2 C' δ' σ' H2 μ2 (h2 eb) B2⟩
end
/-! ### a def called while an error is handled -/
structure CalH (P : Program) (w : World) (K : PySem.W.Frag) (mg : Str → Option Value) (base : Heap) (k : Nat) (x : Str) (sp : DSp) : Prop where
  ex : ∃ (f : Addr) (fd : FuncData) (ps : List Str), L2H.FnH P w K mg base (L2N.CX P w) k f fd ps (liftSp K sp) ∧ mg x = some (.ref f) ∧ PySem.W.keepIn K (.ref f) = true ∧ Binds K fd ps []
section
variable {P : Program} {w : World} {K : PySem.W.Frag} {mg : Str → Option Value} {base : Heap}
abbrev cxDH (P : Program) (w : World) (K : PySem.W.Frag) (mg : Str → Option Value) (base : Heap) (N : List Str) (qual : Str) (st : Stmt) (f : Addr) (cd : Value) (A : Around) (outer : List Env) (s : Shared) (H : Hp) (E : XK) (p : Addr × Obj) : Cx :=
  L2H.cxH (L2N.CX P w) P w K mg base N qual (defScope st) f cd A outer s H E p
theorem DefT.calH {x : Str} {st : Stmt} {N ps : List Str} {k : Nat} {sp : DSp} (D : DefT K mg x st ps) (S : FnScope N ps (defScope st)) (len : ∀ ds μ Φ Ψ, sp ds μ Φ Ψ → ds.length = ps.length)
    (h : ∀ ds μ Φ Ψ, sp ds μ Φ Ψ → ∀ (f : Addr) (cd : Value) (A : Around) (outer : List Env) (s : Shared) (H : Hp) (E : XK) (p : Addr × Obj) (G0 : Hp), L2H.RoomH k (cxDH P w K mg base N x st f cd A outer s H E p).A → dSs (cxDH P w K mg base N x st f cd A outer s H E p) G0 (defBody st) (dst N ds) μ { nx := fun _ μ' => Φ .non μ', rt := Φ }) : CalH P w K mg base (k + 1) x sp := by
  obtain ⟨f, fd, F, hm, hb⟩ := D.ex
  obtain ⟨oc, od, kV, doc, pm, an, cdv, ct, osl, rfl, lk, hcd⟩ := F.ex
  refine ⟨f, _, ps, L2H.fn_ofH lk hcd S (fun vs H Q E hs => ?_) (fun A outer s H vs Q E p _ hr hs => ?_), hm, F.kp, hb⟩
  · obtain ⟨ds, μ, Φ, Ψ, r, _, q, _⟩ := hs
    rw [r.length]
    exact len ds μ Φ Ψ q
  · obtain ⟨ds, μ, Φ, Ψ, r, m, q, kk, kx⟩ := hs
    refine ⟨_, pss_w, ?_⟩
    have B := bd_start (N := N) r m
    refine wSs_mono (D := dEn K (Im μ H) { nx := fun _ μ' => Φ .non μ', rt := Φ }) ⟨fun σ' H' ⟨δ', μ', q', B'⟩ => ?_, fun v H' ⟨d, μ', q', m', e', r'⟩ => kk v H' d μ' q' m' e' r', fun _ _ ⟨_, _, q', _⟩ => q'.elim, fun _ _ ⟨_, _, q', _⟩ => q'.elim⟩
      (h ds μ Φ Ψ q f cdv A outer s H E p (Im μ H) hr _ H B)
    exact kk .non H' .non μ' q' B'.mu B'.base .non
end
section
variable {X : Cx} {G0 : Hp} {e : Expr} {es : List Expr} {δ : List (Option D)} {μ : Mu} {pos : Pos} {Φ : DK}
theorem d_callH {j k : Nat} {x : Str} {sp : DSp} {p : Pos} (C : CalH X.prog X.w X.K X.mg X.base j x sp) (hot : L2H.HotC X) (ha : dA X G0 (e :: es) δ μ fun xs μ1 => sp xs μ1 Φ NoX) (hr : L2H.RoomH k X.A := by assumption) (hj : j ≤ k := by decide) (hg : Gl X x := by rfl) (hdb : (x == ("__debug__" : Str)) = false := by decide)
    (he : starEach (e :: es) X.env = (false, eval e X.env) :: starEach es X.env := by rfl) (hpl : (backTo pos (starEach es X.env)).any (·.1) = false := by rfl) : dE X G0 (.Call (.Name x p) (e :: es) [] pos) δ μ Φ := fun σ H B Q kk => by
  obtain ⟨f, fd, ps, F, hm, hk, hb⟩ := C.ex
  refine wE_of (L2H.pe_callH (E := fun _ => E0) F (hr.mono hj) hot hg hm hk hb (fun σ pins H s e s' _ c => by obtain ⟨_, _, _, _, _, _, _, _, _, _, _, _, z⟩ := c; exact z.elim) pa_w hdb he hpl) ?_
  refine ha σ H B _ fun vs H1 xs μ1 q m1 e1 r1 => ?_
  exact ⟨xs, μ1, Φ, NoX, r1, m1, q, kk.after e1, noX⟩
end
end DL

namespace DL
open PySem PySem.Spec PyProof.Rows L2
/-! ### defaults, keywords -/
/-- a def with defaults: the call without the last ones (values ds behind what is written) -/
structure CalD (P : Program) (w : World) (K : PySem.W.Frag) (mg : Str → Option Value) (base : Heap) (k : Nat) (x : Str) (dds : List D) (sp : DSp) : Prop where
  ex : ∃ (f : Addr) (fd : FuncData) (ps : List Str) (dvs : List V) (ds : List Value), FnOk P w K mg base (L2N.CX P w) k f fd ps (liftSp K sp) ∧ mg x = some (.ref f) ∧ PySem.W.keepIn K (.ref f) = true ∧ Binds K fd ps ds ∧ Vals dvs ds ∧ ∀ G, RpAll K G dvs dds
/-- a call by keywords alone, ks in their order; gD puts the values in the parameters' order -/
structure CalK (P : Program) (w : World) (K : PySem.W.Frag) (mg : Str → Option Value) (base : Heap) (k : Nat) (x : Str) (ks : List Str) (gD : List D → List D) (sp : DSp) : Prop where
  ex : ∃ (f : Addr) (fd : FuncData) (ps : List Str) (g : List Value → List Value → List Value) (gV : List V → List V → List V), FnOk P w K mg base (L2N.CX P w) k f fd ps (liftSp K sp) ∧ mg x = some (.ref f) ∧ PySem.W.keepIn K (.ref f) = true ∧ KBn K fd ps 0 ks g gV ∧
    ∀ G vs ds, RpAll K G vs ds → ds.length = ks.length → RpAll K G (gV [] vs) (gD ds)
section
variable {X : Cx} {G0 : Hp} {e : Expr} {es : List Expr} {kws : List Keyword} {δ : List (Option D)} {μ : Mu} {pos p : Pos} {Φ : DK} {x : Str} {sp : DSp} {j k : Nat}
theorem d_callD {dds : List D} (C : CalD X.prog X.w X.K X.mg X.base j x dds sp) (ha : dA X G0 (e :: es) δ μ fun xs μ1 => sp (xs ++ dds) μ1 Φ NoX) (hr : Room k X.A := by assumption) (hj : j ≤ k := by decide) (hg : Gl X x := by rfl) (hdb : (x == ("__debug__" : Str)) = false := by decide)
    (he : starEach (e :: es) X.env = (false, eval e X.env) :: starEach es X.env := by rfl) (hpl : (backTo pos (starEach es X.env)).any (·.1) = false := by rfl) : dE X G0 (.Call (.Name x p) (e :: es) [] pos) δ μ Φ := fun σ H B Q kk => by
  obtain ⟨f, fd, ps, dvs, ds, F, hm, hk, hb, hv, hd⟩ := C.ex
  refine wE_of (pe_call F (hr.mono hj) hg hm hk hb hv passN pa_w hdb he hpl) ?_
  refine ha σ H B _ fun vs H1 xs μ1 q m1 e1 r1 => ?_
  exact ⟨xs ++ dds, μ1, Φ, NoX, r1.append (hd _), m1, q, kk.after e1, noX⟩
/-- f(k = v, ..) -/
theorem d_callK {ks : List Str} {gD : List D → List D} (C : CalK X.prog X.w X.K X.mg X.base j x ks gD sp) (ha : dKw X G0 kws δ μ fun xs μ1 => xs.length = ks.length ∧ sp (gD xs) μ1 Φ NoX) (hr : Room k X.A := by assumption) (hj : j ≤ k := by decide) (hg : Gl X x := by rfl) (hdb : (x == ("__debug__" : Str)) = false := by decide)
    (hall : (backToKw pos (keywordEach kws X.env)).all (·.1.isSome) = true := by rfl) (hks : (backToKw pos (keywordEach kws X.env)).filterMap (·.1) = ks := by rfl)
    (hpl : ((backTo pos (starEach [] X.env)).any (·.1) || (backToKw pos (keywordEach kws X.env)).any (·.1.isNone)) = false := by rfl) : dE X G0 (.Call (.Name x p) [] kws pos) δ μ Φ := fun σ H B Q kk => by
  obtain ⟨f, fd, ps, g, gV, F, hm, hk, hb, hv⟩ := C.ex
  intro pins s I
  refine wpAny_Call_Name_kw (ld_glob I hg hm ?_ hdb)
  refine PySem.W.callWith_KW0 (h₀ := X.base) I.ok.mod.kin hk hall ?_ hpl
  refine thn (pk_w.run pos pins s σ H _ I (ha σ H B (fun vs H1 => vs.length = ks.length ∧ liftSp X.K sp (gV [] vs) H1 Q E0) fun vs H1 xs μ1 ⟨hl, q⟩ m1 e1 r1 => ?_)) fun ws s2 ⟨zs, H2, I2, rz, hl, q2⟩ => ⟨I2.kIn, ?_⟩
  · exact ⟨by rw [r1.length]; exact hl, gD xs, μ1, Φ, NoX, hv _ vs xs r1 hl, m1, q, kk.after e1, noX⟩
  · rw [hks]
    exact run_fnN (us := []) (vs := []) F (hr.mono hj) hb passN I2 .nil rz rfl hl q2
end
/-- a def of the text with one default -/
structure DefD (K : PySem.W.Frag) (mg : Str → Option Value) (x : Str) (st : Stmt) (ps : List Str) (dv : V) : Prop where
  ex : ∃ (f : Addr) (fd : FuncData), FunD K x x (defArgs st) (defBody st) (defScope st) [dv] [] f fd ∧ mg x = some (.ref f)
section
variable {P : Program} {w : World} {K : PySem.W.Frag} {mg : Str → Option Value} {base : Heap}
theorem cal_fnD {x : Str} {st : Stmt} {f : Addr} {fd : FuncData} {N ps : List Str} {k : Nat} {sp : DSp} {dvs : List V} (F : FunD K x x (defArgs st) (defBody st) (defScope st) dvs [] f fd) (S : FnScope N ps (defScope st)) (len : ∀ ds μ Φ Ψ, sp ds μ Φ Ψ → ds.length = ps.length)
    (h : ∀ ds μ Φ Ψ, sp ds μ Φ Ψ → Body P w K mg base k N x st ds μ Φ Ψ) : FnOk P w K mg base (L2N.CX P w) (k + 1) f fd ps (liftSp K sp) := by
  obtain ⟨oc, od, dV, kV, doc, pm, an, cdv, ct, osl, rfl, lk, hcd, _, _⟩ := F.ex
  exact cal_fn lk hcd S len h
end
end DL
namespace DL
open PySem PySem.Spec PyProof.Rows L2
section
variable {X : Cx} {G0 : Hp} {st : Stmt} {rest : List Stmt} {δ : List (Option D)} {μ : Mu} {E : DEnds}
/-- a statement, and what holds behind it on every way -/
theorem s_cut (M : List (Option D) → Mu → Prop) (h1 : dS X G0 st δ μ { E with nx := M }) (h2 : ∀ δ' μ', M δ' μ' → dSs X G0 rest δ' μ' E) : dSs X G0 (st :: rest) δ μ E := s_cons fun σ H B => by
  refine wS_mono (D := dEn X.K G0 { E with nx := M }) ⟨fun σ' H' q => ?_, fun _ _ q => q, fun _ _ q => q, fun _ _ q => q⟩ (h1 σ H B)
  obtain ⟨δ', μ', q, B'⟩ := q
  exact ⟨δ', μ', h2 δ' μ' q, B'⟩
end
/-! ### numbers -/
theorem na_lt {i : Int} {n : Nat} (h0 : -(2 : Int) ^ n < i) (h : i < (2 : Int) ^ n) : i.natAbs < 2 ^ n := by
  have e : ((2 ^ n : Nat) : Int) = (2 : Int) ^ n := by simp
  omega
theorem na_up {i : Int} {n m : Nat} (h : i.natAbs < 2 ^ n) (hm : n ≤ m) : i.natAbs < 2 ^ m := Nat.lt_of_lt_of_le h (Nat.pow_le_pow_right (by decide) hm)
theorem na_mul {i j : Int} {a b : Nat} (ha : i.natAbs < 2 ^ a) (hb : j.natAbs < 2 ^ b) : (i * j).natAbs < 2 ^ (a + b) := wide_lt ha hb
theorem na_add {i j : Int} {a : Nat} (ha : i.natAbs < 2 ^ a) (hb : j.natAbs < 2 ^ a) : (i + j).natAbs < 2 ^ (a + 1) := by
  rw [Nat.pow_succ]
  omega
theorem na_sub {i j : Int} {a : Nat} (ha : i.natAbs < 2 ^ a) (hb : j.natAbs < 2 ^ a) : (i - j).natAbs < 2 ^ (a + 1) := by
  rw [Nat.pow_succ]
  omega
theorem mulOk {i j : Int} {a b : Nat} (ha : i.natAbs < 2 ^ a) (hb : j.natAbs < 2 ^ b) (h : a + b ≤ 900000) : CMulW i j :=
  wide_mul (na_up ha (Nat.le_add_right a 1)) (na_up hb (Nat.le_add_right b 1)) (by omega) (by omega) (by omega)
theorem divOk {i j : Int} {a : Nat} (h : j ≠ 0) (ha : j.natAbs < 2 ^ a) (hl : a ≤ 8000) : CDivX i j :=
  ⟨h, Nat.lt_of_lt_of_le (PySem.Flt.log2_lt_of (by omega) (na_up ha (Nat.le_add_right a 1))) (by omega)⟩
theorem fmod_range {i j : Int} (h : 0 < j) : 0 ≤ i.fmod j ∧ i.fmod j < j := ⟨Int.fmod_nonneg_of_pos i h, Int.fmod_lt_of_pos i h⟩
/-! ### the draws -/
/-- what a pool holds: at most n draws so far -/
def Pool (n : Nat) (c : D) : Prop := ∃ (i cur : Int) (ns : List Int), c = .lst [.int i, .int cur, .lst (ns.map .int)] ∧ 0 ≤ i ∧ i ≤ n ∧ 0 ≤ cur ∧ ns.length ≤ 63
def spPool : DSp := fun ds μ Φ _ => ∃ ns : List Int, ds = [.scr ns] ∧ ns.length ≤ 63 ∧ ∀ p c, μ p = none → Pool 0 c → Φ (.ref p) (updM μ p c)
def spTake : DSp := fun ds μ Φ _ => ∃ (p : Addr) (m : Int) (c : D) (n : Nat), ds = [.ref p, .int m] ∧ 0 < m ∧ m < 2 ^ 200 ∧ μ p = some c ∧ Pool n c ∧ n < 2 ^ 30 ∧
  ∀ d c', 0 ≤ d → d < m → Pool (n + 1) c' → Φ (.int d) (updM μ p c')
end DL

namespace DL
open PySem PySem.Spec PyProof.Rows L2
section
variable {X : Cx} {G0 : Hp} {e a b c it elt : Expr} {es rest : List Expr} {sts : List Stmt} {δ : List (Option D)} {μ : Mu} {Φ : DK} {pos : Pos} {K : PySem.W.Frag} {H : Hp} {Q : VK} {E : DEnds}
/-- [e for x, y in a list] -/
theorem d_lcL2 {x y : Str} {scope : Scope} {tp tp2 tq cp : Pos} {kk : Nat} {own : List (Str × Nat)} {vs : List Nat} (j j2 : Nat)
    (h : dE X G0 it δ μ fun d μ1 => ∃ ds, d = .lst ds ∧ ∃ Pv : Nat → List D → Mu → Prop, Pv 0 [] μ1 ∧ (∀ (i : Nat) d acc μ2 p, ds[i]? = some d → Pv i acc μ2 → μ2 p = none → ∃ d1 d2, d = .tup [d1, d2] ∧ LcTurn X scope elt p acc (((wipeD δ vs).set j (some d1)).set j2 (some d2)) μ2 (Pv (i + 1))) ∧ ∀ acc μ2 p, Pv ds.length acc μ2 → μ2 p = none → Φ (.ref p) (updM μ2 p (.lst acc)))
    (hb : blkC X.N X.env.scope scope own = true := by kernel_rfl) (hj : j ∈ vs := by decide) (hj2 : j2 ∈ vs := by decide) (hv : own.map (·.2) = vs := by rfl) (hN : X.N.Nodup := by assumption) (hc : X.calm = true := by rfl)
    (hi : X.N[j]? = some x := by rfl) (hi2 : X.N[j2]? = some y := by rfl) (hx : ∀ s H C cl fp, Loc (BX X scope s H C cl fp).env.scope x := by first | exact fun _ _ _ _ _ => Or.inl rfl | exact fun _ _ _ _ _ => Or.inr rfl) (hf : ∀ s H C cl fp, (BX X scope s H C cl fp).fn x = true ∨ (BX X scope s H C cl fp).env.scope.names.lookup x = some .local := by first | exact fun _ _ _ _ _ => .inr rfl | exact fun _ _ _ _ _ => .inl rfl)
    (hx2 : ∀ s H C cl fp, Loc (BX X scope s H C cl fp).env.scope y := by first | exact fun _ _ _ _ _ => Or.inl rfl | exact fun _ _ _ _ _ => Or.inr rfl) (hf2 : ∀ s H C cl fp, (BX X scope s H C cl fp).fn y = true ∨ (BX X scope s H C cl fp).env.scope.names.lookup y = some .local := by first | exact fun _ _ _ _ _ => .inr rfl | exact fun _ _ _ _ _ => .inl rfl)
    (hs1 : ∀ s H C cl fp, (assignEach [.Name x tp, .Name y tp2] (BX X scope s H C cl fp).env).map (·.2) = assign (.Name x tp) (BX X scope s H C cl fp).env :: (assignEach [.Name y tp2] (BX X scope s H C cl fp).env).map (·.2) := by exact fun _ _ _ _ _ => rfl) (hs2 : ∀ s H C cl fp, (assignEach [.Name y tp2] (BX X scope s H C cl fp).env).map (·.2) = assign (.Name y tp2) (BX X scope s H C cl fp).env :: (assignEach [] (BX X scope s H C cl fp).env).map (·.2) := by exact fun _ _ _ _ _ => rfl)
    (hn : ∀ s H C cl fp, (assignEach [.Name x tp, .Name y tp2] (BX X scope s H C cl fp).env).length = 2 := by exact fun _ _ _ _ _ => rfl) (hst : ∀ s H C cl fp, (assignEach [.Name x tp, .Name y tp2] (BX X scope s H C cl fp).env).findIdx? (·.1) = none := by exact fun _ _ _ _ _ => rfl)
    (hs : ∀ x, foldedSetIterable it X.env x = pure x := by intro _; rfl) : dE X G0 (.ListComp elt [⟨.Tuple [.Name x tp, .Name y tp2] kk tq, it, [], 0⟩] scope cp) δ μ Φ := fun σ H B Q k => by
  refine wE_of (pe_lc (g := gTup X.K 2 (gCons (gName j) (gCons (gName j2) gNil))) hc hN (pi_list pe_w) (blkOk_by hb) (fun s H C cl fp => pg_tup (X := BX X scope s H C cl fp) (n := 2) hc (pgs_cons (pg_name (i := j) hN hi (hx s H C cl fp) (hf s H C cl fp)) (pgs_cons (pg_name (i := j2) hN hi2 (hx2 s H C cl fp) (hf2 s H C cl fp)) pgs_nil (hs2 s H C cl fp)) (hs1 s H C cl fp)) (hn s H C cl fp) (hst s H C cl fp)) (fun _ _ _ _ _ => pts_nil) (fun s H C cl fp => (⟨fun pins s' σ' H' Q' I q => q s H C cl fp pins s' I⟩ : PE _ _ (wEs X scope elt))) hs) ?_
  rw [hv]
  refine h σ H B _ fun v H1 d μ1 q m1 e1 r1 => ?_
  obtain ⟨ds, rfl, Pv, p0, turn, fin⟩ := q
  obtain ⟨a, ws, rfl, hG, ra⟩ : ∃ a ws, v = .ref a ∧ Im μ1 H1 a = some (.lst ws) ∧ RpAll X.K (Im μ1 H1) ws ds := by
    cases r1 with
    | lst h r => exact ⟨_, _, rfl, h, r⟩
  have B1 := (B.step m1 e1).wipe vs
  refine ⟨a, rfl, ⟨ws, SqL.of (im_all _ _ hG)⟩, fun p hp => ?_⟩
  have hi0 : Im (updM μ1 p (.lst [])) (upd H1 p (.lst [])) = Im μ1 H1 := im_new hp
  have B2 : Bd X.K (Im μ1 H1) (wipeD δ vs) (updM μ1 p (.lst [])) (L2.wipe σ vs) (upd H1 p (.lst [])) := B1.rebase.step (m1.upd hi0 .nil) (by rw [hi0]; exact Sub.refl _)
  refine lc_list (xs := ws) (fun i H' => ∃ acc μ2, Pv i acc μ2 ∧ μ2 p = none ∧ Bd X.K (Im μ1 H1) (wipeD δ vs) (updM μ2 p (.lst acc)) (L2.wipe σ vs) H') ⟨[], μ1, p0, mu_free m1 hp, B2⟩ (fun i H' _ ⟨acc, μ2, _, _, B'⟩ => SqL.of (im_all _ _ (B'.base _ _ hG))) (fun i y H' hy ⟨acc, μ2, hP, hp2, B'⟩ => ?_) (fun H' ⟨acc, μ2, hP, hp2, B'⟩ => ?_)
  · have hl : i < ds.length := by rw [← ra.length]; exact (List.getElem?_eq_some_iff.mp hy).1
    obtain ⟨w', hw, rw'⟩ := ra.get (List.getElem?_eq_getElem hl)
    rw [hw] at hy
    cases hy
    obtain ⟨d1, d2, ed, tn⟩ := turn i _ acc μ2 p (List.getElem?_eq_getElem hl) hP hp2
    rw [ed] at rw'
    obtain ⟨b, us, rfl, hb2, rb⟩ := rp_tup_at (rw'.mono B'.base)
    obtain ⟨v1, v2, rfl, r1, r2⟩ := rp2 rb
    refine ⟨b, [v1, v2], rfl, SqT.of hb2, rfl, v1, [v2], rfl, v2, [], rfl, rfl, ?_, ?_⟩
    · rw [wipe_set hj2, wipe_set hj, wipe_wipe]
    · exact lc_turn ((B'.set r1).set r2) B' tn
  · rw [ra.length] at hP
    exact lc_end (k.after e1) hp2 (fin acc μ2 p hP hp2) B'
/-- [e for x, y in a tuple] -/
theorem d_lcT2 {x y : Str} {scope : Scope} {tp tp2 tq cp : Pos} {kk : Nat} {own : List (Str × Nat)} {vs : List Nat} (j j2 : Nat)
    (h : dE X G0 it δ μ fun d μ1 => ∃ ds, d = .tup ds ∧ ∃ Pv : Nat → List D → Mu → Prop, Pv 0 [] μ1 ∧ (∀ (i : Nat) d acc μ2 p, ds[i]? = some d → Pv i acc μ2 → μ2 p = none → ∃ d1 d2, d = .tup [d1, d2] ∧ LcTurn X scope elt p acc (((wipeD δ vs).set j (some d1)).set j2 (some d2)) μ2 (Pv (i + 1))) ∧ ∀ acc μ2 p, Pv ds.length acc μ2 → μ2 p = none → Φ (.ref p) (updM μ2 p (.lst acc)))
    (hb : blkC X.N X.env.scope scope own = true := by kernel_rfl) (hj : j ∈ vs := by decide) (hj2 : j2 ∈ vs := by decide) (hv : own.map (·.2) = vs := by rfl) (hN : X.N.Nodup := by assumption) (hc : X.calm = true := by rfl)
    (hi : X.N[j]? = some x := by rfl) (hi2 : X.N[j2]? = some y := by rfl) (hx : ∀ s H C cl fp, Loc (BX X scope s H C cl fp).env.scope x := by first | exact fun _ _ _ _ _ => Or.inl rfl | exact fun _ _ _ _ _ => Or.inr rfl) (hf : ∀ s H C cl fp, (BX X scope s H C cl fp).fn x = true ∨ (BX X scope s H C cl fp).env.scope.names.lookup x = some .local := by first | exact fun _ _ _ _ _ => .inr rfl | exact fun _ _ _ _ _ => .inl rfl)
    (hx2 : ∀ s H C cl fp, Loc (BX X scope s H C cl fp).env.scope y := by first | exact fun _ _ _ _ _ => Or.inl rfl | exact fun _ _ _ _ _ => Or.inr rfl) (hf2 : ∀ s H C cl fp, (BX X scope s H C cl fp).fn y = true ∨ (BX X scope s H C cl fp).env.scope.names.lookup y = some .local := by first | exact fun _ _ _ _ _ => .inr rfl | exact fun _ _ _ _ _ => .inl rfl)
    (hs1 : ∀ s H C cl fp, (assignEach [.Name x tp, .Name y tp2] (BX X scope s H C cl fp).env).map (·.2) = assign (.Name x tp) (BX X scope s H C cl fp).env :: (assignEach [.Name y tp2] (BX X scope s H C cl fp).env).map (·.2) := by exact fun _ _ _ _ _ => rfl) (hs2 : ∀ s H C cl fp, (assignEach [.Name y tp2] (BX X scope s H C cl fp).env).map (·.2) = assign (.Name y tp2) (BX X scope s H C cl fp).env :: (assignEach [] (BX X scope s H C cl fp).env).map (·.2) := by exact fun _ _ _ _ _ => rfl)
    (hn : ∀ s H C cl fp, (assignEach [.Name x tp, .Name y tp2] (BX X scope s H C cl fp).env).length = 2 := by exact fun _ _ _ _ _ => rfl) (hst : ∀ s H C cl fp, (assignEach [.Name x tp, .Name y tp2] (BX X scope s H C cl fp).env).findIdx? (·.1) = none := by exact fun _ _ _ _ _ => rfl)
    (hs : ∀ x, foldedSetIterable it X.env x = pure x := by intro _; rfl) : dE X G0 (.ListComp elt [⟨.Tuple [.Name x tp, .Name y tp2] kk tq, it, [], 0⟩] scope cp) δ μ Φ := fun σ H B Q k => by
  refine wE_of (pe_lc (g := gTup X.K 2 (gCons (gName j) (gCons (gName j2) gNil))) hc hN (pi_tup pe_w) (blkOk_by hb) (fun s H C cl fp => pg_tup (X := BX X scope s H C cl fp) (n := 2) hc (pgs_cons (pg_name (i := j) hN hi (hx s H C cl fp) (hf s H C cl fp)) (pgs_cons (pg_name (i := j2) hN hi2 (hx2 s H C cl fp) (hf2 s H C cl fp)) pgs_nil (hs2 s H C cl fp)) (hs1 s H C cl fp)) (hn s H C cl fp) (hst s H C cl fp)) (fun _ _ _ _ _ => pts_nil) (fun s H C cl fp => (⟨fun pins s' σ' H' Q' I q => q s H C cl fp pins s' I⟩ : PE _ _ (wEs X scope elt))) hs) ?_
  rw [hv]
  refine h σ H B _ fun v H1 d μ1 q m1 e1 r1 => ?_
  obtain ⟨ds, rfl, Pv, p0, turn, fin⟩ := q
  obtain ⟨a, ws, rfl, hG, ra⟩ : ∃ a ws, v = .ref a ∧ Im μ1 H1 a = some (.tup ws) ∧ RpAll X.K (Im μ1 H1) ws ds := by
    cases r1 with
    | tup h r => exact ⟨_, _, rfl, h, r⟩
  have B1 := (B.step m1 e1).wipe vs
  refine ⟨a, rfl, ⟨ws, SqT.of (im_all _ _ hG)⟩, fun p hp => ?_⟩
  have hi0 : Im (updM μ1 p (.lst [])) (upd H1 p (.lst [])) = Im μ1 H1 := im_new hp
  have B2 : Bd X.K (Im μ1 H1) (wipeD δ vs) (updM μ1 p (.lst [])) (L2.wipe σ vs) (upd H1 p (.lst [])) := B1.rebase.step (m1.upd hi0 .nil) (by rw [hi0]; exact Sub.refl _)
  refine lc_tup (xs := ws) (fun i H' => ∃ acc μ2, Pv i acc μ2 ∧ μ2 p = none ∧ Bd X.K (Im μ1 H1) (wipeD δ vs) (updM μ2 p (.lst acc)) (L2.wipe σ vs) H') ⟨[], μ1, p0, mu_free m1 hp, B2⟩ (fun i H' _ ⟨acc, μ2, _, _, B'⟩ => SqT.of (im_all _ _ (B'.base _ _ hG))) (fun i y H' hy ⟨acc, μ2, hP, hp2, B'⟩ => ?_) (fun H' ⟨acc, μ2, hP, hp2, B'⟩ => ?_)
  · have hl : i < ds.length := by rw [← ra.length]; exact (List.getElem?_eq_some_iff.mp hy).1
    obtain ⟨w', hw, rw'⟩ := ra.get (List.getElem?_eq_getElem hl)
    rw [hw] at hy
    cases hy
    obtain ⟨d1, d2, ed, tn⟩ := turn i _ acc μ2 p (List.getElem?_eq_getElem hl) hP hp2
    rw [ed] at rw'
    obtain ⟨b, us, rfl, hb2, rb⟩ := rp_tup_at (rw'.mono B'.base)
    obtain ⟨v1, v2, rfl, r1, r2⟩ := rp2 rb
    refine ⟨b, [v1, v2], rfl, SqT.of hb2, rfl, v1, [v2], rfl, v2, [], rfl, rfl, ?_, ?_⟩
    · rw [wipe_set hj2, wipe_set hj, wipe_wipe]
    · exact lc_turn ((B'.set r1).set r2) B' tn
  · rw [ra.length] at hP
    exact lc_end (k.after e1) hp2 (fin acc μ2 p hP hp2) B'

/-- what may change stays from now on: slot i held it -/
theorem s_frz {i : Nat} {p : Addr} {ds : List D} (hi : δ[i]? = some (some (.ref p))) (hp : μ p = none) (h : dSs X G0 sts (δ.set i (some (.lst ds))) μ E) : dSs X G0 sts δ (updM μ p (.lst ds)) E := fun σ H B => by
  obtain ⟨v, h1, r⟩ := B.sl i _ hi
  cases rp_ref r
  have B' : Bd X.K G0 δ μ σ H := B.step (B.mu.drop hp) im_drop
  have z := B'.set (i := i) (frz_rp B.mu hp)
  have e : σ.set i (some (.ref p)) = σ := by
    refine List.ext_getElem? fun j => ?_
    by_cases q : i = j
    · subst q
      rw [List.getElem?_set, if_pos rfl, h1, if_pos (List.getElem?_eq_some_iff.mp h1).1]
    · rw [List.getElem?_set_ne q]
  rw [e] at z
  exact h σ H z
/-- .. is not needed any more -/
theorem s_drop {p : Addr} {c : D} (hp : μ p = none) (h : dSs X G0 sts δ μ E) : dSs X G0 sts δ (updM μ p c) E := fun σ H B => h σ H (B.step (B.mu.drop hp) im_drop)
/-- behind a value: what may change is dropped -/
def Dr (Φ : DK) : DK := fun d μ => Φ d μ ∨ ∃ p c μ2, μ = updM μ2 p c ∧ μ2 p = none ∧ Φ d μ2
theorem KP.dr (k : KP K μ H Φ Q) : KP K μ H (Dr Φ) Q := fun v H2 d μ2 q m e r => by
  rcases q with q | ⟨p, c, μ3, rfl, hp, q⟩
  · exact k v H2 d μ2 q m e r
  · exact k v H2 d μ3 q (m.drop hp) (e.trans im_drop) (r.mono im_drop)
theorem d_dr (h : dE X G0 e δ μ (Dr Φ)) : dE X G0 e δ μ Φ := fun σ H B Q k => h σ H B Q k.dr
end
end DL
namespace DL
theorem yes {k : Bool} {A B : Prop} (hk : k = true) (h : A) : (k = true → A) ∧ (k = false → B) := ⟨fun _ => h, fun z => by rw [hk] at z; cases z⟩
theorem no {k : Bool} {A B : Prop} (hk : k = false) (h : B) : (k = true → A) ∧ (k = false → B) := ⟨fun z => (by rw [hk] at z; cases z), fun _ => h⟩
theorem orN {k : Bool} {A B : Prop} (hk : k = false) (h : A) : (k = false → A) ∧ (k = true → B) := ⟨fun _ => h, fun z => by rw [hk] at z; cases z⟩
theorem orY {k : Bool} {A B : Prop} (hk : k = true) (h : B) : (k = false → A) ∧ (k = true → B) := ⟨fun z => (by rw [hk] at z; cases z), fun _ => h⟩
end DL
namespace DL
open PySem PySem.Spec PyProof.Rows L2
def delM (μ : Mu) (p : Addr) : Mu := fun b => if b = p then none else μ b
theorem delM_same {μ : Mu} {p : Addr} : delM μ p p = none := if_pos rfl
theorem delM_ne {μ : Mu} {p q : Addr} (h : q ≠ p) : delM μ p q = μ q := if_neg h
theorem upd_del {μ : Mu} {p : Addr} {c : D} (h : μ p = some c) : updM (delM μ p) p c = μ := by
  funext b
  unfold updM delM
  by_cases e : b = p
  · rw [if_pos e, e, h]
  · rw [if_neg e, if_neg e]
section
variable {X : Cx} {G0 : Hp} {sts : List Stmt} {δ : List (Option D)} {μ : Mu} {E : DEnds}
theorem s_frzD {i : Nat} {p : Addr} {ds : List D} (hi : δ[i]? = some (some (.ref p))) (hp : μ p = some (.lst ds)) (h : dSs X G0 sts (δ.set i (some (.lst ds))) (delM μ p) E) : dSs X G0 sts δ μ E := by
  rw [← upd_del hp]
  exact s_frz hi delM_same h
end
end DL
namespace DL
open PySem PySem.Spec PyProof.Rows L2
section
variable {X : Cx} {G0 : Hp} {e a b c it elt : Expr} {es rest : List Expr} {sts : List Stmt} {δ : List (Option D)} {μ : Mu} {Φ : DK} {pos : Pos} {K : PySem.W.Frag} {H : Hp} {Q : VK} {E : DEnds}
/-- y = [e for x in range(n)]; what comes out is as it will stay, or may change -/
theorem s_setR {x y : Str} {scope : Scope} {rp ip tp cp py spos : Pos} {own : List (Str × Nat)} {vs : List Nat} (i0 j : Nat)
    (h : dA X G0 [a] δ μ fun ns μ1 => ∃ n : Int, ns = [.int n] ∧ n < 2 ^ 62 ∧ -(2 ^ 62) ≤ n ∧ ∃ Pv : Nat → List D → Mu → Prop, Pv 0 [] μ1 ∧ (∀ (i : Nat) acc μ2 p, i < n.toNat → Pv i acc μ2 → μ2 p = none → LcTurn X scope elt p acc ((wipeD δ vs).set j (some (.int i))) μ2 (Pv (i + 1))) ∧ ∀ acc μ2 p, Pv n.toNat acc μ2 → μ2 p = none → Fz (fun d μ' => E.nx (δ.set i0 (some d)) μ') (.ref p) (updM μ2 p (.lst acc)))
    (hy : X.N[i0]? = some y := by rfl) (hyl : X.env.scope.names.lookup y = some .local := by rfl) (hsw : swapsWith (.ListComp elt [⟨.Name x tp, .Call (.Name "range" rp) [a] [] ip, [], 0⟩] scope cp) (some (.Name y py)) spos.line X.env = pure true := by exact sw_true rfl rfl rfl (by decide +kernel))
    (hb : blkC X.N X.env.scope scope own = true := by kernel_rfl) (hj : j ∈ vs := by decide) (hv : own.map (·.2) = vs := by rfl) (hN : X.N.Nodup := by assumption) (hc : X.calm = true := by rfl)
    (hi : X.N[j]? = some x := by rfl) (hx : ∀ s H C cl fp, Loc (BX X scope s H C cl fp).env.scope x := by first | exact fun _ _ _ _ _ => Or.inl rfl | exact fun _ _ _ _ _ => Or.inr rfl) (hf : ∀ s H C cl fp, (BX X scope s H C cl fp).fn x = true ∨ (BX X scope s H C cl fp).env.scope.names.lookup x = some .local := by first | exact fun _ _ _ _ _ => .inr rfl | exact fun _ _ _ _ _ => .inl rfl)
    (hm : X.mg "range" = none := by assumption) (hg : Gl X "range" := by rfl) (hst : starEach [a] X.env = [(false, eval a X.env)] := by rfl)
    (hs : ∀ x, foldedSetIterable (.Call (.Name "range" rp) [a] [] ip) X.env x = pure x := by intro _; rfl) : dS X G0 (.Assign [.Name y py] (.ListComp elt [⟨.Name x tp, .Call (.Name "range" rp) [a] [] ip, [], 0⟩] scope cp) spos) δ μ E := fun σ H B => by
  refine wS_of (ps_setLc (i := i0) hc hN hy hyl hsw (pi_range1 hg hm pa_w hst) (blkOk_by hb) (fun s H C cl fp => pg_name (i := j) hN hi (hx s H C cl fp) (hf s H C cl fp)) (fun _ _ _ _ _ => pts_nil) (fun s H C cl fp => (⟨fun pins s' σ' H' Q' I q => q s H C cl fp pins s' I⟩ : PE _ _ (wEs X scope elt))) hs) ?_
  rw [hv]
  have k : KP X.K μ H (fun d μ' => E.nx (δ.set i0 (some d)) μ') (fun v H1 => gName i0 v σ H1 (dEn X.K G0 E).nx) := fun v H1 d μ1 q m1 e1 r1 => ⟨_, μ1, q, (B.step m1 e1).set r1⟩
  refine h σ H B _ fun vs' H1 ds μ1 q m1 e1 r1 => ?_
  obtain ⟨n, rfl, b1, b2, Pv, p0, turn, fin⟩ := q
  obtain ⟨v, rfl, r2⟩ := rp1 r1
  cases rp_int r2
  have B1 := (B.step m1 e1).wipe vs
  refine ⟨n, rfl, b2, b1, fun p hp => ?_⟩
  have hi0 : Im (updM μ1 p (.lst [])) (upd H1 p (.lst [])) = Im μ1 H1 := im_new hp
  have B2 : Bd X.K (Im μ1 H1) (wipeD δ vs) (updM μ1 p (.lst [])) (L2.wipe σ vs) (upd H1 p (.lst [])) := B1.rebase.step (m1.upd hi0 .nil) (by rw [hi0]; exact Sub.refl _)
  refine lc_range (lo := 0) (n := n.toNat) (fun i H' => ∃ acc μ2, Pv i acc μ2 ∧ μ2 p = none ∧ Bd X.K (Im μ1 H1) (wipeD δ vs) (updM μ2 p (.lst acc)) (L2.wipe σ vs) H') ⟨[], μ1, p0, mu_free m1 hp, B2⟩ (fun i H' hl ⟨acc, μ2, hP, hp2, B'⟩ => ?_) (fun H' ⟨acc, μ2, hP, hp2, B'⟩ => ?_)
  · refine ⟨by rw [wipe_set hj, wipe_wipe], ?_⟩
    have e0 : (0 : Int) + (i : Int) = (i : Int) := Int.zero_add _
    rw [e0]
    exact lc_turn (B'.set (.int _)) B' (turn i acc μ2 p hl hP hp2)
  · exact lc_end (k.fz.after e1) hp2 (fin acc μ2 p hP hp2) B'
end
end DL

namespace DL
open PySem PySem.Spec PyProof.Rows L2
/-! ### the end: what the top has written -/
section
variable {P : Program} {w : World} {K : PySem.W.Frag} {mg : Str → Option Value} {base h : Heap}
theorem deft {x : Str} {st : Stmt} {ps : List Str} {f : Addr} {oc : Value} {od an : Option Addr} {osl : Array (Option Value)} {kV doc pm cdv ct : Value} (KI : K.In h) (G : h.Ns mainGlobals mg)
    (a : PySem.W.nsIn K mainGlobals x = some (some (.ref f))) (l : K.lookup f = some ⟨oc, od, .func (PySem.W.fnOf x x (defArgs st) (defBody st) (defScope st) .none kV doc pm an cdv ct), osl⟩) (c : PySem.W.codeIn K cdv x = true) (k : PySem.W.keepIn K (.ref f) = true)
    (b : ∀ (kV doc pm : Value) (an : Option Addr) (cdv ct : Value) (us : List Value), us.length = ps.length → bindArgs (PySem.W.fnOf x x (defArgs st) (defBody st) (defScope st) .none kV doc pm an cdv ct) ⟨us, []⟩ = pure (ps.zip us)) : DefT K mg x st ps :=
  ⟨f, _, fun_mk l c k, PySem.W.mg_of KI G a, (fun_mk l c k).binds b⟩
/-- an error of the class at S is what «except S» names -/
theorem exm_own {S : Addr} (h1 : PySem.W.subIn K (.ref S) (.type "BaseException") = some true) (h2 : PySem.W.isClsIn K S = true) (h3 : PySem.W.typeIn K (.ref S) = some (.type "type")) (h4 : PySem.W.subIn K (.ref S) (.ref S) = some true) : PySem.W.exmOne K (.ref S) (.ref S) = some true := by
  have e1 : (PySem.W.subIn K (.ref S) (.type "BaseException") == some true) = true := by rw [h1] <;> rfl
  have h2' : (PySem.W.clsIn K S).isSome = true := h2
  have e2 : ((PySem.W.clsIn K S).isSome && PySem.W.typeIn K (.ref S) == some (.type "type")) = true := by rw [h2', h3] <;> rfl
  unfold PySem.W.exmOne
  first
    | (rw [if_pos e1, if_pos e2]; exact h4)
    | (show (if (PySem.W.subIn K (.ref S) (.type "BaseException") == some true) = true then (if ((PySem.W.clsIn K S).isSome && PySem.W.typeIn K (.ref S) == some (.type "type")) = true then PySem.W.subIn K (.ref S) (.ref S) else none) else none) = some true
       rw [if_pos e1, if_pos e2]
       exact h4)
/-- the law's own call, at nothing but the script -/
theorem lift_law {sp : DSp} {a : Addr} {H : Hp} {ns : List Int} (hS : SqL K H a (ns.map V.int)) (h : sp [.scr ns] (fun _ => none) (fun d _ => d = .bl true) NoX) : liftSp K sp [.ref a] H (fun v _ => v = .bl true) fun _ _ _ => False := by
  refine ⟨[.scr ns], fun _ => none, fun d _ => d = .bl true, NoX, .cons (.scr ?_) .nil, fun p c e => (by cases e), h, fun v H2 d μ2 q _ _ r => ?_, noX⟩
  · have e : Im (fun _ => none) H = H := by
      funext b
      rfl
    rw [e]
    exact hS
  · subst q
    exact rp_bl r
theorem cx_none {P : Program} {w : World} (H : Hp) (s : Shared) (e : Value) (s' : Shared) (h : L2N.CX P w [] H s (fun _ _ _ => False) e s') : False := by
  obtain ⟨_, _, _, _, _, _, _, _, _, _, _, _, z⟩ := h
  exact z.elim
/-- a call by two keywords, the second parameter first -/
theorem kbn_swap {x : Str} {st : Stmt} {f : Addr} {fd : FuncData} {p q : Str} {dv : V} (F : FunD K x x (defArgs st) (defBody st) (defScope st) [dv] [] f fd)
    (h : ∀ (T : Addr) (kV doc pm : Value) (an : Option Addr) (cdv ct a b d : Value), ∃ k, bindArgs (PySem.W.fnOf x x (defArgs st) (defBody st) (defScope st) (.ref T) kV doc pm an cdv ct) ⟨[], [(q, b), (p, a)]⟩ = seqItems? (.ref T) >>= k ∧ k (some [d].toArray) = pure [(p, a), (q, b)]) :
    KBn K fd [p, q] 0 [q, p] (fun _ ws => ws.drop 1 ++ ws.take 1) (fun _ vs => vs.drop 1 ++ vs.take 1) := by
  obtain ⟨oc, od, dV, kV, doc, pm, an, cdv, ct, osl, rfl, lk, hcd, hD, hK⟩ := F.ex
  rcases hD with ⟨e, _⟩ | ⟨_, T, o, its, m, rfl, lT, oT, rT⟩
  · cases e
  · refine ⟨fun s us ws X l1 l2 => ?_, fun r1 r2 => (r2.drop 1).append (r2.take 1)⟩
    obtain ⟨d, rfl, _⟩ := rT.one
    match us, ws, l1, l2 with
    | [], [b, a], _, _ =>
      obtain ⟨k, e1, e2⟩ := h T kV doc pm an cdv ct a b d
      refine BindsTo.of_looks fun M => ?_
      show PySem.W.Looks M s.heap (bindArgs _ ⟨[], [(q, b), (p, a)]⟩) [(p, a), (q, b)]
      rw [e1]
      exact looks_items X lT oT (.of_pure e2)
end
end DL

namespace DL
open PySem PySem.Spec PyProof.Rows L2
section
variable {X : Cx} {G0 : Hp} {e a b c it elt : Expr} {es rest : List Expr} {sts : List Stmt} {δ : List (Option D)} {μ : Mu} {Φ : DK} {pos : Pos} {K : PySem.W.Frag} {H G : Hp} {Q : VK} {E : DEnds} {xs ys : List D}
theorem rp_ints : ∀ {vs : List V} {ns : List Int}, RpAll K G vs (ns.map D.int) → vs = ns.map V.int
  | [], [], _ => rfl
  | _ :: _, n :: ns, .cons r1 r2 => by
    rw [rp_ints r2, rp_int r1]
    rfl
theorem rp_bls : ∀ {vs : List V} {ns : List Bool}, RpAll K G vs (ns.map D.bl) → vs = ns.map V.bl
  | [], [], _ => rfl
  | _ :: _, n :: ns, .cons r1 r2 => by
    rw [rp_bls r2, rp_bl r1]
    rfl
theorem c_sum {ns : List Int} (q : Φ (.int ns.sum) μ) (hc : X.calm = true := by rfl) : dCall X (.builtin "sum") [.lst (ns.map .int)] μ Φ := fun vs H r m Q k => by
  obtain ⟨v, rfl, r0⟩ := rp1 r
  obtain ⟨p, ws, rfl, ha, ra⟩ := rp_lst_at r0
  rw [rp_ints ra] at ha
  exact wCall_of (cr_sum hc) ⟨p, ns, rfl, SqL.of ha, k.val m q (.int _)⟩
theorem c_all {bs : List Bool} (q : Φ (.bl (bs.all id)) μ) (hc : X.calm = true := by rfl) : dCall X (.builtin "all") [.lst (bs.map .bl)] μ Φ := fun vs H r m Q k => by
  obtain ⟨v, rfl, r0⟩ := rp1 r
  obtain ⟨p, ws, rfl, ha, ra⟩ := rp_lst_at r0
  rw [rp_bls ra] at ha
  exact wCall_of (cr_all hc) ⟨p, bs, rfl, SqL.of ha, k.val m q (.bl _)⟩
theorem c_any {bs : List Bool} (q : Φ (.bl (bs.any id)) μ) (hc : X.calm = true := by rfl) : dCall X (.builtin "any") [.lst (bs.map .bl)] μ Φ := fun vs H r m Q k => by
  obtain ⟨v, rfl, r0⟩ := rp1 r
  obtain ⟨p, ws, rfl, ha, ra⟩ := rp_lst_at r0
  rw [rp_bls ra] at ha
  exact wCall_of (cr_any hc) ⟨p, bs, rfl, SqL.of ha, k.val m q (.bl _)⟩
/-- a tuple behind a tuple that is not empty -/
theorem o_catT (h0 : xs ≠ []) (q : xs.length + ys.length ≤ sizeLine ∧ Φ (.tup (xs ++ ys)) μ) : dOp X (binaryOp .Add) (.tup xs) (.tup ys) μ Φ := fun v u H r1 r2 m Q k => by
  obtain ⟨a, vs, rfl, ha, ra⟩ := rp_tup_at r1
  obtain ⟨b, ws, rfl, hb, rb⟩ := rp_tup_at r2
  refine wOp_of op_catT ⟨a, b, vs, ws, rfl, rfl, SqT.of ha, SqT.of hb, fun z => ?_, by rw [ra.length, rb.length]; exact q.1, fun z => ?_, fun _ p hp => k.new m hp q.2 (rp_tup m hp (ra.append rb))⟩
  · subst z
    cases ra
    exact h0 rfl
  · subst z
    cases rb
    have q2 := q.2
    rw [List.append_nil] at q2
    exact k.val m q2 r1
/-! ### slices -/
/-- what a[lo:hi] leaves -/
def cutD (xs : List D) (lo hi : Option Int) : List D := (xs.drop (HT.sIx xs.length 0 lo)).take (HT.sIx xs.length xs.length hi - HT.sIx xs.length 0 lo)
theorem rp_cut {vs : List V} {ds : List D} (lo hi : Option Int) (r : RpAll K G vs ds) : RpAll K G (cutV vs lo hi) (cutD ds lo hi) := by
  unfold cutV cutD
  rw [r.length]
  exact (r.drop _).take _
def wSl (X : Cx) (x : V) (lo hi : Option Int) (H : Hp) (Q : VK) : Prop :=
  ∀ (pins : List (Addr × Obj)) (s : Shared) (σ : L2.St) (v vl vu : Value) (sl : Addr), Inv X pins σ H s → RelV x v → s.heap.IsSliceOf sl vl vu .none → IsPart vl lo → IsPart vu hi →
    ∃ T id, typeLookup (.type T) "__getitem__" = pure (some (.builtin id)) ∧ s.TypeIs v T ∧ wpAny (model X.prog X.w) X.A (getItem v (.ref sl)) (EP X pins σ Q) X.xe s
theorem sl_w : SlR X (wSl X) := fun pins s σ H x v vl vu lo hi sl Q I rx hs pl pu h => h pins s σ v vl vu sl I rx hs pl pu
theorem wSl_of {r : V → Option Int → Option Int → Hp → VK → Prop} {x : V} {lo hi : Option Int} (h : SlR X r) (q : r x lo hi H Q) : wSl X x lo hi H Q := fun pins s σ v vl vu sl I rx hs pl pu => h pins s σ H x v vl vu lo hi sl Q I rx hs pl pu q
def dSl (X : Cx) (x : D) (lo hi : Option Int) (μ : Mu) (Φ : DK) : Prop := ∀ v H, Rp X.K (Im μ H) v x → MuOk X.K μ H → ∀ Q, KP X.K μ H Φ Q → wSl X v lo hi H Q
/-- a part of a slice: none, or an integer -/
def dPo (X : Cx) (G0 : Hp) (o : Option Expr) (δ : List (Option D)) (μ : Mu) (Θ : Option Int → Mu → Prop) : Prop := match o with
  | none => Θ none μ
  | some e => dE X G0 e δ μ fun d μ1 => ∃ i, d = .int i ∧ Θ (some i) μ1
def tPo (X : Cx) : Option Expr → TO
  | none => tNoPart
  | some e => tPart (wE X e)
theorem po_w : ∀ {o : Option Expr}, PO X o (tPo X o)
  | none => po_none
  | some _ => po_some pe_w
theorem dPo.go {o : Option Expr} {Θ : Option Int → Mu → Prop} {σ : L2.St} {R : Option Int → Hp → Prop} (h : dPo X G0 o δ μ Θ) (B : Bd X.K G0 δ μ σ H) (k : ∀ i H2 μ2, Θ i μ2 → MuOk X.K μ2 H2 → Sub (Im μ H) (Im μ2 H2) → R i H2) : tPo X o σ H R := by
  cases o with
  | none => exact k none H μ h B.mu (Sub.refl _)
  | some e =>
    refine dE.go (Φ := fun d μ1 => ∃ i, d = .int i ∧ Θ (some i) μ1) h B fun v H2 d μ2 q m e2 r => ?_
    obtain ⟨i, rfl, q⟩ := q
    exact ⟨i, rp_int r, k (some i) H2 μ2 q m e2⟩
theorem d_sl {lo hi : Option Expr} {p2 : Pos} (h : dE X G0 a δ μ fun x μ1 => dPo X G0 lo δ μ1 fun l μ2 => dPo X G0 hi δ μ2 fun u μ3 => dSl X x l u μ3 Φ) : dE X G0 (.Subscript a (.Slice lo hi none p2) pos) δ μ Φ := fun σ H B Q k => by
  refine wE_of (pe_slice sl_w pe_w po_w po_w) ?_
  refine h.go B fun v H1 x μ1 q1 m1 e1 r1 => ?_
  refine q1.go (B.step m1 e1) fun l H2 μ2 q2 m2 e2 => ?_
  refine q2.go (B.step m2 (e1.trans e2)) fun u H3 μ3 q3 m3 e3 => ?_
  exact q3 v H3 (r1.mono (e2.trans e3)) m3 Q (k.after ((e1.trans e2).trans e3))
theorem po_n {Θ : Option Int → Mu → Prop} (q : Θ none μ) : dPo X G0 none δ μ Θ := q
theorem po_s {Θ : Option Int → Mu → Prop} (h : dE X G0 e δ μ fun d μ1 => ∃ i, d = .int i ∧ Θ (some i) μ1) : dPo X G0 (some e) δ μ Θ := h
theorem sl_lst {lo hi : Option Int} (q : Φ (.lst (cutD xs lo hi)) μ) : dSl X (.lst xs) lo hi μ Φ := fun v H r m Q k => by
  obtain ⟨a, vs, rfl, ha, ra⟩ := rp_lst_at r
  exact wSl_of sl_list ⟨a, vs, rfl, SqL.of ha, fun p hp => k.new m hp q (rp_lst m hp (rp_cut lo hi ra))⟩
theorem sl_mut {p : Addr} {lo hi : Option Int} (hp : μ p = some (.lst xs)) (q : Φ (.lst (cutD xs lo hi)) μ) : dSl X (.ref p) lo hi μ Φ := fun v H r m Q k => by
  cases rp_ref r
  obtain ⟨vs, ha, ra⟩ := m.lst hp
  exact wSl_of sl_list ⟨p, vs, rfl, SqL.of ha, fun p2 hp2 => k.new m hp2 q (rp_lst m hp2 (rp_cut lo hi ra))⟩
theorem sl_tpl {lo hi : Option Int} (hw : ¬ (HT.sIx xs.length 0 lo = 0 ∧ HT.sIx xs.length xs.length hi = xs.length)) (q : Φ (.tup (cutD xs lo hi)) μ) : dSl X (.tup xs) lo hi μ Φ := fun v H r m Q k => by
  obtain ⟨a, vs, rfl, ha, ra⟩ := rp_tup_at r
  exact wSl_of sl_tup ⟨a, vs, rfl, SqT.of ha, by rw [ra.length]; exact hw, fun p hp => k.new m hp q (rp_tup m hp (rp_cut lo hi ra))⟩
/-- a turn of a comprehension with a test: the list so far stands at p -/
def LcTurnIf (X : Cx) (scope : Scope) (elt c : Expr) (p : Addr) (acc : List D) (δ2 : List (Option D)) (μ : Mu) (N : List D → Mu → Prop) : Prop :=
  acc.length < sizeLine ∧ dTs X scope c δ2 (updM μ p (.lst acc)) fun k μ3 => ∃ μ4, μ3 = updM μ4 p (.lst acc) ∧ μ4 p = none ∧ (k = false → N acc μ4) ∧
    (k = true → dEs X scope elt δ2 (updM μ4 p (.lst acc)) fun r μ5 => ∃ μ6, μ5 = updM μ6 p (.lst acc) ∧ μ6 p = none ∧ N (acc ++ [r]) μ6)
theorem lc_turnIf {scope : Scope} {p : Addr} {acc : List D} {δ0 δ2 : List (Option D)} {σ0 σ2 : L2.St} {G1 : Hp} {Nx : List D → Mu → Prop} (B : Bd X.K G1 δ2 (updM μ p (.lst acc)) σ2 H) (B0 : Bd X.K G1 δ0 (updM μ p (.lst acc)) σ0 H) (h : LcTurnIf X scope elt c p acc δ2 μ Nx) :
    wTs X scope c σ2 H fun b H3 => if b = true then wEs X scope elt σ2 H3 fun y H4 => ∃ ws, H4 p = some (.lst ws) ∧ ws.length < sizeLine ∧ ∃ acc' μ', Nx acc' μ' ∧ μ' p = none ∧ Bd X.K G1 δ0 (updM μ' p (.lst acc')) σ0 (upd H4 p (.lst (ws ++ [y]))) else ∃ acc' μ', Nx acc' μ' ∧ μ' p = none ∧ Bd X.K G1 δ0 (updM μ' p (.lst acc')) σ0 H3 := by
  intro s0 H00 C0 cl0 fp0
  refine h.2 G1 s0 H00 C0 cl0 fp0 σ2 H B _ fun b H3 μ3 q m3 e3 => ?_
  obtain ⟨μ4, rfl, hp, h0, h1⟩ := q
  cases b with
  | false => exact ⟨acc, μ4, h0 rfl, hp, B0.step m3 e3⟩
  | true =>
    rw [if_pos rfl]
    intro s H0 C cl fp
    refine h1 rfl G1 s H0 C cl fp σ2 H3 (B.step m3 e3) _ fun y H4 r μ5 q m4 e4 r4 => ?_
    obtain ⟨μ6, rfl, hp6, hN⟩ := q
    obtain ⟨ws, ha, ra⟩ := m4.lst updM_same
    have hi : Im (updM μ6 p (.lst (acc ++ [r]))) (upd H4 p (.lst (ws ++ [y]))) = Im (updM μ6 p (.lst acc)) H4 := by
      rw [← updM_upd (c := .lst acc)]
      exact im_upd (by rw [updM_same]; rfl)
    have m5 : MuOk X.K (updM μ6 p (.lst (acc ++ [r]))) (upd H4 p (.lst (ws ++ [y]))) := by
      rw [← updM_upd (c := .lst acc)]
      refine m4.upd ?_ (ra.append (.cons r4 .nil))
      rw [updM_upd]
      exact hi
    exact ⟨ws, ha, by rw [ra.length]; exact h.1, _, _, hN, hp6, B0.step m5 (by rw [hi]; exact e3.trans e4)⟩
theorem d_lcLI {x : Str} {scope : Scope} {tp cp : Pos} {own : List (Str × Nat)} {vs : List Nat} (j : Nat)
    (h : dE X G0 it δ μ fun d μ1 => ∃ ds, d = .lst ds ∧ ∃ Pv : Nat → List D → Mu → Prop, Pv 0 [] μ1 ∧ (∀ (i : Nat) d acc μ2 p, ds[i]? = some d → Pv i acc μ2 → μ2 p = none → LcTurnIf X scope elt c p acc ((wipeD δ vs).set j (some d)) μ2 (Pv (i + 1))) ∧ ∀ acc μ2 p, Pv ds.length acc μ2 → μ2 p = none → Φ (.ref p) (updM μ2 p (.lst acc)))
    (hb : blkC X.N X.env.scope scope own = true := by kernel_rfl) (hj : j ∈ vs := by decide) (hv : own.map (·.2) = vs := by rfl) (hN : X.N.Nodup := by assumption) (hc : X.calm = true := by rfl)
    (hi : X.N[j]? = some x := by rfl) (hx : ∀ s H C cl fp, Loc (BX X scope s H C cl fp).env.scope x := by first | exact fun _ _ _ _ _ => Or.inl rfl | exact fun _ _ _ _ _ => Or.inr rfl) (hf : ∀ s H C cl fp, (BX X scope s H C cl fp).fn x = true ∨ (BX X scope s H C cl fp).env.scope.names.lookup x = some .local := by first | exact fun _ _ _ _ _ => .inr rfl | exact fun _ _ _ _ _ => .inl rfl)
    (hs : ∀ x, foldedSetIterable it X.env x = pure x := by intro _; rfl) : dE X G0 (.ListComp elt [⟨.Name x tp, it, [c], 0⟩] scope cp) δ μ Φ := fun σ H B Q k => by
  refine wE_of (pe_lc hc hN (pi_list pe_w) (blkOk_by hb) (fun s H C cl fp => pg_name (i := j) hN hi (hx s H C cl fp) (hf s H C cl fp)) (fun s H C cl fp => pts_one (⟨fun pins s' σ' H' Q' I q => q s H C cl fp pins s' I⟩ : PT _ _ (wTs X scope c))) (fun s H C cl fp => (⟨fun pins s' σ' H' Q' I q => q s H C cl fp pins s' I⟩ : PE _ _ (wEs X scope elt))) hs) ?_
  rw [hv]
  refine h σ H B _ fun v H1 d μ1 q m1 e1 r1 => ?_
  obtain ⟨ds, rfl, Pv, p0, turn, fin⟩ := q
  obtain ⟨a, ws, rfl, hG, ra⟩ : ∃ a ws, v = .ref a ∧ Im μ1 H1 a = some (.lst ws) ∧ RpAll X.K (Im μ1 H1) ws ds := by
    cases r1 with
    | lst h r => exact ⟨_, _, rfl, h, r⟩
  have B1 := (B.step m1 e1).wipe vs
  refine ⟨a, rfl, ⟨ws, SqL.of (im_all _ _ hG)⟩, fun p hp => ?_⟩
  have hi0 : Im (updM μ1 p (.lst [])) (upd H1 p (.lst [])) = Im μ1 H1 := im_new hp
  have B2 : Bd X.K (Im μ1 H1) (wipeD δ vs) (updM μ1 p (.lst [])) (L2.wipe σ vs) (upd H1 p (.lst [])) := B1.rebase.step (m1.upd hi0 .nil) (by rw [hi0]; exact Sub.refl _)
  refine lc_list (xs := ws) (fun i H' => ∃ acc μ2, Pv i acc μ2 ∧ μ2 p = none ∧ Bd X.K (Im μ1 H1) (wipeD δ vs) (updM μ2 p (.lst acc)) (L2.wipe σ vs) H') ⟨[], μ1, p0, mu_free m1 hp, B2⟩ (fun i H' _ ⟨acc, μ2, _, _, B'⟩ => SqL.of (im_all _ _ (B'.base _ _ hG))) (fun i y H' hy ⟨acc, μ2, hP, hp2, B'⟩ => ?_) (fun H' ⟨acc, μ2, hP, hp2, B'⟩ => ?_)
  · have hl : i < ds.length := by rw [← ra.length]; exact (List.getElem?_eq_some_iff.mp hy).1
    obtain ⟨w', hw, rw'⟩ := ra.get (List.getElem?_eq_getElem hl)
    rw [hw] at hy
    cases hy
    refine ⟨by rw [wipe_set hj, wipe_wipe], ?_⟩
    exact lc_turnIf (B'.set (rw'.mono B'.base)) B' (turn i _ acc μ2 p (List.getElem?_eq_getElem hl) hP hp2)
  · rw [ra.length] at hP
    exact lc_end (k.after e1) hp2 (fin acc μ2 p hP hp2) B'
theorem d_lcTI {x : Str} {scope : Scope} {tp cp : Pos} {own : List (Str × Nat)} {vs : List Nat} (j : Nat)
    (h : dE X G0 it δ μ fun d μ1 => ∃ ds, d = .tup ds ∧ ∃ Pv : Nat → List D → Mu → Prop, Pv 0 [] μ1 ∧ (∀ (i : Nat) d acc μ2 p, ds[i]? = some d → Pv i acc μ2 → μ2 p = none → LcTurnIf X scope elt c p acc ((wipeD δ vs).set j (some d)) μ2 (Pv (i + 1))) ∧ ∀ acc μ2 p, Pv ds.length acc μ2 → μ2 p = none → Φ (.ref p) (updM μ2 p (.lst acc)))
    (hb : blkC X.N X.env.scope scope own = true := by kernel_rfl) (hj : j ∈ vs := by decide) (hv : own.map (·.2) = vs := by rfl) (hN : X.N.Nodup := by assumption) (hc : X.calm = true := by rfl)
    (hi : X.N[j]? = some x := by rfl) (hx : ∀ s H C cl fp, Loc (BX X scope s H C cl fp).env.scope x := by first | exact fun _ _ _ _ _ => Or.inl rfl | exact fun _ _ _ _ _ => Or.inr rfl) (hf : ∀ s H C cl fp, (BX X scope s H C cl fp).fn x = true ∨ (BX X scope s H C cl fp).env.scope.names.lookup x = some .local := by first | exact fun _ _ _ _ _ => .inr rfl | exact fun _ _ _ _ _ => .inl rfl)
    (hs : ∀ x, foldedSetIterable it X.env x = pure x := by intro _; rfl) : dE X G0 (.ListComp elt [⟨.Name x tp, it, [c], 0⟩] scope cp) δ μ Φ := fun σ H B Q k => by
  refine wE_of (pe_lc hc hN (pi_tup pe_w) (blkOk_by hb) (fun s H C cl fp => pg_name (i := j) hN hi (hx s H C cl fp) (hf s H C cl fp)) (fun s H C cl fp => pts_one (⟨fun pins s' σ' H' Q' I q => q s H C cl fp pins s' I⟩ : PT _ _ (wTs X scope c))) (fun s H C cl fp => (⟨fun pins s' σ' H' Q' I q => q s H C cl fp pins s' I⟩ : PE _ _ (wEs X scope elt))) hs) ?_
  rw [hv]
  refine h σ H B _ fun v H1 d μ1 q m1 e1 r1 => ?_
  obtain ⟨ds, rfl, Pv, p0, turn, fin⟩ := q
  obtain ⟨a, ws, rfl, hG, ra⟩ : ∃ a ws, v = .ref a ∧ Im μ1 H1 a = some (.tup ws) ∧ RpAll X.K (Im μ1 H1) ws ds := by
    cases r1 with
    | tup h r => exact ⟨_, _, rfl, h, r⟩
  have B1 := (B.step m1 e1).wipe vs
  refine ⟨a, rfl, ⟨ws, SqT.of (im_all _ _ hG)⟩, fun p hp => ?_⟩
  have hi0 : Im (updM μ1 p (.lst [])) (upd H1 p (.lst [])) = Im μ1 H1 := im_new hp
  have B2 : Bd X.K (Im μ1 H1) (wipeD δ vs) (updM μ1 p (.lst [])) (L2.wipe σ vs) (upd H1 p (.lst [])) := B1.rebase.step (m1.upd hi0 .nil) (by rw [hi0]; exact Sub.refl _)
  refine lc_tup (xs := ws) (fun i H' => ∃ acc μ2, Pv i acc μ2 ∧ μ2 p = none ∧ Bd X.K (Im μ1 H1) (wipeD δ vs) (updM μ2 p (.lst acc)) (L2.wipe σ vs) H') ⟨[], μ1, p0, mu_free m1 hp, B2⟩ (fun i H' _ ⟨acc, μ2, _, _, B'⟩ => SqT.of (im_all _ _ (B'.base _ _ hG))) (fun i y H' hy ⟨acc, μ2, hP, hp2, B'⟩ => ?_) (fun H' ⟨acc, μ2, hP, hp2, B'⟩ => ?_)
  · have hl : i < ds.length := by rw [← ra.length]; exact (List.getElem?_eq_some_iff.mp hy).1
    obtain ⟨w', hw, rw'⟩ := ra.get (List.getElem?_eq_getElem hl)
    rw [hw] at hy
    cases hy
    refine ⟨by rw [wipe_set hj, wipe_wipe], ?_⟩
    exact lc_turnIf (B'.set (rw'.mono B'.base)) B' (turn i _ acc μ2 p (List.getElem?_eq_getElem hl) hP hp2)
  · rw [ra.length] at hP
    exact lc_end (k.after e1) hp2 (fin acc μ2 p hP hp2) B'
theorem d_lcRI {x : Str} {scope : Scope} {rp ip tp cp : Pos} {own : List (Str × Nat)} {vs : List Nat} (j : Nat)
    (h : dA X G0 [a] δ μ fun ns μ1 => ∃ n : Int, ns = [.int n] ∧ n < 2 ^ 62 ∧ -(2 ^ 62) ≤ n ∧ ∃ Pv : Nat → List D → Mu → Prop, Pv 0 [] μ1 ∧ (∀ (i : Nat) acc μ2 p, i < n.toNat → Pv i acc μ2 → μ2 p = none → LcTurnIf X scope elt c p acc ((wipeD δ vs).set j (some (.int i))) μ2 (Pv (i + 1))) ∧ ∀ acc μ2 p, Pv n.toNat acc μ2 → μ2 p = none → Φ (.ref p) (updM μ2 p (.lst acc)))
    (hb : blkC X.N X.env.scope scope own = true := by kernel_rfl) (hj : j ∈ vs := by decide) (hv : own.map (·.2) = vs := by rfl) (hN : X.N.Nodup := by assumption) (hc : X.calm = true := by rfl)
    (hi : X.N[j]? = some x := by rfl) (hx : ∀ s H C cl fp, Loc (BX X scope s H C cl fp).env.scope x := by first | exact fun _ _ _ _ _ => Or.inl rfl | exact fun _ _ _ _ _ => Or.inr rfl) (hf : ∀ s H C cl fp, (BX X scope s H C cl fp).fn x = true ∨ (BX X scope s H C cl fp).env.scope.names.lookup x = some .local := by first | exact fun _ _ _ _ _ => .inr rfl | exact fun _ _ _ _ _ => .inl rfl)
    (hm : X.mg "range" = none := by assumption) (hg : Gl X "range" := by rfl) (hst : starEach [a] X.env = [(false, eval a X.env)] := by rfl)
    (hs : ∀ x, foldedSetIterable (.Call (.Name "range" rp) [a] [] ip) X.env x = pure x := by intro _; rfl) : dE X G0 (.ListComp elt [⟨.Name x tp, .Call (.Name "range" rp) [a] [] ip, [c], 0⟩] scope cp) δ μ Φ := fun σ H B Q k => by
  refine wE_of (pe_lc hc hN (pi_range1 hg hm pa_w hst) (blkOk_by hb) (fun s H C cl fp => pg_name (i := j) hN hi (hx s H C cl fp) (hf s H C cl fp)) (fun s H C cl fp => pts_one (⟨fun pins s' σ' H' Q' I q => q s H C cl fp pins s' I⟩ : PT _ _ (wTs X scope c))) (fun s H C cl fp => (⟨fun pins s' σ' H' Q' I q => q s H C cl fp pins s' I⟩ : PE _ _ (wEs X scope elt))) hs) ?_
  rw [hv]
  refine h σ H B _ fun vs' H1 ds μ1 q m1 e1 r1 => ?_
  obtain ⟨n, rfl, b1, b2, Pv, p0, turn, fin⟩ := q
  obtain ⟨v, rfl, r2⟩ := rp1 r1
  cases rp_int r2
  have B1 := (B.step m1 e1).wipe vs
  refine ⟨n, rfl, b2, b1, fun p hp => ?_⟩
  have hi0 : Im (updM μ1 p (.lst [])) (upd H1 p (.lst [])) = Im μ1 H1 := im_new hp
  have B2 : Bd X.K (Im μ1 H1) (wipeD δ vs) (updM μ1 p (.lst [])) (L2.wipe σ vs) (upd H1 p (.lst [])) := B1.rebase.step (m1.upd hi0 .nil) (by rw [hi0]; exact Sub.refl _)
  refine lc_range (lo := 0) (n := n.toNat) (fun i H' => ∃ acc μ2, Pv i acc μ2 ∧ μ2 p = none ∧ Bd X.K (Im μ1 H1) (wipeD δ vs) (updM μ2 p (.lst acc)) (L2.wipe σ vs) H') ⟨[], μ1, p0, mu_free m1 hp, B2⟩ (fun i H' hl ⟨acc, μ2, hP, hp2, B'⟩ => ?_) (fun H' ⟨acc, μ2, hP, hp2, B'⟩ => ?_)
  · refine ⟨by rw [wipe_set hj, wipe_wipe], ?_⟩
    have e0 : (0 : Int) + (i : Int) = (i : Int) := Int.zero_add _
    rw [e0]
    exact lc_turnIf (B'.set (.int _)) B' (turn i acc μ2 p hl hP hp2)
  · exact lc_end (k.after e1) hp2 (fin acc μ2 p hP hp2) B'
end
end DL

namespace DL
open PySem PySem.Spec PyProof.Rows L2
section
variable {X : Cx} {G0 : Hp} {e a b c it elt o : Expr} {es rest : List Expr} {sts : List Stmt} {δ : List (Option D)} {μ : Mu} {Φ : DK} {pos apos : Pos} {K : PySem.W.Frag} {H G : Hp} {Q : VK} {E : DEnds} {xs ys : List D} {z y : Str} {i j : Int}
/-! ### stores to what has parts -/
/-- x, y = e -/
theorem s_unp {tg : Expr} (h : dE X G0 e δ μ fun d μ1 => dTg X tg d δ fun δ2 => E.nx δ2 μ1) (hs : swapsWithSole [tg] e pos.line X.env = pure false := by rfl) (hw : swappedStores [tg] e X.env = pure none := by rfl) (h1 : (assignEach [tg] X.env).map (·.2) = [assign tg X.env] := by rfl) : dS X G0 (.Assign [tg] e pos) δ μ E := fun σ H B => by
  refine wS_of (ps_asg pe_w pg_w hs hw h1) ?_
  refine h.go B fun v H1 d μ1 q m1 e1 r1 => ?_
  exact q G0 μ1 σ H1 v (B.step m1 e1) r1 _ fun δ2 σ2 q2 B2 => ⟨δ2, μ1, q2, B2⟩
/-- a, b, c = a tuple of three -/
theorem g_trip {i j k : Nat} {x y w : Str} {px py pw : Pos} {kk : Nat} {d1 d2 d3 : D} {Ψ : List (Option D) → Prop} (h : Ψ (((δ.set i (some d1)).set j (some d2)).set k (some d3))) (hN : X.N.Nodup := by assumption) (hc : X.calm = true := by rfl) (hi : X.N[i]? = some x := by rfl) (hj : X.N[j]? = some y := by rfl) (hk : X.N[k]? = some w := by rfl)
    (hx : Loc X.env.scope x := by first | exact Or.inl rfl | exact Or.inr rfl) (hy : Loc X.env.scope y := by first | exact Or.inl rfl | exact Or.inr rfl) (hz : Loc X.env.scope w := by first | exact Or.inl rfl | exact Or.inr rfl)
    (hf : X.fn x = true ∨ X.env.scope.names.lookup x = some .local := by first | exact .inl rfl | exact .inr rfl) (hf2 : X.fn y = true ∨ X.env.scope.names.lookup y = some .local := by first | exact .inl rfl | exact .inr rfl) (hf3 : X.fn w = true ∨ X.env.scope.names.lookup w = some .local := by first | exact .inl rfl | exact .inr rfl)
    (hs1 : (assignEach [.Name x px, .Name y py, .Name w pw] X.env).map (·.2) = assign (.Name x px) X.env :: (assignEach [.Name y py, .Name w pw] X.env).map (·.2) := by rfl) (hs2 : (assignEach [.Name y py, .Name w pw] X.env).map (·.2) = assign (.Name y py) X.env :: (assignEach [.Name w pw] X.env).map (·.2) := by rfl) (hs3 : (assignEach [.Name w pw] X.env).map (·.2) = assign (.Name w pw) X.env :: (assignEach [] X.env).map (·.2) := by rfl)
    (hn : (assignEach [.Name x px, .Name y py, .Name w pw] X.env).length = 3 := by rfl) (hst : (assignEach [.Name x px, .Name y py, .Name w pw] X.env).findIdx? (·.1) = none := by rfl) : dTg X (.Tuple [.Name x px, .Name y py, .Name w pw] kk pos) (.tup [d1, d2, d3]) δ Ψ := fun G0 μ σ H v B r Q kq => by
  refine gW_of (pg_tup (n := 3) hc (pgs_cons (pg_name (i := i) hN hi hx hf) (pgs_cons (pg_name (i := j) hN hj hy hf2) (pgs_cons (pg_name (i := k) hN hk hz hf3) pgs_nil hs3) hs2) hs1) hn hst) ?_
  obtain ⟨p, vs, rfl, ha, ra⟩ := rp_tup_at r
  cases ra with
  | cons r1 ra =>
    obtain ⟨v2, v3, rfl, r2, r3⟩ := rp2 ra
    exact ⟨p, [_, v2, v3], rfl, SqT.of ha, rfl, _, [v2, v3], rfl, v2, [v3], rfl, v3, [], rfl, rfl, kq _ _ h (((B.set r1).set r2).set r3)⟩
/-! ### numbers and texts -/
theorem c_divmod (hd : CDivP i j) (q : Φ (.tup [.int (i / j), .int (i % j)]) μ) : dCall X (.builtin "divmod") [.int i, .int j] μ Φ := fun vs H r m Q k => by
  obtain ⟨v, u, rfl, r1, r2⟩ := rp2 r
  cases rp_int r1
  cases rp_int r2
  exact wCall_of call_divmodW ⟨i, j, rfl, hd, fun p hp => k.new m hp q (rp_tup m hp (.cons (.int _) (.cons (.int _) .nil)))⟩
theorem c_str (hl : i.natAbs.log2 < 1920) (q : Φ (.str (toString i)) μ) : dCall X (.type "str") [.int i] μ Φ := fun vs H r m Q k => by
  obtain ⟨v, rfl, r1⟩ := rp1 r
  cases rp_int r1
  exact wCall_of call_str_int ⟨i, rfl, hl, k.val m q (.str _)⟩
theorem c_intT {n : Int} (hn : PySem.intText? z = some n) (hl : z.length ≤ 640) (q : Φ (.int n) μ) : dCall X (.type "int") [.str z] μ Φ := fun vs H r m Q k => by
  obtain ⟨v, rfl, r1⟩ := rp1 r
  cases rp_str r1
  exact wCall_of call_int_str ⟨z, n, rfl, hn, hl, k.val m q (.int _)⟩
/-! ### methods of texts -/
def wM (X : Cx) (id : String) (x : V) (xs : List V) (H : Hp) (Q : VK) : Prop := ∀ (pins : List (Addr × Obj)) (s : Shared) (σ : L2.St) (v : Value) (us : List Value), Inv X pins σ H s → RelV x v → Vals xs us → wpAny (model X.prog X.w) X.A (call (.builtin id) (v :: us)) (EP X pins σ Q) X.xe s
theorem mt_w {id : String} : MtR X id (wM X id) := fun pins s σ H x xs v us Q I r1 r2 h => h pins s σ v us I r1 r2
theorem wM_of {id : String} {r : V → List V → Hp → VK → Prop} {x : V} {xs : List V} (h : MtR X id r) (q : r x xs H Q) : wM X id x xs H Q := fun pins s σ v us I r1 r2 => h pins s σ H x xs v us Q I r1 r2 q
/-- a method of a text, at data -/
def dM (X : Cx) (id : String) (x : Str) (ys : List D) (μ : Mu) (Φ : DK) : Prop := ∀ vs H, RpAll X.K (Im μ H) vs ys → MuOk X.K μ H → ∀ Q, KP X.K μ H Φ Q → wM X id (.str x) vs H Q
theorem d_m0 {id : String} {name : Str} (slot : Slot "str" name id) (ty : typeOf (.builtin id) = pure (.type "method_descriptor")) (h : dE X G0 o δ μ fun d μ1 => ∃ x, d = .str x ∧ dM X id x [] μ1 Φ) (hbase : attributeBase o name X.env (eval o X.env) = eval o X.env := by rfl) (hline : (apos.endLine == pos.line) = true := by rfl) : dE X G0 (.Call (.Attribute o name apos) [] [] pos) δ μ Φ := fun σ H B Q k => by
  refine wE_of (pe_m0 slot ty mt_w pe_w hbase hline) ?_
  refine dE.go h B fun v H1 d μ1 q m1 e1 r1 => ?_
  obtain ⟨x, rfl, q⟩ := q
  cases rp_str r1
  exact ⟨⟨_, rfl⟩, q [] H1 .nil m1 Q (k.after e1)⟩
theorem d_m1 {id : String} {name : Str} (slot : Slot "str" name id) (ty : typeOf (.builtin id) = pure (.type "method_descriptor")) (h : dE X G0 o δ μ fun d μ1 => ∃ x, d = .str x ∧ dE X G0 e δ μ1 fun y μ2 => dM X id x [y] μ2 Φ) (hs : starEach [e] X.env = [(false, eval e X.env)] := by rfl) (hbase : attributeBase o name X.env (eval o X.env) = eval o X.env := by rfl) (hline : (apos.endLine == pos.line) = true := by rfl) : dE X G0 (.Call (.Attribute o name apos) [e] [] pos) δ μ Φ := fun σ H B Q k => by
  refine wE_of (pe_m1 slot ty mt_w pe_w pe_w hs hbase hline) ?_
  refine dE.go h B fun v H1 d μ1 q m1 e1 r1 => ?_
  obtain ⟨x, rfl, q⟩ := q
  cases rp_str r1
  refine ⟨⟨_, rfl⟩, ?_⟩
  refine q.go (B.step m1 e1) fun u H2 y μ2 q2 m2 e2 r2 => ?_
  exact q2 [u] H2 (.cons r2 .nil) m2 Q (k.after (e1.trans e2))
theorem m_isdigit (q : Φ (.bl (Txt.isdigit z)) μ) : dM X "str.isdigit" z [] μ Φ := fun vs H r m Q k => by
  cases r
  exact wM_of mt_isdigit ⟨z, rfl, rfl, trivial, k.val m q (.bl _)⟩
theorem m_isascii (q : Φ (.bl (Txt.isascii z)) μ) : dM X "str.isascii" z [] μ Φ := fun vs H r m Q k => by
  cases r
  exact wM_of mt_isascii ⟨z, rfl, rfl, trivial, k.val m q (.bl _)⟩
theorem m_removeprefix (hl : z.length ≤ sizeLine) (q : Φ (.str (Txt.removeprefix z y)) μ) : dM X "str.removeprefix" z [.str y] μ Φ := fun vs H r m Q k => by
  obtain ⟨v, rfl, r1⟩ := rp1 r
  cases rp_str r1
  exact wM_of mt_removeprefix ⟨z, y, rfl, rfl, hl, k.val m q (.str _)⟩
theorem m_zfill (hp : PadOk i = true) (q : Φ (.str (Txt.zfill z i)) μ) : dM X "str.zfill" z [.int i] μ Φ := fun vs H r m Q k => by
  obtain ⟨v, rfl, r1⟩ := rp1 r
  cases rp_int r1
  exact wM_of mt_zfill ⟨z, i, rfl, rfl, hp, k.val m q (.str _)⟩
theorem m_partition (hy : (y.length == 0) = false) (hl : z.length ≤ sizeLine) (q : Φ (.tup [.str (Txt.partition z y).1, .str (Txt.partition z y).2.1, .str (Txt.partition z y).2.2]) μ) : dM X "str.partition" z [.str y] μ Φ := fun vs H r m Q k => by
  obtain ⟨v, rfl, r1⟩ := rp1 r
  cases rp_str r1
  exact wM_of mt_partition ⟨z, y, rfl, rfl, hy, hl, fun p hp => k.new m hp q (rp_tup m hp (.cons (.str _) (.cons (.str _) (.cons (.str _) .nil))))⟩
theorem rp_strs : ∀ {ws : List Str}, RpAll K G (ws.map V.str) (ws.map D.str)
  | [] => .nil
  | w :: ws => .cons (.str w) rp_strs
theorem m_split (hy : (y.length == 0) = false) (hl : z.length + 2 ≤ sizeLine) (q : Φ (.lst ((Txt.split z y).map .str)) μ) : dM X "str.split" z [.str y] μ Φ := fun vs H r m Q k => by
  obtain ⟨v, rfl, r1⟩ := rp1 r
  cases rp_str r1
  exact wM_of mt_split ⟨z, y, rfl, rfl, hy, hl, fun p hp => k.new m hp q (rp_lst m hp rp_strs)⟩
/-- a name of the top that holds a plain value -/
theorem d_gc {x : Str} {v : V} {d : D} (h : ∃ u, X.mg x = some u ∧ RelV v u) (r : ∀ G, Rp X.K G v d) (q : Φ d μ) (hg : Gl X x := by rfl) (hd : (x == ("__debug__" : Str)) = false := by decide) : dE X G0 (.Name x pos) δ μ Φ := fun σ H B Q k => wE_of (C8.pe_gc hg h hd) (k.val B.mu q (r _))
/-! ### parts of texts -/
theorem x_str {n : Nat} (hl : z.length ≤ sizeLine) (hc : atI z.cps.toList i = some n) (q : Φ (.str ⟨#[n]⟩) μ) : dIx X (.str z) (.int i) μ Φ := fun v u H r1 r2 m Q k => by
  cases rp_str r1
  cases rp_int r2
  exact wIx_of ix_str ⟨z, i, n, rfl, rfl, hl, hc, k.val m q (.str _)⟩
theorem sl_strD {lo hi : Option Int} (hl : z.length ≤ sizeLine) (q : Φ (.str (cutS z lo hi)) μ) : dSl X (.str z) lo hi μ Φ := fun v H r m Q k => by
  cases rp_str r
  exact wSl_of sl_str ⟨z, rfl, hl, k.val m q (.str _)⟩
theorem o_inS {n : Nat} (q : Φ (.bl (decide (n ∈ y.cps.toList))) μ) : dOp X (compareOp .In) (.str ⟨#[n]⟩) (.str y) μ Φ := fun v u H r1 r2 m Q k => by
  cases rp_str r1
  cases rp_str r2
  exact wOp_of op_in_sign ⟨n, y, rfl, rfl, k.val m q (.bl _)⟩
end
end DL

namespace DL
open PySem PySem.Spec PyProof.Rows L2
section
variable {X : Cx} {G0 : Hp} {e a b c it elt o : Expr} {es rest : List Expr} {sts : List Stmt} {δ : List (Option D)} {μ : Mu} {Φ : DK} {pos apos : Pos} {K : PySem.W.Frag} {H G : Hp} {Q : VK} {E : DEnds} {xs ys : List D}
/-- the signs of a text, one by one -/
theorem walk_sign (a : List Nat) : Walk (Its (SX.S a)) a.length (fun _ => True) (fun i H v H' => H' = H ∧ ∃ c, a[i]? = some c ∧ v = .str ⟨#[c]⟩) :=
  ⟨fun i _ hi _ => hi, fun _ _ => Nat.le_refl _, fun i _ _ _ _ _ y => by
    obtain ⟨e, c, h1, h2⟩ := y
    refine ⟨e, c, ?_, h2⟩
    rw [← h1]
    simp⟩
/-- [e for x in a text] -/
theorem d_lcS {x : Str} {scope : Scope} {tp cp : Pos} {own : List (Str × Nat)} {vs : List Nat} (j : Nat)
    (h : dE X G0 it δ μ fun d μ1 => ∃ ds : List Nat, d = .str (SX.S ds) ∧ ∃ Pv : Nat → List D → Mu → Prop, Pv 0 [] μ1 ∧ (∀ (i : Nat) d acc μ2 p, ds[i]? = some d → Pv i acc μ2 → μ2 p = none → LcTurn X scope elt p acc ((wipeD δ vs).set j (some (.str ⟨#[d]⟩))) μ2 (Pv (i + 1))) ∧ ∀ acc μ2 p, Pv ds.length acc μ2 → μ2 p = none → Φ (.ref p) (updM μ2 p (.lst acc)))
    (hb : blkC X.N X.env.scope scope own = true := by kernel_rfl) (hj : j ∈ vs := by decide) (hv : own.map (·.2) = vs := by rfl) (hN : X.N.Nodup := by assumption) (hc : X.calm = true := by rfl)
    (hi : X.N[j]? = some x := by rfl) (hx : ∀ s H C cl fp, Loc (BX X scope s H C cl fp).env.scope x := by first | exact fun _ _ _ _ _ => Or.inl rfl | exact fun _ _ _ _ _ => Or.inr rfl) (hf : ∀ s H C cl fp, (BX X scope s H C cl fp).fn x = true ∨ (BX X scope s H C cl fp).env.scope.names.lookup x = some .local := by first | exact fun _ _ _ _ _ => .inr rfl | exact fun _ _ _ _ _ => .inl rfl)
    (hs : ∀ x, foldedSetIterable it X.env x = pure x := by intro _; rfl) : dE X G0 (.ListComp elt [⟨.Name x tp, it, [], 0⟩] scope cp) δ μ Φ := fun σ H B Q k => by
  refine wE_of (pe_lc hc hN (pi_str pe_w) (blkOk_by hb) (fun s H C cl fp => pg_name (i := j) hN hi (hx s H C cl fp) (hf s H C cl fp)) (fun _ _ _ _ _ => pts_nil) (fun s H C cl fp => (⟨fun pins s' σ' H' Q' I q => q s H C cl fp pins s' I⟩ : PE _ _ (wEs X scope elt))) hs) ?_
  rw [hv]
  refine h σ H B _ fun v H1 d μ1 q m1 e1 r1 => ?_
  obtain ⟨ds, rfl, Pv, p0, turn, fin⟩ := q
  cases rp_str r1
  have B1 := (B.step m1 e1).wipe vs
  refine ⟨_, rfl, fun p hp => ?_⟩
  have hi0 : Im (updM μ1 p (.lst [])) (upd H1 p (.lst [])) = Im μ1 H1 := im_new hp
  have B2 : Bd X.K (Im μ1 H1) (wipeD δ vs) (updM μ1 p (.lst [])) (L2.wipe σ vs) (upd H1 p (.lst [])) := B1.rebase.step (m1.upd hi0 .nil) (by rw [hi0]; exact Sub.refl _)
  refine lc_it (walk_sign ds) (fun i H' => ∃ acc μ2, Pv i acc μ2 ∧ μ2 p = none ∧ Bd X.K (Im μ1 H1) (wipeD δ vs) (updM μ2 p (.lst acc)) (L2.wipe σ vs) H') ⟨[], μ1, p0, mu_free m1 hp, B2⟩ (fun _ _ _ _ => trivial) (fun i y H' H2 hi' ⟨acc, μ2, hP, hp2, B'⟩ hy => ?_) (fun H' ⟨acc, μ2, hP, hp2, B'⟩ => ?_)
  · obtain ⟨rfl, c, hc2, rfl⟩ := hy
    refine ⟨by rw [wipe_set hj, wipe_wipe], ?_⟩
    exact lc_turn (B'.set (.str _)) B' (turn i c acc μ2 p hc2 hP hp2)
  · exact lc_end (k.after e1) hp2 (fin acc μ2 p hP hp2) B'
/-! ### a text, repeated -/
theorem ops_rep {X : Cx} : OpR X (binaryOp .Mult) (fun x y H Q => ∃ z n, x = .str z ∧ y = .int n ∧ PySem.MulOk z n ∧ Q (.str (Txt.mul z n)) H) := by
  intro pins s σ H x y v u Q I rx ry h
  obtain ⟨z, n, rfl, rfl, hz, q⟩ := h
  obtain ⟨t, rfl⟩ := rx
  obtain ⟨t2, rfl⟩ := ry
  exact SB.mul hz fun t' tk => ⟨V.str (Txt.mul z n), H, I.tok _, ⟨_, rfl⟩, q⟩
theorem o_repS {z : Str} {i : Int} (hz : PySem.MulOk z i) (q : Φ (.str (Txt.mul z i)) μ) : dOp X (binaryOp .Mult) (.str z) (.int i) μ Φ := fun v u H r1 r2 m Q k => by
  rw [rp_str r1, rp_int r2]
  exact wOp_of ops_rep ⟨z, i, rfl, rfl, hz, k.val m q (.str _)⟩
end
end DL

namespace RZ
open PySem PySem.Spec PyProof.Rows L2
theorem walk_zipT {K : PySem.W.Frag} {a b : Addr} {xs ys : List V} {n : Nat} (hn : n = min xs.length ys.length) : Walk (ItzT K a b) n (fun H => SqT K H a xs ∧ SqT K H b ys) (YPair (fun i => xs[i]?) (fun i => ys[i]?)) := by
  subst hn
  refine ⟨fun i _ hi q => ?_, fun _ q => ⟨xs, ys, q.1, q.2, by omega⟩, fun i H v H' _ q y => ?_⟩
  · have h1 : i < xs.length := by omega
    have h2 : i < ys.length := by omega
    exact ⟨xs, ys, xs[i], ys[i], q.1, q.2, by simp [h1], by simp [h2]⟩
  · obtain ⟨T, x, z, h1, h2, h3, h4, h5⟩ := y
    exact ⟨T, x, z, h1, h2, h3, h4 xs q.1, h5 ys q.2⟩
end RZ
namespace DL
open PySem PySem.Spec PyProof.Rows L2
section
variable {X : Cx} {G0 : Hp} {e e2 a b c it elt o tg : Expr} {es rest : List Expr} {sts body : List Stmt} {δ : List (Option D)} {μ : Mu} {Φ : DK} {pos apos : Pos} {K : PySem.W.Frag} {H G : Hp} {Q : VK} {E : DEnds} {xs ys : List D}
/-- two lists, or two tuples, side by side -/
def Side (ds : List D) (xs ys : List D) : Prop := ds = [.lst xs, .lst ys] ∨ ds = [.tup xs, .tup ys]
/-- for .. in zip(..) -/
theorem s_forZ {elts : List Expr} {kk : Nat} {tpos p ip : Pos} (xs ys : List D) (h : dA X G0 [e, e2] δ μ fun ds μ1 => Side ds xs ys ∧ ∃ Pv : Nat → List (Option D) → Mu → Prop, Pv 0 δ μ1 ∧
      (∀ (i : Nat) x y δ' μ', xs[i]? = some x → ys[i]? = some y → Pv i δ' μ' → dTg X (.Tuple elts kk tpos) (.tup [x, y]) δ' fun δ2 => ∀ G1, Sub G0 G1 → dSs X G1 body δ2 μ' { E with nx := Pv (i + 1), ct := Pv (i + 1), bk := E.nx }) ∧ ∀ δ' μ', Pv (min xs.length ys.length) δ' μ' → E.nx δ' μ')
    (hm : X.mg "zip" = none := by assumption) (hg : Gl X "zip" := by rfl) (hp : PassesOwn (model X.prog X.w) X.A X.env X.xe := by assumption) (hc : X.calm = true := by rfl)
    (hst : starEach [e, e2] X.env = (false, eval e X.env) :: starEach [e2] X.env := by rfl) (hpl : (backTo ip (starEach [e2] X.env)).any (·.1) = false := by rfl)
    (hs : ∀ x, foldedSetIterable (.Call (.Name "zip" p) [e, e2] [] ip) X.env x = pure x := by intro _; rfl) : dS X G0 (.For (.Tuple elts kk tpos) (.Call (.Name "zip" p) [e, e2] [] ip) body [] pos) δ μ E := fun σ H B => by
  refine wS_of (ps_for hp hc (RZ.pi_zipA hg hm pa_w hst hpl) pg_w pss_w hs) ?_
  refine h σ H B _ fun vs H1 ds μ1 ⟨ed, Pv, p0, turn, fin⟩ m1 e1 r1 => ?_
  have B1 := B.step m1 e1
  have go : ∀ (ws us : List V), RpAll X.K (Im μ1 H1) ws xs → RpAll X.K (Im μ1 H1) us ys → ∀ (i : Nat) (v : V) (σ' : L2.St) (H' H'' : Hp), i < min xs.length ys.length → (∃ δ' μ', Pv i δ' μ' ∧ Bd X.K (Im μ1 H1) δ' μ' σ' H') → YPair (fun i => ws[i]?) (fun i => us[i]?) i H' v H'' →
      gW X (.Tuple elts kk tpos) v σ' H'' fun σ2 H2 => wSs X body { dEn X.K G0 E with nx := fun σ H => ∃ δ' μ', Pv (i + 1) δ' μ' ∧ Bd X.K (Im μ1 H1) δ' μ' σ H, ct := fun σ H => ∃ δ' μ', Pv (i + 1) δ' μ' ∧ Bd X.K (Im μ1 H1) δ' μ' σ H, bk := (dEn X.K G0 E).nx } σ2 H2 := by
    rintro ws us ra rb i v σ' H' H'' hi ⟨δ', μ', hP, B'⟩ ⟨T, x, y, rfl, hT, rfl, hx, hy⟩
    have h1 : i < xs.length := by omega
    have h2 : i < ys.length := by omega
    obtain ⟨w', hw, rw'⟩ := ra.get (List.getElem?_eq_getElem h1)
    obtain ⟨u', hu, ru'⟩ := rb.get (List.getElem?_eq_getElem h2)
    have e1' : x = w' := Option.some.inj (hx.symm.trans hw)
    have e2' : y = u' := Option.some.inj (hy.symm.trans hu)
    subst e1' e2'
    have B'' := B'.ext (sub_new (o := .tup [x, y]) hT)
    refine turn i _ _ δ' μ' (List.getElem?_eq_getElem h1) (List.getElem?_eq_getElem h2) hP (Im μ1 H1) μ' σ' _ _ B'' (rp_tup B'.mu hT (.cons (rw'.mono B'.base) (.cons (ru'.mono B'.base) .nil))) _ fun δ2 σ2 q B2 => ?_
    refine wSs_mono ?_ (q (Im μ1 H1) B1.base σ2 _ B2)
    exact ⟨fun _ _ q => q, fun v H ⟨d, μ, q, m, e, r⟩ => ⟨d, μ, q, m, B1.base.trans e, r⟩, fun _ _ ⟨δ, μ, q, B⟩ => ⟨δ, μ, q, B.weaken B1.base⟩, fun _ _ q => q⟩
  rcases ed with rfl | rfl
  · obtain ⟨v, u, rfl, r1, r2⟩ := rp2 r1
    obtain ⟨a, ws, rfl, hG, ra⟩ : ∃ a vs, v = .ref a ∧ Im μ1 H1 a = some (.lst vs) ∧ RpAll X.K (Im μ1 H1) vs xs := by
      cases r1 with
      | lst h r => exact ⟨_, _, rfl, h, r⟩
    obtain ⟨b, us, rfl, hG2, rb⟩ : ∃ a vs, u = .ref a ∧ Im μ1 H1 a = some (.lst vs) ∧ RpAll X.K (Im μ1 H1) vs ys := by
      cases r2 with
      | lst h r => exact ⟨_, _, rfl, h, r⟩
    refine ⟨a, b, ws, us, rfl, .inl ⟨SqL.of (im_all _ _ hG), SqL.of (im_all _ _ hG2), ?_⟩⟩
    refine for_it (walk_zip (n := min xs.length ys.length) (by rw [ra.length, rb.length])) (fun i σ' H' => ∃ δ' μ', Pv i δ' μ' ∧ Bd X.K (Im μ1 H1) δ' μ' σ' H') ⟨δ, μ1, p0, B1.rebase⟩ (fun i σ' H' _ ⟨δ', μ', _, B'⟩ => ⟨SqL.of (im_all _ _ (B'.base _ _ hG)), SqL.of (im_all _ _ (B'.base _ _ hG2))⟩) (fun i v σ' H' H'' hi hP y => go ws us ra rb i v σ' H' H'' hi hP y) (fun σ' H' ⟨δ', μ', hP, B'⟩ => ⟨δ', μ', fin δ' μ' hP, B'.weaken B1.base⟩)
  · obtain ⟨v, u, rfl, r1, r2⟩ := rp2 r1
    obtain ⟨a, ws, rfl, hG, ra⟩ : ∃ a vs, v = .ref a ∧ Im μ1 H1 a = some (.tup vs) ∧ RpAll X.K (Im μ1 H1) vs xs := by
      cases r1 with
      | tup h r => exact ⟨_, _, rfl, h, r⟩
    obtain ⟨b, us, rfl, hG2, rb⟩ : ∃ a vs, u = .ref a ∧ Im μ1 H1 a = some (.tup vs) ∧ RpAll X.K (Im μ1 H1) vs ys := by
      cases r2 with
      | tup h r => exact ⟨_, _, rfl, h, r⟩
    refine ⟨a, b, ws, us, rfl, .inr ⟨SqT.of (im_all _ _ hG), SqT.of (im_all _ _ hG2), ?_⟩⟩
    refine for_it (RZ.walk_zipT (n := min xs.length ys.length) (by rw [ra.length, rb.length])) (fun i σ' H' => ∃ δ' μ', Pv i δ' μ' ∧ Bd X.K (Im μ1 H1) δ' μ' σ' H') ⟨δ, μ1, p0, B1.rebase⟩ (fun i σ' H' _ ⟨δ', μ', _, B'⟩ => ⟨SqT.of (im_all _ _ (B'.base _ _ hG)), SqT.of (im_all _ _ (B'.base _ _ hG2))⟩) (fun i v σ' H' H'' hi hP y => go ws us ra rb i v σ' H' H'' hi hP y) (fun σ' H' ⟨δ', μ', hP, B'⟩ => ⟨δ', μ', fin δ' μ' hP, B'.weaken B1.base⟩)
/-- list + list, the new one may change -/
theorem o_catN (q : xs.length + ys.length ≤ sizeLine ∧ ∀ p, μ p = none → Φ (.ref p) (updM μ p (.lst (xs ++ ys)))) : dOp X (binaryOp .Add) (.lst xs) (.lst ys) μ Φ := fun v u H r1 r2 m Q k => by
  obtain ⟨a, vs, rfl, ha, ra⟩ := rp_lst_at r1
  obtain ⟨b, ws, rfl, hb, rb⟩ := rp_lst_at r2
  exact wOp_of op_cat ⟨a, b, vs, ws, rfl, rfl, ha, hb, by rw [ra.length, rb.length]; exact q.1, fun p hp => k.newM m hp (ra.append rb) q.2⟩
end
end DL

namespace DL
open PySem PySem.Spec PyProof.Rows L2
structure Low (r : Int × Int) : Prop where
  pos : 0 < r.2
  low : Int.gcd r.1 r.2 = 1
theorem fmod_natAbs (a b : Int) (h : b ≠ 0) : (a.fmod b).natAbs < b.natAbs := by
  rcases Int.lt_trichotomy b 0 with hb | hb | hb
  · have e : a.fmod b = -((-a).fmod (-b)) := by rw [Int.neg_fmod_neg]; omega
    have h1 := Int.fmod_nonneg_of_pos (-a) (b := -b) (by omega)
    have h2 := Int.fmod_lt_of_pos (-a) (b := -b) (by omega)
    omega
  · exact absurd hb h
  · have h1 := Int.fmod_nonneg_of_pos a hb
    have h2 := Int.fmod_lt_of_pos a hb
    omega
theorem gcd_fmod (x y : Int) : Int.gcd y (x.fmod y) = Int.gcd x y := by
  rw [Int.fmod_def, Int.mul_comm, Int.gcd_sub_mul_right_right, Int.gcd_comm]
theorem abs_gcd (x : Int) : (if x < 0 then -x else x) = (Int.gcd x 0 : Int) := by
  rw [Int.gcd_zero_right]
  split <;> omega
def spGcd : DSp := fun ds μ Φ _ => ∃ a b : Int, ds = [.int a, .int b] ∧ Φ (.int (Int.gcd a b)) μ
/-! ratios -/
/-- the divisor with the bottom's sign; top and bottom in lowest terms -/
def rG (a b : Int) : Int := if b < 0 then -(Int.gcd a b : Int) else (Int.gcd a b : Int)
def rT (a b : Int) : Int := a.fdiv (rG a b)
def rB (a b : Int) : Int := b.fdiv (rG a b)
def rat (a b : Int) : D := .tup [.int (rT a b), .int (rB a b)]
theorem rG_ne {a b : Int} (h : b ≠ 0) : rG a b ≠ 0 := by
  have h1 : (Int.gcd a b : Int) ≠ 0 := by
    intro z
    have z' : Int.gcd a b = 0 := by omega
    exact h (Int.gcd_eq_zero_iff.mp z').2
  unfold rG
  split <;> omega
theorem log2_le {i : Int} {n : Nat} (h : i.natAbs < 2 ^ n) (h0 : 0 < n) : i.natAbs.log2 < n := PySem.Flt.log2_lt_of h0 h
theorem rG_abs (a b : Int) : (rG a b).natAbs = Int.gcd a b := by
  unfold rG
  split <;> omega
theorem gcd_le {a b : Int} (h : b ≠ 0) : Int.gcd a b ≤ b.natAbs := Nat.le_of_dvd (by omega) (Int.gcd_dvd_natAbs_right a b)
theorem rG_div {a b : Int} (h : b ≠ 0) {n : Nat} (hb : b.natAbs < 2 ^ n) (hn : n ≤ 9000) (h0 : 0 < n) (x : Int) : CDivX x (rG a b) := by
  refine ⟨rG_ne h, ?_⟩
  rw [rG_abs]
  have h1 : Int.gcd a b < 2 ^ n := Nat.lt_of_le_of_lt (gcd_le h) hb
  exact Nat.lt_of_lt_of_le (PySem.Flt.log2_lt_of h0 h1) hn

theorem rG_dvdL (a b : Int) : rG a b ∣ a := by
  unfold rG
  split
  · exact Int.neg_dvd.mpr (Int.gcd_dvd_left a b)
  · exact Int.gcd_dvd_left a b
theorem rG_dvdR (a b : Int) : rG a b ∣ b := by
  unfold rG
  split
  · exact Int.neg_dvd.mpr (Int.gcd_dvd_right a b)
  · exact Int.gcd_dvd_right a b
theorem rT_mul (a b : Int) : rT a b * rG a b = a := by
  unfold rT
  rw [Int.fdiv_eq_ediv_of_dvd (rG_dvdL a b)]
  exact Int.ediv_mul_cancel (rG_dvdL a b)
theorem rB_mul (a b : Int) : rB a b * rG a b = b := by
  unfold rB
  rw [Int.fdiv_eq_ediv_of_dvd (rG_dvdR a b)]
  exact Int.ediv_mul_cancel (rG_dvdR a b)
theorem rG_pos {a b : Int} (h : 0 < b) : 0 < rG a b := by
  have := rG_ne (a := a) (b := b) (by omega)
  unfold rG at this ⊢
  rw [if_neg (by omega)] at this ⊢
  omega
theorem rG_neg {a b : Int} (h : b < 0) : rG a b < 0 := by
  have := rG_ne (a := a) (b := b) (by omega)
  unfold rG at this ⊢
  rw [if_pos h] at this ⊢
  omega
theorem rB_pos {a b : Int} (h : b ≠ 0) : 0 < rB a b := by
  have e := rB_mul a b
  rcases Int.lt_or_gt_of_ne h with h | h
  · have g := rG_neg (a := a) h
    refine Classical.byContradiction fun z => ?_
    have := Int.mul_nonneg_of_nonpos_of_nonpos (show rB a b ≤ 0 by omega) (show rG a b ≤ 0 by omega)
    omega
  · have g := rG_pos (a := a) h
    refine Classical.byContradiction fun z => ?_
    have := Int.mul_nonpos_of_nonpos_of_nonneg (show rB a b ≤ 0 by omega) (show 0 ≤ rG a b by omega)
    omega
theorem abs_of_mul {x g y : Int} (e : x * g = y) (h : g ≠ 0) : x.natAbs ≤ y.natAbs := by
  rw [← e, Int.natAbs_mul]
  exact Nat.le_mul_of_pos_right _ (by omega)
theorem rT_abs {a b : Int} (h : b ≠ 0) : (rT a b).natAbs ≤ a.natAbs := abs_of_mul (rT_mul a b) (rG_ne h)
theorem rB_abs {a b : Int} (h : b ≠ 0) : (rB a b).natAbs ≤ b.natAbs := abs_of_mul (rB_mul a b) (rG_ne h)
theorem o_same {X : Cx} {μ : Mu} {Φ : DK} {x y : D} {p : PyData} (hu : X.A.units + 64 < cLine) (hx : Py μ x p) (hy : Py μ y p) (c : p.canLay0 = true) (d : p.depth ≤ 64) (k : Φ (.bl true) μ) : dOp X (compareOp .Eq) x y μ Φ := by
  have s : SeqAt.shaped p = true := Bool.and_eq_true_iff.mpr ⟨c, decide_eq_true d⟩
  refine o_eqD hu hx hy s s ?_
  rw [SeqAt.eqv_refl p c]
  exact k
theorem o_sameN {X : Cx} {μ : Mu} {Φ : DK} {x y : D} {p : PyData} (hu : X.A.units + 64 < cLine) (hx : Py μ x p) (hy : Py μ y p) (c : p.canLay0 = true) (d : p.depth ≤ 64) (k : Φ (.bl false) μ) : dOp X (compareOp .NotEq) x y μ Φ := by
  have s : SeqAt.shaped p = true := Bool.and_eq_true_iff.mpr ⟨c, decide_eq_true d⟩
  refine o_neD hu hx hy s s ?_
  rw [SeqAt.eqv_refl p c]
  exact k
theorem py_two {μ : Mu} (a b : Int) : Py μ (.tup [.int a, .int b]) (.tuple [.int a, .int b]) := .tup (.cons (.int a) (.cons (.int b) .nil))
theorem rG_one {a b : Int} (hb : 0 < b) (h : Int.gcd a b = 1) : rG a b = 1 := by
  unfold rG
  rw [if_neg (by omega), h]
  rfl
theorem rat_low {a b : Int} (hb : 0 < b) (h : Int.gcd a b = 1) : rT a b = a ∧ rB a b = b := by
  have e1 := rT_mul a b
  have e2 := rB_mul a b
  rw [rG_one hb h, Int.mul_one] at e1 e2
  exact ⟨e1, e2⟩
theorem low_rat {a b : Int} (hb : 0 < b) : Low (rT a b, rB a b) := by
  refine ⟨rB_pos (by omega), ?_⟩
  have hg : rG a b = (Int.gcd a b : Int) := by
    unfold rG
    rw [if_neg (by omega)]
  have e1 := rT_mul a b
  have e2 := rB_mul a b
  have h0 : 0 < Int.gcd a b := by
    have := rG_ne (a := a) (b := b) (by omega)
    omega
  have e3 : Int.gcd (rT a b * rG a b) (rB a b * rG a b) = Int.gcd (rT a b) (rB a b) * (rG a b).natAbs := Int.gcd_mul_right ..
  rw [e1, e2, rG_abs] at e3
  show Int.gcd (rT a b) (rB a b) = 1
  exact Nat.eq_of_mul_eq_mul_right h0 (by rw [← e3, Nat.one_mul])
theorem snoc_ind {α : Type} {p : List α → Prop} (h0 : p []) (hs : ∀ l x, p l → p (l ++ [x])) : ∀ l, p l := fun l => by
  have : ∀ n (l : List α), l.length = n → p l := by
    intro n
    induction n with
    | zero =>
      intro l hl
      rw [List.length_eq_zero_iff.mp hl]
      exact h0
    | succ n ih =>
      intro l hl
      have hne : l ≠ [] := by
        intro z
        rw [z] at hl
        cases hl
      rw [← List.dropLast_concat_getLast hne]
      refine hs _ _ (ih _ ?_)
      rw [List.length_dropLast, hl]
      rfl
  exact this _ l rfl
/-- the greatest common divisor of some integers; each divided by it -/
def gcdL (ns : List Int) : Int := ns.foldl (fun g n => (Int.gcd g n : Int)) 0
def low (ns : List Int) : List Int := if gcdL ns = 0 then ns else ns.map fun n => n.fdiv (gcdL ns)
theorem gcdL_snoc (ns : List Int) (n : Int) : gcdL (ns ++ [n]) = (Int.gcd (gcdL ns) n : Int) := by
  unfold gcdL
  rw [List.foldl_append]
  rfl
theorem gcdL_take {ns : List Int} {i : Nat} {n : Int} (h : ns[i]? = some n) : gcdL (ns.take (i + 1)) = (Int.gcd (gcdL (ns.take i)) n : Int) := by
  rw [List.take_add_one, h]
  exact gcdL_snoc _ _
theorem gcdL_nn (ns : List Int) : 0 ≤ gcdL ns := by
  refine snoc_ind (p := fun ns => 0 ≤ gcdL ns) (by decide) (fun l x _ => ?_) ns
  rw [gcdL_snoc]
  omega
theorem gcdL_dvd (ns : List Int) : ∀ n ∈ ns, gcdL ns ∣ n := by
  refine snoc_ind (p := fun ns => ∀ n ∈ ns, gcdL ns ∣ n) (fun n h => by cases h) (fun l x ih n hn => ?_) ns
  rw [gcdL_snoc]
  rcases List.mem_append.mp hn with h | h
  · exact Int.dvd_trans (Int.gcd_dvd_left _ _) (ih n h)
  · rw [List.mem_singleton.mp h]
    exact Int.gcd_dvd_right _ _
theorem gcdL_zero (ns : List Int) : (∀ n ∈ ns, n = 0) → gcdL ns = 0 := by
  refine snoc_ind (p := fun ns => (∀ n ∈ ns, n = 0) → gcdL ns = 0) (fun _ => rfl) (fun l x ih h => ?_) ns
  rw [gcdL_snoc, ih fun n hn => h n (List.mem_append_left _ hn), h x (by simp)]
  rfl
theorem gcdL_small {ns : List Int} (h : gcdL ns ≠ 0) {b : Nat} (hb : ∀ n ∈ ns, n.natAbs < 2 ^ b) : (gcdL ns).natAbs < 2 ^ b := by
  have : ∃ n ∈ ns, n ≠ 0 := by
    refine Classical.byContradiction fun z => h (gcdL_zero ns fun n hn => ?_)
    exact Classical.byContradiction fun q => z ⟨n, hn, q⟩
  obtain ⟨n, hn, hn0⟩ := this
  refine Nat.lt_of_le_of_lt ?_ (hb n hn)
  exact Nat.le_of_dvd (by omega) (Int.natAbs_dvd_natAbs.mpr (gcdL_dvd ns n hn))
theorem at_ints {ns : List Int} {i : Nat} {d : D} (h : (ns.map D.int)[i]? = some d) : ∃ n, ns[i]? = some n ∧ d = .int n := by
  rw [List.getElem?_map] at h
  cases e : ns[i]? with
  | none => rw [e] at h; cases h
  | some n => rw [e] at h; cases h; exact ⟨n, rfl, rfl⟩
def dR (r : Int × Int) : D := .tup [.int r.1, .int r.2]
def pR (r : Int × Int) : PyData := .tuple [.int r.1, .int r.2]
theorem py_rats {μ : Mu} : ∀ rs : List (Int × Int), PyAll μ (rs.map dR) (rs.map pR)
  | [] => .nil
  | r :: rs => .cons (py_two r.1 r.2) (py_rats rs)
theorem canLay_rats : ∀ rs : List (Int × Int), PyData.canLayAll0 (rs.map pR) = true
  | [] => rfl
  | r :: rs => by
    rw [List.map_cons, PyData.canLayAll0, canLay_rats rs]
    rfl
theorem depth_rats : ∀ rs : List (Int × Int), PyData.depthAll (rs.map pR) ≤ 2
  | [] => by
    rw [List.map_nil, PyData.depthAll]
    omega
  | r :: rs => by
    rw [List.map_cons, PyData.depthAll]
    have h1 := depth_rats rs
    have h2 : (pR r).depth ≤ 2 := Nat.le_of_ble_eq_true rfl
    omega
theorem cl_rats (rs : List (Int × Int)) : (PyData.list (rs.map pR)).canLay0 = true := by
  rw [PyData.canLay0]
  exact canLay_rats rs
theorem dp_rats (rs : List (Int × Int)) : (PyData.list (rs.map pR)).depth ≤ 64 := by
  have h := depth_rats rs
  rw [PyData.depth]
  omega
theorem sh_rats (rs : List (Int × Int)) : SeqAt.shaped (PyData.list (rs.map pR)) = true := Bool.and_eq_true_iff.mpr ⟨cl_rats rs, decide_eq_true (dp_rats rs)⟩
theorem pool_up {n m : Nat} {c : D} (h : Pool n c) (e : n ≤ m) : Pool m c := by
  obtain ⟨i, cur, ns, e1, a1, a2, a3, a4⟩ := h
  exact ⟨i, cur, ns, e1, a1, by omega, a3, a4⟩
theorem cut_to {xs : List D} {i : Int} (h : 0 ≤ i) : cutD xs none (some i) = xs.take i.toNat := by
  obtain ⟨n, rfl⟩ : ∃ n : Nat, i = (n : Int) := ⟨i.toNat, by omega⟩
  unfold cutD
  rw [HT.sIx_none, HT.sIx_nat, List.drop_zero, Nat.sub_zero, Int.toNat_natCast]
  by_cases hl : n ≤ xs.length
  · rw [Nat.min_eq_left hl]
  · rw [Nat.min_eq_right (by omega), List.take_length, List.take_of_length_le (by omega)]
theorem cut_from {xs : List D} {i : Int} (h : 0 ≤ i) : cutD xs (some i) none = xs.drop i.toNat := by
  obtain ⟨n, rfl⟩ : ∃ n : Nat, i = (n : Int) := ⟨i.toNat, by omega⟩
  unfold cutD
  rw [HT.sIx_none, HT.sIx_nat, Int.toNat_natCast]
  by_cases hl : n ≤ xs.length
  · rw [Nat.min_eq_left hl, List.take_of_length_le (by rw [List.length_drop]; omega)]
  · rw [Nat.min_eq_right (by omega), Nat.sub_self, List.take_zero, List.drop_of_length_le (by omega)]
end DL

namespace GS
open PySem PyProof.Rows Srt SrtO TS
theorem swo_lexLt : Swo HT.lexLt := by
  have asym : ∀ x y, HT.lexLt x y = true → HT.lexLt y x = false := by
    intro x
    induction x with
    | nil => intro y h; cases y <;> simp_all [HT.lexLt]
    | cons a x ih =>
      intro y h
      cases y with
      | nil => simp [HT.lexLt] at h
      | cons b y =>
        rw [HT.lexLt_cons] at h ⊢
        by_cases e : a = b
        · subst e
          rw [if_pos rfl] at h ⊢
          exact ih y h
        · rw [if_neg e] at h
          rw [if_neg (fun z => e z.symm)]
          have := of_decide_eq_true h
          exact decide_eq_false (by omega)
  refine ⟨asym, ?_⟩
  intro x
  induction x with
  | nil => intro y z h1 h2; cases z <;> cases y <;> simp_all [HT.lexLt]
  | cons a x ih =>
    intro y z h1 h2
    cases y with
    | nil => simp [HT.lexLt] at h1
    | cons b y =>
      cases z with
      | nil => simp [HT.lexLt] at h2
      | cons c z =>
        rw [HT.lexLt_cons] at h1 h2 ⊢
        by_cases e : b = a
        · subst e
          rw [if_pos rfl] at h1
          by_cases f : c = b
          · subst f
            rw [if_pos rfl] at h2 ⊢
            exact ih y z h1 h2
          · rw [if_neg f] at h2 ⊢
            exact h2
        · rw [if_neg e] at h1
          have h1 := of_decide_eq_false h1
          by_cases f : c = b
          · subst f
            rw [if_neg e]
            exact decide_eq_false h1
          · rw [if_neg f] at h2
            have h2 := of_decide_eq_false h2
            by_cases g : c = a
            · subst g
              exact absurd (show c = b by omega) f
            · rw [if_neg g]
              exact decide_eq_false (by omega)
theorem lexLt_tot : ∀ x y, HT.lexLt x y = false → HT.lexLt y x = false → x = y := by
  intro x
  induction x with
  | nil => intro y h1 h2; cases y <;> simp_all [HT.lexLt]
  | cons a x ih =>
    intro y h1 h2
    cases y with
    | nil => simp [HT.lexLt] at h2
    | cons b y =>
      rw [HT.lexLt_cons] at h1 h2
      by_cases e : a = b
      · subst e
        rw [if_pos rfl] at h1 h2
        rw [ih y h1 h2]
      · rw [if_neg e] at h1
        rw [if_neg (fun z => e z.symm)] at h2
        have := of_decide_eq_false h1
        have := of_decide_eq_false h2
        omega
section
variable {prog : Program} {w : World} {A : Around} {E : Value → Shared → Prop} {s : Shared}
theorem kat_lex {b : Bool} : ∀ {us vs : List Value} {ns ms : List Int} (i : Nat) (p q : Nat), IntsAre us ns → IntsAre vs ms → us.length + i = p → vs.length + i = q →
    PySem.W.KatLex prog w A b (decide (p < q)) (fun r s' => s' = s ∧ r = HT.lexLt ns ms) (us.zip vs) i s
  | _, _, _, _, i, p, q, .nil, .nil, hp, hq => PySem.W.kat_nil ⟨rfl, by
      simp at hp hq
      exact decide_eq_false (by omega)⟩
  | _, _, _, _, i, p, q, .nil, .cons _ _ _, hp, hq => PySem.W.kat_nil ⟨rfl, by
      simp at hp hq
      exact decide_eq_true (by omega)⟩
  | _, _, _, _, i, p, q, .cons _ _ _, .nil, hp, hq => PySem.W.kat_nil ⟨rfl, by
      simp at hp hq
      exact decide_eq_false (by omega)⟩
  | _, _, _, _, i, p, q, .cons x t (vs := us) (ns := ns) h1, .cons y u (vs := vs) (ns := ms) h2, hp, hq => by
    rw [List.zip_cons_cons, HT.lexLt_cons]
    simp only [List.length_cons] at hp hq
    refine PySem.W.kat_cons (SeqAt.EqAt.int_int x t y u prog w _ _ ?_)
    refine PySem.W.kat_go (fun e1 => ?_) (fun e1 => ?_)
    · have ex : x = y := by simpa using e1
      rw [if_pos ex]
      exact PySem.W.kat_yes (kat_lex (i + 1) p q h1 h2 (by omega) (by omega))
    · have ex : ¬ x = y := by simpa using e1
      rw [if_neg ex]
      exact PySem.W.kat_no (TS.oneLt_ints _ ⟨rfl, rfl⟩)
theorem tup_at {v : Value} {ns : List Int} (h : TupInts s.heap v ns) : ∃ a o xs n, v = .ref a ∧ s.heap.get? a = some o ∧ o.cls = .type "tuple" ∧ o.data = .seq xs n ∧ IntsAre xs.toList ns := by
  obtain ⟨a, xs, e, ⟨o, ho, hc, n, hd⟩, i⟩ := h
  exact ⟨a, o, xs, n, e, ho, hc, hd, i⟩
theorem cmp_tup {k : Value → List Int} {vs : List Value} (hp : ∀ v ∈ vs, TupInts s.heap v (k v)) : Cmp prog w A s (tuples' true) (fun p => p.1 ∈ vs) (lt2 fun v u => HT.lexLt (k v) (k u)) := by
  intro p q hm hm'
  obtain ⟨a, o, xs, n, e, ho, hc, hd, i⟩ := tup_at (hp _ hm)
  obtain ⟨a', o', xs', n', e', ho', hc', hd', i'⟩ := tup_at (hp _ hm')
  show wpAny (model prog w) A (keyLt' (tuples' true) p.1 q.1) (fun r s' => s' = s ∧ r = HT.lexLt (k p.1) (k q.1)) (fun _ _ => False) s
  rw [e] at i ⊢
  rw [e'] at i' ⊢
  refine PySem.W.kat_lt ho hd ho' hd' ?_
  exact kat_lex 0 _ _ i i' (by simp) (by simp)
theorem oneLt_tup {u v : Value} {ns ms : List Int} {c : Bool} {Q : Bool → Shared → Prop} (hu : A.units < cLine) (h1 : TupInts s.heap u ns) (h2 : TupInts s.heap v ms) (h : Q (HT.lexLt ns ms) s) : wpAny (model prog w) A (oneLt' c u v) Q E s := by
  obtain ⟨a, xs, rfl, t1, i⟩ := h1
  obtain ⟨b, ys, rfl, t2, j⟩ := h2
  cases c with
  | false => exact PySem.W.kat_one _ _ (HT.lt_tupInts (Q := PySem.W.BoolBack Q) t1 t2 i j hu h)
  | true =>
    obtain ⟨⟨cls, dd, data, sl⟩, ho, hc, n, hd⟩ := id t1
    obtain ⟨⟨cls2, dd2, data2, sl2⟩, ho2, hc2, n2, hd2⟩ := id t2
    simp only at hc hd hc2 hd2
    subst hc hd hc2 hd2
    rw [oneLt'_eq]
    simp only [if_true]
    refine wpAny_bind (wpAny_cRoomFor hu ?_)
    refine wpAny_bind (wpAny_callSpecialIfBound?_slot (T := "tuple") ⟨_, ho, rfl⟩ PySem.F.slot_tuple_lt ?_)
    refine call_meets PySem.F.slot_tuple_lt ⟨_, ho, rfl⟩ PySem.F.entry_tuple_lt (PySem.F.args_tuple_lt_2 _ _) (HT.tuple_lt_ints a b xs ys n n2 dd dd2 sl sl2 ns ms i j) ⟨ho, ho2, ?_⟩
    exact wpAny_truthy_bool h
theorem cmp_one {k : Value → List Int} {vs : List Value} (hu : A.units < cLine) (hp : ∀ v ∈ vs, TupInts s.heap v (k v)) : Cmp prog w A s oneType' (fun p => p.1 ∈ vs) (lt2 fun v u => HT.lexLt (k v) (k u)) := fun p q hm hm' => by
  rw [keyLt'_oneType]
  exact oneLt_tup hu (hp _ hm) (hp _ hm') ⟨rfl, rfl⟩
theorem keyLt_general (x y : Value) : keyLt' general' x y = oneLt' false x y := rfl
theorem cmp_gen {k : Value → List Int} {vs : List Value} (hu : A.units < cLine) (hp : ∀ v ∈ vs, TupInts s.heap v (k v)) : Cmp prog w A s general' (fun p => p.1 ∈ vs) (lt2 fun v u => HT.lexLt (k v) (k u)) := fun p q hm hm' => by
  rw [keyLt_general]
  exact oneLt_tup hu (hp _ hm) (hp _ hm') ⟨rfl, rfl⟩
theorem ints_head {l : List Value} {ns : List Int} {z : Value} (h : IntsAre l ns) (hz : l[0]? = some z) : ∃ i t, z = Value.int i t := by
  cases h with
  | nil => cases hz
  | cons n t r =>
    cases hz
    exact ⟨n, t, rfl⟩
theorem ints_some {l : List Value} {ns : List Int} (h : IntsAre l ns) : (l[0]?).isSome = !ns.isEmpty := by
  cases h <;> rfl
theorem firsts {k : Value → List Int} : ∀ (vs : List Value) {Q : List (Option Value) → Shared → Prop}, (∀ v ∈ vs, TupInts s.heap v (k v)) → (∀ fs : List (Option Value), fs.map (·.isSome) = vs.map (fun v => !(k v).isEmpty) → (∀ f ∈ fs, ∀ z, f = some z → ∃ i t, z = Value.int i t) → Q fs s) → wpAny (model prog w) A (vs.mapM firstOfTuple') Q E s
  | [], Q, _, h => by
    rw [List.mapM_nil]
    exact wpAny_pure (h [] rfl (fun f hf => by cases hf))
  | v :: vs, Q, t, h => by
    obtain ⟨a, o, xs, n, e0, ho, hc, hd, i⟩ := tup_at (t v List.mem_cons_self)
    subst e0
    rw [List.mapM_cons]
    refine wpAny_bind ?_
    rw [PySem.W.kas_first_eq]
    refine wpAny_bind (PySem.W.Looks.here (show PySem.W.Looks (model prog w) s.heap (typeOf (.ref a)) o.cls from (PySem.W.Looks.ld ho).andThen .now) ?_)
    rw [hc, if_neg (by first | decide | simp)]
    refine wpAny_bind (listItems_at ho hd (wpAny_pure ?_))
    refine wpAny_bind (firsts vs (Q := fun bs s' => wpAny (model prog w) A (pure (xs[0]? :: bs)) Q E s') (fun v hv => t v (List.mem_cons_of_mem _ hv)) fun fs hl hi => wpAny_pure (h _ (by rw [List.map_cons, List.map_cons, hl, ← Array.getElem?_toList, ints_some i]) fun f hf z hz => ?_))
    rcases List.mem_cons.mp hf with e | hf
    · rw [e, ← Array.getElem?_toList] at hz
      exact ints_head i hz
    · exact hi f hf z hz
def kindOfL (ns : List (List Int)) : SortKind := if ns.all (fun n => !n.isEmpty) then tuples' true else if (ns.headD []).isEmpty then oneType' else general'
theorem kind_any {k : Value → List Int} {vs : List Value} {Q : SortKind → Shared → Prop} (h2 : 2 ≤ vs.length) (hp : ∀ v ∈ vs, TupInts s.heap v (k v)) (h : Q (kindOfL (vs.map k)) s) : wpAny (model prog w) A (keyKind' vs.toArray) Q E s := by
  rw [keyKind'_eq, List.mapM_toArray, map_eq_pure_bind]
  refine wpAny_bind (wpAny_bind (firsts vs hp fun fs hm hi => wpAny_pure ?_))
  have hl : fs.length = vs.length := by
    have := congrArg List.length hm
    simpa using this
  have hA : (fs.toArray.all fun x => x.isSome) = (vs.map k).all fun n => !n.isEmpty := by
    have e1 : (fs.toArray.all fun x => x.isSome) = (fs.map (·.isSome)).all id := by simp [List.all_map, Function.comp_def]
    rw [e1, hm]
    simp [List.all_map, Function.comp_def]
  have h0' : (fs.toArray[0]?.bind id).isSome = !((vs.map k).headD []).isEmpty := by
    cases vs with
    | nil => simp at h2
    | cons v vs =>
      cases fs with
      | nil => simp at hm
      | cons f fs =>
        simp at hm
        simp [hm.1]
  by_cases hall : (fs.toArray.all fun x => x.isSome) = true
  · rw [if_pos hall]
    refine wpAny_bind (wpAny_rule ?_)
    have hT : ∀ v ∈ fs.filterMap id, PySem.W.Looks (model prog w) s.heap (typeOf v) (.type "int") := fun v hv => by
      obtain ⟨f, hf, e⟩ := List.mem_filterMap.mp hv
      obtain ⟨i, t, rfl⟩ := hi f hf v e
      exact PySem.W.Looks.now
    have hfm : fs.toArray.filterMap id = (fs.filterMap id).toArray := by simp
    rw [hfm, oneTypeOnly'_eq, List.mapM_toArray, map_eq_pure_bind]
    refine wpAny_bind (wpAny_bind (wpAny_bind (PySem.W.kas_mapM (r := .type "int") _ (fun v hv Q' hq => (hT v hv).here hq) (wpAny_pure ?_))))
    have e : (Value.type "int" != Value.type "tuple") = true := by first | decide +kernel | rfl | decide
    have e2 : (Value.type "int" == Value.type "int") = true := by first | decide +kernel | rfl | decide
    obtain ⟨f1, r, hr⟩ : ∃ f1 r, fs.filterMap id = f1 :: r := by
      cases fs with
      | nil => simp at hl; omega
      | cons f fs =>
        have hs : f.isSome = true := by simp at hall; exact hall.1
        obtain ⟨z, rfl⟩ := Option.isSome_iff_exists.mp hs
        exact ⟨z, fs.filterMap id, by simp⟩
    rw [hr]
    have hall2 : ((List.map (fun _ => Value.type "int") (f1 :: r)).toArray.all fun x => x == Value.type "int") = true := by
      simp only [List.all_toArray, List.all_map, List.all_eq_true]
      intro _ _
      exact e2
    have h0 : (List.map (fun _ => Value.type "int") (f1 :: r)).toArray[0]? = some (Value.type "int") := by simp
    rw [h0]
    simp only [hall2, if_true]
    refine wpAny_pure (wpAny_pure ?_)
    show Q (tuples' (Value.type "int" != Value.type "tuple")) s
    rw [e]
    unfold kindOfL at h
    rw [if_pos (by rw [← hA]; exact hall)] at h
    exact h
  · rw [if_neg hall]
    by_cases h0 : (fs.toArray[0]?.bind id).isSome = true
    · rw [if_pos h0]
      unfold kindOfL at h
      rw [if_neg (by rw [← hA]; exact hall), if_neg (by rw [h0'] at h0; simpa using h0)] at h
      exact wpAny_pure h
    · rw [if_neg h0]
      unfold kindOfL at h
      rw [if_neg (by rw [← hA]; exact hall), if_pos (by rw [h0'] at h0; simpa using h0)] at h
      have hT : ∀ v ∈ vs, PySem.W.Looks (model prog w) s.heap (typeOf v) (.type "tuple") := fun v hv => by
        obtain ⟨a, o, xs, n, rfl, ho, hc, hd, i⟩ := tup_at (hp v hv)
        rw [← hc]
        exact (PySem.W.Looks.ld ho).andThen .now
      rw [oneTypeOnly'_eq, List.mapM_toArray, map_eq_pure_bind]
      refine wpAny_bind (wpAny_bind (wpAny_bind (PySem.W.kas_mapM (r := .type "tuple") _ (fun v hv Q' hq => (hT v hv).here hq) (wpAny_pure ?_))))
      have e2 : (Value.type "tuple" == Value.type "tuple") = true := by first | decide +kernel | rfl | decide
      have hall2 : ((List.map (fun _ => Value.type "tuple") vs).toArray.all fun x => x == Value.type "tuple") = true := by
        simp only [List.all_toArray, List.all_map, List.all_eq_true]
        intro _ _
        exact e2
      have h0 : (List.map (fun _ => Value.type "tuple") vs).toArray[0]? = some (Value.type "tuple") := by
        cases vs with
        | nil => simp at h2
        | cons v vs => simp
      rw [h0]
      simp only [hall2, if_true]
      exact wpAny_pure (wpAny_pure h)
theorem sortable {a : Addr} {vs : List Value} {k : Value → List Int} (h2 : 2 ≤ vs.length) (hu : A.units < cLine) (hp : ∀ v ∈ vs, TupInts s.heap v (k v)) (ha : ∀ o, s.heap.get? a = some o → o.cls ≠ .type "tuple") : SortableO prog w A s a vs fun v u => HT.lexLt (k v) (k u) := by
  intro h' keep
  have hp' : ∀ v ∈ vs, TupInts h' v (k v) := fun v hm => (hp v hm).keeps fun b o e c => keep b o (fun z => by subst z; exact ha o e c) e
  refine ⟨kindOfL (vs.map k), fun Q E hq => kind_any (s := { s with heap := h' }) h2 hp' hq, ?_⟩
  unfold kindOfL
  split
  · exact cmp_tup hp'
  · split
    · exact cmp_one hu hp'
    · exact cmp_gen hu hp'
/-- sorted(l) of tuples of ints -/
theorem sorted_tup {l : Addr} {vs : List Value} {k : Value → List Int} {Q : Value → Shared → Prop} (hu : A.in1.in1.units < cLine) (hl : s.heap.IsList l vs.toArray) (hz : vs.length ≤ sizeLine) (hp : ∀ v ∈ vs, TupInts s.heap v (k v))
    (h : ∀ (h' : Heap) (d : Addr) (out : List Value), Srtd (fun v u => HT.lexLt (k v) (k u)) out → Stb (fun v u => HT.lexLt (k v) (k u)) out vs → (∀ b o, s.heap.get? b = some o → h'.get? b = some o) → s.heap.objs.size ≤ d → (∃ n, h'.get? d = some (seqObj "list" out.toArray n)) → Q (.ref d) { s with heap := h' }) :
    wpAny (model prog w) A (call (.builtin "sorted") [.ref l]) Q E s := by
  have O : Swo fun v u => HT.lexLt (k v) (k u) := ⟨fun x y => swo_lexLt.asym _ _, fun x y z => swo_lexLt.tr _ _ _⟩
  refine sorted_ord O hl hz (fun h2 h₁ a ha kk => ?_) fun out hs hb => ?_
  · refine sortable (s := { s with heap := h₁ }) h2 hu (fun v hm => (hp v hm).keeps fun b o e _ => (kk b o e).2) fun o e => ?_
    have e' : some o = some (seqObj "list" vs.toArray 0) := e.symm.trans ha
    cases e'
    intro c
    exact absurd (Value.type.inj c) (by decide)
  · exact h _ _ out hs hb (fun b o e => sortedAll_old e) (Nat.le_succ _) (sortedAll_at s.heap vs out.toArray)
end
end GS
namespace L2
open PySem PySem.Spec PyProof.Rows
/-- sorted(xs), xs a list of tuples of ints, of any lengths -/
def rSortedTI (K : PySem.W.Frag) : List V → Hp → VK → Prop := fun vs H Q => ∃ (a : Addr) (xs : List V) (k : V → List Int), vs = [V.ref a] ∧ SqL K H a xs ∧ (∀ x ∈ xs, TupI K H x (k x)) ∧
  ∀ ys p, SrtO.Srtd (fun x y => HT.lexLt (k x) (k y)) ys → ys.Perm xs → H p = none → Q (.ref p) (upd H p (.lst ys))
theorem cr_sortedTI {X : Cx} (hu : X.A.units + 2 < cLine) : CallR X (.builtin "sorted") (rSortedTI X.K) := by
  intro pins s σ H vs us Q I r h
  obtain ⟨a, xs, k, rfl, hs, hx, q⟩ := h
  obtain ⟨its, rv, hl, hz⟩ := I.list hs
  rw [Vals.ref1 r]
  obtain ⟨e1, e2⟩ := bkV_refs rv fun x m => by
    obtain ⟨t, e, _⟩ := hx x m
    exact ⟨t, e⟩
  refine GS.sorted_tup (k := fun u => k (bkV u)) (by exact hu) hl.isList (by rw [← rv.length]; exact hz) (fun v hv => ?_) fun h' d out h1 h2 kp hd hn => ?_
  · obtain ⟨t, rfl⟩ := e2 v hv
    have hm : V.ref t ∈ xs := by
      rw [e1]
      exact List.mem_map.mpr ⟨_, hv, rfl⟩
    obtain ⟨t', e, ht⟩ := hx _ hm
    cases e
    exact tupI_raw I ht
  · have h3 : ∀ u ∈ out, ∃ a, u = Value.ref a := fun u hu => e2 u (h2.perm.mem_iff.mp hu)
    obtain ⟨n, hn⟩ := hn
    have hp : (out.map bkV).Perm xs := by
      rw [e1]
      exact h2.perm.map bkV
    refine ⟨.ref d, upd H d (.lst (out.map bkV)), I.laid (t' := s.toks) kp hd ⟨?_, out, n, bkV_vals h3, hn⟩, rfl, q _ d (SrtO.srtd_map h1) hp (I.hok.fresh hd)⟩
    rw [hp.length_eq]
    exact hz
end L2

namespace GE
open PySem PySem.Calls PyProof.Rows PyProof.V PySem.Spec PySem.W
section
variable {prog : Program} {w : World} {K : Type} [DecidableEq K] {knd : HeapKind prog w K} {A : Around} {E : Value → Shared → Prop} {s : Shared}
inductive HitsH {K : Type} [DecidableEq K] (A : Around) (s : Shared) (kb : List (K × Addr × Value)) : List (K × Addr × Value) → Bool → Prop
  | nil : HitsH A s kb [] true
  | miss {k : K} {v : Addr × Value} {r : List (K × Addr × Value)} : atKey kb k = none → HitsH A s kb ((k, v) :: r) false
  | hit {k : K} {q : Addr} {v : Value} {y : Addr × Value} {r : List (K × Addr × Value)} {e b : Bool} : atKey kb k = some y → SeqAt.EqAt A s v y.2 e → HitsH A s kb r b → HitsH A s kb ((k, q, v) :: r) (e && b)
theorem HitsH.inv {kb : List (K × Addr × Value)} {k : K} {q : Addr} {v : Value} {r : List (K × Addr × Value)} {b : Bool} (h : HitsH A s kb ((k, q, v) :: r) b) :
    (atKey kb k = none ∧ b = false) ∨ ∃ y e b', atKey kb k = some y ∧ SeqAt.EqAt A s v y.2 e ∧ HitsH A s kb r b' ∧ b = (e && b') := by
  cases h with
  | miss hn => exact .inl ⟨hn, rfl⟩
  | hit hy he hr => exact .inr ⟨_, _, _, hy, he, hr, rfl⟩
theorem samePairsH {nm : String} {a b : Addr} {ka kb : List (K × Addr × Value)} {r : Bool} {Q : Bool → Shared → Prop} (hu : knd.room A) (ha : (a == sysModules) = false) (hb : (b == sysModules) = false)
    (da : s.heap.DictOfH knd a ka) (db : s.heap.DictOfH knd b kb) (hits : ka.length = kb.length → HitsH A s kb ka r) (h : Q (ka.length == kb.length && r) s) :
    wpAny (model prog w) A (Builtin.Dict.samePairs nm a b) Q E s := by
  obtain ⟨oa, es, ep, hoa, xa, hda, hpa, hka, na⟩ := da
  obtain ⟨ob, es', ep', hob, xb, hdb, hpb, hkb, nb⟩ := db
  have hla : ka.length = es.size := (size_of_entries hpa).symm
  have hlb : kb.length = es'.size := (size_of_entries hpb).symm
  rw [hla, hlb] at h
  unfold Builtin.Dict.samePairs Builtin.Dict.showsAll
  rw [if_neg (show ¬ (a == sysModules) = true by rw [ha]; exact Bool.false_ne_true), if_neg (show ¬ (b == sysModules) = true by rw [hb]; exact Bool.false_ne_true)]
  refine wpAny_bind (wpAny_pure (wpAny_bind (wpAny_pure ?_)))
  refine wpAny_bind (wpAny_dictEntries hoa hda ?_)
  dsimp only
  refine wpAny_bind (wpAny_dictEntries hob hdb ?_)
  by_cases hsz : es.size = es'.size
  case neg =>
    rw [if_pos (by simpa using hsz)]
    have hbf : (es.size == es'.size) = false := by simpa using hsz
    rw [hbf, Bool.false_and] at h
    exact wpAny_bind (wpAny_rule (wpAny_pure h))
  case pos =>
    have h' : Q r s := by simpa [hsz] using h
    have hits' := hits (by rw [hla, hlb]; exact hsz)
    rw [if_neg (by rw [hsz]; simp)]
    refine wpAny_bind (wpAny_dictEpoch hoa hda ?_)
    refine wpAny_bind ?_
    rw [Std.Legacy.Range.forIn_eq_forIn_range']
    simp only [Std.Legacy.Range.size, Nat.sub_zero, Nat.add_sub_cancel, Nat.div_one]
    refine wpAny_forIn_list _
      (fun rest q s' => s' = s ∧ q = (none, ()) ∧ ∃ i, rest = List.range' i (es.size - i) ∧ i ≤ es.size ∧ HitsH A s kb (ka.drop i) r)
      _ ?_ ?_ _ _ ⟨rfl, rfl, 0, by simp, Nat.zero_le _, hits'⟩
    · rintro x rest q s' ⟨rfl, rfl, i, hr, hi, hpre⟩
      have hlt : i < es.size := by
        rcases Nat.lt_or_ge i es.size with h | h
        · exact h
        · rw [Nat.sub_eq_zero_of_le h] at hr; simp at hr
      obtain ⟨rfl, hrest⟩ : x = i ∧ rest = List.range' (i + 1) (es.size - (i + 1)) := by
        have e : es.size - i = (es.size - (i + 1)) + 1 := by omega
        rw [e, List.range'_succ] at hr
        injection hr with h1 h2
        exact ⟨h1, h2⟩
      refine wpAny_bind (wpAny_dictEntries hoa hda ?_)
      have hlt' : x < ka.length := by rw [hla]; exact hlt
      obtain ⟨k, p, v, hkv⟩ : ∃ k p v, ka[x] = (k, p, v) := ⟨_, _, _, rfl⟩
      have hdrop : ka.drop x = (k, p, v) :: ka.drop (x + 1) := by rw [← hkv]; exact List.drop_eq_getElem_cons hlt'
      have een : es[x]? = some (entryOfKey knd (k, p, v)) := by
        rw [entry_at hpa x, List.getElem?_eq_getElem hlt', hkv]
        rfl
      rw [een]
      have hkey : knd.is s'.heap k p := hka (k, p, v) (by rw [← hkv]; exact List.getElem_mem hlt')
      rw [hdrop] at hpre
      show wpAny _ _ (holding [Value.ref p, v] _ >>= _) _ _ _
      refine wpAny_bind (wpAny_holding (wpAny_bind (wpAny_dictFind_heap hu hkey hob hdb hpb hkb nb (fun hno => ?_) (fun j q hj => ?_))))
      · have hn : atKey kb k = none := atKey_none_of_get hno
        rcases hpre.inv with ⟨_, er⟩ | ⟨y, _, _, hy, _⟩
        · rw [er] at h'
          refine wpAny_pure ?_
          show wpAny _ _ (if (!false) = true then _ else _) _ _ _
          rw [if_pos (by decide)]
          exact wpAny_pure (wpAny_pure h')
        · rw [hn] at hy; exact nomatch hy
      · have hy0 : atKey kb k = some q := atKey_of_get nb hj
        refine wpAny_bind (wpAny_dictEntries hob hdb ?_)
        have eej : es'[j]? = some (entryOfKey knd (k, q)) := by
          rw [entry_at hpb j, hj]
          rfl
        rw [eej]
        rcases hpre.inv with ⟨hn, _⟩ | ⟨y, e, b', hy, he, hrr, er⟩
        · rw [hy0] at hn; exact nomatch hn
        · have ey : q = y := Option.some.inj (hy0.symm.trans hy)
          subst ey
          refine wpAny_holding (he prog w _ _ ?_)
          cases e with
          | false =>
            rw [er, Bool.false_and] at h'
            show wpAny _ _ (if (!false) = true then _ else _) _ _ _
            rw [if_pos (by decide)]
            exact wpAny_pure (wpAny_pure h')
          | true =>
            rw [Bool.true_and] at er
            rw [← er] at hrr
            show wpAny _ _ (if (!true) = true then _ else _) _ _ _
            rw [if_neg (by decide)]
            refine wpAny_bind (wpAny_dictEpoch hoa hda ?_)
            rw [if_neg (by simp)]
            exact wpAny_pure ⟨rfl, rfl, x + 1, hrest, hlt, hrr⟩
    · rintro q s' ⟨rfl, rfl, i, hr, hi, hpre⟩
      have hin : i = es.size := by
        rcases Nat.lt_or_ge i es.size with h | h
        · have e : es.size - i = (es.size - (i + 1)) + 1 := by omega
          rw [e, List.range'_succ] at hr; exact nomatch hr
        · exact Nat.le_antisymm hi h
      refine wpAny_pure ?_
      rw [hin, ← hla, List.drop_length] at hpre
      cases hpre
      exact h'
theorem typeIsH {a : Addr} {ka : List (K × Addr × Value)} (da : s.heap.DictOfH knd a ka) : s.TypeIs (.ref a) "dict" := by
  obtain ⟨oa, es, ep, hoa, xa, _⟩ := da
  exact ⟨oa, hoa, xa.1⟩
theorem eqH {a b : Addr} {ka kb : List (K × Addr × Value)} {r : Bool} {Q : Value → Shared → Prop} (hk : knd.room A.in1) (ha : (a == sysModules) = false) (hb : (b == sysModules) = false)
    (da : s.heap.DictOfH knd a ka) (db : s.heap.DictOfH knd b kb) (hu : A.units < cLine) (hits : ka.length = kb.length → HitsH A.in1 s kb ka r) (h : Q (.bool (ka.length == kb.length && r)) s) :
    wpAny (model prog w) A (compareOp .Eq (.ref a) (.ref b)) Q E s := by
  refine wpAny_richCompare_same_room (op := .Eq) (typeIsH da) (typeIsH db) PySem.F.slot_dict_eq (wpAny_call_entry PySem.F.slot_dict_eq (typeIsH da) PySem.F.entry_dict_eq ?_ (PySem.F.args_dict_eq_2 _ _)) hu
  show wpAny _ _ (Builtin.Dict.dictSlotArgs "__eq__" ⟨[.ref a, .ref b], []⟩ >>= _) _ _ s
  refine wpAny_bind ?_
  unfold Builtin.Dict.dictSlotArgs
  refine wpAny_bind (wpAny_notOrdered_dict (typeIsH da) ?_)
  show wpAny _ _ (pure (Value.ref a, Value.ref b)) _ _ s
  refine wpAny_pure ?_
  refine wpAny_bind (wpAny_isInstance (T := "dict") (typeIsH db) PySem.F.sub_dict_dict ?_)
  simp only [Bool.not_true, Bool.false_eq_true, if_false]
  refine wpAny_bind (wpAny_pure (wpAny_bind (wpAny_pure ?_)))
  refine wpAny_bind (samePairsH hk ha hb da db hits ?_)
  refine wpAny_pure ⟨_, rfl, ?_, ?_⟩
  · exact fun x => nomatch x
  · simpa using h
theorem neH {a b : Addr} {ka kb : List (K × Addr × Value)} {r : Bool} {Q : Value → Shared → Prop} (hk : knd.room A.in1) (ha : (a == sysModules) = false) (hb : (b == sysModules) = false)
    (da : s.heap.DictOfH knd a ka) (db : s.heap.DictOfH knd b kb) (hu : A.units < cLine) (hits : ka.length = kb.length → HitsH A.in1 s kb ka r) (h : Q (.bool (!(ka.length == kb.length && r))) s) :
    wpAny (model prog w) A (compareOp .NotEq (.ref a) (.ref b)) Q E s := by
  refine wpAny_richCompare_same_room (op := .NotEq) (typeIsH da) (typeIsH db) PySem.F.slot_dict_ne (wpAny_call_entry PySem.F.slot_dict_ne (typeIsH da) PySem.F.entry_dict_ne ?_ (PySem.F.args_dict_ne_2 _ _)) hu
  show wpAny _ _ (Builtin.Dict.dictSlotArgs "__ne__" ⟨[.ref a, .ref b], []⟩ >>= _) _ _ s
  refine wpAny_bind ?_
  unfold Builtin.Dict.dictSlotArgs
  refine wpAny_bind (wpAny_notOrdered_dict (typeIsH da) ?_)
  show wpAny _ _ (pure (Value.ref a, Value.ref b)) _ _ s
  refine wpAny_pure ?_
  refine wpAny_bind (wpAny_isInstance (T := "dict") (typeIsH db) PySem.F.sub_dict_dict ?_)
  simp only [Bool.not_true, Bool.false_eq_true, if_false]
  refine wpAny_bind (wpAny_pure (wpAny_bind (wpAny_pure ?_)))
  refine wpAny_bind (samePairsH hk ha hb da db hits ?_)
  refine wpAny_pure ⟨_, rfl, ?_, ?_⟩
  · exact fun x => nomatch x
  · simpa using h
end
end GE

namespace GT
open PySem PySem.Spec PyProof.Rows L2
section
variable {X : Cx} {pins : List (Addr × Obj)} {σ : L2.St} {H : Hp} {s : Shared} {d : Addr} {o : Obj} {P : Program} {w : World} {K : PySem.W.Frag}
/-- a dict of tuple keys that is known to the object: its entries, keys and values -/
theorem ents (I : Inv X pins σ H s) {kvs : List (List Key × V)} (h : H d = some (.frz o (.dT kvs))) :
    (d == sysModules) = false ∧ s.heap.get? d = some o ∧ o.ExactDict ∧ ∃ (es : Array DictEntry) (ep : Nat), o.data = .dict es ep ∧ es.size = kvs.length ∧ kvs.length ≤ sizeLine ∧
      ∀ (i : Nat) (k : List Key) (v : V), kvs[i]? = some (k, v) → ∃ (en : DictEntry) (q : Addr), es[i]? = some en ∧ en.key = .ref q ∧ H q = some (.tup (k.map kV)) ∧ RelV v en.val := by
  obtain ⟨g0, z, nosys, xs, pr, o1, es, ep, g1, ex, dat, lst, _⟩ := I.hok d _ h
  have eo : o1 = o := Option.some.inj (g1.symm.trans g0)
  subst eo
  refine ⟨nosys, g0, ex, es, ep, dat, ?_, z, fun i k v e => ?_⟩
  · have a1 : es.size = xs.length := size_of_entries lst
    have a2 : kvs.length = xs.length := Paired.length pr
    omega
  · obtain ⟨b, hb, y1, y2, y3⟩ := paired_get pr e
    have q := entry_at lst i
    rw [hb] at q
    exact ⟨_, b.2.1, q, rfl, y2, y3⟩
/-- the pairs of such a dict, each in a new tuple -/
def ItiT (d : Addr) (o : Obj) (kvs : List (List Key × V)) : It :=
  ⟨fun i H => H d = some (.frz o (.dT kvs)) ∧ i < kvs.length,
    fun i H x H' => ∃ (T : Addr) (k : List Key) (v : V) (q : Addr), kvs[i]? = some (k, v) ∧ x = .ref T ∧ H T = none ∧ H' = upd H T (.tup [.ref q, v]) ∧ H q = some (.tup (k.map kV)),
    fun i H => H d = some (.frz o (.dT kvs)) ∧ kvs.length ≤ i⟩
theorem turn_it {kvs : List (List Key × V)} {elts : List Expr} {kk : Nat} {tpos : Pos} {es : Array DictEntry} {ep : Nat} (it : Addr) (dat : o.data = .dict es ep) (hsz0 : es.size = kvs.length) :
    Turn P w K (.Tuple elts kk tpos) (ItiT d o kvs) [it] it (fun i h => ∃ ok ov, IsItemIter h it d i es.size ep ok ov) where
  mem := by simp
  obj := by
    rintro i h ⟨ok, ov, e⟩ b hb
    have eb : b = it := by simpa using hb
    subst eb
    exact ⟨_, e, fun v z => nomatch z⟩
  keep := by
    rintro i h h' ⟨ok, ov, e⟩ k
    exact ⟨ok, ov, k it (by simp) _ e⟩
  item := by
    intro X hP hw hK hc i pins s σ H E I hf st hg
    subst hP hw hK
    obtain ⟨hd, hi⟩ := hg
    obtain ⟨nosys, g0, ex, es2, ep2, dat2, sz, z, ent⟩ := ents I hd
    obtain ⟨rfl, rfl⟩ := dict_ep dat dat2
    obtain ⟨⟨k, v⟩, hkv⟩ : ∃ p, kvs[i]? = some p := ⟨kvs[i], List.getElem?_eq_getElem hi⟩
    obtain ⟨en, q, hen, hkey, hq, rv⟩ := ent i k v hkv
    obtain ⟨ok, ov, he⟩ := st
    have hie : i < es2.size := by omega
    have een : es2[i] = en := by
      rw [Array.getElem?_eq_getElem hie] at hen
      exact Option.some.inj hen
    have hlt : it < s.heap.objs.size := Heap.lt_size he
    refine DT.nextI he ⟨o, g0, ex, dat⟩ hie fun h1 ho hT hz hk => ?_
    rw [een] at ho hT
    refine ⟨_, rfl, wpAny_letOwnedTupleGo_items (s := { s with heap := h1 }) ho fun h2 he2 sb => ?_⟩
    have hT2 : h2.get? s.heap.objs.size = some { cls := .type "tuple", data := .seq #[en.key, en.val] } := (sb.2 _ (Nat.ne_of_gt hlt)).trans hT
    have fresh : ObjOk X.prog X.w (upd H s.heap.objs.size (.tup [.ref q, v])) h2 s.heap.objs.size (.tup [.ref q, v]) := by
      refine ⟨by show 2 ≤ sizeLine; decide, [en.key, en.val], .cons ?_ (.cons rv .nil), ⟨_, hT2, rfl, _, rfl⟩⟩
      exact hkey
    have I1 : Inv X pins σ (upd H s.heap.objs.size (.tup [.ref q, v])) { s with heap := h2 } :=
      I.turnedNew (t' := s.toks) (ch := [it]) (fun b ob hb e => (sb.2 b (by simpa using hb)).trans (hk b ob (by simpa using hb) e)) hf (Nat.le_refl _) fresh
    refine ⟨.ref s.heap.objs.size, _, I1, rfl, ⟨_, k, v, q, hkv, rfl, I.hok.fresh (Nat.le_refl _), rfl, hq⟩, ⟨en.key, en.val, he2⟩, fun b hb => ?_⟩
    have eb : b = it := by simpa using hb
    rw [eb, upd_ne (Nat.ne_of_lt hlt)]
    exact (hf it (by simp)).1
  done := by
    intro X hP hw hK hc i pins s σ H E I hf st hg
    subst hP hw hK
    obtain ⟨hd, hi⟩ := hg
    obtain ⟨f0, f1, f2, f3, f4, f5⟩ := hf it (by simp)
    obtain ⟨nosys, g0, ex, es2, ep2, dat2, sz, z, ent⟩ := ents I hd
    obtain ⟨rfl, rfl⟩ := dict_ep dat dat2
    obtain ⟨ok, ov, he⟩ := st
    exact DT.endI (I.ok.hd hc) he ⟨o, g0, ex, dat⟩ (by omega) fun h' eb => ⟨rfl, I.turned (t' := s.toks) (fun b ob hb e => eb b ob hb e) f0 f1 f3 f4 f5⟩
  self := by
    rintro A i s Q E ⟨_, _, e⟩ h
    exact PySem.W.kcp_self e h
def iItT (td : TE) : TI := fun σ H R => td σ H fun x H1 => ∃ d o kvs, x = .ref d ∧ H1 d = some (.frz o (.dT kvs)) ∧ R (ItiT d o kvs) H1
theorem pi_it {e : Expr} {td : TE} {apos cpos : Pos} {elts : List Expr} {kk : Nat} {tpos : Pos} (he : PE X e td) (hbase : attributeBase e "items" X.env (eval e X.env) = eval e X.env := by rfl) (hline : (apos.endLine == cpos.line) = true := by rfl) :
    PI X (.Tuple elts kk tpos) (.Call (.Attribute e "items" apos) [] [] cpos) (iItT td) := by
  refine ⟨fun pins s σ H R I h => ?_⟩
  refine wpAny_Call_method (T := "dict") (id := "dict.items") hbase rfl hline F.plainAttrs_dict F.slot_dict_items F.type_dict_items (thn (he.run pins s σ H _ I h) fun u s1 ⟨x, H1, I1, rx, d, o, kvs, ex, hd, q⟩ => ?_)
  subst ex
  obtain rfl : u = Value.ref d := rx
  obtain ⟨nosys, g0, exd, es, ep, dat, sz, z, ent⟩ := ents I1 hd
  have raw : DT.Raw s1.heap d es ep := ⟨o, g0, exd, dat⟩
  refine ⟨raw.typeIs, fun b z => ?_, ?_⟩
  · cases z
    exact ⟨o, g0, exd.2.1⟩
  have I2 : Inv X pins σ H1 { s1 with heap := s1.heap.push { cls := .type "dict_items", data := .fields #[.ref d] } } :=
    I1.kept (t' := s1.toks) fun b ob q => Heap.get?_push_of_some _ q
  have walk : wpAny (model X.prog X.w) X.A (pyIter (.ref s1.heap.objs.size)) (PIE X pins σ (.Tuple elts kk tpos) R) X.xe { s1 with heap := s1.heap.push { cls := .type "dict_items", data := .fields #[.ref d] } } := by
    refine DT.iterI (es := es) (ep := ep) ⟨_, Heap.get?_push_size _ rfl, rfl, rfl⟩ (raw.push _) ?_
    refine pi_one (tk := s1.toks) I2 _ (turn_it _ dat sz) ⟨.none, .none, ?_⟩ q
    exact Heap.get?_push_size _ rfl
  show wpAny _ _ (callWith cpos (.builtin "dict.items") [.ref d] [] []) _ X.xe s1
  exact method_meetsIn F.slot_dict_items F.entry_dict_items rfl (PySem.evalArgs_none
    ⟨rfl, raw.typeIs, F.args_dict_items_1 _, _, DT.meetsItems (es := es) (ep := ep) nosys, raw, walk⟩)
/-- len of such a dict -/
theorem len_frz : CallR X (.builtin "len") (fun xs H Q => ∃ (p : Addr) (o : Obj) (kvs : List (List Key × V)), xs = [.ref p] ∧ H p = some (.frz o (.dT kvs)) ∧ Q (.int ((kvs.length : Nat) : Int)) H) := by
  intro pins s σ H xs us Q I r h
  obtain ⟨p, o, kvs, rfl, hp, q⟩ := h
  obtain ⟨u, rfl, rx⟩ := vals1 r
  obtain rfl : u = .ref p := rx
  obtain ⟨z, nosys, ys, rel, dd⟩ := dt_rd I.hok (.inr ⟨o, hp⟩)
  have el : kvs.length = ys.length := Paired.length rel
  have sm : (ys.length : Int) < 2 ^ 63 := by
    rw [sizeLine_eq] at z
    omega
  exact call_len_dictH nosys dd sm ⟨.int (kvs.length : Nat), H, I.tok _, ⟨_, by rw [el]⟩, q⟩
end
end GT

namespace GT
open PySem PySem.Spec PyProof.Rows L2
section
/-- a store to a dict of tuple keys by a comprehension -/
theorem put_T {X : Cx} {pins : List (Addr × Obj)} {σ : L2.St} {H : Hp} {s : Shared} {E : Value → Shared → Prop} {D b : Addr} {kvs : List (List Key × V)} {k : List Key} {v : V} {r : Value} {Q : Unit → Shared → Prop} (hu : X.A.units < cLine)
    (I : Inv X pins σ H s) (hD : H D = some (.dT kvs)) (hz : kvs.length < sizeLine) (hb : H b = some (.tup (k.map kV))) (rv : RelV v r) (h : ∀ s', Inv X pins σ (upd H D (.dT (putK kvs k v))) s' → Q () s') :
    wpAny (model X.prog X.w) X.A (dictSet D (.ref b) r) Q E s := by
  obtain ⟨z, nosys, xs, rel, dd⟩ := dt_of I.hok hD
  have small : xs.length ≤ sizeLine := by
    rw [← Paired.length rel]
    exact z
  have more : (putK kvs k v).length ≤ sizeLine := by
    have y := length_putK kvs k v
    omega
  refine wpAny_dictSet_heap (hsz := small) hu (key_of I.hok hb) dd fun h1 dd1 same => h _ ?_
  obtain ⟨ob, es, ep, ho, y1, y2, y3, _, y4⟩ := dd1
  refine d_write I (by rw [hD]; exact True.intro) same ⟨ob, ho⟩ ⟨more, nosys, _, (rel.put k hb rv).keeps fun c ys ec => ?_, ob, es, ep, ho, y1, y2, y3, y4⟩
  rw [upd_ne (ne_of ec hD (fun z => nomatch z))]
  exact ec
variable {X : Cx}
/-- {k: v for target in iter}, the keys tuples -/
def tDcT (wi : TI) (g : TG) (tk tv : TE) (vs : List Nat) : TE := fun σ H Q => wi σ H fun J H1 => ∀ D, H1 D = none → ∃ W : Nat → Nat → Hp → Prop, (∃ m, W 0 m (upd H1 D (.dT []))) ∧
  ∀ i m H, W i m H → (J.stop i H ∧ Q (.ref D) H) ∨ (J.go i H ∧ ∃ Nx : Hp → Prop, (∀ H', Nx H' → ∃ m', m' < m ∧ W (i + 1) m' H') ∧
    ∀ x H', J.yld i H x H' → g x (L2.wipe σ vs) H' fun σ2 H2 => L2.wipe σ2 vs = L2.wipe σ vs ∧ tk σ2 H2 fun y H4 => tv σ2 H4 fun z H5 => ∃ kvs k b, y = .ref b ∧ H5 b = some (.tup (k.map kV)) ∧ H5 D = some (.dT kvs) ∧ kvs.length < sizeLine ∧ Nx (upd H5 D (.dT (putK kvs k z))))
theorem pe_dcT {kx vx tg iter : Expr} {scope : Scope} {own : List (Str × Nat)} {pos : Pos} {wi : TI} {g : TG} {tk tv : TE} (hu : X.A.units < cLine) (hc : X.calm = true) (hN : X.N.Nodup) (hi : PI X tg iter wi) (ok : BlkOk X.N X.env.scope scope own)
    (hg : ∀ s H C cl fp, PG (X.blk s H scope (compEnvC scope cl C X.env) fp) tg g) (hk : ∀ s H C cl fp, PE (X.blk s H scope (compEnvC scope cl C X.env) fp) kx tk)
    (hv : ∀ s H C cl fp, PE (X.blk s H scope (compEnvC scope cl C X.env) fp) vx tv) (hs : ∀ x, foldedSetIterable iter X.env x = pure x) :
    PE X (.DictComp kx vx [⟨tg, iter, [], 0⟩] scope pos) (tDcT wi g tk tv (own.map (·.2))) := by
  refine ⟨fun pins s σ H Q I h => ?_⟩
  rw [arm_eval_DictComp]
  have outer : ∀ y ∈ scope.names, y.2 = .free → ∃ c, X.env.cells.lookup y.1 = some c := by
    intro y hy e
    rcases ok.free y hy e with k | k
    · exact I.ok.has _ (.inl k)
    · exact I.ok.has _ (.inr k)
  refine wpAny_comprehension_free (use := none) rfl hs (closure_ok outer) ok.kind (fun y hy e => by rw [ok.uniq y hy, e]) (thn (hi.run pins s σ H _ I h) fun xv t1 hx => thn hx fun itv t2 h2 => ?_)
  obtain ⟨it, fp, tn, J, Ha, e, Ia, T, sta, fa, q⟩ := h2
  subst e
  refine wpAny_newObj_type (newEnv_comp ?_)
  obtain ⟨D, hD⟩ : ∃ D, D = t2.heap.objs.size := ⟨_, rfl⟩
  have fresh : Ha D = none := Ia.hok.fresh (by rw [hD]; exact Nat.le_refl _)
  obtain ⟨W, ⟨m0, w0⟩, turn⟩ := q D fresh
  rw [← hD]
  obtain ⟨t3, ht3⟩ : ∃ t3 : Shared, t3 = { t2 with heap := t2.heap.push { cls := .type "dict", data := .dict #[] } } := ⟨_, rfl⟩
  have Ib : Inv X pins σ (upd Ha D (.dT [])) t3 := by
    rw [ht3]
    refine Ia.laid (t' := t2.toks) (fun b o z => Heap.get?_push_of_some _ z) (by rw [hD]; exact Nat.le_refl _) ?_
    rw [hD]
    exact dt_empty t2.heap Ia.big
  have hp3 : t3.heap = t2.heap.push { cls := .type "dict", data := .dict #[] } := by rw [ht3]
  have low : ∀ b ∈ fp, b < t2.heap.objs.size := by
    intro b hb
    obtain ⟨o, z, _⟩ := T.obj _ _ sta b hb
    exact Heap.lt_size z
  have fb : ∀ b ∈ fp, FpOk X pins (upd Ha D (.dT [])) b ∧ b < t3.heap.objs.size := by
    intro b hb
    have lt := low b hb
    refine ⟨⟨?_, (fa b hb).2⟩, ?_⟩
    · rw [upd_ne (by rw [hD]; exact Nat.ne_of_lt lt)]
      exact (fa b hb).1
    · rw [hp3, Heap.size_push]
      exact Nat.lt_succ_of_lt lt
  have stb : tn 0 t3.heap := T.keep _ _ _ sta fun b _ o z => by
    rw [hp3]
    exact Heap.get?_push_of_some _ z
  have Ic := block_start Ib ok hN fb
  have free3 : ∀ b ∈ fp, (upd Ha D (.dT [])) b = none := fun b hb => (fb b hb).1.1
  show codeAny _ _ (.compStart (.DictComp kx vx [⟨tg, iter, [], 0⟩] scope pos) 0 (.ref it) (.ref D) (compEnvC scope (cellsFrom ((t2.heap.push { cls := .type "dict", data := .dict #[] }).objs.size + 1) scope.names (cloFrom X.env.cells scope.names [])) (t2.heap.push { cls := .type "dict", data := .dict #[] }).objs.size X.env)) _ _
  have hz3 : (t2.heap.push { cls := .type "dict", data := .dict #[] }).objs.size = t3.heap.objs.size := by rw [hp3]
  rw [hz3]
  have pg := hg t3 (upd Ha D (.dT [])) t3.heap.objs.size (cellsFrom (t3.heap.objs.size + 1) scope.names (cloFrom X.env.cells scope.names [])) fp
  have pk := hk t3 (upd Ha D (.dT [])) t3.heap.objs.size (cellsFrom (t3.heap.objs.size + 1) scope.names (cloFrom X.env.cells scope.names [])) fp
  have pv := hv t3 (upd Ha D (.dT [])) t3.heap.objs.size (cellsFrom (t3.heap.objs.size + 1) scope.names (cloFrom X.env.cells scope.names [])) fp
  have state : ({ heap := pushCells ((t2.heap.push { cls := .type "dict", data := .dict #[] }).push { cls := .type "dict", data := .dict #[] }) scope.names, gens := t2.gens, drawn := t2.drawn, toks := t2.toks, os := t2.os } : Shared) = { t3 with heap := pushCells (t3.heap.push { cls := .type "dict", data := .dict #[] }) scope.names } := by
    rw [ht3]
  show codeAny _ _ _ (compPost (model X.prog X.w) X.A X.xe none (EP X pins σ Q) (.ref D) t3.heap.objs.size) ({ heap := pushCells ((t2.heap.push { cls := .type "dict", data := .dict #[] }).push { cls := .type "dict", data := .dict #[] }) scope.names, gens := t2.gens, drawn := t2.drawn, toks := t2.toks, os := t2.os } : Shared)
  rw [state]
  generalize ece : compEnvC scope (cellsFrom (t3.heap.objs.size + 1) scope.names (cloFrom X.env.cells scope.names [])) t3.heap.objs.size X.env = ce at Ic pg pk pv ⊢
  have loc : ce.locals = t3.heap.objs.size := by rw [← ece] <;> rfl
  generalize eHb : upd Ha D (.dT []) = Hb at Ib Ic pg pk pv w0 free3 fb
  generalize et4 : ({ t3 with heap := pushCells (t3.heap.push { cls := .type "dict", data := .dict #[] }) scope.names } : Shared) = t4 at Ic ⊢
  have st4 : tn 0 t4.heap := T.keep _ _ _ stb fun b _ o z => by
    rw [← et4]
    exact pushCells_keeps _ _ _ _ (Heap.get?_push_of_some _ z)
  have still : ∀ {σ' : L2.St} {H' : Hp} {s' : Shared}, Inv (X.blk t3 Hb scope ce fp) [] σ' H' s' → (∀ b ∈ fp, H' b = none) → ∀ b ∈ fp, FpOk (X.blk t3 Hb scope ce fp) [] H' b := by
    intro σ' H' s' I' hn b hb
    exact ⟨hn b hb, (I'.ok.exf b hb).1, I'.ok.exfs b hb, .inl hb, fun x c e => (I'.ok.exf b hb).2 x c e, fun p hp => absurd (show p ∈ ([] : List (Addr × Obj)) ++ [] from hp) (by simp)⟩
  have loop : codeAny (model X.prog X.w) X.A (.compLoop (.DictComp kx vx [⟨tg, iter, [], 0⟩] scope pos) 0 (.ref it) (.ref D) ce) (compPost (model X.prog X.w) X.A X.xe none (EP X pins σ Q) (.ref D) t3.heap.objs.size) t4 := by
    refine compLoop_anyD (fun n s' => ∃ i H', Inv (X.blk t3 Hb scope ce fp) [] (L2.wipe σ (own.map (·.2))) H' s' ∧ tn i s'.heap ∧ (∀ b ∈ fp, H' b = none) ∧ W i n H') ?_ m0 ⟨0, Hb, Ic, st4, free3, w0⟩
    rintro n t5 ⟨i, H5, I5, st5, n5, w5⟩
    rcases turn i n H5 w5 with ⟨stop, qq⟩ | ⟨go, Nx, hNx, step⟩
    · have td := T.done (X.blk t3 Hb scope ce fp) rfl rfl rfl hc i [] t5 _ H5 (fun _ _ => False) I5 (still I5 n5) st5 stop
      refine thnF td fun r t6 ⟨hr, I6⟩ => ?_
      subst hr
      have back : Inv X pins σ H5 t6 := by
        refine Ib.call' (ch := fp) I6.os I6.base I6.hok I6.bare fun b hb => ?_
        exact ⟨(fb b hb).1.2.2.2.1, (fb b hb).1.2.1, (fb b hb).1.2.2.2.2.1, (fb b hb).1.2.2.2.2.2⟩
      have nL : H5 t3.heap.objs.size = none := by
        have z : H5 ce.locals = none := I6.free
        rw [loc] at z
        exact z
      obtain ⟨m, hn, _⟩ := I6.loc
      have hn : t6.heap.Ns ce.locals m := hn
      rw [loc] at hn
      obtain ⟨y0, y1, y2, y3, y4, y5⟩ := Ib.fpOk (Nat.le_refl _) nL
      refine ⟨m, hn, fun h3 sb => ?_⟩
      exact ⟨.ref D, H5, back.turned (t' := t6.toks) (fun b o hb e => (sb.2 b hb).trans e) y0 y1 y3 y4 y5, rfl, qq⟩
    · have ti := T.item (X.blk t3 Hb scope ce fp) rfl rfl rfl hc i [] t5 _ H5 (fun _ _ => False) I5 (still I5 n5) st5 go
      refine thnF ti fun r t6 ⟨u, hr, h6⟩ => ?_
      subst hr
      refine thnF h6 fun _ t7 ⟨x, H7, I7, r7, y7, st7, n7⟩ => ?_
      have pinned := I7.pinned (still I7 n7) (T.obj _ _ st7)
      refine thnF (pg.run _ t7 _ H7 x u _ pinned r7 (step x H7 y7)) fun _ t8 ⟨σ8, H8, I8, hw8, q8⟩ => ?_
      refine thnF ((pts_nil (X := X.blk t3 Hb scope ce fp)).run _ t8 σ8 H8 (fun b H3 => b = true ∧ tk σ8 H3 fun y H4 => tv σ8 H4 fun z H5 => ∃ kvs k b, y = .ref b ∧ H5 b = some (.tup (k.map kV)) ∧ H5 D = some (.dT kvs) ∧ kvs.length < sizeLine ∧ Nx (upd H5 D (.dT (putK kvs k z)))) I8 ⟨rfl, q8⟩) fun b t9 ⟨H9, I9, eb, q9⟩ => ?_
      subst eb
      simp only [if_true]
      refine thnF (pk.run _ t9 σ8 H9 _ I9 q9) fun z t10 ⟨yk, H10, I10, r10, q10⟩ => ?_
      refine thnF (pv.run _ t10 σ8 H10 _ I10 q10) fun z2 t11 ⟨yv, H11, I11, r11, kvs, k, kb, ek, hkb, hD11, hz11, nx⟩ => ?_
      subst ek
      cases r10
      refine put_T (X := X.blk t3 Hb scope ce fp) hu I11 hD11 hz11 hkb r11 fun t12 I12 => ?_
      obtain ⟨m', hm, w'⟩ := hNx _ nx
      have keep : ∀ b ∈ fp, ∀ o, t7.heap.get? b = some o → t12.heap.get? b = some o ∧ upd H11 D (.dT (putK kvs k yv)) b = none := by
        intro b hb o e
        have z := I12.pin (b, o) (List.mem_append_right _ (List.mem_append_right _ (mem_pinsAt hb e)))
        exact ⟨z.1, z.2.1⟩
      have len : (L2.wipe σ (own.map (·.2))).length = σ8.length := by rw [← hw8, wipe_length]
      refine ⟨m', hm, i + 1, _, (I12.unpinned (pins := [])).weak len (fun j v e => ?_), T.keep _ _ _ st7 fun b hb o e => (keep b hb o e).1, fun b hb => ?_, w'⟩
      · rw [← hw8] at e
        exact (wipe_some e).1
      · obtain ⟨o, e, _⟩ := T.obj _ _ st7 b hb
        exact (keep b hb o e).2
  exact codeAny_compStart_dict loop (T.self X.A 0 _ _ _ st4 loop)
end
end GT

namespace GT
open PySem PySem.Spec PyProof.Rows L2
section
theorem stored_fresh {α : Type} [DecidableEq α] : ∀ (ps acc : List (α × Addr × Value)), ((acc ++ ps).map (·.1)).Nodup → storedAllH acc ps = acc ++ ps
  | [], acc, _ => by
    rw [List.append_nil]
    rfl
  | p :: ps, acc, nd => by
    have no : atKey acc p.1 = none := by
      refine atKey_none_of_get fun j q e => ?_
      rw [List.map_append] at nd
      have m : p.1 ∈ acc.map (·.1) := List.mem_map.mpr ⟨_, List.mem_of_getElem? e, rfl⟩
      exact (List.nodup_append.mp nd).2.2 _ m _ (by simp) rfl
    have e1 : storedH acc p.1 p.2.1 p.2.2 = acc ++ [p] := storedH_new no _ _
    have step : storedAllH acc (p :: ps) = storedAllH (storedH acc p.1 p.2.1 p.2.2) ps := rfl
    rw [step, e1, stored_fresh ps (acc ++ [p]) (by rw [List.append_assoc]; exact nd), List.append_assoc]
    rfl
theorem kt_key {H : Hp} : ∀ {kvs : List (List Key × V)} {xs : List (List Key × Addr × Value)} {x : List Key × Addr × Value}, KT H kvs xs → x ∈ xs → H x.2.1 = some (.tup (x.1.map kV))
  | _, _, _, .nil, hx => nomatch hx
  | _, _, x, .cons h t, hx => by
    rcases List.mem_cons.mp hx with e | e
    · subst e
      rw [← h.1]
      exact h.2.1
    · exact kt_key t e
variable {X : Cx}
/-- pairs (key, value) in a list, their keys tuples -/
def PairsT (K : PySem.W.Frag) (H : Hp) : List Addr → List (List Key × V) → Prop := Paired fun p kv => ∃ b, SqT K H p [.ref b, kv.2] ∧ H b = some (.tup (kv.1.map kV))
theorem prs_of {pins : List (Addr × Obj)} {σ : L2.St} {H : Hp} {s : Shared} (I : Inv X pins σ H s) : ∀ {ps : List Addr} {kvs : List (List Key × V)}, PairsT X.K H ps kvs →
    ∃ prs : List (List Key × Addr × Value), prs.length = ps.length ∧ prs.map (·.1) = kvs.map (·.1) ∧ KT H kvs prs ∧ ∀ (j : Nat) (q : List Key × Addr × Value), prs[j]? = some q → ∃ b, ps[j]? = some b ∧ s.heap.IsTuple b #[.ref q.2.1, q.2.2]
  | _, _, .nil => ⟨[], rfl, rfl, .nil, fun j q e => by simp at e⟩
  | _, _, .cons (a := p) (b := kv) h t => by
    obtain ⟨prs, e1, e2, e3, e4⟩ := prs_of I t
    obtain ⟨b, hp, hb⟩ := h
    obtain ⟨its, rv, ht, _⟩ := I.tuple hp
    obtain ⟨u, y, ei, ru, ry⟩ := vals2 rv
    subst ei
    cases ru
    refine ⟨(kv.1, b, y) :: prs, by rw [List.length_cons, List.length_cons, e1], by rw [List.map_cons, List.map_cons, e2], .cons ⟨rfl, hb, ry⟩ e3, fun j q e => ?_⟩
    cases j with
    | zero =>
      have e' : (kv.1, b, y) = q := Option.some.inj e
      subst e'
      exact ⟨p, rfl, ht⟩
    | succ j =>
      obtain ⟨b', y1, y2⟩ := e4 j q (by simpa using e)
      exact ⟨b', by simpa using y1, y2⟩
/-- dict(xs) of such a list -/
theorem call_pairsT (hc : X.calm = true) (hu : X.A.units + 2 < cLine) : CallR X (.type "dict") (fun xs H Q => ∃ (a : Addr) (ps : List Addr) (kvs : List (List Key × V)), xs = [.ref a] ∧ SqL X.K H a (ps.map V.ref) ∧ PairsT X.K H ps kvs ∧ (kvs.map (·.1)).Nodup ∧
    ∀ p, H p = none → Q (.ref p) (upd H p (.dT kvs))) := by
  intro pins s σ H xs us Q I r q
  obtain ⟨a, ps, kvs, rfl, hq, hp, nd, q⟩ := q
  obtain ⟨u, rfl, rx⟩ := vals1 r
  cases rx
  obtain ⟨its, rv, pl, hz⟩ := I.list hq
  have ei := refs_at rv
  subst ei
  rw [List.length_map] at hz
  obtain ⟨prs, e1, e2, e3, e4⟩ := prs_of I hp
  have plist : PlainSeq "list" s.heap a (ps.map Value.ref).toArray := by
    obtain ⟨o, n, y1, y2, y3, y4⟩ := pl
    exact ⟨o, n, y1, y2, y3, y4⟩
  have hlen : prs.length ≤ sizeLine := by rw [e1]; exact hz
  have P := PairArg.list (prog := X.prog) (w := X.w) a (ps.map Value.ref).toArray (fun j => ps.getD j 0) (prs.map fun x => (Value.ref x.2.1, x.2.2))
  rw [List.length_map] at P
  refine call_dict_pairsH (knd := tupleKind (mixKind X.prog X.w)) (ps := prs) P (I.ok.hd hc) ?_ ?_ ?_ ?_ hlen fun h1 tk dd keep => ?_
  · show X.A.in1.in1.units < cLine
    exact hu
  · refine ⟨plist, ?_, fun j k v e => ?_⟩
    · simp [e1]
    · rw [List.getElem?_map] at e
      obtain ⟨x, hx, ex⟩ := Option.map_eq_some_iff.mp e
      cases ex
      obtain ⟨b, y1, y2⟩ := e4 j x hx
      refine ⟨?_, .inl ?_⟩
      · have e5 : ps.getD j 0 = b := by
          rw [List.getD_eq_getElem?_getD, y1]
          rfl
        show (ps.map Value.ref).toArray[j]? = some (Value.ref (ps.getD j 0))
        rw [e5]
        simp [y1]
      · have e5 : ps.getD j 0 = b := by
          rw [List.getD_eq_getElem?_getD, y1]
          rfl
        show s.heap.IsTuple (ps.getD j 0) _
        rw [e5]
        exact y2
  · refine ⟨rfl, fun i key v e => ?_⟩
    have e : (prs.map fun x => (Value.ref x.2.1, x.2.2))[i]? = some (key, v) := e
    rw [List.getElem?_map] at e
    obtain ⟨⟨k, b, y⟩, hx, ex⟩ := Option.map_eq_some_iff.mp e
    cases ex
    exact ⟨k, b, hx, rfl⟩
  · intro h2 kp x hx
    have kept : ∀ b o, s.heap.get? b = some o → h2.get? b = some o := fun b o z => kp b o (Nat.ne_of_lt (Heap.lt_size z)) (by simp) z
    exact key_of (I.hok.kept kept) (kt_key e3 hx)
  · have nd2 : ((([] : List (List Key × Addr × Value)) ++ prs).map (·.1)).Nodup := by
      rw [List.nil_append, e2]
      exact nd
    rw [stored_fresh prs [] nd2, List.nil_append] at dd
    have kept : ∀ b o, s.heap.get? b = some o → h1.get? b = some o := fun b o z => keep b o (by simp) z
    have nosys : (s.heap.objs.size == sysModules) = false := beq_eq_false_iff_ne.mpr (Nat.ne_of_gt I.big)
    have free : H s.heap.objs.size = none := I.hok.fresh (Nat.le_refl _)
    obtain ⟨o, es, ep, y1, y2, y3, y4, y5, y6⟩ := dd
    have el : kvs.length = prs.length := Paired.length e3
    refine ⟨.ref s.heap.objs.size, upd H s.heap.objs.size (.dT kvs), I.laid (t' := tk) kept (Nat.le_refl _) ?_, rfl, q _ free⟩
    exact ⟨by rw [el]; exact hlen, nosys, prs, e3.keeps fun c ys ec => by rw [upd_ne (ne_of_none ec free)]; exact ec, o, es, ep, y1, y2, y3, y4, y6⟩
end
end GT

namespace DL
open PySem PySem.Spec PyProof.Rows L2
/-! ### dicts whose keys are tuples -/
def kD : Key → D
  | .inl i => .int i
  | .inr x => .str x
def keyT (k : List Key) : D := .tup (k.map kD)
/-- a dict: one that stays, or one that may change, locked or not -/
def DAt (μ : Mu) (d : D) (kvs : List (List Key × D)) : Prop := d = .dct kvs ∨ ∃ p, d = .ref p ∧ (μ p = some (.dct kvs) ∨ ∃ o ws, μ p = some (.lck o ws kvs))
def valD (kvs : List (List Key × D)) (k : List Key) : Option D := (kvs.find? fun kv => decide (kv.1 = k)).map (·.2)
section
variable {X : Cx} {G0 : Hp} {e a b c it elt o : Expr} {es rest : List Expr} {sts : List Stmt} {δ : List (Option D)} {μ : Mu} {Φ : DK} {pos apos : Pos} {K : PySem.W.Frag} {H G : Hp} {Q : VK} {E : DEnds} {kvs : List (List Key × D)} {k : List Key} {d x y r : D}
theorem rp_kD {j : Key} {v : V} : Rp K G v (kD j) ↔ v = kV j := by
  cases j with
  | inl i => exact ⟨fun h => by cases h; rfl, fun h => by rw [h]; exact .int i⟩
  | inr z => exact ⟨fun h => by cases h; rfl, fun h => by rw [h]; exact .str z⟩
theorem rp_kDs : ∀ {k : List Key} {vs : List V}, RpAll K G vs (k.map kD) → vs = k.map kV
  | [], _, .nil => rfl
  | j :: k, _, .cons r t => by rw [List.map_cons, rp_kDs t, rp_kD.mp r]
theorem rp_kVs : ∀ {k : List Key}, RpAll K G (k.map kV) (k.map kD)
  | [] => .nil
  | j :: k => .cons (rp_kD.mpr rfl) rp_kVs
theorem rp_keyT {v : V} (r : Rp K (Im μ H) v (keyT k)) : ∃ b, v = .ref b ∧ H b = some (.tup (k.map kV)) := by
  obtain ⟨b, vs, e, h, ra⟩ := rp_tup_at r
  rw [rp_kDs ra] at h
  exact ⟨b, e, h⟩
theorem ct_tup {xs : List V} {c : D} (h : Ct K G (some (HO.tup xs)) c) : False := by
  unfold Ct at h
  split at h
  · rename_i e; cases e
  · rename_i e; cases e
  · rename_i e; cases e
  · rename_i e; cases e
  · rename_i e; cases e
  · exact h
theorem tup_im {b : Addr} {xs : List V} (m : MuOk K μ H) (h : H b = some (.tup xs)) : Im μ H b = some (.tup xs) := by
  unfold Im
  cases e : μ b with
  | none => exact h
  | some c =>
    have q := m b c e
    rw [h] at q
    exact (ct_tup q).elim
theorem rp_key {b : Addr} (m : MuOk K μ H) (h : H b = some (.tup (k.map kV))) : Rp K (Im μ H) (.ref b) (keyT k) := .tup (tup_im m h) rp_kVs
theorem dat_rd {v : V} (r : Rp K (Im μ H) v d) (m : MuOk K μ H) (h : DAt μ d kvs) : ∃ a vs, v = .ref a ∧ Rd H a (.dT vs) ∧ RpKv K (Im μ H) vs kvs := by
  rcases h with rfl | ⟨p, rfl, h | ⟨o, ws, h⟩⟩
  · cases r with
    | dct h r => exact ⟨_, _, rfl, .inr ⟨_, im_all _ _ h⟩, r⟩
  · obtain ⟨vs, h1, h2⟩ := m.dct h
    exact ⟨p, vs, rp_ref r, .inl h1, h2⟩
  · obtain ⟨h1, h2⟩ := m.lck h
    exact ⟨p, ws, rp_ref r, .inr ⟨o, h1⟩, h2⟩
theorem RpKv.keys : ∀ {vs : List (List Key × V)} {ds : List (List Key × D)}, RpKv K G vs ds → vs.map (·.1) = ds.map (·.1)
  | _, _, .nil => rfl
  | _, _, .cons _ t => congrArg _ t.keys
theorem RpKv.length {vs : List (List Key × V)} {ds : List (List Key × D)} (h : RpKv K G vs ds) : vs.length = ds.length := by
  have := congrArg List.length h.keys
  simpa using this
theorem RpKv.val : ∀ {vs : List (List Key × V)} {ds : List (List Key × D)} (k : List Key), RpKv K G vs ds → (∀ d, valD ds k = some d → ∃ v, valV vs k = some v ∧ Rp K G v d) ∧ (valD ds k = none → valV vs k = none)
  | _, _, k, .nil => ⟨fun d h => by simp [valD] at h, fun _ => rfl⟩
  | (k', v) :: vs, (_, d') :: ds, k, .cons r t => by
    obtain ⟨i1, i2⟩ := RpKv.val k t
    by_cases e : k' = k
    · subst e
      refine ⟨fun d h => ?_, fun h => ?_⟩
      · simp [valD, List.find?_cons] at h
        subst h
        exact ⟨v, valV_pos rfl, r⟩
      · simp [valD, List.find?_cons] at h
    · have e1 : valD ((k', d') :: ds) k = valD ds k := by simp [valD, List.find?_cons, e]
      rw [e1]
      refine ⟨fun d h => ?_, fun h => ?_⟩
      · obtain ⟨u, h1, h2⟩ := i1 d h
        exact ⟨u, by rw [valV_neg (by exact e)]; exact h1, h2⟩
      · rw [valV_neg (by exact e)]
        exact i2 h
theorem RpKv.isSome {vs : List (List Key × V)} {ds : List (List Key × D)} (k : List Key) (h : RpKv K G vs ds) : (valV vs k).isSome = (valD ds k).isSome := by
  cases e : valD ds k with
  | none => rw [(h.val k).2 e] <;> rfl
  | some d =>
    obtain ⟨v, h1, _⟩ := (h.val k).1 d e
    rw [h1]
    rfl
/-! ### d[k], k in d, len(d), isinstance(d, ..) -/
def rIxD : R2 := fun x y H Q => ∃ a v, x = .ref a ∧ DGet H a y (some v) ∧ Q v H
theorem ix_dct (hu : X.A.units + 1 < cLine) : IxR X rIxD := by
  intro value slice pins s σ H x y v u Q I rx ry h hs
  obtain ⟨a, w, rfl, g, q⟩ := h
  obtain rfl : v = Value.ref a := rx
  have key := d_getItem (A := X.A) (E := X.xe) (Q := EP X pins σ Q) hu I g ry fun w' s3 I3 rw' => ⟨w, H, I3, rw', q⟩
  unfold subscriptTail
  refine wpAny_bind ?_
  rw [getitemInPython_of_ne (dict_typeIs I g).not_modules]
  refine wpAny_bind (wpAny_specialOf (dict_typeIs I g) PySem.F.slot_dict_getitem.lookup ?_)
  have fin : wpAny (model X.prog X.w) X.A (subscripted slice false (.ref a) u) (fun r s₃ => wpAny (model X.prog X.w) X.A (letTemporaryGo value (.ref a) r >>= fun _ => pure r) (EP X pins σ Q) X.xe s₃) X.xe s := by
    rw [hs]
    exact wpAny_operating (wpAny_mono key (fun r s₃ h₃ => wpAny_bind (wpAny_letTemporaryGo (wpAny_pure h₃))) fun _ _ x => x)
  first
    | exact wpAny_pure (wpAny_bind fin)
    | exact wpAny_bind (wpAny_pure (wpAny_bind fin))
    | exact wpAny_bind fin
theorem x_dct (hu : X.A.units + 64 < cLine) (hd : DAt μ x kvs) (hv : valD kvs k = some r) (q : Φ r μ) : dIx X x (keyT k) μ Φ := fun v u H r1 r2 m Q kk => by
  obtain ⟨a, vs, rfl, h1, h2⟩ := dat_rd r1 m hd
  obtain ⟨b, rfl, hb⟩ := rp_keyT r2
  obtain ⟨w, hw, rw'⟩ := (h2.val k).1 r hv
  exact wIx_of (ix_dct (by omega)) ⟨a, w, rfl, .inr ⟨vs, k, b, h1, rfl, hb, hw.symm⟩, kk.val m q rw'⟩
theorem op_inD (hu : X.A.units + 1 < cLine) : OpR X (compareOp .In) (fun y x H Q => ∃ a o, x = .ref a ∧ DGet H a y o ∧ Q (.bl o.isSome) H) := by
  intro pins s σ H x y v u Q I rx ry h
  obtain ⟨a, o, rfl, g, q⟩ := h
  obtain rfl : u = Value.ref a := ry
  exact d_in hu I g rx fun s' I' => ⟨.bl o.isSome, H, I', rfl, q⟩
theorem op_ninD (hu : X.A.units + 1 < cLine) : OpR X (compareOp .NotIn) (fun y x H Q => ∃ a o, x = .ref a ∧ DGet H a y o ∧ Q (.bl (!o.isSome)) H) := by
  intro pins s σ H x y v u Q I rx ry h
  obtain ⟨a, o, rfl, g, q⟩ := h
  obtain rfl : u = Value.ref a := ry
  exact d_notIn hu I g rx fun s' I' => ⟨.bl (!o.isSome), H, I', rfl, q⟩
theorem o_inD (hu : X.A.units + 64 < cLine) (hd : DAt μ x kvs) (q : Φ (.bl (valD kvs k).isSome) μ) : dOp X (compareOp .In) (keyT k) x μ Φ := fun v u H r1 r2 m Q kk => by
  obtain ⟨a, vs, rfl, h1, h2⟩ := dat_rd r2 m hd
  obtain ⟨b, rfl, hb⟩ := rp_keyT r1
  exact wOp_of (op_inD (by omega)) ⟨a, _, rfl, .inr ⟨vs, k, b, h1, rfl, hb, rfl⟩, kk.val m q (by rw [h2.isSome]; exact .bl _)⟩
theorem o_ninD (hu : X.A.units + 64 < cLine) (hd : DAt μ x kvs) (q : Φ (.bl (!(valD kvs k).isSome)) μ) : dOp X (compareOp .NotIn) (keyT k) x μ Φ := fun v u H r1 r2 m Q kk => by
  obtain ⟨a, vs, rfl, h1, h2⟩ := dat_rd r2 m hd
  obtain ⟨b, rfl, hb⟩ := rp_keyT r1
  exact wOp_of (op_ninD (by omega)) ⟨a, _, rfl, .inr ⟨vs, k, b, h1, rfl, hb, rfl⟩, kk.val m q (by rw [h2.isSome]; exact .bl _)⟩
theorem c_lenD (hd : DAt μ x kvs) (q : Φ (.int kvs.length) μ) : dCall X (.builtin "len") [x] μ Φ := fun vs H r0 m Q kk => by
  obtain ⟨v, rfl, r1⟩ := rp1 r0
  obtain ⟨a, ws, rfl, h1, h2⟩ := dat_rd r1 m hd
  rcases h1 with h1 | ⟨o, h1⟩
  · exact wCall_of call_len_dT ⟨a, ws, rfl, h1, by rw [h2.length]; exact kk.val m q (.int _)⟩
  · exact wCall_of GT.len_frz ⟨a, o, ws, rfl, h1, by rw [h2.length]; exact kk.val m q (.int _)⟩
theorem isi_dct : CallR X (.builtin "isinstance") (fun xs H Q => ∃ (a : Addr) (c : V) (u : Value) (ws : List (List Key × V)) (b : Bool), xs = [.ref a, c] ∧ ClsV c u ∧ Rd H a (.dT ws) ∧ PySem.W.kitOne X.K (.type "dict") u = some b ∧ Q (.bl b) H) := by
  intro pins s σ H xs us Q I r h
  obtain ⟨a, c, u, ws, b, rfl, k, rd, e, q⟩ := h
  obtain ⟨u1, u2, rfl, r1, r2⟩ := vals2 r
  have e2 := k.eq r2
  subst e2
  obtain rfl : u1 = Value.ref a := r1
  obtain ⟨_, _, xs, _, dd⟩ := dt_rd I.hok rd
  exact PySem.W.kia_one PySem.W.kitx_dict I.kIn (GE.typeIsH dd) e (fun z => nomatch z) fun tk => ⟨.bl b, H, I.tok tk, rfl, q⟩
theorem c_isiD {n : String} {kk : Bool} (hd : DAt μ x kvs) (q : Φ (.bl kk) μ) (hk : kitB "dict" n = some kk := by exact (by decide +kernel)) : dCall X (.builtin "isinstance") [x, .ty n] μ Φ := fun vs H r0 m Q k2 => by
  obtain ⟨v, u, rfl, a, b⟩ := rp2 r0
  cases b
  obtain ⟨p, ws, rfl, h1, h2⟩ := dat_rd a m hd
  exact wCall_of isi_dct ⟨p, .ty n, .type n, ws, kk, rfl, .ty n, h1, kit_ty hk, k2.val m q (.bl _)⟩
/-! ### what may change, and stays from now on -/
/-- a value, or a new dict that stays (locked) from now on -/
def FzD (Φ : DK) : DK := fun d μ => Φ d μ ∨ ∃ p ds μ2, d = .ref p ∧ μ = updM μ2 p (.dct ds) ∧ μ2 p = none ∧ Φ (.dct ds) μ2
theorem im_lock {μ : Mu} {H : Hp} {p : Addr} {c : D} {o : HO} : Im (updM μ p c) (upd H p o) = Im (updM μ p c) H := by
  funext b
  unfold Im
  by_cases e : b = p
  · rw [e, updM_same]
    rfl
  · rw [upd_ne e]
theorem frz_dct {p : Addr} {ds : List (List Key × D)} {ws : List (List Key × V)} {od : Obj} (m : MuOk K (updM μ p (.dct ds)) H) (h : μ p = none) (hw : H p = some (.dT ws)) :
    MuOk K μ (upd H p (.frz od (.dT ws))) ∧ Sub (Im (updM μ p (.dct ds)) H) (Im μ (upd H p (.frz od (.dT ws)))) ∧ Rp K (Im μ (upd H p (.frz od (.dT ws)))) (.ref p) (.dct ds) := by
  have sub : Sub (Im (updM μ p (.dct ds)) H) (Im μ (upd H p (.frz od (.dT ws)))) := by
    rw [← im_lock (o := .frz od (.dT ws))]
    exact im_drop
  obtain ⟨ws', h1, h2⟩ := m.dct updM_same
  rw [hw] at h1
  cases h1
  refine ⟨fun q c hq => ?_, sub, .dct (xs := ws) (o := od) ?_ (h2.mono sub)⟩
  · have ne : q ≠ p := fun e => by
      rw [e, h] at hq
      cases hq
    have z := m q c ((updM_ne ne).trans hq)
    rw [upd_ne ne]
    exact z.mono sub
  · unfold Im
    rw [h, upd_same]
    rfl
theorem d_fzD (h : dE X G0 e δ μ (FzD Φ)) : dE X G0 e δ μ Φ := fun σ H B Q k => by
  have z := h σ H B (fun v H2 => Q v H2 ∨ ∃ p ws, v = .ref p ∧ H2 p = some (.dT ws) ∧ ∀ od, Q v (upd H2 p (.frz od (.dT ws)))) fun v H2 d μ2 q m e2 r => ?_
  · intro pins s I
    refine thn (z pins s I) fun u s' ⟨v, H2, I2, rv, q⟩ => ?_
    rcases q with q | ⟨p, ws, ev, hp, q⟩
    · exact ⟨v, H2, I2, rv, q⟩
    · obtain ⟨od, I3⟩ := I2.lock hp trivial
      exact ⟨v, _, I3, rv, q od⟩
  · rcases q with q | ⟨p, ds, μ3, rfl, rfl, hp, q⟩
    · exact .inl (k v H2 d μ2 q m e2 r)
    · cases rp_ref r
      obtain ⟨ws, h1, h2⟩ := m.dct updM_same
      refine .inr ⟨p, ws, rfl, h1, fun od => ?_⟩
      obtain ⟨z1, z2, z3⟩ := frz_dct (od := od) m hp h1
      exact k _ _ _ μ3 q z1 (e2.trans z2) z3
theorem fzd_ref {p : Addr} {ds : List (List Key × D)} (hp : μ p = none) (q : Φ (.dct ds) μ) : FzD Φ (.ref p) (updM μ p (.dct ds)) := .inr ⟨p, ds, μ, rfl, rfl, hp, q⟩
/-- the same of a slot, between statements -/
theorem s_frzDc {i : Nat} {p : Addr} {ds : List (List Key × D)} (hi : δ[i]? = some (some (.ref p))) (hp : μ p = none) (h : dSs X G0 sts (δ.set i (some (.dct ds))) μ E) : dSs X G0 sts δ (updM μ p (.dct ds)) E := fun σ H B => by
  obtain ⟨v, h1, r⟩ := B.sl i _ hi
  cases rp_ref r
  obtain ⟨ws, h2, h3⟩ := B.mu.dct updM_same
  intro pins s I
  obtain ⟨od, I3⟩ := I.lock h2 trivial
  obtain ⟨z1, z2, z3⟩ := frz_dct (od := od) B.mu hp h2
  have B' : Bd X.K G0 δ μ σ (upd H p (.frz od (.dT ws))) := B.step z1 z2
  have z := B'.set (i := i) z3
  have e : σ.set i (some (.ref p)) = σ := by
    refine List.ext_getElem? fun j => ?_
    by_cases q : i = j
    · subst q
      rw [List.getElem?_set, if_pos rfl, h1, if_pos (List.getElem?_eq_some_iff.mp h1).1]
    · rw [List.getElem?_set_ne q]
  rw [e] at z
  exact h σ _ z pins s I3
/-- a dict that may change is locked while an expression runs -/
theorem d_lock {p : Addr} (hp : μ p = some (.dct kvs)) (h : ∀ od ws, dE X G0 e δ (updM μ p (.lck od ws kvs)) fun d μ2 => ∃ μ3, μ2 = updM μ3 p (.lck od ws kvs) ∧ Φ d (updM μ3 p (.dct kvs))) : dE X G0 e δ μ Φ := fun σ H B Q k => by
  obtain ⟨ws, h1, h2⟩ := B.mu.dct hp
  intro pins s I
  obtain ⟨od, I1⟩ := I.lock h1 trivial
  have hi : Im (updM μ p (.lck od ws kvs)) (upd H p (.frz od (.dT ws))) = Im μ H := im_upd (by rw [hp]; rfl)
  have B1 : Bd X.K G0 δ (updM μ p (.lck od ws kvs)) σ (upd H p (.frz od (.dT ws))) := B.step (B.mu.upd hi ⟨rfl, rfl, h2⟩) (by rw [hi]; exact Sub.refl _)
  have z := h od ws σ _ B1 (fun v H2 => H2 p = some (.frz od (.dT ws)) ∧ Q v (upd H2 p (.dT ws))) fun v H2 d μ2 q m e2 r => ?_
  · refine thn (z pins s I1) fun u s' ⟨v, H2, I2, rv, e2, q⟩ => ?_
    exact ⟨v, _, I2.unlock e2 (I.nofrz h1 trivial), rv, q⟩
  · obtain ⟨μ3, rfl, q⟩ := q
    obtain ⟨y1, y2⟩ := m.lck updM_same
    have hi2 : Im (updM μ3 p (.dct kvs)) (upd H2 p (.dT ws)) = Im (updM μ3 p (.lck od ws kvs)) H2 := by
      rw [← updM_upd (c := .lck od ws kvs)]
      exact im_upd (by rw [updM_same]; rfl)
    have m2 : MuOk X.K (updM μ3 p (.dct kvs)) (upd H2 p (.dT ws)) := by
      rw [← updM_upd (c := .lck od ws kvs)]
      refine m.upd ?_ y2
      rw [updM_upd]
      exact hi2
    refine ⟨y1, k v _ d _ q m2 ?_ ?_⟩
    · rw [hi2, ← hi]
      exact e2
    · rw [hi2]
      exact r
end
end DL

namespace DL
open PySem PySem.Spec PyProof.Rows L2
section
variable {X : Cx} {G0 : Hp} {e e2 a b c it elt kx vx o : Expr} {es rest : List Expr} {sts : List Stmt} {δ : List (Option D)} {μ : Mu} {Φ : DK} {pos apos : Pos} {K : PySem.W.Frag} {H G : Hp} {Q : VK} {E : DEnds} {kvs : List (List Key × D)} {k : List Key} {d x y r : D} {Θ : Bool → Mu → Prop}
/-! ### d[k] = v -/
def putD (kvs : List (List Key × D)) (k : List Key) (v : D) : List (List Key × D) := if (kvs.any fun kv => decide (kv.1 = k)) then kvs.map fun kv => if kv.1 = k then (kv.1, v) else kv else kvs ++ [(k, v)]
theorem RpKv.append : ∀ {vs ws : List (List Key × V)} {ds us : List (List Key × D)}, RpKv K G vs ds → RpKv K G ws us → RpKv K G (vs ++ ws) (ds ++ us)
  | _, _, _, _, .nil, h2 => h2
  | _, _, _, _, .cons r t, h2 => .cons r (RpKv.append t h2)
theorem RpKv.repl {v : V} (hv : Rp K G v d) (k : List Key) : ∀ {vs : List (List Key × V)} {ds : List (List Key × D)}, RpKv K G vs ds → RpKv K G (vs.map fun kv => if kv.1 = k then (kv.1, v) else kv) (ds.map fun kv => if kv.1 = k then (kv.1, d) else kv)
  | _, _, .nil => .nil
  | (k', u) :: vs, (_, u') :: ds, .cons r t => by
    rw [List.map_cons, List.map_cons]
    by_cases e : k' = k
    · rw [if_pos (by exact e), if_pos (by exact e)]
      exact .cons hv (RpKv.repl hv k t)
    · rw [if_neg (by exact e), if_neg (by exact e)]
      exact .cons r (RpKv.repl hv k t)
theorem RpKv.any (k : List Key) : ∀ {vs : List (List Key × V)} {ds : List (List Key × D)}, RpKv K G vs ds → (vs.any fun kv => decide (kv.1 = k)) = (ds.any fun kv => decide (kv.1 = k))
  | _, _, .nil => rfl
  | (k', u) :: vs, (_, u') :: ds, .cons r t => by
    rw [List.any_cons, List.any_cons, RpKv.any k t]
theorem RpKv.put {v : V} (hv : Rp K G v d) (k : List Key) {vs : List (List Key × V)} {ds : List (List Key × D)} (h : RpKv K G vs ds) : RpKv K G (putK vs k v) (putD ds k d) := by
  unfold putK putD
  rw [h.any k]
  split
  · exact h.repl hv k
  · exact h.append (.cons hv .nil)
theorem s_put {o ix : Expr} {tpos : Pos} (hu : X.A.units + 64 < cLine) (h : dE X G0 e δ μ fun d μ1 => dE X G0 o δ μ1 fun dd μ2 => dE X G0 ix δ μ2 fun di μ3 => ∃ p k ds, dd = .ref p ∧ di = keyT k ∧ μ3 p = some (.dct ds) ∧ ds.length < sizeLine ∧ E.nx δ (updM μ3 p (.dct (putD ds k d))))
    (ha : ∀ v, assign (.Subscript o ix tpos) X.env v = (do
      let ov ← holding [v] (eval o X.env)
      let iv ← holding [v, ov] (eval ix X.env)
      standAt tpos
      holding [v, ov, iv] (setItem ov iv v)
      release [v, ov, iv] []) := by intro _; rfl)
    (hs : swapsWithSole [.Subscript o ix tpos] e pos.line X.env = pure false := by rfl) (hw : swappedStores [.Subscript o ix tpos] e X.env = pure none := by rfl) (h1 : (assignEach [.Subscript o ix tpos] X.env).map (·.2) = [assign (.Subscript o ix tpos) X.env] := by rfl) :
    dS X G0 (.Assign [.Subscript o ix tpos] e pos) δ μ E := fun σ H B => by
  have sd : PSet X (fun o i v H Q => ∃ a H', o = .ref a ∧ DPut H a i v H' ∧ Q H') := by
    intro pins s σ H x y z u v w Q I r1 r2 r3 h
    obtain ⟨a, H', rfl, g, q⟩ := h
    obtain rfl : u = Value.ref a := r1
    exact d_setItem (by omega) I g r2 r3 fun s' I' => ⟨H', I', q⟩
  refine wS_of (ps_asg pe_w (pg_sub pe_w pe_w sd ha) hs hw h1) ?_
  refine h.go B fun v H1 d μ1 q1 m1 e1 r1 => ?_
  refine q1.go (B.step m1 e1) fun vo H2 dd μ2 q2 m2 e2 r2 => ?_
  refine q2.go (B.step m2 (e1.trans e2)) fun vi H3 di μ3 q3 m3 e3 r3 => ?_
  obtain ⟨p, k, ds, rfl, rfl, hp, hl, q⟩ := q3
  cases rp_ref r2
  obtain ⟨b, rfl, hb⟩ := rp_keyT r3
  obtain ⟨vs, ha, ra⟩ := m3.dct hp
  have hi : Im (updM μ3 p (.dct (putD ds k d))) (upd H3 p (.dT (putK vs k v))) = Im μ3 H3 := im_upd (by rw [hp]; rfl)
  refine ⟨p, _, rfl, DPut.t ha hb (by rw [ra.length]; exact hl), δ, _, q, B.step (m3.upd hi (ra.put (r1.mono (e2.trans e3)) k)) ?_⟩
  rw [hi]
  exact e1.trans (e2.trans e3)
/-! ### tuples with a star in them -/
theorem da_star {p : Pos} {Φ : DKs} (h : dE X G0 e δ μ fun x μ1 => ∃ ys, x = .tup ys ∧ dA X G0 es δ μ1 fun xs μ2 => Φ (ys ++ xs) μ2) (hs : starEach (.Starred e p :: es) X.env = (true, eval e X.env) :: starEach es X.env := by rfl) : dA X G0 (.Starred e p :: es) δ μ Φ := fun σ H B Q k => by
  refine wA_of (StX.pa_star pe_w pa_w hs) ?_
  refine h σ H B _ fun v H1 x μ1 q m1 e1 r1 => ?_
  obtain ⟨ys, rfl, q⟩ := q
  obtain ⟨a, vs, rfl, ha, ra⟩ := rp_tup_at r1
  refine ⟨a, vs, rfl, .inl (SqT.of ha), ?_⟩
  refine q σ H1 (B.step m1 e1) _ fun ws H2 xs μ2 hy m2 e2 r2 => ?_
  exact k _ H2 _ μ2 hy m2 (e1.trans e2) ((ra.mono e2).append r2)
/-! ### a < b < c -/
theorem d_chain {op op' : CmpOp} (h : dE X G0 a δ μ fun x μ1 => dE X G0 b δ μ1 fun y μ2 => dOp X (compareOp op) x y μ2 fun d μ3 => ∃ k, d = .bl k ∧ (k = true → dE X G0 c δ μ3 fun z μ4 => dOp X (compareOp op') y z μ4 Φ) ∧ (k = false → Φ (.bl false) μ3))
    (hm : lastMarks [op, op'] [b, c] = false := by with_unfolding_all rfl) : dE X G0 (.Compare a [op, op'] [b, c] pos) δ μ Φ := fun σ H B Q k => by
  refine wE_of (pe_chain op_w op_w pe_w pe_w pe_w hm) ?_
  refine h σ H B _ fun v H1 x μ1 hx m1 e1 r1 => ?_
  refine hx σ H1 (B.step m1 e1) _ fun u H2 y μ2 hy m2 e2 r2 => ?_
  refine hy v u H2 (r1.mono e2) r2 m2 _ fun w H3 d μ3 ⟨c', ed, q1, q2⟩ m3 e3 r3 => ?_
  subst ed
  refine ⟨c', rp_bl r3, ?_⟩
  have e13 := (e1.trans e2).trans e3
  cases c' with
  | true =>
    rw [if_pos rfl]
    refine q1 rfl σ H3 (B.step m3 e13) _ fun z H4 dz μ4 hz m4 e4 r4 => ?_
    exact hz u z H4 (r2.mono (e3.trans e4)) r4 m4 Q (k.after (e13.trans e4))
  | false =>
    rw [if_neg Bool.false_ne_true]
    exact (k.after e13).val m3 (q2 rfl) (.bl _)
theorem t_chain {op op' : CmpOp} (h : dE X G0 a δ μ fun x μ1 => dE X G0 b δ μ1 fun y μ2 => dOp X (compareOp op) x y μ2 fun d μ3 => ∃ k, d = .bl k ∧ (k = true → dE X G0 c δ μ3 fun z μ4 => dOp X (compareOp op') y z μ4 fun d μ5 => ∃ k, d = .bl k ∧ Θ k μ5) ∧ (k = false → Θ false μ3))
    (hm : lastMarks [op, op'] [b, c] = false := by with_unfolding_all rfl) : dT X G0 (.Compare a [op, op'] [b, c] pos) δ μ Θ := fun σ H B Q k => by
  refine wT_of (pt_chain op_w op_w pe_w pe_w pe_w hm) ?_
  refine h σ H B _ fun v H1 x μ1 hx m1 e1 r1 => ?_
  refine hx σ H1 (B.step m1 e1) _ fun u H2 y μ2 hy m2 e2 r2 => ?_
  refine hy v u H2 (r1.mono e2) r2 m2 _ fun w H3 d μ3 ⟨c', ed, q1, q2⟩ m3 e3 r3 => ?_
  subst ed
  refine ⟨c', rp_bl r3, ?_⟩
  have e13 := (e1.trans e2).trans e3
  cases c' with
  | true =>
    rw [if_pos rfl]
    refine q1 rfl σ H3 (B.step m3 e13) _ fun z H4 dz μ4 hz m4 e4 r4 => ?_
    refine hz u z H4 (r2.mono (e3.trans e4)) r4 m4 _ fun w' H5 d5 μ5 ⟨c5, ed5, q5⟩ m5 e5 r5 => ?_
    subst ed5
    exact ⟨c5, rp_bl r5, k c5 H5 μ5 q5 m5 ((e13.trans e4).trans e5)⟩
  | false =>
    rw [if_neg Bool.false_ne_true]
    exact ⟨false, rfl, k false H3 μ3 (q2 rfl) m3 e13⟩
/-! ### tuple(range(n)) -/
def rangeI (n : Nat) : List Int := (List.range n).map fun i : Nat => (i : Int)
theorem rgV_ints (n : Nat) : rgV 0 (n : Int) = (rangeI n).map V.int := by
  unfold rgV rangeI
  simp
theorem d_tupR {p rp ip : Pos} (h : dE X G0 a δ μ fun x μ1 => ∃ n : Nat, x = .int n ∧ n ≤ 1000 ∧ Φ (.tup ((rangeI n).map .int)) μ1) (hm2 : X.mg "tuple" = none := by assumption) (hm : X.mg "range" = none := by assumption) (hc : X.calm = true := by rfl) (hg : Gl X "range" := by rfl) (hg2 : Gl X "tuple" := by rfl)
    (na : starEach [a] X.env = (false, eval a X.env) :: starEach [] X.env := by rfl) (na2 : starEach [.Call (.Name "range" rp) [a] [] ip] X.env = (false, eval (.Call (.Name "range" rp) [a] [] ip) X.env) :: starEach [] X.env := by rfl) :
    dE X G0 (.Call (.Name "tuple" p) [.Call (.Name "range" rp) [a] [] ip] [] pos) δ μ Φ := fun σ H B Q k => by
  refine wE_of (pe_tupRg hc hg2 hm2 (prg_1 hg hm pe_w na) na2) ?_
  refine h.go B fun v H1 x μ1 ⟨n, ex, hn, q⟩ m1 e1 r1 => ?_
  subst ex
  cases rp_int r1
  refine ⟨n, rfl, RgOk.of_le (by omega) (by omega) (by omega) (by omega), fun p hp => ?_⟩
  rw [rgV_ints]
  exact (k.after e1).new m1 hp q (rp_tup m1 hp .of_ints)
/-! ### comprehensions over a dict -/
/-- a dict that is walked: one that stays, or one that is locked and stays so while St holds -/
def DWalk (μ1 : Mu) (d : D) (kvs : List (List Key × D)) (St : Mu → Prop) : Prop := d = .dct kvs ∨ ∃ p od ws, d = .ref p ∧ μ1 p = some (.lck od ws kvs) ∧ ∀ μ2, St μ2 → μ2 p = some (.lck od ws kvs)
theorem DWalk.dct {μ1 : Mu} {St : Mu → Prop} : DWalk μ1 (.dct kvs) kvs St := .inl rfl
theorem dwalk_at {v : V} {μ1 : Mu} {H1 : Hp} {St : Mu → Prop} (r : Rp K (Im μ1 H1) v d) (m : MuOk K μ1 H1) (h : DWalk μ1 d kvs St) : ∃ a o ws, v = .ref a ∧ H1 a = some (.frz o (.dT ws)) ∧ RpKv K (Im μ1 H1) ws kvs ∧
    ∀ μ2 D c H2, St μ2 → H1 D = none → MuOk K (updM μ2 D c) H2 → Sub (Im μ1 H1) (Im (updM μ2 D c) H2) → H2 a = some (.frz o (.dT ws)) := by
  rcases h with rfl | ⟨p, od, ws, rfl, h, st⟩
  · cases r with
    | dct hG ra => exact ⟨_, _, _, rfl, im_all _ _ hG, ra, fun μ2 D c H2 _ _ _ e => im_all _ _ (e _ _ hG)⟩
  · obtain ⟨h1, h2⟩ := m.lck h
    refine ⟨p, od, ws, rp_ref r, h1, h2, fun μ2 D c H2 q hD m2 _ => ?_⟩
    have ne : p ≠ D := fun e => by rw [e, hD] at h1; cases h1
    exact (m2.lck (by rw [updM_ne ne]; exact st μ2 q)).1
theorem key_at {ws : List (List Key × V)} (e : ws.map (·.1) = kvs.map (·.1)) {i : Nat} {k : List Key} {v : V} (h : ws[i]? = some (k, v)) : ∃ r, kvs[i]? = some (k, r) := by
  have z : (ws.map (·.1))[i]? = some k := by rw [List.getElem?_map, h] <;> rfl
  rw [e, List.getElem?_map] at z
  obtain ⟨⟨k', r⟩, h1, h2⟩ := Option.map_eq_some_iff.mp z
  cases h2
  exact ⟨r, h1⟩
/-- [e for x in d]: its keys -/
theorem d_lcK {x : Str} {scope : Scope} {tp cp : Pos} {own : List (Str × Nat)} {vs : List Nat} (j : Nat)
    (h : dE X G0 it δ μ fun d μ1 => ∃ (kvs : List (List Key × D)) (Pv : Nat → List D → Mu → Prop), DWalk μ1 d kvs (fun μ2 => ∃ i acc, Pv i acc μ2) ∧ Pv 0 [] μ1 ∧ (∀ (i : Nat) k r acc μ2 p, kvs[i]? = some (k, r) → Pv i acc μ2 → μ2 p = none → LcTurn X scope elt p acc ((wipeD δ vs).set j (some (keyT k))) μ2 (Pv (i + 1))) ∧ ∀ acc μ2 p, Pv kvs.length acc μ2 → μ2 p = none → Φ (.ref p) (updM μ2 p (.lst acc)))
    (hb : blkC X.N X.env.scope scope own = true := by kernel_rfl) (hj : j ∈ vs := by decide) (hv : own.map (·.2) = vs := by rfl) (hN : X.N.Nodup := by assumption) (hc : X.calm = true := by rfl)
    (hi : X.N[j]? = some x := by rfl) (hx : ∀ s H C cl fp, Loc (BX X scope s H C cl fp).env.scope x := by first | exact fun _ _ _ _ _ => Or.inl rfl | exact fun _ _ _ _ _ => Or.inr rfl) (hf : ∀ s H C cl fp, (BX X scope s H C cl fp).fn x = true ∨ (BX X scope s H C cl fp).env.scope.names.lookup x = some .local := by first | exact fun _ _ _ _ _ => .inr rfl | exact fun _ _ _ _ _ => .inl rfl)
    (hs : ∀ x, foldedSetIterable it X.env x = pure x := by intro _; rfl) : dE X G0 (.ListComp elt [⟨.Name x tp, it, [], 0⟩] scope cp) δ μ Φ := fun σ H B Q k => by
  refine wE_of (pe_lc hc hN (pi_keys pe_w) (blkOk_by hb) (fun s H C cl fp => pg_name (i := j) hN hi (hx s H C cl fp) (hf s H C cl fp)) (fun _ _ _ _ _ => pts_nil) (fun s H C cl fp => (⟨fun pins s' σ' H' Q' I q => q s H C cl fp pins s' I⟩ : PE _ _ (wEs X scope elt))) hs) ?_
  rw [hv]
  refine h σ H B _ fun v H1 d μ1 q m1 e1 r1 => ?_
  obtain ⟨kvs, Pv, hd, p0, turn, fin⟩ := q
  have B1 := (B.step m1 e1).wipe vs
  obtain ⟨a, o, ws, rfl, ha, ra, stay⟩ := dwalk_at r1 m1 hd
  refine ⟨a, o, rfl, .inr ⟨ws, ha, fun D hD => ?_⟩⟩
  have hi0 : Im (updM μ1 D (.lst [])) (upd H1 D (.lst [])) = Im μ1 H1 := im_new hD
  have B2 : Bd X.K (Im μ1 H1) (wipeD δ vs) (updM μ1 D (.lst [])) (L2.wipe σ vs) (upd H1 D (.lst [])) := B1.rebase.step (m1.upd hi0 .nil) (by rw [hi0]; exact Sub.refl _)
  refine lc_it walk_keysT (fun i H' => ∃ acc μ2, Pv i acc μ2 ∧ μ2 D = none ∧ Bd X.K (Im μ1 H1) (wipeD δ vs) (updM μ2 D (.lst acc)) (L2.wipe σ vs) H') ⟨[], μ1, p0, mu_free m1 hD, B2⟩ (fun i H' _ ⟨acc, μ2, hP, _, B'⟩ => stay μ2 D _ H' ⟨i, acc, hP⟩ hD B'.mu B'.base) (fun i y H' H'' hlt ⟨acc, μ2, hP, hp2, B'⟩ hy => ?_) (fun H' ⟨acc, μ2, hP, hp2, B'⟩ => ?_)
  · obtain ⟨rfl, k', v', q', hw, rfl, hq⟩ := hy
    obtain ⟨r, hkr⟩ := key_at ra.keys hw
    refine ⟨by rw [wipe_set hj, wipe_wipe], ?_⟩
    exact lc_turn (B'.set (rp_key B'.mu hq)) B' (turn i k' r acc μ2 D hkr hP hp2)
  · rw [ra.length] at hP
    exact lc_end (k.after e1) hp2 (fin acc μ2 D hP hp2) B'
/-- [e for x, y in d.items()] -/
theorem d_lcI2 {x y : Str} {scope : Scope} {tp tp2 tq cp apos cpos : Pos} {kk : Nat} {own : List (Str × Nat)} {vs : List Nat} (j j2 : Nat)
    (h : dE X G0 it δ μ fun d μ1 => ∃ (kvs : List (List Key × D)) (Pv : Nat → List D → Mu → Prop), DWalk μ1 d kvs (fun μ2 => ∃ i acc, Pv i acc μ2) ∧ Pv 0 [] μ1 ∧ (∀ (i : Nat) k r acc μ2 p, kvs[i]? = some (k, r) → Pv i acc μ2 → μ2 p = none → LcTurn X scope elt p acc (((wipeD δ vs).set j (some (keyT k))).set j2 (some r)) μ2 (Pv (i + 1))) ∧ ∀ acc μ2 p, Pv kvs.length acc μ2 → μ2 p = none → Φ (.ref p) (updM μ2 p (.lst acc)))
    (hb : blkC X.N X.env.scope scope own = true := by kernel_rfl) (hj : j ∈ vs := by decide) (hj2 : j2 ∈ vs := by decide) (hv : own.map (·.2) = vs := by rfl) (hN : X.N.Nodup := by assumption) (hc : X.calm = true := by rfl)
    (hi : X.N[j]? = some x := by rfl) (hi2 : X.N[j2]? = some y := by rfl) (hx : ∀ s H C cl fp, Loc (BX X scope s H C cl fp).env.scope x := by first | exact fun _ _ _ _ _ => Or.inl rfl | exact fun _ _ _ _ _ => Or.inr rfl) (hf : ∀ s H C cl fp, (BX X scope s H C cl fp).fn x = true ∨ (BX X scope s H C cl fp).env.scope.names.lookup x = some .local := by first | exact fun _ _ _ _ _ => .inr rfl | exact fun _ _ _ _ _ => .inl rfl)
    (hx2 : ∀ s H C cl fp, Loc (BX X scope s H C cl fp).env.scope y := by first | exact fun _ _ _ _ _ => Or.inl rfl | exact fun _ _ _ _ _ => Or.inr rfl) (hf2 : ∀ s H C cl fp, (BX X scope s H C cl fp).fn y = true ∨ (BX X scope s H C cl fp).env.scope.names.lookup y = some .local := by first | exact fun _ _ _ _ _ => .inr rfl | exact fun _ _ _ _ _ => .inl rfl)
    (hs1 : ∀ s H C cl fp, (assignEach [.Name x tp, .Name y tp2] (BX X scope s H C cl fp).env).map (·.2) = assign (.Name x tp) (BX X scope s H C cl fp).env :: (assignEach [.Name y tp2] (BX X scope s H C cl fp).env).map (·.2) := by exact fun _ _ _ _ _ => rfl) (hs2 : ∀ s H C cl fp, (assignEach [.Name y tp2] (BX X scope s H C cl fp).env).map (·.2) = assign (.Name y tp2) (BX X scope s H C cl fp).env :: (assignEach [] (BX X scope s H C cl fp).env).map (·.2) := by exact fun _ _ _ _ _ => rfl)
    (hn : ∀ s H C cl fp, (assignEach [.Name x tp, .Name y tp2] (BX X scope s H C cl fp).env).length = 2 := by exact fun _ _ _ _ _ => rfl) (hst : ∀ s H C cl fp, (assignEach [.Name x tp, .Name y tp2] (BX X scope s H C cl fp).env).findIdx? (·.1) = none := by exact fun _ _ _ _ _ => rfl)
    (hbase : attributeBase it "items" X.env (eval it X.env) = eval it X.env := by rfl) (hline : (apos.endLine == cpos.line) = true := by rfl)
    (hs : ∀ x, foldedSetIterable (.Call (.Attribute it "items" apos) [] [] cpos) X.env x = pure x := by intro _; rfl) : dE X G0 (.ListComp elt [⟨.Tuple [.Name x tp, .Name y tp2] kk tq, .Call (.Attribute it "items" apos) [] [] cpos, [], 0⟩] scope cp) δ μ Φ := fun σ H B Q k => by
  refine wE_of (pe_lc (g := gTup X.K 2 (gCons (gName j) (gCons (gName j2) gNil))) hc hN (GT.pi_it pe_w hbase hline) (blkOk_by hb) (fun s H C cl fp => pg_tup (X := BX X scope s H C cl fp) (n := 2) hc (pgs_cons (pg_name (i := j) hN hi (hx s H C cl fp) (hf s H C cl fp)) (pgs_cons (pg_name (i := j2) hN hi2 (hx2 s H C cl fp) (hf2 s H C cl fp)) pgs_nil (hs2 s H C cl fp)) (hs1 s H C cl fp)) (hn s H C cl fp) (hst s H C cl fp)) (fun _ _ _ _ _ => pts_nil) (fun s H C cl fp => (⟨fun pins s' σ' H' Q' I q => q s H C cl fp pins s' I⟩ : PE _ _ (wEs X scope elt))) hs) ?_
  rw [hv]
  refine h σ H B _ fun v H1 d μ1 q m1 e1 r1 => ?_
  obtain ⟨kvs, Pv, hd, p0, turn, fin⟩ := q
  have B1 := (B.step m1 e1).wipe vs
  obtain ⟨a, o, ws, rfl, ha, ra, stay⟩ := dwalk_at r1 m1 hd
  refine ⟨a, o, ws, rfl, ha, fun D hD => ?_⟩
  have hi0 : Im (updM μ1 D (.lst [])) (upd H1 D (.lst [])) = Im μ1 H1 := im_new hD
  have B2 : Bd X.K (Im μ1 H1) (wipeD δ vs) (updM μ1 D (.lst [])) (L2.wipe σ vs) (upd H1 D (.lst [])) := B1.rebase.step (m1.upd hi0 .nil) (by rw [hi0]; exact Sub.refl _)
  have w : Walk (GT.ItiT a o ws) ws.length (fun H => H a = some (.frz o (.dT ws))) (fun i H x H' => ∃ (T : Addr) (k : List Key) (v : V) (q : Addr), ws[i]? = some (k, v) ∧ x = .ref T ∧ H T = none ∧ H' = upd H T (.tup [.ref q, v]) ∧ H q = some (.tup (k.map kV))) :=
    ⟨fun i H hl hG => ⟨hG, hl⟩, fun H hG => ⟨hG, Nat.le_refl _⟩, fun i H x H' _ _ y => y⟩
  refine lc_it w (fun i H' => ∃ acc μ2, Pv i acc μ2 ∧ μ2 D = none ∧ Bd X.K (Im μ1 H1) (wipeD δ vs) (updM μ2 D (.lst acc)) (L2.wipe σ vs) H') ⟨[], μ1, p0, mu_free m1 hD, B2⟩ (fun i H' _ ⟨acc, μ2, hP, _, B'⟩ => stay μ2 D _ H' ⟨i, acc, hP⟩ hD B'.mu B'.base) (fun i y H' H'' hlt ⟨acc, μ2, hP, hp2, B'⟩ hy => ?_) (fun H' ⟨acc, μ2, hP, hp2, B'⟩ => ?_)
  · obtain ⟨T, k', v', q', hw, rfl, hT, rfl, hq⟩ := hy
    obtain ⟨r, hkr⟩ := key_at ra.keys hw
    have rv : Rp X.K (Im (updM μ2 D (.lst acc)) H') v' r := by
      refine Rp.mono B'.base ?_
      have hnd : ∀ {l : List (List Key × V)} {m : List (List Key × DL.D)} (i : Nat), RpKv X.K (Im μ1 H1) l m → l[i]? = some (k', v') → m[i]? = some (k', r) → Rp X.K (Im μ1 H1) v' r := by
        intro l m i h
        induction i generalizing l m with
        | zero =>
          intro y1 y2
          cases h with
          | nil => cases y1
          | cons r t => cases y1; cases y2; exact r
        | succ i ih =>
          intro y1 y2
          cases h with
          | nil => cases y1
          | cons r t => exact ih t y1 y2
      exact hnd i ra hw hkr
    have B3 := B'.ext (sub_new (o := .tup [.ref q', v']) hT)
    have hq2 : upd H' T (.tup [.ref q', v']) q' = some (.tup (k'.map kV)) := by rw [upd_ne (ne_of_none hq hT)]; exact hq
    refine ⟨T, [.ref q', v'], rfl, SqT.of upd_same, rfl, .ref q', [v'], rfl, v', [], rfl, rfl, ?_, ?_⟩
    · rw [wipe_set hj2, wipe_set hj, wipe_wipe]
    · exact lc_turn ((B3.set (rp_key B3.mu hq2)).set (rv.mono (mu_sub hT))) B3 (turn i k' r acc μ2 D hkr hP hp2)
  · rw [ra.length] at hP
    exact lc_end (k.after e1) hp2 (fin acc μ2 D hP hp2) B'
end
end DL

namespace L2
open PySem PySem.Spec PyProof.Rows
/-- a dict comprehension over it: Pv by the turn and the heap (the new dict at D within) -/
theorem dc_it {J : It} {n : Nat} {G : Hp → Prop} {Y : Nat → Hp → V → Hp → Prop} (w : Walk J n G Y) {g : TG} {tk tv : TE} {vs : List Nat} {σ : St} {H1 : Hp} {D : Addr} {Qd : Hp → Prop} (Pv : Nat → Hp → Prop) (h0 : Pv 0 (upd H1 D (.dT []))) (hG : ∀ i H, i ≤ n → Pv i H → G H)
    (hs : ∀ i x H H', i < n → Pv i H → Y i H x H' → g x (wipe σ vs) H' fun σ2 H2 => wipe σ2 vs = wipe σ vs ∧ tk σ2 H2 fun y H4 => tv σ2 H4 fun z H5 => ∃ kvs k b, y = .ref b ∧ H5 b = some (.tup (k.map kV)) ∧ H5 D = some (.dT kvs) ∧ kvs.length < sizeLine ∧ Pv (i + 1) (upd H5 D (.dT (putK kvs k z)))) (hd : ∀ H, Pv n H → Qd H) :
    ∃ W : Nat → Nat → Hp → Prop, (∃ m, W 0 m (upd H1 D (.dT []))) ∧ ∀ i m H, W i m H →
      (J.stop i H ∧ Qd H) ∨ (J.go i H ∧ ∃ Nx : Hp → Prop, (∀ H', Nx H' → ∃ m', m' < m ∧ W (i + 1) m' H') ∧ ∀ x H', J.yld i H x H' → g x (wipe σ vs) H' fun σ2 H2 => wipe σ2 vs = wipe σ vs ∧ tk σ2 H2 fun y H4 => tv σ2 H4 fun z H5 => ∃ kvs k b, y = .ref b ∧ H5 b = some (.tup (k.map kV)) ∧ H5 D = some (.dT kvs) ∧ kvs.length < sizeLine ∧ Nx (upd H5 D (.dT (putK kvs k z)))) := by
  refine ⟨fun i m H => m = n - i ∧ i ≤ n ∧ Pv i H, ⟨n, by simp, Nat.zero_le _, h0⟩, ?_⟩
  rintro i m H ⟨rfl, hi, p⟩
  have q := hG i H hi p
  by_cases hlt : i < n
  · refine .inr ⟨w.goes i H hlt q, Pv (i + 1), fun H' p' => ⟨n - (i + 1), by omega, rfl, hlt, p'⟩, fun x H' y => hs i x H H' hlt p (w.yields i H x H' hlt q y)⟩
  · have e : i = n := by omega
    subst e
    exact .inl ⟨w.stops H q, hd H p⟩
end L2
namespace DL
open PySem PySem.Spec PyProof.Rows L2
section
variable {X : Cx} {G0 : Hp} {e e2 a b c it elt kx vx o : Expr} {es rest : List Expr} {sts : List Stmt} {δ : List (Option D)} {μ : Mu} {Φ : DK} {pos apos : Pos} {K : PySem.W.Frag} {H G : Hp} {Q : VK} {E : DEnds} {kvs : List (List Key × D)} {k : List Key} {d x y r : D} {Θ : Bool → Mu → Prop}
/-! ### {k: v for x in ..} -/
def DcTurn (X : Cx) (scope : Scope) (kx vx : Expr) (p : Addr) (acc : List (List Key × D)) (δ2 : List (Option D)) (μ : Mu) (N : List (List Key × D) → Mu → Prop) : Prop :=
  acc.length < sizeLine ∧ dEs X scope kx δ2 (updM μ p (.dct acc)) fun y μ3 => ∃ k, y = keyT k ∧ dEs X scope vx δ2 μ3 fun r μ5 => ∃ μ4, μ5 = updM μ4 p (.dct acc) ∧ μ4 p = none ∧ N (putD acc k r) μ4
theorem dc_turn {scope : Scope} {p : Addr} {acc : List (List Key × D)} {δ0 δ2 : List (Option D)} {σ0 σ2 : L2.St} {G1 : Hp} {Nx : List (List Key × D) → Mu → Prop} (B : Bd X.K G1 δ2 (updM μ p (.dct acc)) σ2 H) (B0 : Bd X.K G1 δ0 (updM μ p (.dct acc)) σ0 H) (h : DcTurn X scope kx vx p acc δ2 μ Nx) :
    wEs X scope kx σ2 H fun y H4 => wEs X scope vx σ2 H4 fun z H5 => ∃ kvs k b, y = .ref b ∧ H5 b = some (.tup (k.map kV)) ∧ H5 p = some (.dT kvs) ∧ kvs.length < sizeLine ∧ ∃ acc' μ', Nx acc' μ' ∧ μ' p = none ∧ Bd X.K G1 δ0 (updM μ' p (.dct acc')) σ0 (upd H5 p (.dT (putK kvs k z))) := by
  intro s H0 C cl fp
  refine h.2 G1 s H0 C cl fp σ2 H B _ fun y H4 d1 μ3 q m4 e4 r4 => ?_
  obtain ⟨k, rfl, q⟩ := q
  intro s H0 C cl fp
  refine q G1 s H0 C cl fp σ2 H4 (B.step m4 e4) _ fun z H5 r μ5 q m5 e5 r5 => ?_
  obtain ⟨μ4, rfl, hp, hN⟩ := q
  obtain ⟨b, rfl, hb⟩ := rp_keyT (r4.mono e5)
  obtain ⟨ws, ha, ra⟩ := m5.dct updM_same
  have hi : Im (updM μ4 p (.dct (putD acc k r))) (upd H5 p (.dT (putK ws k z))) = Im (updM μ4 p (.dct acc)) H5 := by
    rw [← updM_upd (c := .dct acc)]
    exact im_upd (by rw [updM_same]; rfl)
  have m6 : MuOk X.K (updM μ4 p (.dct (putD acc k r))) (upd H5 p (.dT (putK ws k z))) := by
    rw [← updM_upd (c := .dct acc)]
    refine m5.upd ?_ (ra.put r5 k)
    rw [updM_upd]
    exact hi
  exact ⟨ws, k, b, rfl, hb, ha, by rw [ra.length]; exact h.1, _, _, hN, hp, B0.step m6 (by rw [hi]; exact e4.trans e5)⟩
theorem dc_end {p : Addr} {acc : List (List Key × D)} {δ0 : List (Option D)} {σ0 : L2.St} {H' : Hp} {μ' : Mu} (k : KP K μ H Φ Q) (hp : μ' p = none) (q : Φ (.ref p) (updM μ' p (.dct acc))) (B : Bd K (Im μ H) δ0 (updM μ' p (.dct acc)) σ0 H') : Q (.ref p) H' :=
  k _ H' _ _ q B.mu B.base (.ref p)
/-- {k: v for x in a list} -/
theorem d_dcL {x : Str} {scope : Scope} {tp cp : Pos} {own : List (Str × Nat)} {vs : List Nat} (j : Nat) (hu : X.A.units + 64 < cLine)
    (h : dE X G0 it δ μ fun d μ1 => ∃ ds, d = .lst ds ∧ ∃ Pv : Nat → List (List Key × D) → Mu → Prop, Pv 0 [] μ1 ∧ (∀ (i : Nat) d acc μ2 p, ds[i]? = some d → Pv i acc μ2 → μ2 p = none → DcTurn X scope kx vx p acc ((wipeD δ vs).set j (some d)) μ2 (Pv (i + 1))) ∧ ∀ acc μ2 p, Pv ds.length acc μ2 → μ2 p = none → Φ (.ref p) (updM μ2 p (.dct acc)))
    (hb : blkC X.N X.env.scope scope own = true := by kernel_rfl) (hj : j ∈ vs := by decide) (hv : own.map (·.2) = vs := by rfl) (hN : X.N.Nodup := by assumption) (hc : X.calm = true := by rfl)
    (hi : X.N[j]? = some x := by rfl) (hx : ∀ s H C cl fp, Loc (BX X scope s H C cl fp).env.scope x := by first | exact fun _ _ _ _ _ => Or.inl rfl | exact fun _ _ _ _ _ => Or.inr rfl) (hf : ∀ s H C cl fp, (BX X scope s H C cl fp).fn x = true ∨ (BX X scope s H C cl fp).env.scope.names.lookup x = some .local := by first | exact fun _ _ _ _ _ => .inr rfl | exact fun _ _ _ _ _ => .inl rfl)
    (hs : ∀ x, foldedSetIterable it X.env x = pure x := by intro _; rfl) : dE X G0 (.DictComp kx vx [⟨.Name x tp, it, [], 0⟩] scope cp) δ μ Φ := fun σ H B Q k => by
  refine wE_of (GT.pe_dcT (by omega) hc hN (pi_list pe_w) (blkOk_by hb) (fun s H C cl fp => pg_name (i := j) hN hi (hx s H C cl fp) (hf s H C cl fp)) (fun s H C cl fp => (⟨fun pins s' σ' H' Q' I q => q s H C cl fp pins s' I⟩ : PE _ _ (wEs X scope kx))) (fun s H C cl fp => (⟨fun pins s' σ' H' Q' I q => q s H C cl fp pins s' I⟩ : PE _ _ (wEs X scope vx))) hs) ?_
  rw [hv]
  refine h σ H B _ fun v H1 d μ1 q m1 e1 r1 => ?_
  obtain ⟨ds, rfl, Pv, p0, turn, fin⟩ := q
  obtain ⟨a, ws, rfl, hG, ra⟩ : ∃ a ws, v = .ref a ∧ Im μ1 H1 a = some (.lst ws) ∧ RpAll X.K (Im μ1 H1) ws ds := by
    cases r1 with
    | lst h r => exact ⟨_, _, rfl, h, r⟩
  have B1 := (B.step m1 e1).wipe vs
  refine ⟨a, rfl, ⟨ws, SqL.of (im_all _ _ hG)⟩, fun p hp => ?_⟩
  have hi0 : Im (updM μ1 p (.dct [])) (upd H1 p (.dT [])) = Im μ1 H1 := im_new hp
  have B2 : Bd X.K (Im μ1 H1) (wipeD δ vs) (updM μ1 p (.dct [])) (L2.wipe σ vs) (upd H1 p (.dT [])) := B1.rebase.step (m1.upd hi0 .nil) (by rw [hi0]; exact Sub.refl _)
  refine dc_it (walk_list (K := X.K) (a := a) (xs := ws)) (fun i H' => ∃ acc μ2, Pv i acc μ2 ∧ μ2 p = none ∧ Bd X.K (Im μ1 H1) (wipeD δ vs) (updM μ2 p (.dct acc)) (L2.wipe σ vs) H') ⟨[], μ1, p0, mu_free m1 hp, B2⟩ (fun i H' _ ⟨acc, μ2, _, _, B'⟩ => SqL.of (im_all _ _ (B'.base _ _ hG))) (fun i y H' H'' hlt ⟨acc, μ2, hP, hp2, B'⟩ hy => ?_) (fun H' ⟨acc, μ2, hP, hp2, B'⟩ => ?_)
  · obtain ⟨rfl, hy⟩ := hy
    have hl : i < ds.length := by rw [← ra.length]; exact (List.getElem?_eq_some_iff.mp hy).1
    obtain ⟨w', hw, rw'⟩ := ra.get (List.getElem?_eq_getElem hl)
    rw [hw] at hy
    cases hy
    refine ⟨by rw [wipe_set hj, wipe_wipe], ?_⟩
    exact dc_turn (B'.set (rw'.mono B'.base)) B' (turn i _ acc μ2 p (List.getElem?_eq_getElem hl) hP hp2)
  · rw [ra.length] at hP
    exact dc_end (k.after e1) hp2 (fin acc μ2 p hP hp2) B'
/-- {k: v for x in a dict} -/
theorem d_dcK {x : Str} {scope : Scope} {tp cp : Pos} {own : List (Str × Nat)} {vs : List Nat} (j : Nat) (hu : X.A.units + 64 < cLine)
    (h : dE X G0 it δ μ fun d μ1 => ∃ (kvs : List (List Key × D)) (Pv : Nat → List (List Key × D) → Mu → Prop), DWalk μ1 d kvs (fun μ2 => ∃ i acc, Pv i acc μ2) ∧ Pv 0 [] μ1 ∧ (∀ (i : Nat) k r acc μ2 p, kvs[i]? = some (k, r) → Pv i acc μ2 → μ2 p = none → DcTurn X scope kx vx p acc ((wipeD δ vs).set j (some (keyT k))) μ2 (Pv (i + 1))) ∧ ∀ acc μ2 p, Pv kvs.length acc μ2 → μ2 p = none → Φ (.ref p) (updM μ2 p (.dct acc)))
    (hb : blkC X.N X.env.scope scope own = true := by kernel_rfl) (hj : j ∈ vs := by decide) (hv : own.map (·.2) = vs := by rfl) (hN : X.N.Nodup := by assumption) (hc : X.calm = true := by rfl)
    (hi : X.N[j]? = some x := by rfl) (hx : ∀ s H C cl fp, Loc (BX X scope s H C cl fp).env.scope x := by first | exact fun _ _ _ _ _ => Or.inl rfl | exact fun _ _ _ _ _ => Or.inr rfl) (hf : ∀ s H C cl fp, (BX X scope s H C cl fp).fn x = true ∨ (BX X scope s H C cl fp).env.scope.names.lookup x = some .local := by first | exact fun _ _ _ _ _ => .inr rfl | exact fun _ _ _ _ _ => .inl rfl)
    (hs : ∀ x, foldedSetIterable it X.env x = pure x := by intro _; rfl) : dE X G0 (.DictComp kx vx [⟨.Name x tp, it, [], 0⟩] scope cp) δ μ Φ := fun σ H B Q k => by
  refine wE_of (GT.pe_dcT (by omega) hc hN (pi_keys pe_w) (blkOk_by hb) (fun s H C cl fp => pg_name (i := j) hN hi (hx s H C cl fp) (hf s H C cl fp)) (fun s H C cl fp => (⟨fun pins s' σ' H' Q' I q => q s H C cl fp pins s' I⟩ : PE _ _ (wEs X scope kx))) (fun s H C cl fp => (⟨fun pins s' σ' H' Q' I q => q s H C cl fp pins s' I⟩ : PE _ _ (wEs X scope vx))) hs) ?_
  rw [hv]
  refine h σ H B _ fun v H1 d μ1 q m1 e1 r1 => ?_
  obtain ⟨kvs, Pv, hd, p0, turn, fin⟩ := q
  have B1 := (B.step m1 e1).wipe vs
  obtain ⟨a, o, ws, rfl, ha, ra, stay⟩ := dwalk_at r1 m1 hd
  refine ⟨a, o, rfl, .inr ⟨ws, ha, fun p hp => ?_⟩⟩
  have hi0 : Im (updM μ1 p (.dct [])) (upd H1 p (.dT [])) = Im μ1 H1 := im_new hp
  have B2 : Bd X.K (Im μ1 H1) (wipeD δ vs) (updM μ1 p (.dct [])) (L2.wipe σ vs) (upd H1 p (.dT [])) := B1.rebase.step (m1.upd hi0 .nil) (by rw [hi0]; exact Sub.refl _)
  refine dc_it walk_keysT (fun i H' => ∃ acc μ2, Pv i acc μ2 ∧ μ2 p = none ∧ Bd X.K (Im μ1 H1) (wipeD δ vs) (updM μ2 p (.dct acc)) (L2.wipe σ vs) H') ⟨[], μ1, p0, mu_free m1 hp, B2⟩ (fun i H' _ ⟨acc, μ2, hP, _, B'⟩ => stay μ2 p _ H' ⟨i, acc, hP⟩ hp B'.mu B'.base) (fun i y H' H'' hlt ⟨acc, μ2, hP, hp2, B'⟩ hy => ?_) (fun H' ⟨acc, μ2, hP, hp2, B'⟩ => ?_)
  · obtain ⟨rfl, k', v', q', hw, rfl, hq⟩ := hy
    obtain ⟨r, hkr⟩ := key_at ra.keys hw
    refine ⟨by rw [wipe_set hj, wipe_wipe], ?_⟩
    exact dc_turn (B'.set (rp_key B'.mu hq)) B' (turn i k' r acc μ2 p hkr hP hp2)
  · rw [ra.length] at hP
    exact dc_end (k.after e1) hp2 (fin acc μ2 p hP hp2) B'
/-! ### dict(pairs) -/
def pairD (kv : List Key × D) : D := .tup [keyT kv.1, kv.2]
theorem rp_pairs (m : MuOk K μ H) : ∀ {vs : List V} {kvs : List (List Key × D)}, RpAll K (Im μ H) vs (kvs.map pairD) → ∃ (ps : List Addr) (ws : List (List Key × V)), vs = ps.map V.ref ∧ GT.PairsT K H ps ws ∧ RpKv K (Im μ H) ws kvs
  | _, [], .nil => ⟨[], [], rfl, .nil, .nil⟩
  | _, (k, d) :: kvs, .cons r t => by
    obtain ⟨ps, ws, rfl, h1, h2⟩ := rp_pairs m t
    obtain ⟨p, us, rfl, hp, rp⟩ := rp_tup_at r
    obtain ⟨v, u, rfl, rk, rv⟩ := rp2 rp
    obtain ⟨b, rfl, hb⟩ := rp_keyT rk
    exact ⟨p :: ps, (k, u) :: ws, rfl, .cons ⟨b, SqT.of hp, hb⟩ h1, .cons rv h2⟩
theorem c_dictP (hu : X.A.units + 64 < cLine) (hk : (kvs.map (·.1)).Nodup) (q : ∀ p, μ p = none → Φ (.ref p) (updM μ p (.dct kvs))) (hc : X.calm = true := by rfl) : dCall X (.type "dict") [.lst (kvs.map pairD)] μ Φ := fun vs H r0 m Q kk => by
  obtain ⟨v, rfl, r1⟩ := rp1 r0
  obtain ⟨a, us, rfl, ha, ra⟩ := rp_lst_at r1
  obtain ⟨ps, ws, rfl, h1, h2⟩ := rp_pairs m ra
  refine wCall_of (GT.call_pairsT hc (by omega)) ⟨a, ps, ws, rfl, SqL.of ha, h1, by rw [h2.keys]; exact hk, fun p hp => ?_⟩
  have e : Im (updM μ p (.dct kvs)) (upd H p (.dT ws)) = Im μ H := im_new hp
  exact kk _ _ _ _ (q p (mu_free m hp)) (m.upd e h2) (by rw [e]; exact Sub.refl _) (.ref p)
/-! ### == -/
inductive PyKv (μ : Mu) : List (List Key × D) → List (List Key × PyData) → Prop
  | nil : PyKv μ [] []
  | cons {k : List Key} {d : D} {p : PyData} {ds : List (List Key × D)} {ps : List (List Key × PyData)} : Py μ d p → SeqAt.shaped p = true → PyKv μ ds ps → PyKv μ ((k, d) :: ds) ((k, p) :: ps)
def valP (ps : List (List Key × PyData)) (k : List Key) : Option PyData := (ps.find? fun kv => decide (kv.1 = k)).map (·.2)
def eqKv (ps qs : List (List Key × PyData)) : Bool := ps.all fun p => match valP qs p.1 with
  | some q => PyData.eqv p.2 q
  | none => false
theorem PyKv.length : ∀ {ds : List (List Key × D)} {ps : List (List Key × PyData)}, PyKv μ ds ps → ds.length = ps.length
  | _, _, .nil => rfl
  | _, _, .cons _ _ t => congrArg (· + 1) t.length
/-- what stands at a key of a dict, raw -/
theorem raw_val {pins : List (Addr × Obj)} {σ : L2.St} {H : Hp} {s : Shared} (I : Inv X pins σ H s) (m : MuOk X.K μ H) : ∀ {ws : List (List Key × V)} {ds : List (List Key × D)} {ps : List (List Key × PyData)} {xs : List (List Key × Addr × Value)} (k : List Key), KT H ws xs → RpKv X.K (Im μ H) ws ds → PyKv μ ds ps →
    (valP ps k = none → atKey xs k = none) ∧ ∀ p, valP ps k = some p → ∃ q as, atKey xs k = some q ∧ Reads s.heap q.2 p as ∧ SeqAt.shaped p = true
  | _, _, _, _, k, .nil, .nil, .nil => ⟨fun _ => rfl, fun p h => by simp [valP] at h⟩
  | (k1, w) :: ws, _, _, (k2, b, u) :: xs, k, .cons h0 t, .cons r t2, .cons (p := p0) hp sp t3 => by
    obtain ⟨i1, i2⟩ := raw_val I m k t t2 t3
    obtain ⟨ek, hb, rv⟩ := h0
    have ek : k1 = k2 := ek
    subst ek
    by_cases e : k1 = k
    · subst e
      refine ⟨fun h => by simp [valP, List.find?_cons] at h, fun p h => ?_⟩
      simp [valP, List.find?_cons] at h
      subst h
      obtain ⟨as, rd⟩ := Dp.reads I p0 w u (hp.dp m r) rv
      exact ⟨(b, u), as, by simp [atKey, List.find?_cons], rd, sp⟩
    · have e1 : ∀ {α : Type} (l : List (List Key × α)) (z : α), ((k1, z) :: l).find? (fun kv => decide (kv.1 = k)) = l.find? fun kv => decide (kv.1 = k) := fun l z => by simp [List.find?_cons, e]
      simp only [valP, atKey, e1] at i1 i2 ⊢
      exact ⟨i1, i2⟩
theorem hits_of {pins : List (Addr × Obj)} {σ : L2.St} {H : Hp} {s : Shared} {A : Around} (hu : A.in1.units + 64 < cLine) (I : Inv X pins σ H s) (m : MuOk X.K μ H) {wb : List (List Key × V)} {db : List (List Key × D)} {qs : List (List Key × PyData)} {xb : List (List Key × Addr × Value)} (kb : KT H wb xb) (rb : RpKv X.K (Im μ H) wb db) (pb : PyKv μ db qs) :
    ∀ {ws : List (List Key × V)} {ds : List (List Key × D)} {ps : List (List Key × PyData)} {xs : List (List Key × Addr × Value)}, KT H ws xs → RpKv X.K (Im μ H) ws ds → PyKv μ ds ps → GE.HitsH A.in1 s xb xs (eqKv ps qs)
  | _, _, _, _, .nil, .nil, .nil => .nil
  | (k1, w) :: ws, _, _, (k2, b, u) :: xs, .cons h0 t, .cons r t2, .cons (p := p0) (ps := ps) hp sp t3 => by
    have ih := hits_of hu I m kb rb pb t t2 t3
    obtain ⟨ek, hb, rv⟩ := h0
    have ek : k1 = k2 := ek
    subst ek
    obtain ⟨v1, v2⟩ := raw_val I m k1 kb rb pb
    obtain ⟨as, rd⟩ := Dp.reads I p0 w u (hp.dp m r) rv
    show GE.HitsH A.in1 s xb _ ((match valP qs k1 with | some q => PyData.eqv p0 q | none => false) && eqKv ps qs)
    cases e : valP qs k1 with
    | none =>
      rw [Bool.false_and]
      exact .miss (v1 e)
    | some q =>
      obtain ⟨q', as', h1, h2, h3⟩ := v2 q e
      exact .hit h1 (PySem.W.keq_at rd h2 sp h3 hu) ih
theorem op_eqT {d1 d2 : D} {k1 k2 : List (List Key × D)} {ps qs : List (List Key × PyData)} (hu : X.A.units + 66 < cLine) (h1 : DAt μ d1 k1) (h2 : DAt μ d2 k2) (p1 : PyKv μ k1 ps) (p2 : PyKv μ k2 qs) (q : Φ (.bl (ps.length == qs.length && eqKv ps qs)) μ) : dOp X (compareOp .Eq) d1 d2 μ Φ := fun v u H r1 r2 m Q kk => by
  obtain ⟨a, ws, rfl, ra, rka⟩ := dat_rd r1 m h1
  obtain ⟨b, us, rfl, rb, rkb⟩ := dat_rd r2 m h2
  intro pins s σ v' u' I rv ru
  obtain rfl : v' = Value.ref a := rv
  obtain rfl : u' = Value.ref b := ru
  obtain ⟨_, ya, xa, ka, da⟩ := dt_rd I.hok ra
  obtain ⟨_, yb, xb, kb, db⟩ := dt_rd I.hok rb
  have l1 : xa.length = ps.length := by rw [← Paired.length ka, rka.length, p1.length]
  have l2 : xb.length = qs.length := by rw [← Paired.length kb, rkb.length, p2.length]
  refine GE.eqH (r := eqKv ps qs) (show X.A.in1.units < cLine from by show X.A.units + 1 < cLine; omega) ya yb da db (by omega) (fun _ => hits_of (A := X.A) (by show X.A.units + 1 + 64 < cLine; omega) I m kb rkb p2 ka rka p1) ?_
  rw [l1, l2]
  exact ⟨.bl _, H, I, rfl, kk.val m q (.bl _)⟩
theorem op_neT {d1 d2 : D} {k1 k2 : List (List Key × D)} {ps qs : List (List Key × PyData)} (hu : X.A.units + 66 < cLine) (h1 : DAt μ d1 k1) (h2 : DAt μ d2 k2) (p1 : PyKv μ k1 ps) (p2 : PyKv μ k2 qs) (q : Φ (.bl (!(ps.length == qs.length && eqKv ps qs))) μ) : dOp X (compareOp .NotEq) d1 d2 μ Φ := fun v u H r1 r2 m Q kk => by
  obtain ⟨a, ws, rfl, ra, rka⟩ := dat_rd r1 m h1
  obtain ⟨b, us, rfl, rb, rkb⟩ := dat_rd r2 m h2
  intro pins s σ v' u' I rv ru
  obtain rfl : v' = Value.ref a := rv
  obtain rfl : u' = Value.ref b := ru
  obtain ⟨_, ya, xa, ka, da⟩ := dt_rd I.hok ra
  obtain ⟨_, yb, xb, kb, db⟩ := dt_rd I.hok rb
  have l1 : xa.length = ps.length := by rw [← Paired.length ka, rka.length, p1.length]
  have l2 : xb.length = qs.length := by rw [← Paired.length kb, rkb.length, p2.length]
  refine GE.neH (r := eqKv ps qs) (show X.A.in1.units < cLine from by show X.A.units + 1 < cLine; omega) ya yb da db (by omega) (fun _ => hits_of (A := X.A) (by show X.A.units + 1 + 64 < cLine; omega) I m kb rkb p2 ka rka p1) ?_
  rw [l1, l2]
  exact ⟨.bl _, H, I, rfl, kk.val m q (.bl _)⟩
end
end DL

namespace DL
open PySem PySem.Spec PyProof.Rows L2
/-! ### objects of a class of the text -/
/-- an object: one that stays, or one that may change -/
def OAt (μ : Mu) (d : D) (C : Addr) (fs : List (Str × D)) : Prop := d = .obj C fs ∨ ∃ p, d = .ref p ∧ μ p = some (.obj C fs)
def putFD (f : Str) (v : D) : List (Str × D) → List (Str × D)
  | [] => [(f, v)]
  | (g, x) :: r => if g = f then (g, v) :: r else (g, x) :: putFD f v r
/-- a method as it stands behind the top -/
structure MthT (K : PySem.W.Frag) (C : Addr) (m qual : Str) (st : Stmt) (ps : List Str) : Prop where
  ex : ∃ (f : Addr) (fd : FuncData), Fun K m qual st f fd ∧ Meth K C m f ∧ Binds K fd ps []
/-- a method that may be called -/
structure MCal (P : Program) (w : World) (K : PySem.W.Frag) (mg : Str → Option Value) (base : Heap) (k : Nat) (C : Addr) (m : Str) (sp : DSp) : Prop where
  ex : ∃ (f : Addr) (fd : FuncData) (ps : List Str), FnOk P w K mg base (L2N.CX P w) k f fd ps (liftSp K sp) ∧ Meth K C m f ∧ Binds K fd ps []
/-- a class's making -/
structure KCal (P : Program) (w : World) (K : PySem.W.Frag) (mg : Str → Option Value) (base : Heap) (k : Nat) (x : Str) (C : Addr) (sp : DSp) : Prop where
  ex : ∃ (f : Addr) (fd : FuncData) (ps : List Str), FnOk P w K mg base (L2N.CX P w) k f fd ps (liftSp K sp) ∧ Mk K C f ∧ Binds K fd ps []
  gC : mg x = some (.ref C)
section
variable {P : Program} {w : World} {K : PySem.W.Frag} {mg : Str → Option Value} {base : Heap}
theorem MthT.cal {C : Addr} {m qual : Str} {st : Stmt} {N ps : List Str} {k : Nat} {sp : DSp} (Df : MthT K C m qual st ps) (S : FnScope N ps (defScope st)) (len : ∀ ds μ Φ Ψ, sp ds μ Φ Ψ → ds.length = ps.length)
    (h : ∀ ds μ Φ Ψ, sp ds μ Φ Ψ → Body P w K mg base k N qual st ds μ Φ Ψ) : MCal P w K mg base (k + 1) C m sp := by
  obtain ⟨f, fd, F, M, hb⟩ := Df.ex
  obtain ⟨oc, od, kV, doc, pm, an, cdv, ct, osl, rfl, lk, hcd⟩ := F.ex
  exact ⟨f, _, ps, cal_fn lk hcd S len h, M, hb⟩
/-- the same of __init__ -/
structure IniT (K : PySem.W.Frag) (C : Addr) (qual : Str) (st : Stmt) (ps : List Str) : Prop where
  ex : ∃ (f : Addr) (fd : FuncData), Fun K "__init__" qual st f fd ∧ Mk K C f ∧ Binds K fd ps []
theorem IniT.cal {C : Addr} {x qual : Str} {st : Stmt} {N ps : List Str} {k : Nat} {sp : DSp} (Df : IniT K C qual st ps) (gC : mg x = some (.ref C)) (S : FnScope N ps (defScope st)) (len : ∀ ds μ Φ Ψ, sp ds μ Φ Ψ → ds.length = ps.length)
    (h : ∀ ds μ Φ Ψ, sp ds μ Φ Ψ → Body P w K mg base k N qual st ds μ Φ Ψ) : KCal P w K mg base (k + 1) x C sp := by
  obtain ⟨f, fd, F, M, hb⟩ := Df.ex
  obtain ⟨oc, od, kV, doc, pm, an, cdv, ct, osl, rfl, lk, hcd⟩ := F.ex
  exact ⟨⟨f, _, ps, cal_fn lk hcd S len h, M, hb⟩, gC⟩
end
section
variable {X : Cx} {G0 : Hp} {e e2 a b c it elt kx vx o : Expr} {es rest : List Expr} {sts : List Stmt} {δ : List (Option D)} {μ : Mu} {Φ : DK} {pos apos : Pos} {K : PySem.W.Frag} {H G : Hp} {Q : VK} {E : DEnds} {d x y r : D} {Θ : Bool → Mu → Prop} {C : Addr} {fs : List (Str × D)} {f : Str}
theorem oat_ins {v : V} (r : Rp K (Im μ H) v d) (m : MuOk K μ H) (h : OAt μ d C fs) : ∃ a dx vs, v = .ref a ∧ H a = some (.ins C dx vs) ∧ RpFs K (Im μ H) vs fs := by
  rcases h with rfl | ⟨p, rfl, h⟩
  · cases r with
    | obj h r => exact ⟨_, _, _, rfl, im_all _ _ h, r⟩
  · obtain ⟨dx, vs, h1, h2⟩ := m.obj h
    exact ⟨p, dx, vs, rp_ref r, h1, h2⟩
theorem RpFs.lookupN : ∀ {vs : List (Str × V)} {ds : List (Str × D)} {f : Str}, RpFs K G vs ds → ds.lookup f = none → vs.lookup f = none
  | _, _, _, .nil, _ => rfl
  | (k, v) :: vs, (_, d') :: ds, f, .cons r t, e => by
    by_cases q : (f == k) = true
    · rw [List.lookup_cons, q] at e
      cases e
    · have q' : (f == k) = false := by simpa using q
      rw [List.lookup_cons, q'] at e ⊢
      exact RpFs.lookupN t e
theorem RpFs.length : ∀ {vs : List (Str × V)} {ds : List (Str × D)}, RpFs K G vs ds → vs.length = ds.length
  | _, _, .nil => rfl
  | _, _, .cons _ t => congrArg (· + 1) t.length
theorem RpFs.put {v : V} (hv : Rp K G v d) (f : Str) : ∀ {vs : List (Str × V)} {ds : List (Str × D)}, RpFs K G vs ds → RpFs K G (putF f v vs) (putFD f d ds)
  | _, _, .nil => .cons hv .nil
  | (g, u) :: vs, (_, u') :: ds, .cons r t => by
    show RpFs K G (if g = f then (g, v) :: vs else (g, u) :: putF f v vs) (if g = f then (g, d) :: ds else (g, u') :: putFD f d ds)
    by_cases e : g = f
    · rw [if_pos e, if_pos e]
      exact .cons hv t
    · rw [if_neg e, if_neg e]
      exact .cons r (RpFs.put hv f t)
/-- e.f -/
theorem d_fld (c : Cls X.K C) (n : NoAttr X.K C f) (h : dE X G0 e δ μ fun d μ1 => ∃ fs v, OAt μ1 d C fs ∧ fs.lookup f = some v ∧ Φ v μ1) (hb : attributeBase e f X.env (eval e X.env) = eval e X.env := by rfl) : dE X G0 (.Attribute e f pos) δ μ Φ := fun σ H B Q k => by
  refine wE_of (pe_fld pe_w hb) ?_
  refine h.go B fun v H1 d μ1 q m1 e1 r1 => ?_
  obtain ⟨fs, u, ho, hl, q⟩ := q
  obtain ⟨a, dx, vs, rfl, ha, ra⟩ := oat_ins r1 m1 ho
  obtain ⟨w, hw, rw'⟩ := ra.lookup hl
  exact ⟨a, C, dx, vs, w, rfl, ha, c, n, hw, (k.after e1).val m1 q rw'⟩
/-- o.f = e -/
theorem s_fld (c : Cls X.K C) (n : NoAttr X.K C f) {pos' : Pos} (h : dE X G0 e δ μ fun d μ1 => dE X G0 o δ μ1 fun dd μ2 => ∃ p fs, dd = .ref p ∧ μ2 p = some (.obj C fs) ∧ fs.length < 1000 ∧ E.nx δ (updM μ2 p (.obj C (putFD f d fs)))) (hs : swapsWith e (some (.Attribute o f pos')) pos.line X.env = pure false := by rfl) : dS X G0 (.Assign [.Attribute o f pos'] e pos) δ μ E := fun σ H B => by
  refine wS_of (ps_fld pe_w pe_w hs) ?_
  refine h.go B fun v H1 d μ1 q1 m1 e1 r1 => ?_
  refine q1.go (B.step m1 e1) fun vo H2 dd μ2 q2 m2 e2 r2 => ?_
  obtain ⟨p, fs, rfl, hp, hl, q⟩ := q2
  cases rp_ref r2
  obtain ⟨dx, vs, ha, ra⟩ := m2.obj hp
  have hi : Im (updM μ2 p (.obj C (putFD f d fs))) (upd H2 p (.ins C dx (putF f v vs))) = Im μ2 H2 := im_upd (by rw [hp]; rfl)
  refine ⟨p, C, dx, vs, rfl, ha, c, n, by rw [ra.length]; exact hl, δ, _, q, B.step (m2.upd hi ⟨rfl, ra.put (r1.mono e2) f⟩) ?_⟩
  rw [hi]
  exact e1.trans e2
/-- C(..): a new object that stays as __init__ leaves it -/
theorem frz_obj {p : Addr} (m : MuOk K (updM μ p (.obj C fs)) H) (h : μ p = none) : Rp K (Im μ H) (.ref p) (.obj C fs) := by
  obtain ⟨dx, vs, ha, ra⟩ := m.obj updM_same
  refine .obj (dx := dx) (fs := vs) ?_ (ra.mono im_drop)
  unfold Im
  rw [h]
  exact ha
def spMk (sp : DSp) (C : Addr) (xs : List D) (μ : Mu) (Φ : DK) (Ψ : DX) : Prop := ∀ x, μ x = none → sp (.ref x :: xs) (updM μ x (.obj C [])) (fun d μ2 => d = .non ∧ ∃ fs μ3, μ2 = updM μ3 x (.obj C fs) ∧ μ3 x = none ∧ Φ (.obj C fs) μ3) Ψ
theorem d_make {j k : Nat} {x : Str} {sp : DSp} {p : Pos} (T : KCal X.prog X.w X.K X.mg X.base j x C sp) (ha : dA X G0 (e :: es) δ μ fun xs μ1 => spMk sp C xs μ1 Φ NoX) (hr : Room k X.A := by assumption) (hj : j + 1 ≤ k := by decide) (hg : Gl X x := by rfl) (hdb : (x == ("__debug__" : Str)) = false := by decide)
    (he : starEach (e :: es) X.env = (false, eval e X.env) :: starEach es X.env := by rfl) (hpl : (backTo pos (starEach es X.env)).any (·.1) = false := by rfl) : dE X G0 (.Call (.Name x p) (e :: es) [] pos) δ μ Φ := fun σ H B Q kk => by
  obtain ⟨f, fd, ps, F, M, hb⟩ := T.ex
  refine wE_of (pe_make M F (hr.mono hj) hg T.gC hb .nil passN pa_w hdb he hpl) ?_
  refine ha σ H B _ fun vs H1 xs μ1 q m1 e1 r1 => ?_
  intro p dx hp hdx hne
  rw [List.append_nil]
  have e2 : Im (updM μ1 p (.obj C [])) (upd (upd H1 dx (.own p)) p (.ins C dx [])) = Im μ1 (upd H1 dx (.own p)) := im_new (by rw [upd_ne (fun z => hne z.symm)]; exact hp)
  have m2 : MuOk X.K (updM μ1 p (.obj C [])) (upd (upd H1 dx (.own p)) p (.ins C dx [])) := by
    refine (m1.ext (sub_new hdx)).upd e2 ?_
    exact ⟨rfl, .nil⟩
  have s2 : Sub (Im μ1 H1) (Im (updM μ1 p (.obj C [])) (upd (upd H1 dx (.own p)) p (.ins C dx []))) := by
    rw [e2]
    exact mu_sub hdx
  refine ⟨.ref p :: xs, _, _, NoX, .cons (.ref p) (r1.mono s2), m2, q p (mu_free m1 hp), fun v H2 d μ2 ⟨ed, fs, μ3, eμ, h3, q3⟩ m3 e3 r3 => ?_, noX⟩
  subst ed eμ
  exact ⟨rp_non r3, kk _ H2 _ μ3 q3 (m3.drop h3) (((e1.trans s2).trans e3).trans im_drop) (frz_obj m3 h3)⟩
/-- o.m(..) -/
theorem d_meth {j k : Nat} {m : Str} {sp : DSp} {pl : Sem Bool} (T : MCal X.prog X.w X.K X.mg X.base j C m sp) (c : Cls X.K C) (h : dE X G0 o δ μ fun d μ1 => ∃ fs, OAt μ1 d C fs ∧ fs.lookup m = none ∧ dA X G0 (e :: es) δ μ1 fun xs μ2 => sp (d :: xs) μ2 Φ NoX) (hr : Room k X.A := by assumption) (hj : j ≤ k := by decide)
    (hst : starEach (e :: es) X.env = (false, eval e X.env) :: starEach es X.env := by rfl) (hpl : (backTo pos (starEach es X.env)).any (·.1) = false := by rfl)
    (ht : eval (.Call (.Attribute o m apos) (e :: es) [] pos) X.env = (do
      let ov ← eval o X.env
      standAt apos.atName
      let (f, first) ← holding [ov] (getMethod ov m pl)
      callWith pos f first (backTo pos (starEach (e :: es) X.env)) (backToKw pos (keywordEach [] X.env))) := by rfl) : dE X G0 (.Call (.Attribute o m apos) (e :: es) [] pos) δ μ Φ := fun σ H B Q kk => by
  obtain ⟨f, fd, ps, F, M, hb⟩ := T.ex
  refine wE_of (pe_meth pe_w c M F (hr.mono hj) hb .nil passN pa_w hst hpl ht) ?_
  refine h.go B fun v H1 d μ1 q m1 e1 r1 => ?_
  obtain ⟨fs, ho, hl, q⟩ := q
  obtain ⟨a, dx, vs, rfl, ha, ra⟩ := oat_ins r1 m1 ho
  refine ⟨a, dx, vs, rfl, ha, ra.lookupN hl, ?_⟩
  refine q σ H1 (B.step m1 e1) _ fun us H2 xs μ2 q2 m2 e2 r2 => ?_
  rw [List.append_nil]
  exact ⟨d :: xs, μ2, Φ, NoX, .cons (r1.mono e2) r2, m2, q2, kk.after (e1.trans e2), noX⟩
theorem d_meth0 {j k : Nat} {m : Str} {sp : DSp} {pl : Sem Bool} (T : MCal X.prog X.w X.K X.mg X.base j C m sp) (c : Cls X.K C) (h : dE X G0 o δ μ fun d μ1 => ∃ fs, OAt μ1 d C fs ∧ fs.lookup m = none ∧ sp [d] μ1 Φ NoX) (hr : Room k X.A := by assumption) (hj : j ≤ k := by decide)
    (ht : eval (.Call (.Attribute o m apos) [] [] pos) X.env = (do
      let ov ← eval o X.env
      standAt apos.atName
      let (f, first) ← holding [ov] (getMethod ov m pl)
      callWith pos f first (backTo pos (starEach [] X.env)) (backToKw pos (keywordEach [] X.env))) := by rfl) : dE X G0 (.Call (.Attribute o m apos) [] [] pos) δ μ Φ := fun σ H B Q kk => by
  obtain ⟨f, fd, ps, F, M, hb⟩ := T.ex
  refine wE_of (pe_meth0 pe_w c M F (hr.mono hj) hb .nil passN ht) ?_
  refine h.go B fun v H1 d μ1 q m1 e1 r1 => ?_
  obtain ⟨fs, ho, hl, q⟩ := q
  obtain ⟨a, dx, vs, rfl, ha, ra⟩ := oat_ins r1 m1 ho
  refine ⟨a, dx, vs, rfl, ha, ra.lookupN hl, ?_⟩
  exact ⟨[d], μ1, Φ, NoX, .cons r1 .nil, m1, q, kk.after e1, noX⟩
end
end DL

namespace DL
open PySem PySem.Spec PyProof.Rows L2
/-! ### what operators do by an own class's methods -/
section
variable {X : Cx} {CX : CXT} {G0 : Hp} {k : Nat} {f C : Addr} {fd : FuncData} {ps : List Str} {sp : Sp}
/-- a def run, by what is called -/
theorem run_at {A : Around} {pins : List (Addr × Obj)} {σ : L2.St} {H : Hp} {s : Shared} {Q : VK} {us : List Value} {vs : List V} {E : XK} (F : FnOk X.prog X.w X.K X.mg X.base CX k f fd ps sp) (hr : Room k A) (hfr : A.frames = X.A.frames) (hb : Binds X.K fd ps []) (hx : PassesAt CX X σ E)
    (I : Inv X pins σ H s) (r : Vals vs us) (h : sp vs H Q E) : wpAny (model X.prog X.w) A (call (.ref f) us) (EP X pins σ Q) X.xe s := by
  have hl : us.length = ps.length := by rw [← r.length]; exact F.len _ _ _ _ h
  have b := hb s us I.kIn (by rw [List.append_nil]; exact hl)
  rw [List.append_nil] at b
  have e0 : Env0 X.prog X.w X.K X.mg X.base A X.stack s H := by
    have e := I.env0
    exact ⟨by rw [hfr]; exact e.frames, e.mod, e.bs, e.bsz, e.funs, e.frf, e.hok, e.bare⟩
  refine wpAny_call (codeAny_mono (F.run A X.stack s H ⟨us, []⟩ us vs Q E hr e0 b r h) fun r s' hq => ?_)
  cases r with
  | error e => exact hx pins H s e s' I hq
  | ok fl =>
    cases fl with
    | ret u => exact I.after hq
    | next => exact False.elim hq
    | brk => exact False.elim hq
    | cont => exact False.elim hq
theorem cmp_back {pins : List (Addr × Obj)} {σ : L2.St} {Q : VK} {v : Value} {s : Shared} (h : EP X pins σ Q v s) : PySem.W.CmpBack (EP X pins σ Q) v s := by
  obtain ⟨z, H, I, r, q⟩ := h
  cases v with
  | notImplemented =>
    cases z <;> first | (cases r; done) | (obtain ⟨_, r⟩ := r; cases r)
  | _ => exact ⟨z, H, I, r, q⟩
end
section
variable {X : Cx} {G0 : Hp} {e e2 a b c it elt kx vx o : Expr} {es rest : List Expr} {sts : List Stmt} {δ : List (Option D)} {μ : Mu} {Φ : DK} {pos apos : Pos} {K : PySem.W.Frag} {H G : Hp} {Q : VK} {E : DEnds} {d x y r : D} {Θ : Bool → Mu → Prop} {C : Addr} {fs gs : List (Str × D)} {f m : Str} {sp : DSp} {j k : Nat}
theorem relR (a : Addr) : RelV (.ref a) (Value.ref a) := rfl
theorem relI (i : Int) (t : Tok) : RelV (.int i) (Value.int i t) := ⟨t, rfl⟩
theorem passNS {σ : L2.St} : PassesAt (L2N.CX X.prog X.w) X σ E0 := fun _ _ _ _ _ _ h => by
  obtain ⟨_, _, _, _, _, _, _, _, _, _, _, _, z⟩ := h
  exact z.elim
/-- x op y, both of the class -/
theorem own_bin {op : Operator} {σ : L2.St} {Ψ : DX} {XE : XK} {v u : V} {v' u' : Value} {pins : List (Addr × Obj)} {s : Shared} (T : MCal X.prog X.w X.K X.mg X.base j C (PySem.dunder op.info.2) sp) (sf : PySem.W.selfFirst X.K C = true) (c : Cls X.K C) (h1 : OAt μ x C fs) (h2 : OAt μ y C gs) (q : sp [x, y] μ Φ Ψ) (hr : Room j X.A)
    (I : Inv X pins σ H s) (r1 : Rp X.K (Im μ H) v x) (r2 : Rp X.K (Im μ H) u y) (mm : MuOk X.K μ H) (kk : KP X.K μ H Φ Q) (kx : KX X.K μ H Ψ XE) (hp : PassesAt (L2N.CX X.prog X.w) X σ XE) (rv : RelV v v') (ru : RelV u u') : wpAny (model X.prog X.w) X.A (binaryOp op v' u') (EP X pins σ Q) X.xe s := by
  obtain ⟨f, fd, ps, F, M, hb⟩ := T.ex
  obtain ⟨a, dx, vs, rfl, ha, ra⟩ := oat_ins r1 mm h1
  obtain ⟨b, dy, us, rfl, hb2, rb⟩ := oat_ins r2 mm h2
  obtain rfl : v' = Value.ref a := rv
  obtain rfl : u' = Value.ref b := ru
  obtain ⟨mA, J, _⟩ := ins_get I.hok ha
  obtain ⟨mB, J', _⟩ := ins_get I.hok hb2
  obtain ⟨od, J, _⟩ := J.look
  obtain ⟨od', J', _⟩ := J'.look
  obtain ⟨m, hF⟩ := I.fr
  refine PySem.W.binop_K hF I.ok.mod.kin J J'.type sf M.at_ M.fn ?_
  exact thn (run_at F hr rfl hb hp I (.cons (relR a) (.cons (relR b) .nil)) ⟨[x, y], μ, Φ, Ψ, .cons r1 (.cons r2 .nil), mm, q, kk, kx⟩) fun _ _ h => cmp_back h
theorem o_own {op : Operator} (T : MCal X.prog X.w X.K X.mg X.base j C (PySem.dunder op.info.2) sp) (sf : PySem.W.selfFirst X.K C = true) (c : Cls X.K C) (h1 : OAt μ x C fs) (h2 : OAt μ y C gs) (q : sp [x, y] μ Φ NoX) (hr : Room k X.A := by assumption) (hj : j ≤ k := by decide) : dOp X (binaryOp op) x y μ Φ := fun v u H r1 r2 mm Q kk => by
  intro pins s σ v' u' I rv ru
  exact own_bin T sf c h1 h2 q (hr.mono hj) I r1 r2 mm kk noX passNS rv ru
/-- the same where an error is taken -/
theorem d_ownX {op : Operator} {Ψ : List (Option D) → DX} (T : MCal X.prog X.w X.K X.mg X.base j C (PySem.dunder op.info.2) sp) (sf : PySem.W.selfFirst X.K C = true) (c : Cls X.K C) (tk : dTk X G0 Ψ) (h : dE X G0 a δ μ fun x μ1 => dE X G0 b δ μ1 fun y μ2 => (∃ fs, OAt μ2 x C fs) ∧ (∃ gs, OAt μ2 y C gs) ∧ sp [x, y] μ2 Φ (Ψ δ)) (hr : Room k X.A := by assumption) (hj : j ≤ k := by decide) : dE X G0 (.BinOp a op b pos) δ μ Φ := fun σ H B Q kk => by
  obtain ⟨W, tw, tq⟩ := tk
  intro pins s I
  refine wpAny_BinOp (binT (R := fun v u H2 => ∃ x y μ2, Rp X.K (Im μ2 H2) v x ∧ Rp X.K (Im μ2 H2) u y ∧ MuOk X.K μ2 H2 ∧ Sub (Im μ H) (Im μ2 H2) ∧ (∃ fs, OAt μ2 x C fs) ∧ (∃ gs, OAt μ2 y C gs) ∧ sp [x, y] μ2 Φ (Ψ δ)) pe_w pe_w I ?_ fun v' u' s2 v u H2 I2 rv ru q => ?_)
  · refine h σ H B _ fun v H1 x μ1 hx m1 e1 r1 => ?_
    refine hx σ H1 (B.step m1 e1) _ fun u H2 y μ2 ⟨h1, h2, q⟩ m2 e2 r2 => ?_
    exact ⟨x, y, μ2, r1.mono e2, r2, m2, e1.trans e2, h1, h2, q⟩
  · obtain ⟨x, y, μ2, r1, r2, m2, e2, ⟨fs, h1⟩, ⟨gs, h2⟩, q⟩ := q
    exact own_bin T sf c h1 h2 q (hr.mono hj) I2 r1 r2 m2 (kk.after e2) (XE := fun C d H3 => W C d σ H3) ⟨fun C d H2 gs μ2 q2 m2 e3 er => tq.1 C d δ σ H2 gs μ2 q2 (B.step m2 (e2.trans e3)) er, fun C H2 μ2 q2 m2 e3 => tq.2 C δ σ H2 μ2 q2 (B.step m2 (e2.trans e3))⟩ (L2N.passAt tw σ) rv ru
/-- -x -/
theorem u_own (T : MCal X.prog X.w X.K X.mg X.base j C "__neg__" sp) (h1 : OAt μ x C fs) (q : sp [x] μ Φ NoX) (hr : Room k X.A := by assumption) (hj : j ≤ k := by decide) : dUn X (unaryOp .USub) x μ Φ := fun v H r1 mm Q kk => by
  intro pins s σ v' I rv
  obtain ⟨f, fd, ps, F, M, hb⟩ := T.ex
  obtain ⟨a, dx, vs, rfl, ha, ra⟩ := oat_ins r1 mm h1
  obtain rfl : v' = Value.ref a := rv
  obtain ⟨mA, J, _⟩ := ins_get I.hok ha
  obtain ⟨od, J, _⟩ := J.look
  obtain ⟨m, hF⟩ := I.fr
  refine PySem.W.ksp_neg hF I.ok.mod.kin J M.at_ M.fn ?_
  exact run_at F (hr.mono hj) rfl hb passNS I (.cons (relR a) .nil) ⟨[x], μ, Φ, NoX, .cons r1 .nil, mm, q, kk, noX⟩
/-- what the class and int say of an operator -/
structure BinI (K : PySem.W.Frag) (C : Addr) (op : Operator) : Prop where
  sf : PySem.W.selfFirst K C = true
  rr : PySem.W.findIn K (.ref C) (dunderR op.info.2) = some none
  i1 : ∃ fo, PySem.W.findIn K (.type "int") (PySem.dunder op.info.2) = some fo
  i2 : ∃ ro, PySem.W.findIn K (.type "int") (dunderR op.info.2) = some ro
  sub : PySem.W.subIn K (.type "int") (.ref C) = some false
/-- x op n -/
theorem o_ownI {op : Operator} {i : Int} (T : MCal X.prog X.w X.K X.mg X.base j C (PySem.dunder op.info.2) sp) (bi : BinI X.K C op) (h1 : OAt μ x C fs) (q : sp [x, .int i] μ Φ NoX) (hr : Room k X.A := by assumption) (hj : j ≤ k := by decide) : dOp X (binaryOp op) x (.int i) μ Φ := fun v u H r1 r2 mm Q kk => by
  intro pins s σ v' u' I rv ru
  obtain ⟨f, fd, ps, F, M, hb⟩ := T.ex
  obtain ⟨a, dx, vs, rfl, ha, ra⟩ := oat_ins r1 mm h1
  obtain rfl : v' = Value.ref a := rv
  cases rp_int r2
  obtain ⟨t, rfl⟩ := ru
  obtain ⟨mA, J, _⟩ := ins_get I.hok ha
  obtain ⟨od, J, _⟩ := J.look
  obtain ⟨m, hF⟩ := I.fr
  obtain ⟨fo, i1⟩ := bi.i1
  obtain ⟨ro, i2⟩ := bi.i2
  refine PySem.W.ksp_binT (T := "int") hF I.ok.mod.kin J rfl bi.sf M.at_ M.fn bi.rr (.inl rfl) i1 i2 bi.sub ?_
  exact thn (run_at F (hr.mono hj) rfl hb passNS I (.cons (relR a) (.cons (relI i t) .nil)) ⟨[x, .int i], μ, Φ, NoX, .cons r1 (.cons (.int i) .nil), mm, q, kk, noX⟩) fun _ _ h => cmp_back h
/-- x == y, x of the class -/
theorem o_ownEq (T : MCal X.prog X.w X.K X.mg X.base j C "__eq__" sp) (h1 : OAt μ x C fs) (h2 : OAt μ y C gs) (q : sp [x, y] μ Φ NoX) (hr : Room k X.A := by assumption) (hj : j ≤ k := by decide) : dOp X (compareOp .Eq) x y μ Φ := fun v u H r1 r2 mm Q kk => by
  intro pins s σ v' u' I rv ru
  obtain ⟨f, fd, ps, F, M, hb⟩ := T.ex
  obtain ⟨a, dx, vs, rfl, ha, ra⟩ := oat_ins r1 mm h1
  obtain ⟨b, dy, us, rfl, hb2, rb⟩ := oat_ins r2 mm h2
  obtain rfl : v' = Value.ref a := rv
  obtain rfl : u' = Value.ref b := ru
  obtain ⟨mA, J, _⟩ := ins_get I.hok ha
  obtain ⟨mB, J', _⟩ := ins_get I.hok hb2
  obtain ⟨od, J, _⟩ := J.look
  obtain ⟨od', J', _⟩ := J'.look
  obtain ⟨m, hF⟩ := I.fr
  have hr' := hr.mono hj
  refine PySem.W.cmp_K (op := .Eq) (tb := .ref C) hr'.units0 hF I.ok.mod.kin J J'.type (by simp [PySem.W.notFirst]) M.at_ M.fn ?_
  exact thn (run_at F hr' rfl hb passNS I (.cons (relR a) (.cons (relR b) .nil)) ⟨[x, y], μ, Φ, NoX, .cons r1 (.cons r2 .nil), mm, q, kk, noX⟩) fun _ _ h => cmp_back h
/-! ### isinstance(x, C) -/
structure IsaT (K : PySem.W.Frag) (C : Addr) : Prop where
  cl : Cls K C
  ha : PySem.W.findIn K (.ref C) "__class__" = some (some (.builtin "object.__class__"))
  hn : PySem.W.specialIn K (.builtin "object.__class__") "__get__" = some (some (.builtin "getset_descriptor.__get__"))
  htk : PySem.W.takesIn K (.builtin "object.__class__") = some true
  hm : PySem.W.mroIn K C (.type "object") = some true
  self : PySem.W.kitOne K (.ref C) (.ref C) = some true
theorem c_isiO (T : IsaT X.K C) (h1 : OAt μ x C fs) (q : Φ (.bl true) μ) : dCall X (.builtin "isinstance") [x, .ref C] μ Φ := fun vs H r0 m Q kk => by
  obtain ⟨v, u, rfl, r1, r2⟩ := rp2 r0
  obtain ⟨a, dx, ws, rfl, ha, ra⟩ := oat_ins r1 m h1
  cases rp_ref r2
  exact wCall_of call_isi ⟨.ref a, .ref C, .ref C, .ref C, true, rfl, .own C, .base (.ins ha T.cl T.ha T.hn T.htk T.hm), T.self, kk.val m q (.bl _)⟩
/-- the class as a value -/
theorem d_cls {x : Str} (h : X.mg x = some (.ref C)) (q : Φ (.ref C) μ) (hg : Gl X x := by rfl) (hd : (x == ("__debug__" : Str)) = false := by decide) : dE X G0 (.Name x pos) δ μ Φ := d_gc (v := .ref C) ⟨_, h, rfl⟩ (fun G => .ref C) q hg hd
end
end DL

namespace DL
open PySem PySem.Spec PyProof.Rows L2
/-! ### tuples of integers, sorted -/
def tupI (ns : List Int) : D := .tup (ns.map .int)
def vInt : V → Int
  | .int i => i
  | _ => 0
def kOf (H : Hp) : V → List Int
  | .ref a => match H a with
    | some (.tup xs) => xs.map vInt
    | _ => []
  | _ => []
section
variable {X : Cx} {G0 : Hp} {e e2 a b c it elt kx vx o : Expr} {es rest : List Expr} {sts : List Stmt} {δ : List (Option D)} {μ : Mu} {Φ : DK} {pos apos : Pos} {K : PySem.W.Frag} {H G : Hp} {Q : VK} {E : DEnds} {d x y r : D} {Θ : Bool → Mu → Prop}
theorem vInts (ns : List Int) : (ns.map V.int).map vInt = ns := by
  rw [List.map_map]
  exact (List.map_congr_left fun _ _ => rfl).trans (List.map_id ns)
theorem rp_tupI {v : V} {ns : List Int} (r : Rp K (Im μ H) v (tupI ns)) : TupI K H v ns ∧ kOf H v = ns := by
  obtain ⟨a, vs, rfl, ha, ra⟩ := rp_tup_at r
  rw [ra.ints] at ha
  refine ⟨⟨a, rfl, SqT.of ha⟩, ?_⟩
  show (match H a with | some (.tup xs) => xs.map vInt | _ => []) = ns
  rw [ha]
  exact vInts ns
theorem rp_tupsI : ∀ {L : List (List Int)} {vs : List V}, RpAll K (Im μ H) vs (L.map tupI) → vs.map (kOf H) = L ∧ ∀ v ∈ vs, TupI K H v (kOf H v) ∧ Rp K (Im μ H) v (tupI (kOf H v))
  | [], _, .nil => ⟨rfl, fun v h => by cases h⟩
  | ns :: L, _, .cons (v := v) (vs := vs) r t => by
    obtain ⟨e1, e2⟩ := rp_tupsI t
    obtain ⟨h1, h2⟩ := rp_tupI r
    refine ⟨by rw [List.map_cons, h2, e1], fun u hu => ?_⟩
    rcases List.mem_cons.mp hu with e | hu
    · subst e
      rw [h2]
      exact ⟨h1, r⟩
    · exact e2 u hu
theorem rp_of_all : ∀ {vs : List V}, (∀ v ∈ vs, Rp K G v (tupI (kOf H v))) → RpAll K G vs ((vs.map (kOf H)).map tupI)
  | [], _ => .nil
  | v :: vs, h => .cons (h v List.mem_cons_self) (rp_of_all fun u hu => h u (List.mem_cons_of_mem _ hu))
theorem c_sortTup {L : List (List Int)} (hu : X.A.units + 64 < cLine) (q : ∀ L' : List (List Int), L'.Perm L → L'.Pairwise (fun x y => HT.lexLt y x = false) → Φ (.lst (L'.map tupI)) μ) : dCall X (.builtin "sorted") [.lst (L.map tupI)] μ Φ := fun vs H r0 m Q kk => by
  obtain ⟨v, rfl, r1⟩ := rp1 r0
  obtain ⟨p, ws, rfl, ha, ra⟩ := rp_lst_at r1
  obtain ⟨e1, e2⟩ := rp_tupsI ra
  refine wCall_of (cr_sortedTI (by omega)) ⟨p, ws, kOf H, rfl, SqL.of ha, fun x hx => (e2 x hx).1, fun ys l hs hp hl => ?_⟩
  refine kk.new m hl (q (ys.map (kOf H)) (by rw [← e1]; exact hp.map _) ?_) (rp_lst m hl ?_)
  · rw [List.pairwise_map]
    exact hs
  · exact rp_of_all fun v hv => (e2 v (hp.mem_iff.mp hv)).2
/-! ### isinstance(x, (S, T)) -/
theorem kit_two {K : PySem.W.Frag} {t a b : String} {r s : Bool} (h1 : kitB t a = some r) (h2 : kitB t b = some s) : PySem.W.kitAny K (.type t) [.type a, .type b] = some (r || s) := by
  have e1 := kit_ty (K := K) h1
  have e2 := kit_ty (K := K) h2
  unfold PySem.W.kitAny
  rw [e1]
  cases r with
  | true => rfl
  | false =>
    unfold PySem.W.kitAny
    rw [e2]
    cases s <;> rfl
theorem c_isi2 {t a b : String} {k1 k2 : Bool} (q : Φ (.bl (k1 || k2)) μ) (ht : tyD d = some t := by rfl) (h1 : kitB t a = some k1 := by exact (by decide +kernel)) (h2 : kitB t b = some k2 := by exact (by decide +kernel)) : dCall X (.builtin "isinstance") [d, .tup [.ty a, .ty b]] μ Φ := fun vs H r0 m Q kk => by
  obtain ⟨v, u, rfl, r1, r2⟩ := rp2 r0
  obtain ⟨p, us, rfl, hp, rp⟩ := rp_tup_at r2
  obtain ⟨u1, u2, rfl, ra, rb⟩ := rp2 rp
  cases ra
  cases rb
  exact wCall_of call_isiT ⟨v, p, [.ty a, .ty b], .type t, [.type a, .type b], k1 || k2, rfl, hp, .cons (.ty a) (.cons (.ty b) .nil), ty_rp r1 ht, kit_two h1 h2, kk.val m q (.bl _)⟩
theorem c_isi2M {p0 : Addr} {ds : List D} {a b : String} {k1 k2 : Bool} (hp0 : μ p0 = some (.lst ds)) (q : Φ (.bl (k1 || k2)) μ) (h1 : kitB "list" a = some k1 := by exact (by decide +kernel)) (h2 : kitB "list" b = some k2 := by exact (by decide +kernel)) : dCall X (.builtin "isinstance") [.ref p0, .tup [.ty a, .ty b]] μ Φ := fun vs H r0 m Q kk => by
  obtain ⟨v, u, rfl, r1, r2⟩ := rp2 r0
  obtain ⟨p, us, rfl, hp, rp⟩ := rp_tup_at r2
  obtain ⟨u1, u2, rfl, ra, rb⟩ := rp2 rp
  cases ra
  cases rb
  cases rp_ref r1
  obtain ⟨ws, hw, _⟩ := m.lst hp0
  exact wCall_of call_isiT ⟨_, p, [.ty a, .ty b], .type "list", [.type a, .type b], k1 || k2, rfl, hp, .cons (.ty a) (.cons (.ty b) .nil), .base (.lst hw), kit_two h1 h2, kk.val m q (.bl _)⟩
/-! ### max, min of a list -/
theorem c_maxL {ns : List Int} (h0 : 0 < ns.length) (q : ∀ m, m ∈ ns → (∀ y ∈ ns, y ≤ m) → Φ (.int m) μ) (hc : X.calm = true := by rfl) : dCall X (.builtin "max") [.lst (ns.map .int)] μ Φ := fun vs H r0 m Q kk => by
  obtain ⟨v, rfl, r1⟩ := rp1 r0
  obtain ⟨p, ws, rfl, ha, ra⟩ := rp_lst_at r1
  rw [ra.ints] at ha
  exact wCall_of (cr_max hc) ⟨p, ns, rfl, SqL.of ha, h0, fun m' h1 h2 => kk.val m (q m' h1 h2) (.int _)⟩
theorem c_minL {ns : List Int} (h0 : 0 < ns.length) (q : ∀ m, m ∈ ns → (∀ y ∈ ns, m ≤ y) → Φ (.int m) μ) (hc : X.calm = true := by rfl) : dCall X (.builtin "min") [.lst (ns.map .int)] μ Φ := fun vs H r0 m Q kk => by
  obtain ⟨v, rfl, r1⟩ := rp1 r0
  obtain ⟨p, ws, rfl, ha, ra⟩ := rp_lst_at r1
  rw [ra.ints] at ha
  exact wCall_of (cr_min hc) ⟨p, ns, rfl, SqL.of ha, h0, fun m' h1 h2 => kk.val m (q m' h1 h2) (.int _)⟩
/-! ### [e for x in range(a, b)] -/
theorem d_lcR2 {x : Str} {scope : Scope} {rp ip tp cp : Pos} {own : List (Str × Nat)} {vs : List Nat} (j : Nat)
    (h : dA X G0 [a, b] δ μ fun ns μ1 => ∃ lo hi : Int, ns = [.int lo, .int hi] ∧ (-(2 ^ 62) ≤ lo ∧ lo < 2 ^ 62 ∧ -(2 ^ 62) ≤ hi ∧ hi < 2 ^ 62) ∧ ∃ Pv : Nat → List D → Mu → Prop, Pv 0 [] μ1 ∧ (∀ (i : Nat) acc μ2 p, i < (hi - lo).toNat → Pv i acc μ2 → μ2 p = none → LcTurn X scope elt p acc ((wipeD δ vs).set j (some (.int (lo + i)))) μ2 (Pv (i + 1))) ∧ ∀ acc μ2 p, Pv (hi - lo).toNat acc μ2 → μ2 p = none → Φ (.ref p) (updM μ2 p (.lst acc)))
    (hb : blkC X.N X.env.scope scope own = true := by kernel_rfl) (hj : j ∈ vs := by decide) (hv : own.map (·.2) = vs := by rfl) (hN : X.N.Nodup := by assumption) (hc : X.calm = true := by rfl)
    (hi : X.N[j]? = some x := by rfl) (hx : ∀ s H C cl fp, Loc (BX X scope s H C cl fp).env.scope x := by first | exact fun _ _ _ _ _ => Or.inl rfl | exact fun _ _ _ _ _ => Or.inr rfl) (hf : ∀ s H C cl fp, (BX X scope s H C cl fp).fn x = true ∨ (BX X scope s H C cl fp).env.scope.names.lookup x = some .local := by first | exact fun _ _ _ _ _ => .inr rfl | exact fun _ _ _ _ _ => .inl rfl)
    (hm : X.mg "range" = none := by assumption) (hg : Gl X "range" := by rfl) (hst : starEach [a, b] X.env = [(false, eval a X.env), (false, eval b X.env)] := by rfl) (hst2 : starEach [b] X.env = [(false, eval b X.env)] := by rfl)
    (hs : ∀ x, foldedSetIterable (.Call (.Name "range" rp) [a, b] [] ip) X.env x = pure x := by intro _; rfl) : dE X G0 (.ListComp elt [⟨.Name x tp, .Call (.Name "range" rp) [a, b] [] ip, [], 0⟩] scope cp) δ μ Φ := fun σ H B Q k => by
  refine wE_of (pe_lc hc hN (pi_range2 hg hm pa_w hst hst2) (blkOk_by hb) (fun s H C cl fp => pg_name (i := j) hN hi (hx s H C cl fp) (hf s H C cl fp)) (fun _ _ _ _ _ => pts_nil) (fun s H C cl fp => (⟨fun pins s' σ' H' Q' I q => q s H C cl fp pins s' I⟩ : PE _ _ (wEs X scope elt))) hs) ?_
  rw [hv]
  refine h σ H B _ fun vs' H1 ds μ1 q m1 e1 r1 => ?_
  obtain ⟨lo, hi', rfl, bb, Pv, p0, turn, fin⟩ := q
  obtain ⟨v, u, rfl, r2, r3⟩ := rp2 r1
  cases rp_int r2
  cases rp_int r3
  have B1 := (B.step m1 e1).wipe vs
  refine ⟨lo, hi', rfl, bb, fun p hp => ?_⟩
  have hi0 : Im (updM μ1 p (.lst [])) (upd H1 p (.lst [])) = Im μ1 H1 := im_new hp
  have B2 : Bd X.K (Im μ1 H1) (wipeD δ vs) (updM μ1 p (.lst [])) (L2.wipe σ vs) (upd H1 p (.lst [])) := B1.rebase.step (m1.upd hi0 .nil) (by rw [hi0]; exact Sub.refl _)
  refine lc_range (lo := lo) (n := (hi' - lo).toNat) (fun i H' => ∃ acc μ2, Pv i acc μ2 ∧ μ2 p = none ∧ Bd X.K (Im μ1 H1) (wipeD δ vs) (updM μ2 p (.lst acc)) (L2.wipe σ vs) H') ⟨[], μ1, p0, mu_free m1 hp, B2⟩ (fun i H' hl ⟨acc, μ2, hP, hp2, B'⟩ => ?_) (fun H' ⟨acc, μ2, hP, hp2, B'⟩ => ?_)
  · refine ⟨by rw [wipe_set hj, wipe_wipe], ?_⟩
    exact lc_turn (B'.set (.int _)) B' (turn i acc μ2 p hl hP hp2)
  · exact lc_end (k.after e1) hp2 (fin acc μ2 p hP hp2) B'
end
end DL

namespace DL
open PySem PySem.Spec PyProof.Rows L2
/-! ### comprehensions whose parts change nothing -/
section
variable {X : Cx} {G0 : Hp} {e e2 a b c it elt kx vx o : Expr} {es rest : List Expr} {sts : List Stmt} {δ : List (Option D)} {μ : Mu} {Φ : DK} {pos apos : Pos} {K : PySem.W.Frag} {H G : Hp} {Q : VK} {E : DEnds} {d r : D} {Θ : Bool → Mu → Prop}
/-- an element that gives r and changes nothing -/
def Gives (X : Cx) (scope : Scope) (elt : Expr) (δ : List (Option D)) (μ : Mu) (r : D) : Prop := dEs X scope elt δ μ fun x μ3 => x = r ∧ μ3 = μ
theorem take_snoc {α β : Type} {f : α → β} {ds : List α} {i : Nat} {d : α} (h : ds[i]? = some d) : (ds.take i).map f ++ [f d] = (ds.take (i + 1)).map f := by
  rw [List.take_add_one, h, List.map_append]
  rfl
theorem any_none {kvs : List (List Key × D)} {k : List Key} (h : k ∉ kvs.map (·.1)) : (kvs.any fun kv => decide (kv.1 = k)) = false := by
  rw [List.any_eq_false]
  intro x hx z
  exact h (List.mem_map.mpr ⟨x, hx, of_decide_eq_true z⟩)
theorem putD_new {kvs : List (List Key × D)} {k : List Key} {v : D} (h : k ∉ kvs.map (·.1)) : putD kvs k v = kvs ++ [(k, v)] := by
  unfold putD
  rw [any_none h]
  rfl
theorem nodup_take {α β : Type} {f : α → β} {ds : List α} {i : Nat} {d : α} (hn : (ds.map f).Nodup) (h : ds[i]? = some d) : f d ∉ (ds.take i).map f := by
  intro z
  have e : ds.map f = (ds.take i).map f ++ (ds.drop i).map f := by rw [← List.map_append, List.take_append_drop]
  rw [e] at hn
  have hd : f d ∈ (ds.drop i).map f := List.mem_map.mpr ⟨d, List.mem_of_getElem? (i := 0) (by rw [List.getElem?_drop]; exact h), rfl⟩
  exact (List.nodup_append.mp hn).2.2 _ z _ hd rfl

theorem d_lcLp {x : Str} {scope : Scope} {tp cp : Pos} {own : List (Str × Nat)} {vs : List Nat} (j : Nat) (f : D → D)
    (h : dE X G0 it δ μ fun d μ1 => ∃ ds, d = .lst ds ∧ ds.length ≤ sizeLine ∧ (∀ d ∈ ds, ∀ p acc, μ1 p = none → Gives X scope elt ((wipeD δ vs).set j (some d)) (updM μ1 p acc) (f d)) ∧ Φ (.lst (ds.map f)) μ1)
    (hb : blkC X.N X.env.scope scope own = true := by kernel_rfl) (hj : j ∈ vs := by decide) (hv : own.map (·.2) = vs := by rfl) (hN : X.N.Nodup := by assumption) (hc : X.calm = true := by rfl)
    (hi : X.N[j]? = some x := by rfl) (hx : ∀ s H C cl fp, Loc (BX X scope s H C cl fp).env.scope x := by first | exact fun _ _ _ _ _ => Or.inl rfl | exact fun _ _ _ _ _ => Or.inr rfl) (hf : ∀ s H C cl fp, (BX X scope s H C cl fp).fn x = true ∨ (BX X scope s H C cl fp).env.scope.names.lookup x = some .local := by first | exact fun _ _ _ _ _ => .inr rfl | exact fun _ _ _ _ _ => .inl rfl)
    (hs : ∀ x, foldedSetIterable it X.env x = pure x := by intro _; rfl) : dE X G0 (.ListComp elt [⟨.Name x tp, it, [], 0⟩] scope cp) δ μ Φ := by
  refine d_fz (d_lcL j (h.imp fun d μ1 ⟨ds, ed, hl, hg, q⟩ => ⟨ds, ed, fun i acc μ2 => acc = (ds.take i).map f ∧ μ2 = μ1, ⟨by rw [List.take_zero]; rfl, rfl⟩, ?_, ?_⟩) hb hj hv hN hc hi hx hf hs)
  · rintro i d acc μ2 p hd ⟨rfl, rfl⟩ hp
    have hi' := (List.getElem?_eq_some_iff.mp hd).1
    refine ⟨by rw [List.length_map, List.length_take]; omega, fun G1 s H0 C cl fp => (hg d (List.mem_of_getElem? hd) p _ hp G1 s H0 C cl fp).imp fun r μ3 ⟨e1, e2⟩ => ?_⟩
    subst e1 e2
    exact ⟨_, rfl, hp, take_snoc hd, rfl⟩
  · rintro acc μ2 p ⟨rfl, rfl⟩ hp
    rw [List.take_length]
    exact fz_ref hp q
theorem d_lcTp {x : Str} {scope : Scope} {tp cp : Pos} {own : List (Str × Nat)} {vs : List Nat} (j : Nat) (f : D → D)
    (h : dE X G0 it δ μ fun d μ1 => ∃ ds, d = .tup ds ∧ ds.length ≤ sizeLine ∧ (∀ d ∈ ds, ∀ p acc, μ1 p = none → Gives X scope elt ((wipeD δ vs).set j (some d)) (updM μ1 p acc) (f d)) ∧ Φ (.lst (ds.map f)) μ1)
    (hb : blkC X.N X.env.scope scope own = true := by kernel_rfl) (hj : j ∈ vs := by decide) (hv : own.map (·.2) = vs := by rfl) (hN : X.N.Nodup := by assumption) (hc : X.calm = true := by rfl)
    (hi : X.N[j]? = some x := by rfl) (hx : ∀ s H C cl fp, Loc (BX X scope s H C cl fp).env.scope x := by first | exact fun _ _ _ _ _ => Or.inl rfl | exact fun _ _ _ _ _ => Or.inr rfl) (hf : ∀ s H C cl fp, (BX X scope s H C cl fp).fn x = true ∨ (BX X scope s H C cl fp).env.scope.names.lookup x = some .local := by first | exact fun _ _ _ _ _ => .inr rfl | exact fun _ _ _ _ _ => .inl rfl)
    (hs : ∀ x, foldedSetIterable it X.env x = pure x := by intro _; rfl) : dE X G0 (.ListComp elt [⟨.Name x tp, it, [], 0⟩] scope cp) δ μ Φ := by
  refine d_fz (d_lcT j (h.imp fun d μ1 ⟨ds, ed, hl, hg, q⟩ => ⟨ds, ed, fun i acc μ2 => acc = (ds.take i).map f ∧ μ2 = μ1, ⟨by rw [List.take_zero]; rfl, rfl⟩, ?_, ?_⟩) hb hj hv hN hc hi hx hf hs)
  · rintro i d acc μ2 p hd ⟨rfl, rfl⟩ hp
    have hi' := (List.getElem?_eq_some_iff.mp hd).1
    refine ⟨by rw [List.length_map, List.length_take]; omega, fun G1 s H0 C cl fp => (hg d (List.mem_of_getElem? hd) p _ hp G1 s H0 C cl fp).imp fun r μ3 ⟨e1, e2⟩ => ?_⟩
    subst e1 e2
    exact ⟨_, rfl, hp, take_snoc hd, rfl⟩
  · rintro acc μ2 p ⟨rfl, rfl⟩ hp
    rw [List.take_length]
    exact fz_ref hp q
theorem d_lcKp {x : Str} {scope : Scope} {tp cp : Pos} {own : List (Str × Nat)} {vs : List Nat} (j : Nat) (f : List Key → D)
    (h : dE X G0 it δ μ fun d μ1 => ∃ kvs, (d = .dct kvs ∨ ∃ p od ws, d = .ref p ∧ μ1 p = some (.lck od ws kvs)) ∧ kvs.length ≤ sizeLine ∧ (∀ k r, (k, r) ∈ kvs → ∀ p acc, μ1 p = none → Gives X scope elt ((wipeD δ vs).set j (some (keyT k))) (updM μ1 p acc) (f k)) ∧ Φ (.lst (kvs.map fun kv => f kv.1)) μ1)
    (hb : blkC X.N X.env.scope scope own = true := by kernel_rfl) (hj : j ∈ vs := by decide) (hv : own.map (·.2) = vs := by rfl) (hN : X.N.Nodup := by assumption) (hc : X.calm = true := by rfl)
    (hi : X.N[j]? = some x := by rfl) (hx : ∀ s H C cl fp, Loc (BX X scope s H C cl fp).env.scope x := by first | exact fun _ _ _ _ _ => Or.inl rfl | exact fun _ _ _ _ _ => Or.inr rfl) (hf : ∀ s H C cl fp, (BX X scope s H C cl fp).fn x = true ∨ (BX X scope s H C cl fp).env.scope.names.lookup x = some .local := by first | exact fun _ _ _ _ _ => .inr rfl | exact fun _ _ _ _ _ => .inl rfl)
    (hs : ∀ x, foldedSetIterable it X.env x = pure x := by intro _; rfl) : dE X G0 (.ListComp elt [⟨.Name x tp, it, [], 0⟩] scope cp) δ μ Φ := by
  refine d_fz (d_lcK j (h.imp fun d μ1 ⟨kvs, ed, hl, hg, q⟩ => ⟨kvs, fun i acc μ2 => acc = (kvs.take i).map (fun kv => f kv.1) ∧ μ2 = μ1, ?_, ⟨by rw [List.take_zero]; rfl, rfl⟩, ?_, ?_⟩) hb hj hv hN hc hi hx hf hs)
  · rcases ed with ed | ⟨p, od, ws, ed, hp⟩
    · exact .inl ed
    · exact .inr ⟨p, od, ws, ed, hp, fun μ2 ⟨_, _, _, e⟩ => by rw [e]; exact hp⟩
  · rintro i k r acc μ2 p hd ⟨rfl, rfl⟩ hp
    have hi' := (List.getElem?_eq_some_iff.mp hd).1
    refine ⟨by rw [List.length_map, List.length_take]; omega, fun G1 s H0 C cl fp => (hg k r (List.mem_of_getElem? hd) p _ hp G1 s H0 C cl fp).imp fun r' μ3 ⟨e1, e2⟩ => ?_⟩
    subst e1 e2
    exact ⟨_, rfl, hp, take_snoc (f := fun kv : List Key × D => f kv.1) hd, rfl⟩
  · rintro acc μ2 p ⟨rfl, rfl⟩ hp
    rw [List.take_length]
    exact fz_ref hp q
theorem d_lcI2p {x y : Str} {scope : Scope} {tp tp2 tq cp apos cpos : Pos} {kk : Nat} {own : List (Str × Nat)} {vs : List Nat} (j j2 : Nat) (f : List Key → D → D)
    (h : dE X G0 it δ μ fun d μ1 => ∃ kvs, (d = .dct kvs ∨ ∃ p od ws, d = .ref p ∧ μ1 p = some (.lck od ws kvs)) ∧ kvs.length ≤ sizeLine ∧ (∀ k r, (k, r) ∈ kvs → ∀ p acc, μ1 p = none → Gives X scope elt (((wipeD δ vs).set j (some (keyT k))).set j2 (some r)) (updM μ1 p acc) (f k r)) ∧ Φ (.lst (kvs.map fun kv => f kv.1 kv.2)) μ1)
    (hb : blkC X.N X.env.scope scope own = true := by kernel_rfl) (hj : j ∈ vs := by decide) (hj2 : j2 ∈ vs := by decide) (hv : own.map (·.2) = vs := by rfl) (hN : X.N.Nodup := by assumption) (hc : X.calm = true := by rfl)
    (hi : X.N[j]? = some x := by rfl) (hi2 : X.N[j2]? = some y := by rfl) (hx : ∀ s H C cl fp, Loc (BX X scope s H C cl fp).env.scope x := by first | exact fun _ _ _ _ _ => Or.inl rfl | exact fun _ _ _ _ _ => Or.inr rfl) (hf : ∀ s H C cl fp, (BX X scope s H C cl fp).fn x = true ∨ (BX X scope s H C cl fp).env.scope.names.lookup x = some .local := by first | exact fun _ _ _ _ _ => .inr rfl | exact fun _ _ _ _ _ => .inl rfl)
    (hx2 : ∀ s H C cl fp, Loc (BX X scope s H C cl fp).env.scope y := by first | exact fun _ _ _ _ _ => Or.inl rfl | exact fun _ _ _ _ _ => Or.inr rfl) (hf2 : ∀ s H C cl fp, (BX X scope s H C cl fp).fn y = true ∨ (BX X scope s H C cl fp).env.scope.names.lookup y = some .local := by first | exact fun _ _ _ _ _ => .inr rfl | exact fun _ _ _ _ _ => .inl rfl)
    (hs1 : ∀ s H C cl fp, (assignEach [.Name x tp, .Name y tp2] (BX X scope s H C cl fp).env).map (·.2) = assign (.Name x tp) (BX X scope s H C cl fp).env :: (assignEach [.Name y tp2] (BX X scope s H C cl fp).env).map (·.2) := by exact fun _ _ _ _ _ => rfl) (hs2 : ∀ s H C cl fp, (assignEach [.Name y tp2] (BX X scope s H C cl fp).env).map (·.2) = assign (.Name y tp2) (BX X scope s H C cl fp).env :: (assignEach [] (BX X scope s H C cl fp).env).map (·.2) := by exact fun _ _ _ _ _ => rfl)
    (hn : ∀ s H C cl fp, (assignEach [.Name x tp, .Name y tp2] (BX X scope s H C cl fp).env).length = 2 := by exact fun _ _ _ _ _ => rfl) (hst : ∀ s H C cl fp, (assignEach [.Name x tp, .Name y tp2] (BX X scope s H C cl fp).env).findIdx? (·.1) = none := by exact fun _ _ _ _ _ => rfl)
    (hbase : attributeBase it "items" X.env (eval it X.env) = eval it X.env := by rfl) (hline : (apos.endLine == cpos.line) = true := by rfl)
    (hs : ∀ x, foldedSetIterable (.Call (.Attribute it "items" apos) [] [] cpos) X.env x = pure x := by intro _; rfl) : dE X G0 (.ListComp elt [⟨.Tuple [.Name x tp, .Name y tp2] kk tq, .Call (.Attribute it "items" apos) [] [] cpos, [], 0⟩] scope cp) δ μ Φ := by
  refine d_fz (d_lcI2 j j2 (h.imp fun d μ1 ⟨kvs, ed, hl, hg, q⟩ => ⟨kvs, fun i acc μ2 => acc = (kvs.take i).map (fun kv => f kv.1 kv.2) ∧ μ2 = μ1, ?_, ⟨by rw [List.take_zero]; rfl, rfl⟩, ?_, ?_⟩) hb hj hj2 hv hN hc hi hi2 hx hf hx2 hf2 hs1 hs2 hn hst hbase hline hs)
  · rcases ed with ed | ⟨p, od, ws, ed, hp⟩
    · exact .inl ed
    · exact .inr ⟨p, od, ws, ed, hp, fun μ2 ⟨_, _, _, e⟩ => by rw [e]; exact hp⟩
  · rintro i k r acc μ2 p hd ⟨rfl, rfl⟩ hp
    have hi' := (List.getElem?_eq_some_iff.mp hd).1
    refine ⟨by rw [List.length_map, List.length_take]; omega, fun G1 s H0 C cl fp => (hg k r (List.mem_of_getElem? hd) p _ hp G1 s H0 C cl fp).imp fun r' μ3 ⟨e1, e2⟩ => ?_⟩
    subst e1 e2
    exact ⟨_, rfl, hp, take_snoc (f := fun kv : List Key × D => f kv.1 kv.2) hd, rfl⟩
  · rintro acc μ2 p ⟨rfl, rfl⟩ hp
    rw [List.take_length]
    exact fz_ref hp q
theorem d_lcR2p {x : Str} {scope : Scope} {rp ip tp cp : Pos} {own : List (Str × Nat)} {vs : List Nat} (j : Nat) (f : Int → D)
    (h : dA X G0 [a, b] δ μ fun ns μ1 => ∃ lo hi : Int, ns = [.int lo, .int hi] ∧ (-(2 ^ 62) ≤ lo ∧ lo < 2 ^ 62 ∧ -(2 ^ 62) ≤ hi ∧ hi < 2 ^ 62) ∧ (hi - lo).toNat ≤ sizeLine ∧ (∀ i : Nat, i < (hi - lo).toNat → ∀ p acc, μ1 p = none → Gives X scope elt ((wipeD δ vs).set j (some (.int (lo + i)))) (updM μ1 p acc) (f (lo + i))) ∧ Φ (.lst ((List.range (hi - lo).toNat).map fun i : Nat => f (lo + i))) μ1)
    (hb : blkC X.N X.env.scope scope own = true := by kernel_rfl) (hj : j ∈ vs := by decide) (hv : own.map (·.2) = vs := by rfl) (hN : X.N.Nodup := by assumption) (hc : X.calm = true := by rfl)
    (hi : X.N[j]? = some x := by rfl) (hx : ∀ s H C cl fp, Loc (BX X scope s H C cl fp).env.scope x := by first | exact fun _ _ _ _ _ => Or.inl rfl | exact fun _ _ _ _ _ => Or.inr rfl) (hf : ∀ s H C cl fp, (BX X scope s H C cl fp).fn x = true ∨ (BX X scope s H C cl fp).env.scope.names.lookup x = some .local := by first | exact fun _ _ _ _ _ => .inr rfl | exact fun _ _ _ _ _ => .inl rfl)
    (hm : X.mg "range" = none := by assumption) (hg : Gl X "range" := by rfl) (hst : starEach [a, b] X.env = [(false, eval a X.env), (false, eval b X.env)] := by rfl) (hst2 : starEach [b] X.env = [(false, eval b X.env)] := by rfl)
    (hs : ∀ x, foldedSetIterable (.Call (.Name "range" rp) [a, b] [] ip) X.env x = pure x := by intro _; rfl) : dE X G0 (.ListComp elt [⟨.Name x tp, .Call (.Name "range" rp) [a, b] [] ip, [], 0⟩] scope cp) δ μ Φ := by
  refine d_fz (d_lcR2 j (fun σ H B Q k => h σ H B Q (fun vs H2 ds μ2 ⟨lo, hi, ed, bb, hl, hg, q⟩ m e r => k vs H2 ds μ2 ⟨lo, hi, ed, bb, fun i acc μ3 => acc = (List.range i).map (fun i : Nat => f (lo + i)) ∧ μ3 = μ2, ⟨rfl, rfl⟩, ?_, ?_⟩ m e r)) hb hj hv hN hc hi hx hf hm hg hst hst2 hs)
  · rintro i acc μ3 p hlt ⟨rfl, rfl⟩ hp
    refine ⟨by rw [List.length_map, List.length_range]; omega, fun G1 s H0 C cl fp => (hg i hlt p _ hp G1 s H0 C cl fp).imp fun r' μ4 ⟨e1, e2⟩ => ?_⟩
    subst e1 e2
    exact ⟨_, rfl, hp, by rw [List.range_succ, List.map_append]; rfl, rfl⟩
  · rintro acc μ3 p ⟨rfl, rfl⟩ hp
    exact fz_ref hp q
theorem d_dcLp {x : Str} {scope : Scope} {tp cp : Pos} {own : List (Str × Nat)} {vs : List Nat} (j : Nat) (hu : X.A.units + 64 < cLine) (fk : D → List Key) (f : D → D)
    (h : dE X G0 it δ μ fun d μ1 => ∃ ds, d = .lst ds ∧ ds.length ≤ sizeLine ∧ (ds.map fk).Nodup ∧ (∀ d ∈ ds, ∀ p acc, μ1 p = none → Gives X scope kx ((wipeD δ vs).set j (some d)) (updM μ1 p acc) (keyT (fk d)) ∧ Gives X scope vx ((wipeD δ vs).set j (some d)) (updM μ1 p acc) (f d)) ∧ ∀ p, μ1 p = none → Φ (.ref p) (updM μ1 p (.dct (ds.map fun d => (fk d, f d)))))
    (hb : blkC X.N X.env.scope scope own = true := by kernel_rfl) (hj : j ∈ vs := by decide) (hv : own.map (·.2) = vs := by rfl) (hN : X.N.Nodup := by assumption) (hc : X.calm = true := by rfl)
    (hi : X.N[j]? = some x := by rfl) (hx : ∀ s H C cl fp, Loc (BX X scope s H C cl fp).env.scope x := by first | exact fun _ _ _ _ _ => Or.inl rfl | exact fun _ _ _ _ _ => Or.inr rfl) (hf : ∀ s H C cl fp, (BX X scope s H C cl fp).fn x = true ∨ (BX X scope s H C cl fp).env.scope.names.lookup x = some .local := by first | exact fun _ _ _ _ _ => .inr rfl | exact fun _ _ _ _ _ => .inl rfl)
    (hs : ∀ x, foldedSetIterable it X.env x = pure x := by intro _; rfl) : dE X G0 (.DictComp kx vx [⟨.Name x tp, it, [], 0⟩] scope cp) δ μ Φ := by
  refine d_dcL j hu (h.imp fun d μ1 ⟨ds, ed, hl, hn, hg, q⟩ => ⟨ds, ed, fun i acc μ2 => acc = (ds.take i).map (fun d => (fk d, f d)) ∧ μ2 = μ1, ⟨by rw [List.take_zero]; rfl, rfl⟩, ?_, ?_⟩) hb hj hv hN hc hi hx hf hs
  · rintro i d acc μ2 p hd ⟨rfl, rfl⟩ hp
    have hi' := (List.getElem?_eq_some_iff.mp hd).1
    obtain ⟨g1, g2⟩ := hg d (List.mem_of_getElem? hd) p (.dct ((ds.take i).map (fun d => (fk d, f d)))) hp
    refine ⟨by rw [List.length_map, List.length_take]; omega, fun G1 s H0 C cl fp => (g1 G1 s H0 C cl fp).imp fun r μ3 ⟨e1, e2⟩ => ⟨fk d, e1, ?_⟩⟩
    subst e2
    refine fun G1 s H0 C cl fp => (g2 G1 s H0 C cl fp).imp fun r μ3 ⟨e1, e2⟩ => ?_
    subst e1 e2
    refine ⟨_, rfl, hp, ?_, rfl⟩
    rw [putD_new, take_snoc (f := fun d => (fk d, f d)) hd]
    rw [List.map_map]
    exact nodup_take hn hd
  · rintro acc μ2 p ⟨rfl, rfl⟩ hp
    rw [List.take_length]
    exact q p hp
theorem d_dcKp {x : Str} {scope : Scope} {tp cp : Pos} {own : List (Str × Nat)} {vs : List Nat} (j : Nat) (hu : X.A.units + 64 < cLine) (f : List Key → D)
    (h : dE X G0 it δ μ fun d μ1 => ∃ kvs, (d = .dct kvs ∨ ∃ p od ws, d = .ref p ∧ μ1 p = some (.lck od ws kvs)) ∧ kvs.length ≤ sizeLine ∧ (kvs.map (·.1)).Nodup ∧ (∀ k r, (k, r) ∈ kvs → ∀ p acc, μ1 p = none → Gives X scope kx ((wipeD δ vs).set j (some (keyT k))) (updM μ1 p acc) (keyT k) ∧ Gives X scope vx ((wipeD δ vs).set j (some (keyT k))) (updM μ1 p acc) (f k)) ∧ ∀ p, μ1 p = none → Φ (.ref p) (updM μ1 p (.dct (kvs.map fun kv => (kv.1, f kv.1)))))
    (hb : blkC X.N X.env.scope scope own = true := by kernel_rfl) (hj : j ∈ vs := by decide) (hv : own.map (·.2) = vs := by rfl) (hN : X.N.Nodup := by assumption) (hc : X.calm = true := by rfl)
    (hi : X.N[j]? = some x := by rfl) (hx : ∀ s H C cl fp, Loc (BX X scope s H C cl fp).env.scope x := by first | exact fun _ _ _ _ _ => Or.inl rfl | exact fun _ _ _ _ _ => Or.inr rfl) (hf : ∀ s H C cl fp, (BX X scope s H C cl fp).fn x = true ∨ (BX X scope s H C cl fp).env.scope.names.lookup x = some .local := by first | exact fun _ _ _ _ _ => .inr rfl | exact fun _ _ _ _ _ => .inl rfl)
    (hs : ∀ x, foldedSetIterable it X.env x = pure x := by intro _; rfl) : dE X G0 (.DictComp kx vx [⟨.Name x tp, it, [], 0⟩] scope cp) δ μ Φ := by
  refine d_dcK j hu (h.imp fun d μ1 ⟨kvs, ed, hl, hn, hg, q⟩ => ⟨kvs, fun i acc μ2 => acc = (kvs.take i).map (fun kv => (kv.1, f kv.1)) ∧ μ2 = μ1, ?_, ⟨by rw [List.take_zero]; rfl, rfl⟩, ?_, ?_⟩) hb hj hv hN hc hi hx hf hs
  · rcases ed with ed | ⟨p, od, ws, ed, hp⟩
    · exact .inl ed
    · exact .inr ⟨p, od, ws, ed, hp, fun μ2 ⟨_, _, _, e⟩ => by rw [e]; exact hp⟩
  · rintro i k r acc μ2 p hd ⟨rfl, rfl⟩ hp
    have hi' := (List.getElem?_eq_some_iff.mp hd).1
    obtain ⟨g1, g2⟩ := hg k r (List.mem_of_getElem? hd) p (.dct ((kvs.take i).map (fun kv => (kv.1, f kv.1)))) hp
    refine ⟨by rw [List.length_map, List.length_take]; omega, fun G1 s H0 C cl fp => (g1 G1 s H0 C cl fp).imp fun r μ3 ⟨e1, e2⟩ => ⟨k, e1, ?_⟩⟩
    subst e2
    refine fun G1 s H0 C cl fp => (g2 G1 s H0 C cl fp).imp fun r μ3 ⟨e1, e2⟩ => ?_
    subst e1 e2
    refine ⟨_, rfl, hp, ?_, rfl⟩
    rw [putD_new, take_snoc (f := fun kv : List Key × D => (kv.1, f kv.1)) hd]
    rw [List.map_map]
    exact nodup_take (f := fun kv : List Key × D => kv.1) hn hd
  · rintro acc μ2 p ⟨rfl, rfl⟩ hp
    rw [List.take_length]
    exact q p hp
end
end DL

namespace DL
open PySem PySem.Spec PyProof.Rows L2
/-! ### the groups of n players -/
def gFrom : Nat → Nat → List (List Int)
  | _, 0 => []
  | a, m + 1 => [(a : Int)] :: (gFrom (a + 1) m).map ((a : Int) :: ·) ++ gFrom (a + 1) m
def gL (n : Nat) : List (List Int) := gFrom 0 n
def grow : Nat → List (List Int)
  | 0 => []
  | n + 1 => grow n ++ (grow n).map (· ++ [(n : Int)]) ++ [[(n : Int)]]
def lgrow : Nat → List (List Int)
  | 0 => [[]]
  | n + 1 => lgrow n ++ (lgrow n).map (· ++ [(n : Int)])
def ascB : List Int → Bool
  | a :: b :: r => decide (a < b) && ascB (b :: r)
  | _ => true
def gOk (n : Nat) (g : List Int) : Bool := !g.isEmpty && decide (g.length ≤ n) && g.all (fun i => decide (0 ≤ i) && decide (i < n)) && ascB g
def leL (x y : List Int) : Prop := HT.lexLt y x = false
instance (x y : List Int) : Decidable (leL x y) := inferInstanceAs (Decidable (HT.lexLt y x = false))
theorem sort_uniq {L L' G : List (List Int)} (h1 : L'.Perm L) (h2 : L'.Pairwise fun x y => HT.lexLt y x = false) (h3 : G.Perm L) (h4 : G.Pairwise leL) : L' = G :=
  List.Perm.eq_of_pairwise (le := leL) (fun a b _ _ x y => GS.lexLt_tot a b y x) h2 h4 (h1.trans h3.symm)
structure GFacts (n : Nat) : Prop where
  perm : (gL n).Perm (grow n)
  lperm : ([] :: gL n).Perm (lgrow n)
  sorted : (gL n).Pairwise leL
  lsorted : ([] :: gL n).Pairwise leL
  nodup : (gL n).Nodup
  len : (gL n).length ≤ 31
  glen : (grow n).length ≤ 31
  llen : (lgrow n).length ≤ 32
  ok : (gL n).all (gOk n) = true
  whole : n = 0 ∨ rangeI n ∈ gL n
theorem gfacts : ∀ n : Nat, n ≤ 5 → GFacts n
  | 0, _ => ⟨by decide +kernel, by decide +kernel, by decide +kernel, by decide +kernel, by decide +kernel, by decide +kernel, by decide +kernel, by decide +kernel, by decide +kernel, by decide +kernel⟩
  | 1, _ => ⟨by decide +kernel, by decide +kernel, by decide +kernel, by decide +kernel, by decide +kernel, by decide +kernel, by decide +kernel, by decide +kernel, by decide +kernel, by decide +kernel⟩
  | 2, _ => ⟨by decide +kernel, by decide +kernel, by decide +kernel, by decide +kernel, by decide +kernel, by decide +kernel, by decide +kernel, by decide +kernel, by decide +kernel, by decide +kernel⟩
  | 3, _ => ⟨by decide +kernel, by decide +kernel, by decide +kernel, by decide +kernel, by decide +kernel, by decide +kernel, by decide +kernel, by decide +kernel, by decide +kernel, by decide +kernel⟩
  | 4, _ => ⟨by decide +kernel, by decide +kernel, by decide +kernel, by decide +kernel, by decide +kernel, by decide +kernel, by decide +kernel, by decide +kernel, by decide +kernel, by decide +kernel⟩
  | 5, _ => ⟨by decide +kernel, by decide +kernel, by decide +kernel, by decide +kernel, by decide +kernel, by decide +kernel, by decide +kernel, by decide +kernel, by decide +kernel, by decide +kernel⟩
  | n + 6, h => absurd h (by omega)
theorem lgrow_le : ∀ n, n ≤ 5 → ∀ m, m ≤ n → (lgrow m).length ≤ 32 := fun n hn m hm => (gfacts m (by omega)).llen
/-! ### tables -/
def keyI (g : List Int) : List Key := g.map Sum.inl
theorem keyT_I (g : List Int) : keyT (keyI g) = tupI g := by
  unfold keyT keyI tupI
  rw [List.map_map]
  rfl
theorem keyI_inj {g h : List Int} (e : keyI g = keyI h) : g = h := by
  unfold keyI at e
  exact (List.map_inj_right (fun a b z => Sum.inl.inj z)).mp e
def tabD (n : Nat) (w : List Int → Int) : List (List Key × D) := (gL n).map fun g => (keyI g, .int (w g))
def tabP (n : Nat) (w : List Int → Int) : List (List Key × PyData) := (gL n).map fun g => (keyI g, .int (w g))
theorem tab_keys (n : Nat) (w : List Int → Int) : (tabD n w).map (·.1) = (gL n).map keyI := by
  unfold tabD
  rw [List.map_map]
  rfl
theorem keysI_nodup {L : List (List Int)} (h : L.Nodup) : (L.map keyI).Nodup := by
  unfold List.Nodup at h ⊢
  rw [List.pairwise_map]
  exact h.imp fun hne e => hne (keyI_inj e)
theorem tab_nodup {n : Nat} (hn : n ≤ 5) (w : List Int → Int) : ((tabD n w).map (·.1)).Nodup := by
  rw [tab_keys]
  exact keysI_nodup (gfacts n hn).nodup
theorem tab_len {n : Nat} (hn : n ≤ 5) (w : List Int → Int) : (tabD n w).length ≤ 31 := by
  unfold tabD
  rw [List.length_map]
  exact (gfacts n hn).len
theorem pyKv_ints {μ : Mu} (w : List Int → Int) : ∀ L : List (List Int), PyKv μ (L.map fun g => (keyI g, .int (w g))) (L.map fun g => (keyI g, .int (w g)))
  | [] => .nil
  | g :: L => .cons (.int _) rfl (pyKv_ints w L)
theorem pyKv_tab {μ : Mu} (n : Nat) (w : List Int → Int) : PyKv μ (tabD n w) (tabP n w) := pyKv_ints w (gL n)
theorem find_key {α : Type} (f : List Int → α) : ∀ {L : List (List Int)} {g : List Int}, g ∈ L → ((L.map fun g => (keyI g, f g)).find? fun kv => decide (kv.1 = keyI g)).map (·.2) = some (f g)
  | h :: L, g, hg => by
    rw [List.map_cons, List.find?_cons]
    by_cases e : keyI h = keyI g
    · rw [decide_eq_true (show (keyI h, f h).1 = keyI g from e), keyI_inj e]
      rfl
    · rw [decide_eq_false (show ¬ (keyI h, f h).1 = keyI g from e)]
      refine find_key f ?_
      rcases List.mem_cons.mp hg with z | z
      · exact absurd (by rw [z]) e
      · exact z
theorem find_keyN {α : Type} (f : List Int → α) : ∀ {L : List (List Int)} {g : List Int}, g ∉ L → ((L.map fun g => (keyI g, f g)).find? fun kv => decide (kv.1 = keyI g)).map (·.2) = none
  | [], g, hg => rfl
  | h :: L, g, hg => by
    rw [List.map_cons, List.find?_cons]
    have e : ¬ keyI h = keyI g := fun z => hg (by rw [keyI_inj z]; exact List.mem_cons_self)
    rw [decide_eq_false (show ¬ (keyI h, f h).1 = keyI g from e)]
    exact find_keyN f fun z => hg (List.mem_cons_of_mem _ z)
theorem valD_tab {n : Nat} {w : List Int → Int} {g : List Int} (h : g ∈ gL n) : valD (tabD n w) (keyI g) = some (.int (w g)) := find_key (fun g => D.int (w g)) h
theorem eqKv_tab {n : Nat} {w w' : List Int → Int} (h : ∀ g ∈ gL n, w g = w' g) : eqKv (tabP n w) (tabP n w') = true := by
  unfold eqKv
  rw [List.all_eq_true]
  intro x hx
  obtain ⟨g, hg, rfl⟩ := List.mem_map.mp hx
  have e : valP (tabP n w') (keyI g) = some (.int (w' g)) := find_key (fun g => PyData.int (w' g)) hg
  show (match valP (tabP n w') (keyI g) with | some q => PyData.eqv (.int (w g)) q | none => false) = true
  rw [e, h g hg]
  exact SeqAt.eqv_refl (.int (w' g)) rfl
theorem tabP_len (n : Nat) (w w' : List Int → Int) : ((tabP n w).length == (tabP n w').length) = true := by
  unfold tabP
  rw [List.length_map, List.length_map]
  exact beq_self_eq_true _
theorem tab_congr {n : Nat} {w w' : List Int → Int} (h : ∀ g ∈ gL n, w g = w' g) : tabD n w = tabD n w' := List.map_congr_left fun g hg => by rw [h g hg]
/-! ### what a group is -/
def isPl (n : Int) : D → Bool
  | .int i => decide (0 ≤ i) && decide (i < n)
  | _ => false
def dInt : D → Int
  | .int i => i
  | _ => 0
def upD (ds : List D) : Bool := (List.range (ds.length - 1)).all fun k => decide (dInt (ds.getD k .non) < dInt (ds.getD (k + 1) .non))
def isG (n : Int) : D → Bool
  | .tup ds => !ds.isEmpty && ds.all (isPl n) && upD ds
  | _ => false
theorem upD_ints : ∀ {g : List Int}, ascB g = true → upD (g.map .int) = true
  | [], _ => rfl
  | [a], _ => rfl
  | a :: b :: r, h => by
    have h' : decide (a < b) = true ∧ ascB (b :: r) = true := by simpa [ascB] using h
    have ih := upD_ints h'.2
    unfold upD at ih ⊢
    rw [List.all_eq_true] at ih ⊢
    intro k hk
    rw [List.mem_range] at hk
    cases k with
    | zero => exact h'.1
    | succ k =>
      have := ih k (by rw [List.mem_range]; simp at hk ⊢; omega)
      simpa using this
theorem isG_tup {n : Nat} (hn : n ≤ 5) {g : List Int} (hg : g ∈ gL n) : isG n (tupI g) = true := by
  have h := List.all_eq_true.mp (gfacts n hn).ok g hg
  unfold gOk at h
  simp only [Bool.and_eq_true] at h
  obtain ⟨⟨⟨h1, h2⟩, h3⟩, h4⟩ := h
  have e : isG n (tupI g) = (!(g.map D.int).isEmpty && (g.map D.int).all (isPl n) && upD (g.map .int)) := rfl
  have e1 : (!(g.map D.int).isEmpty) = true := by
    cases g with
    | nil => cases h1
    | cons _ _ => rfl
  have e2 : (g.map D.int).all (isPl n) = true := by
    rw [List.all_map]
    exact h3
  rw [e, e1, e2, upD_ints h4]
  rfl
theorem gL_at {n : Nat} (hn : n ≤ 5) {g : List Int} (hg : g ∈ gL n) : g ≠ [] ∧ g.length ≤ n ∧ ∀ i ∈ g, 0 ≤ i ∧ i < n := by
  have h := List.all_eq_true.mp (gfacts n hn).ok g hg
  unfold gOk at h
  simp only [Bool.and_eq_true] at h
  obtain ⟨⟨⟨h1, h2⟩, h3⟩, h4⟩ := h
  refine ⟨fun e => (by rw [e] at h1; cases h1), of_decide_eq_true h2, fun i hi => ?_⟩
  have := List.all_eq_true.mp h3 i hi
  simpa using this
/-! ### games -/
def gameD (C : Addr) (n : Nat) (w : List Int → Int) : D := .obj C [("players", .int n), ("whole", tupI (rangeI n)), ("table", .dct (tabD n w))]
/-- the sum of the numbers of a group's members -/
def sumAt (ns : List Int) (g : List Int) : Int := (g.map fun i => ns.getD i.toNat 0).sum
end DL

namespace DL
open PySem PySem.Spec PyProof.Rows L2
section
variable {X : Cx} {G0 : Hp} {e e2 a b c it elt kx vx o : Expr} {es rest : List Expr} {sts : List Stmt} {δ : List (Option D)} {μ : Mu} {Φ : DK} {pos apos : Pos} {K : PySem.W.Frag} {H G : Hp} {Q : VK} {E : DEnds} {d r : D} {Θ : Bool → Mu → Prop} {xs ys : List D}
/-- a tuple behind a tuple -/
theorem o_catA (q : xs.length + ys.length ≤ sizeLine ∧ Φ (.tup (xs ++ ys)) μ) : dOp X (binaryOp .Add) (.tup xs) (.tup ys) μ Φ := fun v u H r1 r2 m Q k => by
  obtain ⟨a, vs, rfl, ha, ra⟩ := rp_tup_at r1
  obtain ⟨b, ws, rfl, hb, rb⟩ := rp_tup_at r2
  refine wOp_of op_catA ⟨a, b, vs, ws, rfl, rfl, SqT.of ha, SqT.of hb, by rw [ra.length, rb.length]; exact q.1, fun z => ?_, fun _ z => ?_, fun _ _ p hp => k.new m hp q.2 (rp_tup m hp (ra.append rb))⟩
  · subst z
    cases ra
    exact k.val m q.2 r2
  · subst z
    cases rb
    have q2 := q.2
    rw [List.append_nil] at q2
    exact k.val m q2 r1
theorem sl_tplA {lo hi : Option Int} (q : Φ (.tup (cutD xs lo hi)) μ) : dSl X (.tup xs) lo hi μ Φ := fun v H r m Q k => by
  obtain ⟨a, vs, rfl, ha, ra⟩ := rp_tup_at r
  refine wSl_of sl_tupA ⟨a, vs, rfl, SqT.of ha, fun z => ?_, fun _ p hp => k.new m hp q (rp_tup m hp (rp_cut lo hi ra))⟩
  rw [ra.length] at z
  have e : cutD xs lo hi = xs := by
    unfold cutD
    rw [z.1, z.2, List.drop_zero, Nat.sub_zero, List.take_length]
  rw [e] at q
  exact k.val m q r
theorem fzd_at {p : Addr} {ds : List (List Key × D)} (hp : μ p = some (.dct ds)) (q : Φ (.dct ds) (delM μ p)) : FzD Φ (.ref p) μ := by
  have e := upd_del hp
  rw [← e]
  exact fzd_ref delM_same q
/-- dict([(x, ..) for x in d]), d a table that may change -/
theorem d_redict {x fx : Str} {scope : Scope} {tp fp cp dp : Pos} {own : List (Str × Nat)} {vs : List Nat} (i j : Nat) {q : Addr} {n : Nat} {u z : List Int → Int} (hu : X.A.units + 64 < cLine) (hq : δ[i]? = some (some (.ref q))) (hμ : μ q = some (.dct (tabD n u))) (hn5 : n ≤ 5)
    (hv : ∀ g ∈ gL n, ∀ μ', (∃ od ws, μ' q = some (.lck od ws (tabD n u))) → (∀ a, a ≠ q → μ a ≠ none → μ' a = μ a) → Gives X scope elt ((wipeD δ vs).set j (some (tupI g))) μ' (.tup [tupI g, .int (z g)]))
    (fin : ∀ p, μ p = none → Φ (.ref p) (updM μ p (.dct (tabD n z))))
    (hNf : X.N[i]? = some fx := by rfl) (hvf : Vis X.env.scope fx := by first | exact Or.inl rfl | exact Or.inr (Or.inl rfl) | exact Or.inr (Or.inr rfl)) (hbf : (fx == ("__debug__" : Str)) = false := by decide) (hcf : (fx == ("__classdict__" : Str)) = false := by decide)
    (hb : blkC X.N X.env.scope scope own = true := by kernel_rfl) (hj : j ∈ vs := by decide) (hv' : own.map (·.2) = vs := by rfl) (hN : X.N.Nodup := by assumption) (hc : X.calm = true := by rfl)
    (hi : X.N[j]? = some x := by rfl) (hx : ∀ s H C cl fp, Loc (BX X scope s H C cl fp).env.scope x := by first | exact fun _ _ _ _ _ => Or.inl rfl | exact fun _ _ _ _ _ => Or.inr rfl) (hf : ∀ s H C cl fp, (BX X scope s H C cl fp).fn x = true ∨ (BX X scope s H C cl fp).env.scope.names.lookup x = some .local := by first | exact fun _ _ _ _ _ => .inr rfl | exact fun _ _ _ _ _ => .inl rfl)
    (hs : ∀ x, foldedSetIterable (.Name fx fp) X.env x = pure x := by intro _; rfl) (hm : X.mg "dict" = none := by assumption) (hg : Gl X "dict" := by rfl)
    (he : starEach [.ListComp elt [⟨.Name x tp, .Name fx fp, [], 0⟩] scope cp] X.env = (false, eval (.ListComp elt [⟨.Name x tp, .Name fx fp, [], 0⟩] scope cp) X.env) :: starEach [] X.env := by rfl) (hpl : (backTo pos (starEach [] X.env)).any (·.1) = false := by rfl) :
    dE X G0 (.Call (.Name "dict" dp) [.ListComp elt [⟨.Name x tp, .Name fx fp, [], 0⟩] scope cp] [] pos) δ μ Φ := by
  refine d_lock hμ fun od ws => ?_
  refine db_dict ?_ hm hg he hpl
  refine da_cons ?_ he
  refine d_lcKp (elt := elt) j (fun k => .tup [keyT k, .int (z (k.map fun | .inl i => i | .inr _ => 0))]) ?_ hb hj hv' hN hc hi hx hf hs
  refine d_var i hq ?_ hNf hvf hbf hcf
  have gk : ∀ g : List Int, (keyI g).map (fun | .inl i => i | .inr _ => 0) = g := fun g => by
    unfold keyI
    rw [List.map_map]
    exact (List.map_congr_left fun _ _ => rfl).trans (List.map_id g)
  refine ⟨tabD n u, .inr ⟨q, od, ws, rfl, updM_same⟩, by have := tab_len hn5 u; rw [sizeLine_eq]; omega, fun k r hkr p acc hp => ?_, ?_⟩
  · obtain ⟨g, hg, e⟩ := List.mem_map.mp hkr
    cases e
    have hpq : q ≠ p := fun e => by rw [← e, updM_same] at hp; cases hp
    rw [gk, keyT_I]
    refine hv g hg _ ⟨od, ws, by rw [updM_ne hpq, updM_same]⟩ fun a ha hne => ?_
    have hap : a ≠ p := fun e => by rw [← e, updM_ne ha] at hp; exact hne hp
    rw [updM_ne hap, updM_ne ha]
  · refine da_nil ?_
    have e : (tabD n u).map (fun kv => D.tup [keyT kv.1, .int (z (kv.1.map fun | .inl i => i | .inr _ => 0))]) = (tabD n z).map pairD := by
      unfold tabD
      rw [List.map_map, List.map_map]
      refine List.map_congr_left fun g hg => ?_
      show D.tup [keyT (keyI g), .int (z ((keyI g).map fun | .inl i => i | .inr _ => 0))] = .tup [keyT (keyI g), .int (z g)]
      rw [gk]
    rw [e]
    refine c_dictP hu (tab_nodup hn5 z) (fun p hp => ?_) hc
    have hpq : q ≠ p := fun e => by rw [← e, updM_same] at hp; cases hp
    refine ⟨updM μ p (.dct (tabD n z)), updM_comm hpq, ?_⟩
    have hp2 : μ p = none := by rw [← hp, updM_ne (Ne.symm hpq)]
    have e2 : updM (updM μ p (.dct (tabD n z))) q (.dct (tabD n u)) = updM μ p (.dct (tabD n z)) := by
      rw [← upd_del (μ := updM μ p (.dct (tabD n z))) (p := q) (c := .dct (tabD n u)) (by rw [updM_ne hpq]; exact hμ), updM_upd]
    rw [e2]
    exact fin p hp2
theorem put_tab {n : Nat} (hn : n ≤ 5) {u : List Int → Int} {g : List Int} (hg : g ∈ gL n) (v : Int) : putD (tabD n u) (keyI g) (.int v) = tabD n fun h => if h = g then v else u h := by
  have ha : ((tabD n u).any fun kv => decide (kv.1 = keyI g)) = true := List.any_eq_true.mpr ⟨(keyI g, .int (u g)), List.mem_map.mpr ⟨g, hg, rfl⟩, decide_eq_true rfl⟩
  unfold putD
  rw [ha]
  unfold tabD
  rw [List.map_map]
  refine List.map_congr_left fun h hh => ?_
  show (if keyI h = keyI g then (keyI h, D.int v) else (keyI h, .int (u h))) = (keyI h, .int (if h = g then v else u h))
  by_cases e : h = g
  · rw [if_pos (by rw [e]), if_pos e]
  · rw [if_neg (fun z => e (keyI_inj z)), if_neg e]
end
end DL

namespace DL
open PySem PySem.Spec PyProof.Rows L2
/-! ### an own class as a container: x[y], y in x, len(x) -/
/-- a method that may be called, known as a def -/
structure FCal (P : Program) (w : World) (K : PySem.W.Frag) (mg : Str → Option Value) (base : Heap) (k : Nat) (C : Addr) (m : Str) (sp : DSp) : Prop where
  ex : ∃ (f : Addr) (fd : FuncData) (ps : List Str), FnOk P w K mg base (L2N.CX P w) k f fd ps (liftSp K sp) ∧ Meth K C m f ∧ Binds K fd ps [] ∧ PySem.W.fnIn K f = true
section
variable {P : Program} {w : World} {K : PySem.W.Frag} {mg : Str → Option Value} {base : Heap}
theorem MthT.calF {C : Addr} {m qual : Str} {st : Stmt} {N ps : List Str} {k : Nat} {sp : DSp} (Df : MthT K C m qual st ps) (S : FnScope N ps (defScope st)) (len : ∀ ds μ Φ Ψ, sp ds μ Φ Ψ → ds.length = ps.length)
    (h : ∀ ds μ Φ Ψ, sp ds μ Φ Ψ → Body P w K mg base k N qual st ds μ Φ Ψ) : FCal P w K mg base (k + 1) C m sp := by
  obtain ⟨f, fd, F, M, hb⟩ := Df.ex
  obtain ⟨oc, od, kV, doc, pm, an, cdv, ct, osl, rfl, lk, hcd⟩ := F.ex
  refine ⟨f, _, ps, cal_fn lk hcd S len h, M, hb, ?_⟩
  unfold PySem.W.fnIn
  rw [lk]
end
section
variable {X : Cx} {G0 : Hp} {e e2 a b c it elt kx vx o : Expr} {es rest : List Expr} {sts : List Stmt} {δ : List (Option D)} {μ : Mu} {Φ : DK} {pos apos : Pos} {K : PySem.W.Frag} {H G : Hp} {Q : VK} {E : DEnds} {d x y r : D} {Θ : Bool → Mu → Prop} {C : Addr} {fs gs : List (Str × D)} {f m : Str} {sp : DSp} {j k : Nat}
theorem own_ix {σ : L2.St} {Ψ : DX} {XE : XK} {v u : V} {v' u' : Value} {pins : List (Addr × Obj)} {s : Shared} {value slice : Expr} (T : FCal X.prog X.w X.K X.mg X.base j C "__getitem__" sp) (h1 : OAt μ x C fs) (q : sp [x, y] μ Φ Ψ) (hr : Room (j + 1) X.A)
    (I : Inv X pins σ H s) (r1 : Rp X.K (Im μ H) v x) (r2 : Rp X.K (Im μ H) u y) (mm : MuOk X.K μ H) (kk : KP X.K μ H Φ Q) (kx : KX X.K μ H Ψ XE) (hp : PassesAt (L2N.CX X.prog X.w) X σ XE) (rv : RelV v v') (ru : RelV u u')
    (hs : ∀ o i, subscripted slice true o i = runValue (.builtin "lifetime.subscript" ⟨[o, i], []⟩)) : wpAny (model X.prog X.w) X.A (subscriptTail value slice v' u') (EP X pins σ Q) X.xe s := by
  obtain ⟨f, fd, ps, F, M, hb, hf⟩ := T.ex
  obtain ⟨a, dx, vs, rfl, ha, ra⟩ := oat_ins r1 mm h1
  obtain rfl : v' = Value.ref a := rv
  obtain ⟨mA, J, _⟩ := ins_get I.hok ha
  obtain ⟨od, J, _⟩ := J.look
  obtain ⟨m, hF⟩ := I.fr
  refine PySem.W.sub_K hF I.ok.mod.kin J M.at_ hf M.fn ?_ (hs _ _)
  exact run_at F hr.in1 rfl hb hp I (.cons (relR a) (.cons ru .nil)) ⟨[x, y], μ, Φ, Ψ, .cons r1 (.cons r2 .nil), mm, q, kk, kx⟩
theorem d_ixO (T : FCal X.prog X.w X.K X.mg X.base j C "__getitem__" sp) (h : dE X G0 a δ μ fun x μ1 => dE X G0 b δ μ1 fun y μ2 => (∃ fs, OAt μ2 x C fs) ∧ sp [x, y] μ2 Φ NoX) (hr : Room k X.A := by assumption) (hj : j + 1 ≤ k := by decide)
    (hs : ∀ o i, subscripted b true o i = runValue (.builtin "lifetime.subscript" ⟨[o, i], []⟩) := by exact fun _ _ => rfl) : dE X G0 (.Subscript a b pos) δ μ Φ := fun σ H B Q kk => by
  intro pins s I
  refine Subscript_ (binT (R := fun v u H2 => ∃ x y μ2, Rp X.K (Im μ2 H2) v x ∧ Rp X.K (Im μ2 H2) u y ∧ MuOk X.K μ2 H2 ∧ Sub (Im μ H) (Im μ2 H2) ∧ (∃ fs, OAt μ2 x C fs) ∧ sp [x, y] μ2 Φ NoX) pe_w pe_w I ?_ fun v' u' s2 v u H2 I2 rv ru q => ?_)
  · refine h σ H B _ fun v H1 x μ1 hx m1 e1 r1 => ?_
    refine hx σ H1 (B.step m1 e1) _ fun u H2 y μ2 ⟨h1, q⟩ m2 e2 r2 => ?_
    exact ⟨x, y, μ2, r1.mono e2, r2, m2, e1.trans e2, h1, q⟩
  · obtain ⟨x, y, μ2, r1, r2, m2, e2, ⟨fs, h1⟩, q⟩ := q
    exact own_ix T h1 q (hr.mono hj) I2 r1 r2 m2 (kk.after e2) noX passNS rv ru hs
/-- the same where an error is taken -/
theorem d_ixX {Ψ : List (Option D) → DX} (T : FCal X.prog X.w X.K X.mg X.base j C "__getitem__" sp) (tk : dTk X G0 Ψ) (h : dE X G0 a δ μ fun x μ1 => dE X G0 b δ μ1 fun y μ2 => (∃ fs, OAt μ2 x C fs) ∧ sp [x, y] μ2 Φ (Ψ δ)) (hr : Room k X.A := by assumption) (hj : j + 1 ≤ k := by decide)
    (hs : ∀ o i, subscripted b true o i = runValue (.builtin "lifetime.subscript" ⟨[o, i], []⟩) := by exact fun _ _ => rfl) : dE X G0 (.Subscript a b pos) δ μ Φ := fun σ H B Q kk => by
  obtain ⟨W, tw, tq⟩ := tk
  intro pins s I
  refine Subscript_ (binT (R := fun v u H2 => ∃ x y μ2, Rp X.K (Im μ2 H2) v x ∧ Rp X.K (Im μ2 H2) u y ∧ MuOk X.K μ2 H2 ∧ Sub (Im μ H) (Im μ2 H2) ∧ (∃ fs, OAt μ2 x C fs) ∧ sp [x, y] μ2 Φ (Ψ δ)) pe_w pe_w I ?_ fun v' u' s2 v u H2 I2 rv ru q => ?_)
  · refine h σ H B _ fun v H1 x μ1 hx m1 e1 r1 => ?_
    refine hx σ H1 (B.step m1 e1) _ fun u H2 y μ2 ⟨h1, q⟩ m2 e2 r2 => ?_
    exact ⟨x, y, μ2, r1.mono e2, r2, m2, e1.trans e2, h1, q⟩
  · obtain ⟨x, y, μ2, r1, r2, m2, e2, ⟨fs, h1⟩, q⟩ := q
    exact own_ix T h1 q (hr.mono hj) I2 r1 r2 m2 (kk.after e2) (XE := fun C d H3 => W C d σ H3) ⟨fun C d H2 gs μ2 q2 m2 e3 er => tq.1 C d δ σ H2 gs μ2 q2 (B.step m2 (e2.trans e3)) er, fun C H2 μ2 q2 m2 e3 => tq.2 C δ σ H2 μ2 q2 (B.step m2 (e2.trans e3))⟩ (L2N.passAt tw σ) rv ru hs
/-- y in x -/
theorem o_inO (T : MCal X.prog X.w X.K X.mg X.base j C "__contains__" sp) (h1 : OAt μ x C fs) (q : sp [x, y] μ (fun d μ' => ∃ k, d = .bl k ∧ Φ (.bl k) μ') NoX) (hr : Room k X.A := by assumption) (hj : j ≤ k := by decide) : dOp X (compareOp .In) y x μ Φ := fun u v H r2 r1 mm Q kk => by
  intro pins s σ u' v' I ru rv
  obtain ⟨f, fd, ps, F, M, hb⟩ := T.ex
  obtain ⟨a, dx, vs, rfl, ha, ra⟩ := oat_ins r1 mm h1
  obtain rfl : v' = Value.ref a := rv
  obtain ⟨mA, J, _⟩ := ins_get I.hok ha
  obtain ⟨od, J, _⟩ := J.look
  obtain ⟨m, hF⟩ := I.fr
  refine PySem.W.in_K hF I.ok.mod.kin J M.at_ M.fn ?_
  refine thn (run_at F (hr.mono hj) rfl hb passNS I (.cons (relR a) (.cons ru .nil)) (Q := fun v H2 => ∃ c, v = .bl c ∧ Q (.bl c) H2) ⟨[x, y], μ, _, NoX, .cons r1 (.cons r2 .nil), mm, q, fun v H2 d μ2 ⟨c, e, qq⟩ m2 s2 rr => ?_, noX⟩) fun r s' h => ?_
  · subst e
    cases rr
    exact ⟨c, rfl, kk _ H2 _ μ2 qq m2 s2 (.bl c)⟩
  · obtain ⟨v, H2, I2, rv2, c, rfl, qq⟩ := h
    obtain rfl : r = Value.bool c := rv2
    exact wpAny_truthy_bool ⟨.bl c, H2, I2, rfl, qq⟩
theorem o_ninO (T : MCal X.prog X.w X.K X.mg X.base j C "__contains__" sp) (h1 : OAt μ x C fs) (q : sp [x, y] μ (fun d μ' => ∃ k, d = .bl k ∧ Φ (.bl (!k)) μ') NoX) (hr : Room k X.A := by assumption) (hj : j ≤ k := by decide) : dOp X (compareOp .NotIn) y x μ Φ := fun u v H r2 r1 mm Q kk => by
  intro pins s σ u' v' I ru rv
  obtain ⟨f, fd, ps, F, M, hb⟩ := T.ex
  obtain ⟨a, dx, vs, rfl, ha, ra⟩ := oat_ins r1 mm h1
  obtain rfl : v' = Value.ref a := rv
  obtain ⟨mA, J, _⟩ := ins_get I.hok ha
  obtain ⟨od, J, _⟩ := J.look
  obtain ⟨m, hF⟩ := I.fr
  refine PySem.W.notIn_K hF I.ok.mod.kin J M.at_ M.fn ?_
  refine thn (run_at F (hr.mono hj) rfl hb passNS I (.cons (relR a) (.cons ru .nil)) (Q := fun v H2 => ∃ c, v = .bl c ∧ Q (.bl (!c)) H2) ⟨[x, y], μ, _, NoX, .cons r1 (.cons r2 .nil), mm, q, fun v H2 d μ2 ⟨c, e, qq⟩ m2 s2 rr => ?_, noX⟩) fun r s' h => ?_
  · subst e
    cases rr
    exact ⟨c, rfl, kk _ H2 _ μ2 qq m2 s2 (.bl (!c))⟩
  · obtain ⟨v, H2, I2, rv2, c, rfl, qq⟩ := h
    obtain rfl : r = Value.bool c := rv2
    exact wpAny_truthy_bool ⟨.bl (!c), H2, I2, rfl, qq⟩
/-- len(x) -/
theorem c_lenO (T : MCal X.prog X.w X.K X.mg X.base j C "__len__" sp) (h1 : OAt μ x C fs) (q : sp [x] μ (fun d μ' => ∃ n : Nat, d = .int n ∧ n < 1000 ∧ Φ (.int n) μ') NoX) (hr : Room k X.A := by assumption) (hj : j + 1 ≤ k := by decide) : dCall X (.builtin "len") [x] μ Φ := fun vs H r0 mm Q kk => by
  obtain ⟨v, rfl, r1⟩ := rp1 r0
  obtain ⟨f, fd, ps, F, M, hb⟩ := T.ex
  obtain ⟨a, dx, ws, rfl, ha, ra⟩ := oat_ins r1 mm h1
  intro pins s σ us I rv
  obtain ⟨u, rfl, ru⟩ := rv.one
  cases ru
  obtain ⟨mA, J, _⟩ := ins_get I.hok ha
  obtain ⟨od, J, _⟩ := J.look
  obtain ⟨m, hF⟩ := I.fr
  refine PySem.W.len_K hF I.ok.mod.kin J M.at_ M.fn ?_
  refine thn (run_at F (hr.mono hj).in1 rfl hb passNS I (.cons (relR a) .nil) (Q := fun v H2 => ∃ n : Nat, v = .int n ∧ n < 1000 ∧ Q (.int n) H2) ⟨[x], μ, _, NoX, .cons r1 .nil, mm, q, fun v H2 d μ2 ⟨n, e, hn, qq⟩ m2 s2 rr => ?_, noX⟩) fun r s' h => ?_
  · subst e
    cases rp_int rr
    exact ⟨n, rfl, hn, kk _ H2 _ μ2 qq m2 s2 (.int n)⟩
  · obtain ⟨v, H2, I2, rv2, n, rfl, hn, qq⟩ := h
    obtain ⟨t, rfl⟩ := rv2
    exact ⟨⟨by omega, by omega⟩, .int n, H2, I2.tok _, ⟨_, rfl⟩, qq⟩
end
end DL

namespace DL
open PySem PySem.Spec PyProof.Rows L2
/-! ### a base that reaches as far as the entry -/
def freedO : Obj := { cls := .none, data := .freed }
def padH (b : Heap) (n : Nat) : Heap := { b with objs := b.objs ++ (List.replicate (n - b.objs.size) freedO).toArray }
theorem pad_objs (b : Heap) (n : Nat) : (padH b n).objs = b.objs ++ (List.replicate (n - b.objs.size) freedO).toArray := rfl
theorem pad_size {b : Heap} {n : Nat} (h : b.objs.size ≤ n) : (padH b n).objs.size = n := by
  rw [pad_objs, Array.size_append]
  have e : (List.replicate (n - b.objs.size) freedO).toArray.size = n - b.objs.size := by rw [List.size_toArray, List.length_replicate]
  rw [e]
  omega
theorem pad_get (b : Heap) (n : Nat) (a : Addr) : (padH b n).get? a = b.get? a := by
  by_cases h : a < b.objs.size
  · have e : (padH b n).objs[a]? = b.objs[a]? := by rw [pad_objs, Array.getElem?_append_left h]
    unfold Heap.get?
    rw [e]
  · have h' : b.objs.size ≤ a := Nat.le_of_not_lt h
    have e1 : b.objs[a]? = none := Array.getElem?_eq_none h'
    have e2 : (padH b n).objs[a]? = (List.replicate (n - b.objs.size) freedO)[a - b.objs.size]? := by rw [pad_objs, Array.getElem?_append_right h', List.getElem?_toArray]
    unfold Heap.get?
    rw [e1, e2]
    cases e : (List.replicate (n - b.objs.size) freedO)[a - b.objs.size]? with
    | none => rfl
    | some o =>
      have := List.eq_of_mem_replicate (List.mem_of_getElem? e)
      subst this
      rfl
theorem pad_keeps (b : Heap) (n : Nat) : ∀ a o, b.get? a = some o → (padH b n).get? a = some o := fun a o e => (pad_get b n a).trans e
theorem funs_pad {h b : Heap} {n : Nat} : ∀ {l : List Env}, h.FunFrames b l → h.FunFrames (padH b n) l
  | [], _ => trivial
  | _ :: _, ⟨hk, ⟨L, o, hf, hn, ho, hd⟩, hr⟩ => ⟨hk, ⟨L, o, hf, (pad_get b n L).trans hn, ho, hd⟩, funs_pad hr⟩
theorem mod_pad {K : PySem.W.Frag} {mg : Str → Option Value} {b : Heap} {n : Nat} (m : Mod K mg b) : Mod K mg (padH b n) := by
  obtain ⟨kin, glob, ⟨mb, b1, b2⟩, nl⟩ := m
  exact ⟨kin.keeps (pad_keeps b n), glob.keeps (pad_keeps b n), ⟨mb, b1.keeps (pad_keeps b n), b2⟩, nl.keeps (pad_keeps b n)⟩
/-! ### iter(d), d a dict that stays, its keys tuples -/
def KtB (d : Addr) (n ep : Nat) : Obj := { cls := .type "dict_keyiterator", data := .fields #[.ref d, .int 0 0, .int n 0, .int ep 0] }
def KtO (d it : Addr) (n ep : Nat) : HO := .ext fun h => h.get? it = some (KtB d n ep)
theorem ktO_ok {P : Program} {w : World} {H : Hp} {h : Heap} {d it : Addr} {n ep : Nat} (e : h.get? it = some (KtB d n ep)) : ObjOk P w H h it (KtO d it n ep) := ⟨e, ⟨_, e⟩, fun h1 h2 q k => k _ q⟩
def rIterT (n : Nat) : List V → Hp → VK → Prop := fun xs H Q => ∃ d o kvs, xs = [.ref d] ∧ H d = some (.frz o (.dT kvs)) ∧ ∀ it es ep, H it = none → n ≤ it → o.data = .dict es ep → es.size = kvs.length → Q (.ref it) (upd H it (KtO d it kvs.length ep))
theorem call_iterT {X : Cx} : CallR X (.builtin "iter") (rIterT X.base.objs.size) := by
  intro pins s σ H xs us Q I r h
  obtain ⟨d, o, kvs, rfl, hd, q⟩ := h
  obtain rfl := Vals.ref1 r
  obtain ⟨hs, hgd, hx, es, ep, hdt, hsz, ent⟩ := I.frzT hd
  refine Calls.call_function_entry (by decide +kernel) (by decide +kernel) PySem.W.kdk_entry_iter (PySem.W.kdk_args_iter _) ?_
  unfold Builtin.«iter»
  refine wpAny_bind (m := someArgs "iter" 1 2 _) (wpAny_of_eq (a := [Value.ref d]) (by first | rfl | kernel_rfl!) ?_)
  show wpAny _ _ (pyIter (.ref d) >>= _) _ _ _
  refine wpAny_bind (iter_keys hs hgd hx hdt ?_)
  rw [hsz]
  refine wpAny_pure ⟨_, rfl, ?_⟩
  exact ⟨.ref s.heap.objs.size, _, I.laid (t' := s.toks) (fun b u e => Heap.get?_push_of_some _ e) (Nat.le_refl _) (ktO_ok (n := kvs.length) (ep := ep) (d := d) (Heap.get?_push_size _ rfl)), rfl, q _ es ep (I.hok.fresh (Nat.le_refl _)) (Nat.le_trans I.ok.bsz I.sz) hdt hsz⟩
/-- what __iter__ promises: an iterator over the dict in the field -/
def spIterT (C : Addr) (fld : Str) (n : Nat) : Sp := fun vs H Q _ => ∃ a dx fs d o kvs, vs = [.ref a] ∧ H a = some (.ins C dx fs) ∧ fs.lookup fld = some (.ref d) ∧ H d = some (.frz o (.dT kvs)) ∧ ∀ it es ep, H it = none → n ≤ it → o.data = .dict es ep → es.size = kvs.length → Q (.ref it) (upd H it (KtO d it kvs.length ep))
structure IterT (P : Program) (w : World) (K : PySem.W.Frag) (mg : Str → Option Value) (C : Addr) (fld : Str) : Prop where
  ex : ∃ (f : Addr) (fd : FuncData), (∀ base, FnOk P w K mg base (L2N.CX P w) 1 f fd ["self"] (spIterT C fld base.objs.size)) ∧ Meth K C "__iter__" f ∧ Binds K fd ["self"] []
section
variable {X : Cx} {G0 : Hp} {e e2 a b c it elt kx vx o : Expr} {es rest : List Expr} {sts : List Stmt} {δ : List (Option D)} {μ : Mu} {Φ : DK} {pos apos : Pos} {K : PySem.W.Frag} {H G : Hp} {Q : VK} {E : DEnds} {d x y r : D} {Θ : Bool → Mu → Prop} {C : Addr} {fs gs : List (Str × D)} {f m fld : Str} {sp : DSp} {j k : Nat}
/-- a def run under a base that reaches as far as the entry -/
theorem run_pad {CX : CXT} {A : Around} {f : Addr} {fd : FuncData} {ps : List Str} {sp : Sp} {pins : List (Addr × Obj)} {σ : L2.St} {s : Shared} {us : List Value} {vs : List V} {E : XK} (F : FnOk X.prog X.w X.K X.mg (padH X.base X.s_0.heap.objs.size) CX k f fd ps sp) (hr : Room k A) (hfr : A.frames = X.A.frames) (hb : Binds X.K fd ps []) (hx : PassesAt CX X σ E)
    (I : Inv X pins σ H s) (r : Vals vs us) (h : sp vs H Q E) : wpAny (model X.prog X.w) A (call (.ref f) us) (EP X pins σ Q) X.xe s := by
  have hl : us.length = ps.length := by rw [← r.length]; exact F.len _ _ _ _ h
  have b := hb s us I.kIn (by rw [List.append_nil]; exact hl)
  rw [List.append_nil] at b
  have e0 : Env0 X.prog X.w X.K X.mg (padH X.base X.s_0.heap.objs.size) A X.stack s H := by
    have e := I.env0
    exact ⟨by rw [hfr]; exact e.frames, mod_pad e.mod, fun b o q => e.bs b o ((pad_get _ _ b).symm.trans q), by rw [pad_size I.ok.bsz]; exact I.sz, funs_pad e.funs, e.frf, e.hok, e.bare⟩
  refine wpAny_call (codeAny_mono (F.run A X.stack s H ⟨us, []⟩ us vs Q E hr e0 b r h) fun r s' hq => ?_)
  cases r with
  | error e => exact hx pins H s e s' I hq
  | ok fl =>
    cases fl with
    | ret u => exact I.after hq
    | next => exact False.elim hq
    | brk => exact False.elim hq
    | cont => exact False.elim hq
def iOwnK (C : Addr) (fld : Str) (td : TE) : TI := fun σ H R => td σ H fun x H1 => ∃ a dx fs d o kvs, x = .ref a ∧ H1 a = some (.ins C dx fs) ∧ fs.lookup fld = some (.ref d) ∧ H1 d = some (.frz o (.dT kvs)) ∧ R (Itkt d o kvs) H1
theorem pi_ownK {tg e : Expr} {td : TE} (T : IterT X.prog X.w X.K X.mg C fld) (hr : Room 1 X.A) (he : PE X e td) : PI X tg e (iOwnK C fld td) := by
  refine ⟨fun pins s σ H R I h => ?_⟩
  refine thn (he.run pins s σ H _ I h) fun u s1 ⟨x, H1, I1, rx, a, dx, fs, d, o, kvs, ex, ha, hl, hd, q⟩ => ?_
  subst ex
  obtain rfl : u = Value.ref a := rx
  obtain ⟨f, fd, F, M, hb⟩ := T.ex
  obtain ⟨mA, J, _⟩ := ins_get I1.hok ha
  obtain ⟨od, J, _⟩ := J.look
  obtain ⟨m, hF⟩ := I1.fr
  refine PySem.W.owit_iter hF I1.ok.mod.kin J M.at_ M.fn ?_
  refine thn (run_pad (F (padH X.base X.s_0.heap.objs.size)) hr rfl hb passNS I1 (.cons (relR a) .nil) (Q := fun v H2 => ∃ it es ep, v = .ref it ∧ H1 it = none ∧ X.s_0.heap.objs.size ≤ it ∧ o.data = .dict es ep ∧ H2 = upd H1 it (KtO d it kvs.length ep))
    ⟨a, dx, fs, d, o, kvs, rfl, ha, hl, hd, fun it es ep h1 h2 h3 h4 => ⟨it, es, ep, rfl, h1, by rw [pad_size I1.ok.bsz] at h2; exact h2, h3, rfl⟩⟩) fun r s2 h2 => ?_
  obtain ⟨v, H2, I2, rv, it, es, ep, rfl, hn, hle, hod, rfl⟩ := h2
  obtain rfl : r = Value.ref it := rv
  have hget : s2.heap.get? it = some (KtB d kvs.length ep) := (I2.hok it _ upd_same).1
  have hT : s2.TypeIs (.ref it) "dict_keyiterator" := ⟨_, hget, rfl⟩
  unfold PySem.W.OwitIt
  refine wpAny_specialOf (name := Str.ofString "__next__") hT PySem.F.slot_dict_keyiterator_next.lookup ?_
  have I3 := ItX.inv_drop I2 upd_same
  have hfp := ItX.inv_fp I2 upd_same hle
  rw [ItX.dropH_upd hn] at I3 hfp
  refine ⟨it, [it], _, _, H1, rfl, I3, turn_keysT it hod, ⟨_, hget, rfl, rfl⟩, fun b hb => ?_, q⟩
  have e : b = it := by simpa using hb
  subst e
  exact hfp
end
end DL

namespace DL
open PySem PySem.Spec PyProof.Rows L2
/-! ### comprehensions and loops over an object whose __iter__ walks a dict of its own -/
section
variable {X : Cx} {G0 : Hp} {e e2 a b c it elt kx vx o : Expr} {es rest : List Expr} {sts body : List Stmt} {δ : List (Option D)} {μ : Mu} {Φ : DK} {pos apos : Pos} {tg : Expr} {K : PySem.W.Frag} {H G : Hp} {Q : VK} {E : DEnds} {d x y r : D} {Θ : Bool → Mu → Prop} {C : Addr} {fs gs : List (Str × D)} {f m fld : Str} {sp : DSp} {k : Nat}
/-- [e for x in o] -/
theorem d_lcO {x : Str} {scope : Scope} {tp cp : Pos} {own : List (Str × Nat)} {vs : List Nat} (j : Nat) (T : IterT X.prog X.w X.K X.mg C fld)
    (h : dE X G0 it δ μ fun d μ1 => ∃ (fs : List (Str × D)) (kvs : List (List Key × D)) (Pv : Nat → List D → Mu → Prop), OAt μ1 d C fs ∧ fs.lookup fld = some (.dct kvs) ∧ Pv 0 [] μ1 ∧ (∀ (i : Nat) k r acc μ2 p, kvs[i]? = some (k, r) → Pv i acc μ2 → μ2 p = none → LcTurn X scope elt p acc ((wipeD δ vs).set j (some (keyT k))) μ2 (Pv (i + 1))) ∧ ∀ acc μ2 p, Pv kvs.length acc μ2 → μ2 p = none → Φ (.ref p) (updM μ2 p (.lst acc)))
    (hb : blkC X.N X.env.scope scope own = true := by kernel_rfl) (hj : j ∈ vs := by decide) (hv : own.map (·.2) = vs := by rfl) (hN : X.N.Nodup := by assumption) (hc : X.calm = true := by rfl)
    (hi : X.N[j]? = some x := by rfl) (hx : ∀ s H C cl fp, Loc (BX X scope s H C cl fp).env.scope x := by first | exact fun _ _ _ _ _ => Or.inl rfl | exact fun _ _ _ _ _ => Or.inr rfl) (hf : ∀ s H C cl fp, (BX X scope s H C cl fp).fn x = true ∨ (BX X scope s H C cl fp).env.scope.names.lookup x = some .local := by first | exact fun _ _ _ _ _ => .inr rfl | exact fun _ _ _ _ _ => .inl rfl)
    (hs : ∀ x, foldedSetIterable it X.env x = pure x := by intro _; rfl) (hr : Room k X.A := by assumption) (hk : 1 ≤ k := by decide) : dE X G0 (.ListComp elt [⟨.Name x tp, it, [], 0⟩] scope cp) δ μ Φ := fun σ H B Q kq => by
  refine wE_of (pe_lc hc hN (pi_ownK T (hr.mono hk) pe_w) (blkOk_by hb) (fun s H C cl fp => pg_name (i := j) hN hi (hx s H C cl fp) (hf s H C cl fp)) (fun _ _ _ _ _ => pts_nil) (fun s H C cl fp => (⟨fun pins s' σ' H' Q' I q => q s H C cl fp pins s' I⟩ : PE _ _ (wEs X scope elt))) hs) ?_
  rw [hv]
  refine h σ H B _ fun v H1 d μ1 q m1 e1 r1 => ?_
  obtain ⟨fs, kvs, Pv, hoa, hl, p0, turn, fin⟩ := q
  have B1 := (B.step m1 e1).wipe vs
  obtain ⟨ao, dx, vs', rfl, hia, ria⟩ := oat_ins r1 m1 hoa
  obtain ⟨w, hw, rw'⟩ := ria.lookup hl
  obtain ⟨a, o, ws, rfl, ha, ra, stay⟩ := dwalk_at (St := fun μ2 => ∃ i acc, Pv i acc μ2) rw' m1 (.inl rfl)
  refine ⟨ao, dx, vs', a, o, ws, rfl, hia, hw, ha, fun D hD => ?_⟩
  have hi0 : Im (updM μ1 D (.lst [])) (upd H1 D (.lst [])) = Im μ1 H1 := im_new hD
  have B2 : Bd X.K (Im μ1 H1) (wipeD δ vs) (updM μ1 D (.lst [])) (L2.wipe σ vs) (upd H1 D (.lst [])) := B1.rebase.step (m1.upd hi0 .nil) (by rw [hi0]; exact Sub.refl _)
  refine lc_it walk_keysT (fun i H' => ∃ acc μ2, Pv i acc μ2 ∧ μ2 D = none ∧ Bd X.K (Im μ1 H1) (wipeD δ vs) (updM μ2 D (.lst acc)) (L2.wipe σ vs) H') ⟨[], μ1, p0, mu_free m1 hD, B2⟩ (fun i H' _ ⟨acc, μ2, hP, _, B'⟩ => stay μ2 D _ H' ⟨i, acc, hP⟩ hD B'.mu B'.base) (fun i y H' H'' hlt ⟨acc, μ2, hP, hp2, B'⟩ hy => ?_) (fun H' ⟨acc, μ2, hP, hp2, B'⟩ => ?_)
  · obtain ⟨rfl, k', v', q', hw, rfl, hq⟩ := hy
    obtain ⟨r, hkr⟩ := key_at ra.keys hw
    refine ⟨by rw [wipe_set hj, wipe_wipe], ?_⟩
    exact lc_turn (B'.set (rp_key B'.mu hq)) B' (turn i k' r acc μ2 D hkr hP hp2)
  · rw [ra.length] at hP
    exact lc_end (kq.after e1) hp2 (fin acc μ2 D hP hp2) B'
/-- {k: v for x in o} -/
theorem d_dcO {x : Str} {scope : Scope} {tp cp : Pos} {own : List (Str × Nat)} {vs : List Nat} (j : Nat) (T : IterT X.prog X.w X.K X.mg C fld) (hu : X.A.units + 64 < cLine)
    (h : dE X G0 it δ μ fun d μ1 => ∃ (fs : List (Str × D)) (kvs : List (List Key × D)) (Pv : Nat → List (List Key × D) → Mu → Prop), OAt μ1 d C fs ∧ fs.lookup fld = some (.dct kvs) ∧ Pv 0 [] μ1 ∧ (∀ (i : Nat) k r acc μ2 p, kvs[i]? = some (k, r) → Pv i acc μ2 → μ2 p = none → DcTurn X scope kx vx p acc ((wipeD δ vs).set j (some (keyT k))) μ2 (Pv (i + 1))) ∧ ∀ acc μ2 p, Pv kvs.length acc μ2 → μ2 p = none → Φ (.ref p) (updM μ2 p (.dct acc)))
    (hb : blkC X.N X.env.scope scope own = true := by kernel_rfl) (hj : j ∈ vs := by decide) (hv : own.map (·.2) = vs := by rfl) (hN : X.N.Nodup := by assumption) (hc : X.calm = true := by rfl)
    (hi : X.N[j]? = some x := by rfl) (hx : ∀ s H C cl fp, Loc (BX X scope s H C cl fp).env.scope x := by first | exact fun _ _ _ _ _ => Or.inl rfl | exact fun _ _ _ _ _ => Or.inr rfl) (hf : ∀ s H C cl fp, (BX X scope s H C cl fp).fn x = true ∨ (BX X scope s H C cl fp).env.scope.names.lookup x = some .local := by first | exact fun _ _ _ _ _ => .inr rfl | exact fun _ _ _ _ _ => .inl rfl)
    (hs : ∀ x, foldedSetIterable it X.env x = pure x := by intro _; rfl) (hr : Room k X.A := by assumption) (hk : 1 ≤ k := by decide) : dE X G0 (.DictComp kx vx [⟨.Name x tp, it, [], 0⟩] scope cp) δ μ Φ := fun σ H B Q kq => by
  refine wE_of (GT.pe_dcT (by omega) hc hN (pi_ownK T (hr.mono hk) pe_w) (blkOk_by hb) (fun s H C cl fp => pg_name (i := j) hN hi (hx s H C cl fp) (hf s H C cl fp)) (fun s H C cl fp => (⟨fun pins s' σ' H' Q' I q => q s H C cl fp pins s' I⟩ : PE _ _ (wEs X scope kx))) (fun s H C cl fp => (⟨fun pins s' σ' H' Q' I q => q s H C cl fp pins s' I⟩ : PE _ _ (wEs X scope vx))) hs) ?_
  rw [hv]
  refine h σ H B _ fun v H1 d μ1 q m1 e1 r1 => ?_
  obtain ⟨fs, kvs, Pv, hoa, hl, p0, turn, fin⟩ := q
  have B1 := (B.step m1 e1).wipe vs
  obtain ⟨ao, dx, vs', rfl, hia, ria⟩ := oat_ins r1 m1 hoa
  obtain ⟨w, hw, rw'⟩ := ria.lookup hl
  obtain ⟨a, o, ws, rfl, ha, ra, stay⟩ := dwalk_at (St := fun μ2 => ∃ i acc, Pv i acc μ2) rw' m1 (.inl rfl)
  refine ⟨ao, dx, vs', a, o, ws, rfl, hia, hw, ha, fun p hp => ?_⟩
  have hi0 : Im (updM μ1 p (.dct [])) (upd H1 p (.dT [])) = Im μ1 H1 := im_new hp
  have B2 : Bd X.K (Im μ1 H1) (wipeD δ vs) (updM μ1 p (.dct [])) (L2.wipe σ vs) (upd H1 p (.dT [])) := B1.rebase.step (m1.upd hi0 .nil) (by rw [hi0]; exact Sub.refl _)
  refine dc_it walk_keysT (fun i H' => ∃ acc μ2, Pv i acc μ2 ∧ μ2 p = none ∧ Bd X.K (Im μ1 H1) (wipeD δ vs) (updM μ2 p (.dct acc)) (L2.wipe σ vs) H') ⟨[], μ1, p0, mu_free m1 hp, B2⟩ (fun i H' _ ⟨acc, μ2, hP, _, B'⟩ => stay μ2 p _ H' ⟨i, acc, hP⟩ hp B'.mu B'.base) (fun i y H' H'' hlt ⟨acc, μ2, hP, hp2, B'⟩ hy => ?_) (fun H' ⟨acc, μ2, hP, hp2, B'⟩ => ?_)
  · obtain ⟨rfl, k', v', q', hw, rfl, hq⟩ := hy
    obtain ⟨r, hkr⟩ := key_at ra.keys hw
    refine ⟨by rw [wipe_set hj, wipe_wipe], ?_⟩
    exact dc_turn (B'.set (rp_key B'.mu hq)) B' (turn i k' r acc μ2 p hkr hP hp2)
  · rw [ra.length] at hP
    exact dc_end (kq.after e1) hp2 (fin acc μ2 p hP hp2) B'
/-- for x in o -/
theorem s_forO (T : IterT X.prog X.w X.K X.mg C fld) (h : dE X G0 it δ μ fun d μ1 => ∃ (fs : List (Str × D)) (kvs : List (List Key × D)) (Pv : Nat → List (Option D) → Mu → Prop), OAt μ1 d C fs ∧ fs.lookup fld = some (.dct kvs) ∧ Pv 0 δ μ1 ∧
      (∀ (i : Nat) kk r δ' μ', kvs[i]? = some (kk, r) → Pv i δ' μ' → dTg X tg (keyT kk) δ' fun δ2 => ∀ G1, Sub G0 G1 → dSs X G1 body δ2 μ' { E with nx := Pv (i + 1), ct := Pv (i + 1), bk := E.nx }) ∧ ∀ δ' μ', Pv kvs.length δ' μ' → E.nx δ' μ')
    (hp : PassesOwn (model X.prog X.w) X.A X.env X.xe := by assumption) (hc : X.calm = true := by rfl) (hs : ∀ x, foldedSetIterable it X.env x = pure x := by intro _; rfl) (hr : Room k X.A := by assumption) (hk : 1 ≤ k := by decide) : dS X G0 (.For tg it body [] pos) δ μ E := fun σ H B => by
  refine wS_of (ps_for hp hc (pi_ownK T (hr.mono hk) pe_w) pg_w pss_w hs) ?_
  refine h.go B fun v H1 d μ1 ⟨fs, kvs, Pv, hoa, hl, p0, turn, fin⟩ m1 e1 r1 => ?_
  obtain ⟨ao, dx, vs', rfl, hia, ria⟩ := oat_ins r1 m1 hoa
  obtain ⟨w, hw, rw'⟩ := ria.lookup hl
  cases rw' with
  | dct hG ra =>
  rename_i a o ws
  have B1 := B.step m1 e1
  refine ⟨ao, dx, vs', a, _, _, rfl, hia, hw, im_all _ _ hG, for_it walk_keysT (fun i σ' H' => ∃ δ' μ', Pv i δ' μ' ∧ Bd X.K (Im μ1 H1) δ' μ' σ' H') ⟨δ, μ1, p0, B1.rebase⟩ (fun i σ' H' _ ⟨δ', μ', _, B'⟩ => im_all _ _ (B'.base _ _ hG)) (fun i x σ' H' H'' hlt ⟨δ', μ', hP, B'⟩ hy => ?_) (fun σ' H' ⟨δ', μ', hP, B'⟩ => ?_)⟩
  · obtain ⟨rfl, k', v', q', hw', rfl, hq⟩ := hy
    obtain ⟨r, hkr⟩ := key_at ra.keys hw'
    refine turn i k' r δ' μ' hkr hP (Im μ1 H1) μ' σ' _ _ B' (rp_key B'.mu hq) _ fun δ2 σ2 q B2 => ?_
    refine wSs_mono ?_ (q (Im μ1 H1) B1.base σ2 _ B2)
    exact ⟨fun _ _ q => q, fun v H ⟨d, μ, q, m, e, r⟩ => ⟨d, μ, q, m, B1.base.trans e, r⟩, fun _ _ ⟨δ, μ, q, B⟩ => ⟨δ, μ, q, B.weaken B1.base⟩, fun _ _ q => q⟩
  · rw [ra.length] at hP
    exact ⟨δ', μ', fin δ' μ' hP, B'.weaken B1.base⟩
theorem d_lcOp {x : Str} {scope : Scope} {tp cp : Pos} {own : List (Str × Nat)} {vs : List Nat} (j : Nat) (T : IterT X.prog X.w X.K X.mg C fld) (f : List Key → D)
    (h : dE X G0 it δ μ fun d μ1 => ∃ fs kvs, (OAt μ1 d C fs ∧ fs.lookup fld = some (.dct kvs)) ∧ kvs.length ≤ sizeLine ∧ (∀ k r, (k, r) ∈ kvs → ∀ p acc, μ1 p = none → Gives X scope elt ((wipeD δ vs).set j (some (keyT k))) (updM μ1 p acc) (f k)) ∧ Φ (.lst (kvs.map fun kv => f kv.1)) μ1)
    (hb : blkC X.N X.env.scope scope own = true := by kernel_rfl) (hj : j ∈ vs := by decide) (hv : own.map (·.2) = vs := by rfl) (hN : X.N.Nodup := by assumption) (hc : X.calm = true := by rfl)
    (hi : X.N[j]? = some x := by rfl) (hx : ∀ s H C cl fp, Loc (BX X scope s H C cl fp).env.scope x := by first | exact fun _ _ _ _ _ => Or.inl rfl | exact fun _ _ _ _ _ => Or.inr rfl) (hf : ∀ s H C cl fp, (BX X scope s H C cl fp).fn x = true ∨ (BX X scope s H C cl fp).env.scope.names.lookup x = some .local := by first | exact fun _ _ _ _ _ => .inr rfl | exact fun _ _ _ _ _ => .inl rfl)
    (hs : ∀ x, foldedSetIterable it X.env x = pure x := by intro _; rfl) (hr : Room k X.A := by assumption) (hk : 1 ≤ k := by decide) : dE X G0 (.ListComp elt [⟨.Name x tp, it, [], 0⟩] scope cp) δ μ Φ := by
  refine d_fz (d_lcO j T (h.imp fun d μ1 ⟨fs, kvs, ed, hl, hg, q⟩ => ⟨fs, kvs, fun i acc μ2 => acc = (kvs.take i).map (fun kv => f kv.1) ∧ μ2 = μ1, ed.1, ed.2, ⟨by rw [List.take_zero]; rfl, rfl⟩, ?_, ?_⟩) hb hj hv hN hc hi hx hf hs hr hk)
  · rintro i k r acc μ2 p hd ⟨rfl, rfl⟩ hp
    have hi' := (List.getElem?_eq_some_iff.mp hd).1
    refine ⟨by rw [List.length_map, List.length_take]; omega, fun G1 s H0 C cl fp => (hg k r (List.mem_of_getElem? hd) p _ hp G1 s H0 C cl fp).imp fun r' μ3 ⟨e1, e2⟩ => ?_⟩
    subst e1 e2
    exact ⟨_, rfl, hp, take_snoc (f := fun kv : List Key × D => f kv.1) hd, rfl⟩
  · rintro acc μ2 p ⟨rfl, rfl⟩ hp
    rw [List.take_length]
    exact fz_ref hp q
theorem d_dcOp {x : Str} {scope : Scope} {tp cp : Pos} {own : List (Str × Nat)} {vs : List Nat} (j : Nat) (T : IterT X.prog X.w X.K X.mg C fld) (hu : X.A.units + 64 < cLine) (f : List Key → D)
    (h : dE X G0 it δ μ fun d μ1 => ∃ fs kvs, (OAt μ1 d C fs ∧ fs.lookup fld = some (.dct kvs)) ∧ kvs.length ≤ sizeLine ∧ (kvs.map (·.1)).Nodup ∧ (∀ k r, (k, r) ∈ kvs → ∀ p acc, μ1 p = none → Gives X scope kx ((wipeD δ vs).set j (some (keyT k))) (updM μ1 p acc) (keyT k) ∧ Gives X scope vx ((wipeD δ vs).set j (some (keyT k))) (updM μ1 p acc) (f k)) ∧ ∀ p, μ1 p = none → Φ (.ref p) (updM μ1 p (.dct (kvs.map fun kv => (kv.1, f kv.1)))))
    (hb : blkC X.N X.env.scope scope own = true := by kernel_rfl) (hj : j ∈ vs := by decide) (hv : own.map (·.2) = vs := by rfl) (hN : X.N.Nodup := by assumption) (hc : X.calm = true := by rfl)
    (hi : X.N[j]? = some x := by rfl) (hx : ∀ s H C cl fp, Loc (BX X scope s H C cl fp).env.scope x := by first | exact fun _ _ _ _ _ => Or.inl rfl | exact fun _ _ _ _ _ => Or.inr rfl) (hf : ∀ s H C cl fp, (BX X scope s H C cl fp).fn x = true ∨ (BX X scope s H C cl fp).env.scope.names.lookup x = some .local := by first | exact fun _ _ _ _ _ => .inr rfl | exact fun _ _ _ _ _ => .inl rfl)
    (hs : ∀ x, foldedSetIterable it X.env x = pure x := by intro _; rfl) (hr : Room k X.A := by assumption) (hk : 1 ≤ k := by decide) : dE X G0 (.DictComp kx vx [⟨.Name x tp, it, [], 0⟩] scope cp) δ μ Φ := by
  refine d_dcO j T hu (h.imp fun d μ1 ⟨fs, kvs, ed, hl, hn, hg, q⟩ => ⟨fs, kvs, fun i acc μ2 => acc = (kvs.take i).map (fun kv => (kv.1, f kv.1)) ∧ μ2 = μ1, ed.1, ed.2, ⟨by rw [List.take_zero]; rfl, rfl⟩, ?_, ?_⟩) hb hj hv hN hc hi hx hf hs hr hk
  · rintro i k r acc μ2 p hd ⟨rfl, rfl⟩ hp
    have hi' := (List.getElem?_eq_some_iff.mp hd).1
    obtain ⟨g1, g2⟩ := hg k r (List.mem_of_getElem? hd) p (.dct ((kvs.take i).map (fun kv => (kv.1, f kv.1)))) hp
    refine ⟨by rw [List.length_map, List.length_take]; omega, fun G1 s H0 C cl fp => (g1 G1 s H0 C cl fp).imp fun r μ3 ⟨e1, e2⟩ => ⟨k, e1, ?_⟩⟩
    subst e2
    refine fun G1 s H0 C cl fp => (g2 G1 s H0 C cl fp).imp fun r μ3 ⟨e1, e2⟩ => ?_
    subst e1 e2
    refine ⟨_, rfl, hp, ?_, rfl⟩
    rw [putD_new, take_snoc (f := fun kv : List Key × D => (kv.1, f kv.1)) hd]
    rw [List.map_map]
    exact nodup_take (f := fun kv : List Key × D => kv.1) hn hd
  · rintro acc μ2 p ⟨rfl, rfl⟩ hp
    rw [List.take_length]
    exact q p hp
end
end DL

namespace DL
open PySem PySem.Spec PyProof.Rows L2
section
variable {X : Cx} {G0 : Hp} {e e2 a b c it elt kx vx o : Expr} {es rest : List Expr} {sts body : List Stmt} {δ : List (Option D)} {μ : Mu} {Φ : DK} {pos apos cpos : Pos} {tg : Expr} {K : PySem.W.Frag} {H G : Hp} {Q : VK} {E : DEnds} {d x y r : D} {Θ : Bool → Mu → Prop} {C : Addr} {fs gs : List (Str × D)} {f m fld : Str} {sp : DSp} {j k : Nat} {xs : List D} {kvs : List (List Key × D)}
theorem RpAll.reverse {G : Hp} : ∀ {vs : List V} {ds : List D}, RpAll K G vs ds → RpAll K G vs.reverse ds.reverse
  | _, _, .nil => .nil
  | _, _, .cons r t => by
    rw [List.reverse_cons, List.reverse_cons]
    exact (RpAll.reverse t).append (.cons r .nil)
/-- a test that is false and changes nothing -/
def Fails (X : Cx) (scope : Scope) (c : Expr) (δ : List (Option D)) (μ : Mu) : Prop := dTs X scope c δ μ fun k μ3 => k = false ∧ μ3 = μ
/-- [e for x in l if c], nothing passes -/
theorem d_lcL0 {x : Str} {scope : Scope} {tp cp : Pos} {own : List (Str × Nat)} {vs : List Nat} (j : Nat)
    (h : dE X G0 it δ μ fun d μ1 => ∃ ds, d = .lst ds ∧ (∀ d ∈ ds, ∀ p acc, μ1 p = none → Fails X scope c ((wipeD δ vs).set j (some d)) (updM μ1 p acc)) ∧ Φ (.lst []) μ1)
    (hb : blkC X.N X.env.scope scope own = true := by kernel_rfl) (hj : j ∈ vs := by decide) (hv : own.map (·.2) = vs := by rfl) (hN : X.N.Nodup := by assumption) (hc : X.calm = true := by rfl)
    (hi : X.N[j]? = some x := by rfl) (hx : ∀ s H C cl fp, Loc (BX X scope s H C cl fp).env.scope x := by first | exact fun _ _ _ _ _ => Or.inl rfl | exact fun _ _ _ _ _ => Or.inr rfl) (hf : ∀ s H C cl fp, (BX X scope s H C cl fp).fn x = true ∨ (BX X scope s H C cl fp).env.scope.names.lookup x = some .local := by first | exact fun _ _ _ _ _ => .inr rfl | exact fun _ _ _ _ _ => .inl rfl)
    (hs : ∀ x, foldedSetIterable it X.env x = pure x := by intro _; rfl) : dE X G0 (.ListComp elt [⟨.Name x tp, it, [c], 0⟩] scope cp) δ μ Φ := by
  refine d_fz (d_lcLI j (h.imp fun d μ1 ⟨ds, ed, hg, q⟩ => ⟨ds, ed, fun i acc μ2 => acc = [] ∧ μ2 = μ1, ⟨rfl, rfl⟩, ?_, ?_⟩) hb hj hv hN hc hi hx hf hs)
  · rintro i d acc μ2 p hd ⟨rfl, rfl⟩ hp
    refine ⟨by show 0 < sizeLine; decide, fun G1 s H0 C cl fp σ H B Q kk => hg d (List.mem_of_getElem? hd) p _ hp G1 s H0 C cl fp σ H B Q fun b H3 μ3 ⟨e1, e2⟩ m3 e3 => kk b H3 μ3 ?_ m3 e3⟩
    subst e1 e2
    exact ⟨_, rfl, hp, fun _ => ⟨rfl, rfl⟩, fun z => by cases z⟩
  · rintro acc μ2 p ⟨rfl, rfl⟩ hp
    exact fz_ref hp q
/-- l[::-1] -/
theorem d_revL {kk : Nat} {p1 p2 p3 : Pos} (h : dE X G0 e δ μ fun d μ1 => ∃ xs, d = .lst xs ∧ Φ (.lst xs.reverse) μ1) : dE X G0 (.Subscript e (.Slice none none (some (.UnaryOp .USub (.Constant (.int 1) kk p1) p2)) p3) pos) δ μ Φ := fun σ H B Q k => by
  refine wE_of (pe_revL pe_w) ?_
  refine h.go B fun v H1 d μ1 ⟨xs, ed, q⟩ m1 e1 r1 => ?_
  subst ed
  obtain ⟨a, ws, rfl, ha, ra⟩ := rp_lst_at r1
  refine ⟨a, ws, rfl, SqL.of ha, fun p hp => (k.after e1).new m1 hp q (rp_lst m1 hp ra.reverse)⟩
/-- list(d) -/
theorem keys_rp (m : MuOk K μ H) : ∀ {ws : List (List Key × V)} {ds : List (List Key × D)} {bs : List Addr}, IsKeys H ws bs → ws.map (·.1) = ds.map (·.1) → RpAll K (Im μ H) (bs.map V.ref) (ds.map fun kv => keyT kv.1)
  | _, [], _, .nil, _ => .nil
  | _, _ :: _, _, .cons h t, e => by
    injection e with e1 e2
    refine .cons ?_ (keys_rp m t e2)
    have e3 := rp_key m h
    have e1' : _ = _ := e1
    dsimp only at e1'
    rw [e1'] at e3
    exact e3
theorem c_listDct (q : Φ (.lst (kvs.map fun kv => keyT kv.1)) μ) (hc : X.calm = true := by rfl) : dCall X (.type "list") [.dct kvs] μ Φ := fun vs H r m Q k => by
  obtain ⟨v, rfl, rv⟩ := rp1 r
  obtain ⟨a, ws, rfl, h1, h2⟩ := dat_rd rv m (.inl rfl)
  refine wCall_of (call_list_dT hc) ⟨a, ws, rfl, h1, fun p bs hp hk => k.new m hp q (rp_lst m hp (keys_rp m hk h2.keys))⟩
/-- d.clear() -/
def rClrT : V → List V → Hp → VK → Prop := fun x vs H Q => ∃ (a : Addr) (kvs : List (List Key × V)), x = .ref a ∧ vs = [] ∧ H a = some (.dT kvs) ∧ Q .non (upd H a (.dT []))
theorem mtd_clearT : MtR X "dict.clear" rClrT := by
  intro pins s σ H x vs v us Q I rx rv h
  obtain ⟨a, kvs, ex, ev, e, q⟩ := h
  subst ex
  subst ev
  obtain rfl : v = Value.ref a := rx
  have hus := rv.zero
  subst hus
  obtain ⟨z, hd, xs, pr, o, es, ep, ho, hx, hdt, he, hn⟩ := (show ObjOk X.prog X.w H s.heap a (.dT kvs) from I.hok a _ e)
  have hr : s.heap.DictRaw a es ep := ⟨o, ho, hx, hdt⟩
  have hes : es.size ≤ sizeLine := by rw [size_of_entries he, ← Paired.length pr]; exact z
  refine call_meetsIn PySem.F.slot_dict_clear hr.typeIs PySem.F.entry_dict_clear (PySem.F.args_dict_clear_1 _) (PySem.meets_dict_clear_raw a) ⟨es, ep, hr, hes, fun h' dd' hs => ?_⟩
  obtain ⟨o', ho', hx', hdt'⟩ := dd'
  have new : ObjOk X.prog X.w (upd H a (.dT [])) h' a (.dT []) := ⟨Nat.zero_le _, hd, [], .nil, o', #[], ep + 1, ho', hx', hdt', rfl, List.nodup_nil⟩
  exact ⟨.non, _, d_write (t' := s.toks) I (by rw [e]; exact True.intro) hs ⟨_, ho'⟩ new, rfl, q⟩
theorem d_clear0 (h : dE X G0 o δ μ fun d μ1 => ∃ p kvs, d = .ref p ∧ μ1 p = some (.dct kvs) ∧ Φ .non (updM μ1 p (.dct []))) (hbase : attributeBase o "clear" X.env (eval o X.env) = eval o X.env := by rfl) (hline : (apos.endLine == cpos.line) = true := by rfl) : dE X G0 (.Call (.Attribute o "clear" apos) [] [] cpos) δ μ Φ := fun σ H B Q k => by
  refine wE_of (pe_bm0 PySem.F.plainAttrs_dict PySem.F.slot_dict_clear PySem.F.type_dict_clear mtd_clearT pe_w hbase hline) ?_
  refine h.go B fun v H1 d μ1 ⟨p, kvs, ed, hp, q⟩ m1 e1 r1 => ?_
  subst ed
  cases rp_ref r1
  obtain ⟨ws, ha, ra⟩ := m1.dct hp
  refine ⟨.inr (.inr (.inl ⟨rfl, .inr ⟨ws, ha⟩⟩)), p, ws, rfl, rfl, ha, ?_⟩
  have hi : Im (updM μ1 p (.dct [])) (upd H1 p (.dT [])) = Im μ1 H1 := im_upd (by rw [hp]; rfl)
  exact k _ _ _ _ q (m1.upd hi .nil) (by rw [hi]; exact e1) .non
/-- isinstance(x, C), x of another kind -/
theorem c_isiN (hk : PySem.W.kitOne X.K (.type "NoneType") (.ref C) = some false) (q : Φ (.bl false) μ) : dCall X (.builtin "isinstance") [.non, .ref C] μ Φ := fun vs H r0 m Q k2 => by
  obtain ⟨v, u, rfl, a, b⟩ := rp2 r0
  cases rp_ref b
  cases a
  exact wCall_of call_isi ⟨.non, .ref C, .type "NoneType", .ref C, false, rfl, .own C, ty_rp (μ := μ) (d := .non) (.non) rfl, hk, k2.val m q (.bl _)⟩
theorem c_isiDO (hd : DAt μ x kvs) (hk : PySem.W.kitOne X.K (.type "dict") (.ref C) = some false) (q : Φ (.bl false) μ) : dCall X (.builtin "isinstance") [x, .ref C] μ Φ := fun vs H r0 m Q k2 => by
  obtain ⟨v, u, rfl, a, b⟩ := rp2 r0
  cases rp_ref b
  obtain ⟨p, ws, rfl, h1, h2⟩ := dat_rd a m hd
  exact wCall_of isi_dct ⟨p, .ref C, .ref C, ws, false, rfl, .own C, h1, hk, k2.val m q (.bl _)⟩
/-- x == y, y of another kind -/
theorem own_eqO {σ : L2.St} {v u : V} {v' u' tb : Value} {pins : List (Addr × Obj)} {s : Shared} (T : MCal X.prog X.w X.K X.mg X.base j C "__eq__" sp) (hn : PySem.W.notFirst X.K C tb = true) (h1 : OAt μ x C fs) (q : sp [x, y] μ Φ NoX) (hr : Room j X.A)
    (I : Inv X pins σ H s) (hb : PySem.W.Looks (model X.prog X.w) s.heap (typeOf u') tb) (r1 : Rp X.K (Im μ H) v x) (r2 : Rp X.K (Im μ H) u y) (mm : MuOk X.K μ H) (kk : KP X.K μ H Φ Q) (rv : RelV v v') (ru : RelV u u') : wpAny (model X.prog X.w) X.A (compareOp .Eq v' u') (EP X pins σ Q) X.xe s := by
  obtain ⟨f, fd, ps, F, M, hbb⟩ := T.ex
  obtain ⟨a, dx, vs, rfl, ha, ra⟩ := oat_ins r1 mm h1
  obtain rfl : v' = Value.ref a := rv
  obtain ⟨mA, J, _⟩ := ins_get I.hok ha
  obtain ⟨od, J, _⟩ := J.look
  obtain ⟨m, hF⟩ := I.fr
  refine PySem.W.cmp_K (op := .Eq) hr.units0 hF I.ok.mod.kin J hb hn M.at_ M.fn ?_
  exact thn (run_at F hr rfl hbb passNS I (.cons (relR a) (.cons ru .nil)) ⟨[x, y], μ, Φ, NoX, .cons r1 (.cons r2 .nil), mm, q, kk, noX⟩) fun _ _ h => cmp_back h
theorem o_ownEqN (T : MCal X.prog X.w X.K X.mg X.base j C "__eq__" sp) (hn : PySem.W.notFirst X.K C (.type "NoneType") = true) (h1 : OAt μ x C fs) (q : sp [x, .non] μ Φ NoX) (hr : Room k X.A := by assumption) (hj : j ≤ k := by decide) : dOp X (compareOp .Eq) x .non μ Φ := fun v u H r1 r2 mm Q kk => by
  intro pins s σ v' u' I rv ru
  cases r2
  obtain rfl : u' = Value.none := ru
  exact own_eqO (tb := .type "NoneType") T hn h1 q (hr.mono hj) I .now r1 .non mm kk rv rfl
theorem o_ownEqD (T : MCal X.prog X.w X.K X.mg X.base j C "__eq__" sp) (hn : PySem.W.notFirst X.K C (.type "dict") = true) (h1 : OAt μ x C fs) (hd : DAt μ y kvs) (q : sp [x, y] μ Φ NoX) (hr : Room k X.A := by assumption) (hj : j ≤ k := by decide) : dOp X (compareOp .Eq) x y μ Φ := fun v u H r1 r2 mm Q kk => by
  intro pins s σ v' u' I rv ru
  obtain ⟨p, ws, rfl, g1, g2⟩ := dat_rd r2 mm hd
  obtain rfl : u' = Value.ref p := ru
  obtain ⟨_, _, xs, _, dd⟩ := dt_rd I.hok g1
  obtain ⟨ob, hob, hcl⟩ := GE.typeIsH dd
  exact own_eqO (tb := .type "dict") T hn h1 q (hr.mono hj) I (hcl ▸ (PySem.W.Looks.ld hob).andThen .now) r1 r2 mm kk rv rfl
end
end DL

namespace DL
open PySem PySem.Spec PyProof.Rows L2
/-! ### try with several except clauses, named or not -/
section
variable {X : Cx} {pins : List (Addr × Obj)} {σ : L2.St} {H : Hp} {s : Shared} {a : Addr} {cls : Value} {d : Option Addr}
/-- an error has been caught, the clauses are asked -/
def Caught (X : Cx) (pins : List (Addr × Obj)) (σ : L2.St) (H : Hp) (a : Addr) (cls : Value) (d : Option Addr) (s : Shared) : Prop :=
  ∃ (B : Heap) (s0 : Shared), Inv X pins σ H s0 ∧ (∀ b o, s0.heap.get? b = some o → b ∉ frs X.stack → B.get? b = some o) ∧ s0.heap.UpToSlots s.heap ∧
    HandSPX.FlyingZ B (X.env :: X.outer) a (L2N.Zn cls d) s.heap ∧ H a = none ∧ s.os = s0.os ∧ AllBare s.gens
theorem Caught.inv (h : Caught X pins σ H a cls d s) : Inv X pins σ H s := by
  obtain ⟨B, s0, J, k1, k2, fl, _, k3, k4⟩ := h
  exact J.landed k1 fl.1 k2 k3 k4
theorem Caught.move {h' : Heap} (hc : Caught X pins σ H a cls d s) (up : s.heap.UpToSlots h') (fl : ∀ B, HandSPX.FlyingZ B (X.env :: X.outer) a (L2N.Zn cls d) s.heap → HandSPX.FlyingZ B (X.env :: X.outer) a (L2N.Zn cls d) h') : Caught X pins σ H a cls d { s with heap := h' } := by
  obtain ⟨B, s0, J, k1, k2, f0, n0, k3, k4⟩ := hc
  exact ⟨B, s0, J, k1, k2.trans up, fl B f0, n0, k3, k4⟩
/-- its object, and the state in an except suite -/
theorem Caught.obj (hf : X.env.frame = some X.env.locals) (h : Caught X pins σ H a cls d s) : ∃ oe, s.heap.get? a = some oe ∧ L2N.Zn cls d oe ∧ (∃ vs, oe.data = .fields vs) ∧ Inv (X.suite a ((a, oe) :: (X.pn ++ pins))) [] σ H s := by
  have J := h.inv
  obtain ⟨B, s0, _, _, _, fl, n0, _, _⟩ := h
  obtain ⟨oe, vs, he, hz, hd⟩ := fl.there
  have apart : a ∉ frs (X.env :: X.outer) := fun hm => by
    obtain ⟨_, o2, h2, nf⟩ := fl.2.2.1.mem hm
    rw [he] at h2
    cases h2
    exact nf _ hd
  have nL : a ≠ X.env.locals := fun z => apart (List.mem_filterMap.mpr ⟨X.env, List.mem_cons_self, by rw [hf, z]⟩)
  have nF : a ∉ X.fs := fun hm => by
    obtain ⟨e, he2, q⟩ := List.mem_filterMap.mp hm
    exact apart (List.mem_filterMap.mpr ⟨e, List.mem_cons_of_mem _ he2, q⟩)
  exact ⟨oe, he, hz, ⟨vs, hd⟩, J.suite he hd n0 nL nF⟩
/-- what a list of clauses comes to -/
def Clauses (X : Cx) (D : Ends) (hds : List ExceptHandler) (W : WX) : Prop := ∀ (pins : List (Addr × Obj)) (σ : L2.St) (H : Hp) (a : Addr) (cls : Value) (d : Option Addr) (s : Shared), Caught X pins σ H a cls d s → W cls d σ H →
  wpAny (model X.prog X.w) X.A (handleBy (.ref a) X.env hds) (SP X pins D) X.xe s
variable {D : Ends} {W Wo : WX} {hds : List ExceptHandler} {x n : Str} {c : Value} {i : Nat} {b0 : Stmt} {suite body : List Stmt} {np pos pos' : Pos} {ts : Addr → Value → Option Addr → TS}
/-- none takes it -/
theorem cl_nil (hs : X.stack = X.env :: X.outer) (hf : X.env.frame = some X.env.locals) (tk : L2N.Takes X Wo) : Clauses X D [] Wo := by
  intro pins σ H a cls d s hC w
  obtain ⟨B, s0, J, k1, k2, fl, n0, k3, k4⟩ := hC
  refine wpAny_handleBy_nil ?_
  obtain ⟨f1, f2, f3, oe, vs, tr, ot, tv, he, hz, hd, h1, hr⟩ := id fl
  unfold PySem.passOn
  refine wpAny_bind (wpAny_field he hd h1 ?_)
  rw [if_neg (show ¬ ((Value.ref tr == Value.none) = true) from by simp)]
  have last : wpAny (model X.prog X.w) X.A (setFlight (.ref a) X.env.frame) (fun _ s4 => wpAny (model X.prog X.w) X.A (throw (.ref a) : Sem Flow) (SP X pins D) X.xe s4) X.xe s := by
    rw [hf]
    refine HandSPX.setFlight_upZ fl fun h4 held up => wpAny_throw (tk _ _ ?_)
    exact ⟨a, B, s0, pins, σ, H, cls, d, rfl, J, k1, k2.trans up, .inr (.inr (by rw [hs]; exact held)), n0, k3, k4, w⟩
  first
    | exact wpAny_bind (wpAny_pure (wpAny_bind last))
    | exact wpAny_bind last
/-- one clause is asked first -/
def wFirst (K : PySem.W.Frag) (c : Value) (yes : Addr → Value → Option Addr → L2.St → Hp → Prop) (W : WX) : WX := fun cls d σ H => ∃ b, PySem.W.exmOne K cls c = some b ∧ (b = true → ∀ a, H a = none → yes a cls d σ H) ∧ (b = false → W cls d σ H)
theorem asked (hf : X.env.frame = some X.env.locals) (hc : Names X x c) {b : Bool} (hC : Caught X pins σ H a cls d s) (hb : PySem.W.exmOne X.K cls c = some b) {Q : Bool → Shared → Prop} {E1 E2 : Value → Shared → Prop} (q : Q b s) :
    wpAny (model X.prog X.w) (X.A.mark (some (.ref a))) (eval (.Name x np) X.env) (fun v s1 => wpAny (model X.prog X.w) (X.A.mark (some (.ref a))) (excMatches (.ref a) v) Q E1 s1) E2 s := by
  obtain ⟨oe, he, hz, hv, S⟩ := hC.obj hf
  have look : PySem.W.Looks (model X.prog X.w) s.heap (typeOf (.ref a)) cls := fun A Q E s k q => wpAny_typeOf_ref (k _ _ he) (by rw [hz.1]; exact q)
  have says := PySem.W.exm_one (M := model X.prog X.w) hC.inv.kIn look hb
  have fin : wpAny (model X.prog X.w) (X.A.mark (some (.ref a))) (excMatches (.ref a) c) Q E1 s := says.here q
  obtain ⟨g1, g2, g3⟩ := hc
  rcases g3 with g3 | ⟨g3, g4, g5⟩
  · exact ld_glob (X := X.suite a ((a, oe) :: (X.pn ++ pins))) S g1 g3 fin g2
  · exact ld_blt (X := X.suite a ((a, oe) :: (X.pn ++ pins))) S g1 g3 g4 fin g5 g2
/-- except X: .. -/
theorem cl_bare (hf : X.env.frame = some X.env.locals) (hc : Names X x c) (ok : X.Ok)
    (hsu : ∀ (a : Addr) (oe : Obj) (cls : Value) (d : Option Addr) (pn : List (Addr × Obj)), L2N.Zn cls d oe → (∃ vs, oe.data = .fields vs) → PSs (X.suite a ((a, oe) :: pn)) (b0 :: suite) (ts a cls d)) (r : Clauses X D hds W) :
    Clauses X D (.ExceptHandler (some (.Name x np)) none (b0 :: suite) pos' :: hds) (wFirst X.K c (fun a cls d σ H => ts a cls d D σ H) W) := by
  intro pins σ H a cls d s hC w
  obtain ⟨b, hb, hy, hn⟩ := w
  refine wpAny_handleBy_cons (codeAny_handlers_test (asked hf hc hC hb ?_)) (by intro q; cases q)
  cases b with
  | false => exact r pins σ H a cls d s hC (hn rfl)
  | true =>
    refine codeAny_handlers_suite ?_
    have hC' := hC
    obtain ⟨B, s0, J, k1, k2, fl, n0, k3, k4⟩ := hC'
    refine HandSPX.lands_againZ fl fun h4 fl4 up4 => ?_
    have hC4 : Caught X pins σ H a cls d { s with heap := h4 } := ⟨B, s0, J, k1, k2.trans up4, fl4, n0, k3, k4⟩
    obtain ⟨oe, he, hz, hv, S⟩ := hC4.obj hf
    refine wpAny_mono ((hsu a oe cls d (X.pn ++ pins) hz hv).run [] _ σ H _ S (hy rfl a n0)) (fun f s6 hsp => ?_) (fun _ _ z => False.elim z)
    cases f with
    | ret u =>
      obtain ⟨v6, σ6, H6, S6, r6, q6⟩ := hsp
      exact ⟨v6, σ6, H6, S6.unsuite ok, r6, q6⟩
    | next => obtain ⟨σ6, H6, S6, q6⟩ := hsp; exact ⟨σ6, H6, S6.unsuite ok, q6⟩
    | brk => obtain ⟨σ6, H6, S6, q6⟩ := hsp; exact ⟨σ6, H6, S6.unsuite ok, q6⟩
    | cont => obtain ⟨σ6, H6, S6, q6⟩ := hsp; exact ⟨σ6, H6, S6.unsuite ok, q6⟩
/-- the ends of a suite behind which slot i is empty -/
def dropD (i : Nat) (D : Ends) : Ends := { nx := fun σ H => D.nx (σ.set i none) H, rt := D.rt, bk := fun σ H => D.bk (σ.set i none) H, ct := fun σ H => D.ct (σ.set i none) H }
/-- except X as n: .. -/
theorem cl_as (hf : X.env.frame = some X.env.locals) (hN : X.N.Nodup) (hi : X.N[i]? = some n) (hln : X.env.kindOf n = some .local) (hc : Names X x c) (ok : X.Ok)
    (hsu : ∀ (a : Addr) (oe : Obj) (cls : Value) (d : Option Addr) (pn : List (Addr × Obj)), L2N.Zn cls d oe → (∃ vs, oe.data = .fields vs) → PSs (X.suite a ((a, oe) :: pn)) (b0 :: suite) (ts a cls d)) (r : Clauses X D hds W) :
    Clauses X D (.ExceptHandler (some (.Name x np)) (some n) (b0 :: suite) pos' :: hds) (wFirst X.K c (fun a cls d σ H => ts a cls d (dropD i D) (σ.set i (some (.ref a))) H) W) := by
  intro pins σ H a cls d s hC w
  obtain ⟨b, hb, hy, hn⟩ := w
  refine wpAny_handleBy_cons (codeAny_handlers_test (asked hf hc hC hb ?_)) (by intro q; cases q)
  cases b with
  | false => exact r pins σ H a cls d s hC (hn rfl)
  | true =>
    refine codeAny_handlers_suite_as ?_
    have hC' := hC
    obtain ⟨B, s0, J, k1, k2, fl, n0, k3, k4⟩ := hC'
    refine HandSPX.lands_againZ fl fun h4 fl4 up4 => ?_
    have hC4 : Caught X pins σ H a cls d { s with heap := h4 } := ⟨B, s0, J, k1, k2.trans up4, fl4, n0, k3, k4⟩
    obtain ⟨oe, he, hz, hv, S⟩ := hC4.obj hf
    have loc : Loc X.env.scope n := .inl hln
    refine store_ok (X := X.suite a ((a, oe) :: (X.pn ++ pins))) (v := .ref a) S hN hi loc rfl (fun s5 S5 => ?_) (.inr hln)
    refine wpAny_mono ((hsu a oe cls d (X.pn ++ pins) hz hv).run [] s5 _ H _ S5 (hy rfl a n0)) (fun f s6 hsp => ?_) (fun _ _ z => False.elim z)
    have gone : ∀ {σ6 : L2.St} {H6 : Hp} {Q : Shared → Prop}, Inv (X.suite a ((a, oe) :: (X.pn ++ pins))) [] σ6 H6 s6 → (∀ s7, Inv X pins (σ6.set i none) H6 s7 → Q s7) →
        wpAny (model X.prog X.w) X.A (do bindName X.env n .none; unbindBehindTheSuite X.env n pos') (fun _ s7 => Q s7) X.xe s6 := fun S6 hq => gone_ok (S6.unsuite ok) hN hi hln hq
    cases f with
    | ret u =>
      obtain ⟨v6, σ6, H6, S6, r6, q6⟩ := hsp
      exact gone S6 fun s7 J7 => ⟨v6, _, H6, J7, r6, q6⟩
    | next => obtain ⟨σ6, H6, S6, q6⟩ := hsp; exact gone S6 fun s7 J7 => ⟨_, H6, J7, q6⟩
    | brk => obtain ⟨σ6, H6, S6, q6⟩ := hsp; exact gone S6 fun s7 J7 => ⟨_, H6, J7, q6⟩
    | cont => obtain ⟨σ6, H6, S6, q6⟩ := hsp; exact gone S6 fun s7 J7 => ⟨_, H6, J7, q6⟩
/-- the whole statement -/
theorem ps_tryC {tb : WX → TS} {hds : List ExceptHandler} {h0 : ExceptHandler} {WD : Ends → WX} (hs : X.stack = X.env :: X.outer) (hf : X.env.frame = some X.env.locals)
    (hb : ∀ (W : WX) (pn : List (Addr × Obj)) (xe : Value → Shared → Prop), L2N.Takes (X.tr pn xe) W → PassesOwn (model X.prog X.w) X.A X.env xe → PSs (X.tr pn xe) body (tb W))
    (hh : ∀ D, X.Ok → Clauses X D (h0 :: hds) (WD D)) : PS X (.Try body (h0 :: hds) [] [] pos) (fun D σ H => tb (WD D) D σ H) := by
  refine ⟨fun pins s σ H D I h => ?_⟩
  have ok := I.ok
  have frm : X.A.frames = some (X.env :: X.outer) := by rw [ok.frames, hs]
  refine wpAny_Try_except ?_
  refine wpAny_mono ((hb (WD D) (X.pn ++ pins) (fun e s1 => wpAny (model X.prog X.w) X.A (noteFrame e X.env) (fun _ s2 => wpAny (model X.prog X.w) X.A (setFlight e none) (fun _ s3 => wpAny (model X.prog X.w) X.A (handleBy e X.env (h0 :: hds)) (SP X pins D) X.xe s3) X.xe s2) X.xe s1)
    (fun u s' out => ?_) PassesOwn.looking).run [] s σ H D (I.toTry _) h) (fun f s1 hsp => ?_) (fun e s1 he => he)
  · obtain ⟨a, B, s0, pins', σ', H', cls, d, rfl, J', nb, up, sky, na, os, ag, w⟩ := out
    have sk : Sky B (X.env :: X.outer) a (L2N.Zn cls d) X.env.locals s'.heap := by rw [← hs]; exact sky
    show wpAny (model X.prog X.w) X.A (noteFrame (.ref a) X.env) _ _ _
    refine L2N.Sky.land L2N.Zn.steady frm hf sk fun h3 fl up3 => ?_
    exact hh D ok pins σ' H' a cls d _ ⟨B, s0, J'.ofTry ok, nb, up.trans up3, fl, na, os, ag⟩ w
  · cases f with
    | ret u =>
      obtain ⟨v, σ', H', J', r, q⟩ := hsp
      exact ⟨v, σ', H', J'.ofTry ok, r, q⟩
    | next => obtain ⟨σ', H', J', q⟩ := hsp; exact wpAny_execs_nil ⟨σ', H', J'.ofTry ok, q⟩
    | brk => obtain ⟨σ', H', J', q⟩ := hsp; exact ⟨σ', H', J'.ofTry ok, q⟩
    | cont => obtain ⟨σ', H', J', q⟩ := hsp; exact ⟨σ', H', J'.ofTry ok, q⟩
end
section
variable {X : Cx} {G0 : Hp} {δ : List (Option D)} {μ : Mu} {E : DEnds} {Ψ : List (Option D) → DX} {x1 x2 : Str} {C1 C2 : Addr} {pos : Pos}
/-- try .. except X1: .. except X2 as n: .. -/
theorem s_try2 (i : Nat) {n : Str} {body : List Stmt} {b1 b2 : Stmt} {suite1 suite2 : List Stmt} {np1 np2 pos1 pos2 : Pos} (hm1 : X.mg x1 = some (.ref C1)) (hm2 : X.mg x2 = some (.ref C2)) (tk : dTk X G0 Ψ)
    (hb : ∀ (pn : List (Addr × Obj)) (xe : Value → Shared → Prop), PassesOwn (model X.prog X.w) X.A X.env xe → dTk (X.tr pn xe) G0 (TryN X G0 C1 (b1 :: suite1) E (TryX X G0 C2 i (b2 :: suite2) E Ψ)) → dSs (X.tr pn xe) G0 body δ μ E)
    (hN : X.N.Nodup := by assumption) (hi : X.N[i]? = some n := by rfl) (hln : X.env.kindOf n = some .local := by rfl) (hg1 : Gl X x1 := by rfl) (hdb1 : (x1 == ("__debug__" : Str)) = false := by decide) (hg2 : Gl X x2 := by rfl) (hdb2 : (x2 == ("__debug__" : Str)) = false := by decide)
    (hs : X.stack = X.env :: X.outer := by rfl) (hf : X.env.frame = some X.env.locals := by rfl) : dS X G0 (.Try body [.ExceptHandler (some (.Name x1 np1)) none (b1 :: suite1) pos1, .ExceptHandler (some (.Name x2 np2)) (some n) (b2 :: suite2) pos2] [] [] pos) δ μ E := fun σ H B => by
  obtain ⟨Wo, tw, tq⟩ := tk
  refine wS_of (ps_tryC (tb := fun W D σ H => ∀ pn xe, L2N.Takes (X.tr pn xe) W → PassesOwn (model X.prog X.w) X.A X.env xe → wSs (X.tr pn xe) body D σ H)
    (WD := fun D => wFirst X.K (.ref C1) (fun a cls d σ H => ∀ oe pn, L2N.Zn cls d oe → (∃ vs, oe.data = .fields vs) → wSs (X.suite a ((a, oe) :: pn)) (b1 :: suite1) D σ H)
      (wFirst X.K (.ref C2) (fun a cls d σ H => ∀ oe pn, L2N.Zn cls d oe → (∃ vs, oe.data = .fields vs) → wSs (X.suite a ((a, oe) :: pn)) (b2 :: suite2) (dropD i D) (σ.set i (some (.ref a))) H) Wo)) hs hf
    (fun W pn xe tk' hp => ⟨fun pins s σ' H' D I q => q pn xe tk' hp pins s I⟩)
    (fun D ok => cl_bare (ts := fun a cls d D σ H => ∀ oe pn, L2N.Zn cls d oe → (∃ vs, oe.data = .fields vs) → wSs (X.suite a ((a, oe) :: pn)) (b1 :: suite1) D σ H) hf ⟨hg1, hdb1, .inl hm1⟩ ok (fun a oe cls d pn hz hv => ⟨fun pins s σ' H' D I q => q oe pn hz hv pins s I⟩)
      (cl_as (ts := fun a cls d D σ H => ∀ oe pn, L2N.Zn cls d oe → (∃ vs, oe.data = .fields vs) → wSs (X.suite a ((a, oe) :: pn)) (b2 :: suite2) D σ H) hf hN hi hln ⟨hg2, hdb2, .inl hm2⟩ ok (fun a oe cls d pn hz hv => ⟨fun pins s σ' H' D I q => q oe pn hz hv pins s I⟩) (cl_nil hs hf tw)))) ?_
  intro pn xe tk' hp
  refine hb pn xe hp ⟨_, tk', fun C' d δ' σ' H2 gs μ2 q B2 er => ?_, fun C' δ' σ' H2 μ2 q B2 => ?_⟩ σ H B
  · obtain ⟨b, hx, h1, h2⟩ := q
    refine ⟨b, hx, fun eb a ha oe pn' hz hv => h1 eb a _ oe pn' hz hv σ' H2 B2, fun eb => ?_⟩
    obtain ⟨b', hx', g1, g2, _⟩ := h2 eb
    refine ⟨b', hx', fun eb' a ha oe pn' hz hv => ?_, fun eb' => tq.1 C' d δ' σ' H2 gs μ2 (g2 eb') B2 er⟩
    refine wSs_mono ?_ (g1 eb' a d oe pn' hz hv _ H2 (B2.set (er a)))
    exact ⟨fun σ3 H3 ⟨δ3, μ3, q3, B3⟩ => ⟨_, μ3, q3, B3.none i⟩, fun _ _ q => q, fun σ3 H3 ⟨δ3, μ3, q3, B3⟩ => ⟨_, μ3, q3, B3.none i⟩, fun σ3 H3 ⟨δ3, μ3, q3, B3⟩ => ⟨_, μ3, q3, B3.none i⟩⟩
  · obtain ⟨b, hx, h1, h2⟩ := q
    refine ⟨b, hx, fun eb a ha oe pn' hz hv => h1 eb a _ oe pn' hz hv σ' H2 B2, fun eb => ?_⟩
    obtain ⟨b', hx', g1, g2, g3⟩ := h2 eb
    refine ⟨b', hx', fun eb' a ha oe pn' hz hv => ?_, fun eb' => tq.2 C' δ' σ' H2 μ2 (g2 eb') B2⟩
    refine wSs_mono ?_ (g3 eb' rfl a oe pn' hz hv _ H2 (B2.set (.ref a)))
    exact ⟨fun σ3 H3 ⟨δ3, μ3, q3, B3⟩ => ⟨_, μ3, q3, B3.none i⟩, fun _ _ q => q, fun σ3 H3 ⟨δ3, μ3, q3, B3⟩ => ⟨_, μ3, q3, B3.none i⟩, fun σ3 H3 ⟨δ3, μ3, q3, B3⟩ => ⟨_, μ3, q3, B3.none i⟩⟩
end
end DL

namespace DL
open PySem PySem.Spec PyProof.Rows L2
/-! ### list(o) of an object whose __iter__ walks a dict of its own and whose __len__ is that dict's -/
def spLenT (C : Addr) (fld : Str) : Sp := fun vs H Q _ => ∃ a dx fs d o kvs, vs = [.ref a] ∧ H a = some (.ins C dx fs) ∧ fs.lookup fld = some (.ref d) ∧ H d = some (.frz o (.dT kvs)) ∧ Q (.int ((kvs.length : Nat) : Int)) H
structure LenT (P : Program) (w : World) (K : PySem.W.Frag) (mg : Str → Option Value) (base : Heap) (C : Addr) (fld : Str) : Prop where
  ex : ∃ (f : Addr) (fd : FuncData), FnOk P w K mg base (L2N.CX P w) 1 f fd ["self"] (spLenT C fld) ∧ Meth K C "__len__" f ∧ Binds K fd ["self"] []
section
variable {X : Cx} {G0 : Hp} {e e2 a b c it elt kx vx o : Expr} {es rest : List Expr} {sts : List Stmt} {δ : List (Option D)} {μ : Mu} {Φ : DK} {pos apos : Pos} {K : PySem.W.Frag} {H G : Hp} {Q : VK} {E : DEnds} {d x y r : D} {Θ : Bool → Mu → Prop} {C : Addr} {fs gs : List (Str × D)} {f m fld : Str} {sp : DSp} {j k : Nat}
theorem keys_loop {pins : List (Addr × Obj)} {σ : L2.St} {d it q : Addr} {o : Obj} {kvs : List (List Key × V)} {es : Array DictEntry} {ep : Nat} {A1 : Around} {Rs : Result → Shared → Prop} {H0 : Hp} (hod : o.data = .dict es ep) (hh : A1.in1.handled = none) (hz : kvs.length < sizeLine)
    (hd : H0 d = some (.frz o (.dT kvs))) (hq0 : H0 q = none) (hqi : q ≠ it) (hf : FpOk X pins H0 it)
    (fin : ∀ bs s', Inv X pins σ (upd H0 q (.lst (bs.map V.ref))) s' → IsKeys H0 kvs bs → Rs (.ok (.ret .none)) s') :
    ∀ (m i : Nat) (bs : List Addr) (s : Shared), i + m = kvs.length → Inv X pins σ (upd H0 q (.lst (bs.map V.ref))) s → s.heap.IsKeyIter it d i kvs.length ep → IsKeys H0 (kvs.take i) bs →
      codeAny (model X.prog X.w) A1 (.builtin "list.extend.loop" ⟨[.ref q, .ref it, .none], []⟩) Rs s := by
  obtain ⟨f0, f1, f2, f3, f4, f5⟩ := hf
  have hdq : d ≠ q := fun z => by rw [z, hq0] at hd; cases hd
  intro m
  induction m with
  | zero =>
    intro i bs s hi I st hk
    have hd' : upd H0 q (.lst (bs.map V.ref)) d = some (.frz o (.dT kvs)) := by rw [upd_ne hdq]; exact hd
    obtain ⟨hs, hgd, hx, es', ep', hdt, hsz, ent⟩ := I.frzT hd'
    obtain ⟨rfl, rfl⟩ := dict_ep hod hdt
    have f0' : upd H0 q (.lst (bs.map V.ref)) it = none := by rw [upd_ne (Ne.symm hqi)]; exact f0
    refine codeAny_builtin PySem.F.entry_extend_loop ?_
    rw [Around.under_plainId PySem.F.plain_extend_loop _]
    show wpAny _ A1.in1 (pyNext (.ref it) >>= _) _ _ s
    refine wpAny_bind (next_key_end hh st hgd hdt hsz (by omega) fun h' eb => ?_)
    have I1 : Inv X pins σ (upd H0 q (.lst (bs.map V.ref))) { s with heap := h' } := I.turned (t' := s.toks) (fun b ob hb e => eb b ob hb e) f0' f1 f3 f4 f5
    refine wpAny_pure (fin bs _ I1 ?_)
    rw [List.take_of_length_le (by omega)] at hk
    exact hk
  | succ m ih =>
    intro i bs s hi I st hk
    have hd' : upd H0 q (.lst (bs.map V.ref)) d = some (.frz o (.dT kvs)) := by rw [upd_ne hdq]; exact hd
    obtain ⟨hs, hgd, hx, es', ep', hdt, hsz, ent⟩ := I.frzT hd'
    obtain ⟨rfl, rfl⟩ := dict_ep hod hdt
    have f0' : upd H0 q (.lst (bs.map V.ref)) it = none := by rw [upd_ne (Ne.symm hqi)]; exact f0
    have hil : i < kvs.length := by omega
    obtain ⟨⟨k, v⟩, hkv⟩ : ∃ p, kvs[i]? = some p := ⟨kvs[i], List.getElem?_eq_getElem hil⟩
    obtain ⟨en, b, hen, hkey, hb⟩ := ent i k v hkv
    refine codeAny_builtin PySem.F.entry_extend_loop ?_
    rw [Around.under_plainId PySem.F.plain_extend_loop _]
    show wpAny _ A1.in1 (pyNext (.ref it) >>= _) _ _ s
    refine wpAny_bind (next_key_item st hgd hdt hsz hen fun h' st' sb => ?_)
    have I1 : Inv X pins σ (upd H0 q (.lst (bs.map V.ref))) { s with heap := h' } := I.turned (t' := s.toks) (fun b ob hb e => (sb.2 b hb).trans e) f0' f1 f3 f4 f5
    show wpAny _ A1.in1 (updateSeq q (·.push en.key) >>= _) _ _ _
    obtain ⟨z, its, n, r2, hl, e⟩ := I1.lstM upd_same
    have hbl : (bs.map V.ref).length = i := by
      rw [List.length_map, ← Paired.length hk, List.length_take]
      omega
    refine wpAny_bind (wpAny_updateSeq e rfl (wpAny_pure ⟨plainId_quiet PySem.F.plain_extend_loop _, ?_⟩) (by rw [List.size_toArray]; omega) (by show (its.toArray.push en.key).size ≤ sizeLine + 1; rw [Array.size_push, List.size_toArray]; omega))
    have I2 := I1.lset (f := (·.push en.key)) (its' := its ++ [en.key]) (ys := (bs ++ [b]).map V.ref) (t' := s.toks) upd_same e (by simp) (by rw [List.map_append]; exact r2.append (.cons hkey .nil)) (by rw [List.map_append, List.length_append, hbl]; show i + 1 ≤ sizeLine; omega)
    rw [upd_upd] at I2
    have hb' : H0 b = some (.tup (k.map kV)) := by
      have hbq : b ≠ q := fun z => by rw [z, upd_same] at hb; cases hb
      rw [upd_ne hbq] at hb
      exact hb
    refine ih (i + 1) (bs ++ [b]) _ (by omega) I2 (st'.at fun oi eo => (Heap.get?_update_other _ _ hqi).trans eo) ?_
    rw [List.take_add_one, hkv]
    exact Paired.snoc hk hb'
def rListO (C : Addr) (fld : Str) : List V → Hp → VK → Prop := fun xs H Q => ∃ a dx fs d o kvs, xs = [.ref a] ∧ H a = some (.ins C dx fs) ∧ fs.lookup fld = some (.ref d) ∧ H d = some (.frz o (.dT kvs)) ∧ kvs.length ≤ 1000 ∧ ∀ q bs, H q = none → IsKeys H kvs bs → Q (.ref q) (upd H q (.lst (bs.map V.ref)))
theorem run_atN {A : Around} {CX : CXT} {f : Addr} {fd : FuncData} {ps : List Str} {sp : Sp} {pins : List (Addr × Obj)} {σ : L2.St} {H : Hp} {s : Shared} {Q : VK} {us : List Value} {vs : List V} {E : XK} (F : FnOk X.prog X.w X.K X.mg X.base CX k f fd ps sp) (hr : Room k A) (hfr : A.frames = X.A.frames) (hb : Binds X.K fd ps []) (hx : ∀ e s', ¬ CX X.stack H s E e s')
    (I : Inv X pins σ H s) (r : Vals vs us) (h : sp vs H Q E) : wpAny (model X.prog X.w) A (call (.ref f) us) (EP X pins σ Q) (fun _ _ => False) s := by
  have hl : us.length = ps.length := by rw [← r.length]; exact F.len _ _ _ _ h
  have b := hb s us I.kIn (by rw [List.append_nil]; exact hl)
  rw [List.append_nil] at b
  have e0 : Env0 X.prog X.w X.K X.mg X.base A X.stack s H := by
    have e := I.env0
    exact ⟨by rw [hfr]; exact e.frames, e.mod, e.bs, e.bsz, e.funs, e.frf, e.hok, e.bare⟩
  refine wpAny_call (codeAny_mono (F.run A X.stack s H ⟨us, []⟩ us vs Q E hr e0 b r h) fun r s' hq => ?_)
  cases r with
  | error e => exact (hx e s' hq).elim
  | ok fl =>
    cases fl with
    | ret u => exact I.after hq
    | next => exact False.elim hq
    | brk => exact False.elim hq
    | cont => exact False.elim hq
theorem own_len_hint {A : Around} {Q1 : Bool → Shared → Prop} {E1 : Value → Shared → Prop} {K : PySem.W.Frag} {fL ax : Addr} {ox : Obj} {od : Option Obj} {s : Shared} {n : Nat} (hn : n ≤ 1000) (at_ : PySem.W.findIn K (.ref C) "__len__" = some (some (.ref fL))) (hK : K.In s.heap) (J : PySem.W.InstAt s.heap ax ox C od)
    (hlen : wpAny (model X.prog X.w) A (call (.builtin "len") [.ref ax]) (fun v s' => ∃ t, v = .int n t ∧ Q1 ((n : Int) != 0) s') (fun _ _ => False) s) :
    wpAny (model X.prog X.w) A (Builtin.List.listLengthHint (.ref ax)) Q1 E1 s := by
  unfold Builtin.List.listLengthHint
  refine wpAny_bind (wpAny_bind (J.type.here ((PySem.W.looks_findIn hK at_).here ?_)))
  refine wpAny_bind (wpAny_rule ?_)
  refine wpAny_bind (wpAny_attempt (wpAny_mono hlen (fun v s' hv => ?_) fun _ _ z => z.elim))
  · obtain ⟨t, rfl, hq⟩ := hv
    refine wpAny_bind (m := asInt? (.int (n : Int) t)) (wpAny_pure ?_)
    show wpAny _ _ (if Builtin.List.listTooLong (n : Int).toNat = true then _ else _) _ _ _
    rw [if_neg (by rw [Int.toNat_natCast, notLongL (by rw [sizeLine_eq]; omega)]; exact Bool.false_ne_true)]
    exact wpAny_pure hq
theorem call_listO (T : IterT X.prog X.w X.K X.mg C fld) (TL : LenT X.prog X.w X.K X.mg X.base C fld) (hr : Room 6 X.A) (hc : X.calm = true) : CallR X (.type "list") (rListO C fld) := by
  intro pins s σ H xs us Q I rv h
  obtain ⟨a, dx, fs, d, o, kvs, rfl, ha, hl, hd, hz, hq⟩ := h
  obtain ⟨u, rfl, ru⟩ := rv.one
  cases ru
  refine callType_codes (Q₁ := fun obj s₁ => obj = .ref s.heap.objs.size ∧ s₁ = { s with heap := s.heap.push { cls := .type "list", data := .seq #[] } }) PySem.F.called_list (PySem.F.typeCall_list_1 _) PySem.F.entry_list_init
    (code_list_new _ ⟨rfl, rfl⟩) fun obj s₁ h₁ => ?_
  obtain ⟨rfl, rfl⟩ := h₁
  have hS : (s.heap.push { cls := .type "list", data := .seq #[] }).get? s.heap.objs.size = some { cls := .type "list", data := .seq #[] } := Heap.get?_push_size _ rfl
  refine ⟨⟨_, hS, rfl⟩, PySem.F.args_list_init_2 _ _, ?_⟩
  have fr : H s.heap.objs.size = none := I.hok.fresh (Nat.le_refl _)
  have I1 : Inv X pins σ (upd H s.heap.objs.size (.lst [])) { s with heap := s.heap.push { cls := .type "list", data := .seq #[] } } := I.lnew (its := []) (t' := s.toks) .nil (Nat.zero_le _)
  show wpAny _ _ (do let old ← Builtin.List.listItems (.ref s.heap.objs.size); Builtin.List.listUpdate (.ref s.heap.objs.size) (fun _ => #[]); letGo old.toList.reverse; Builtin.List.listExtendWith (.ref s.heap.objs.size) (.ref a) .none) _ _ _
  refine wpAny_bind ?_
  unfold Builtin.List.listItems
  refine wpAny_bind (wpAny_seqItems hS rfl (wpAny_pure ?_))
  show wpAny _ _ (updateSeq s.heap.objs.size (fun _ => #[]) >>= fun _ => letGo (#[] : Array Value).toList.reverse >>= fun _ => Builtin.List.listExtendWith (.ref s.heap.objs.size) (.ref a) .none) _ _ _
  refine wpAny_bind (wpAny_updateSeq hS rfl ?_)
  have I2 := I1.lset (f := fun _ => #[]) (its := []) (its' := []) (ys := []) (t' := s.toks) upd_same hS rfl .nil (Nat.zero_le _)
  rw [upd_upd] at I2
  refine wpAny_bind (wpAny_letGo ?_)
  have hz' := sizeLine_eq
  generalize s.heap.objs.size = S at *
  have ha2 : upd H S (.lst []) a = some (.ins C dx fs) := by rw [upd_ne (ne_of_none ha fr)]; exact ha
  have hd2 : upd H S (.lst []) d = some (.frz o (.dT kvs)) := by rw [upd_ne (ne_of_none hd fr)]; exact hd
  have hne : S ≠ a := ne_of upd_same ha2 (fun z => nomatch z)
  obtain ⟨mA, J, _⟩ := ins_get I2.hok ha2
  obtain ⟨od, J, _⟩ := J.look
  obtain ⟨m0, hF⟩ := I2.fr
  unfold Builtin.List.listExtendWith
  refine wpAny_bind (J.type.here ?_)
  have h1 : Builtin.List.listSameRef (.ref S) (.ref a) = false := by simp [Builtin.List.listSameRef, hne]
  have h2 : (Value.ref C == Value.type "list") = false := rfl
  have h3 : (Value.ref C == Value.type "tuple") = false := rfl
  simp only [h1, h2, h3, Bool.or_false, Bool.false_eq_true, if_false]
  obtain ⟨f, fd, F, M, hb⟩ := T.ex
  refine wpAny_bind (PySem.W.owit_iter hF I2.ok.mod.kin J M.at_ M.fn ?_)
  refine thn (run_pad (F (padH X.base X.s_0.heap.objs.size)) ((hr.mono (show 3 ≤ 6 by decide)).in1.in1) rfl hb passNS I2 (.cons (relR a) .nil) (Q := fun v H3 => ∃ it es ep, v = .ref it ∧ upd H S (.lst []) it = none ∧ X.s_0.heap.objs.size ≤ it ∧ o.data = .dict es ep ∧ H3 = upd (upd H S (.lst [])) it (KtO d it kvs.length ep))
    ⟨a, dx, fs, d, o, kvs, rfl, ha2, hl, hd2, fun it es ep h1 h2 h3 h4 => ⟨it, es, ep, rfl, h1, by rw [pad_size I2.ok.bsz] at h2; exact h2, h3, rfl⟩⟩) fun r s2 hr2 => ?_
  obtain ⟨v, H3, I3, rv3, it, es, ep, rfl, hn, hle, hod, rfl⟩ := hr2
  obtain rfl : r = Value.ref it := rv3
  have hget : s2.heap.get? it = some (KtB d kvs.length ep) := (I3.hok it _ upd_same).1
  have hT : s2.TypeIs (.ref it) "dict_keyiterator" := ⟨_, hget, rfl⟩
  unfold PySem.W.OwitIt
  refine wpAny_specialOf (name := Str.ofString "__next__") hT PySem.F.slot_dict_keyiterator_next.lookup ?_
  have ha3 : upd (upd H S (.lst [])) it (KtO d it kvs.length ep) a = some (.ins C dx fs) := by rw [upd_ne (ne_of_none ha2 hn)]; exact ha2
  have hd3 : upd (upd H S (.lst [])) it (KtO d it kvs.length ep) d = some (.frz o (.dT kvs)) := by rw [upd_ne (ne_of_none hd2 hn)]; exact hd2
  have hSi : S ≠ it := fun z => by rw [← z, upd_same] at hn; cases hn
  obtain ⟨mA3, J3, _⟩ := ins_get I3.hok ha3
  obtain ⟨od3, J3, _⟩ := J3.look
  obtain ⟨m3, hF3⟩ := I3.fr
  obtain ⟨fL, fdL, FL, ML, hbL⟩ := TL.ex
  refine wpAny_bind (wpAny_holding (own_len_hint (n := kvs.length) hz ML.at_ I3.kIn J3 ?_))
  refine PySem.W.len_K hF3 I3.ok.mod.kin J3 ML.at_ ML.fn ?_
  refine wpAny_mono (run_atN FL ((hr.mono (show 4 ≤ 6 by decide)).in1.in1.in1) rfl hbL (fun e s' ⟨_, _, _, _, _, _, _, _, _, _, _, _, z⟩ => z.elim) (E := E0) I3 (.cons (relR a) .nil) (Q := fun v H4 => v = .int ((kvs.length : Nat) : Int) ∧ H4 = upd (upd H S (.lst [])) it (KtO d it kvs.length ep)) ⟨a, dx, fs, d, o, kvs, rfl, ha3, hl, hd3, rfl, rfl⟩) (fun r s4 h4 => ?_) fun _ _ z => z
  obtain ⟨v, H4, I4, rv4, rfl, rfl⟩ := h4
  obtain ⟨t4, rfl⟩ := rv4
  refine ⟨⟨by omega, by omega⟩, _, rfl, ?_⟩
  have I5 := I4.tok (s4.toks + 1)
  have hget4 : s4.heap.get? it = some (KtB d kvs.length ep) := (I4.hok it _ upd_same).1
  have I6 := ItX.inv_drop I5 upd_same
  have fp := ItX.inv_fp I5 upd_same hle
  rw [ItX.dropH_upd hn] at I6 fp
  have fp' : FpOk X pins H it := ⟨by have := fp.1; rwa [upd_ne (Ne.symm hSi)] at this, fp.2⟩
  have hh : X.A.in1.in1.handled = none := I.ok.hd hc
  have go : ∀ s', Inv X pins σ (upd H S (.lst [])) s' → s'.heap.get? it = some (KtB d kvs.length ep) → codeAny (model X.prog X.w) X.A.in1 (.builtin "list.extend.loop" ⟨[.ref S, .ref it, .none], []⟩) (wants (fun r s₂ => r = .none ∧ EP X pins σ Q (.ref S) s₂) X.xe) s' := fun s' I' g' =>
    keys_loop (kvs := kvs) hod hh (by omega) hd fr hSi fp' (fun bs s'' I'' hk => ⟨rfl, .ref S, _, I'', rfl, hq S bs fr hk⟩) kvs.length 0 [] s' (by omega) I' ⟨_, g', rfl, rfl⟩ .nil
  refine wpAny_ite_split (fun _ => ?_) (fun _ => wpAny_pure ⟨plainId_quiet PySem.F.plain_extend_loop _, go _ I6 hget4⟩)
  refine wpAny_bind (wpAny_rule ?_)
  refine wpAny_bind ?_
  obtain ⟨z, its, k, r3, hl3, e3⟩ := I6.lstM upd_same
  cases r3
  show wpAny _ _ (updateSeq S (·.push .none) >>= fun _ => updateSeq S (·.pop)) _ _ _
  refine wpAny_bind (wpAny_updateSeq e3 rfl ?_)
  have I7 := I6.lset (f := (·.push Value.none)) (its' := [Value.none]) (ys := [.non]) (t' := s4.toks + 1) upd_same e3 (by simp) (.cons rfl .nil) (by rw [List.length_singleton, sizeLine_eq]; decide)
  obtain ⟨z4, its4, k4, r4, hl4, e4⟩ := I7.lstM upd_same
  obtain ⟨u4, rfl, ru4⟩ := r4.one
  refine wpAny_updateSeq e4 rfl ?_ (by show 1 ≤ sizeLine; rw [sizeLine_eq]; decide) (by show 0 ≤ sizeLine + 1; exact Nat.zero_le _)
  have I8 := I7.lset (f := (·.pop)) (its := [u4]) (its' := []) (ys := []) (t' := s4.toks + 1) upd_same e4 (by rfl) .nil (Nat.zero_le _)
  rw [upd_upd, upd_upd] at I8
  exact wpAny_pure ⟨plainId_quiet PySem.F.plain_extend_loop _, go _ I8 ((Heap.get?_update_other _ _ hSi).trans ((Heap.get?_update_other _ _ hSi).trans hget4))⟩
/-! ### in -/
theorem op_inA (hu : X.A.units + 65 < cLine) : OpR X (compareOp .In) (fun x y H Q => ∃ d ds, Dp X.K H x d ∧ (Dp X.K H y (.list ds) ∨ Dp X.K H y (.tuple ds)) ∧ SeqAt.shaped d = true ∧ PyData.canLayAll0 ds = true ∧ Q (.bl (ds.any fun z => PyData.eqv z d)) H) := by
  intro pins s σ H x y v u Q I rx ry h
  obtain ⟨d, ds, hd, he, sd, se, q⟩ := h
  obtain ⟨as, r1⟩ := Dp.reads I d x v hd rx
  rcases he with he | he
  · obtain ⟨bs, r2⟩ := Dp.reads I (.list ds) y u he ry
    exact SeqAt.in_list_reads r2 r1 se (SeqAt.canLay_of_shaped sd) (room_in_shaped sd hu) ⟨.bl _, H, I, rfl, q⟩
  · obtain ⟨bs, r2⟩ := Dp.reads I (.tuple ds) y u he ry
    exact SeqAt.in_tuple_reads r2 r1 se (SeqAt.canLay_of_shaped sd) (room_in_shaped sd hu) ⟨.bl _, H, I, rfl, q⟩
theorem o_inA {x y : D} {p : PyData} {ps : List PyData} (hu : X.A.units + 66 < cLine) (hx : Py μ x p) (hy : Py μ y (.list ps) ∨ Py μ y (.tuple ps)) (sp : SeqAt.shaped p = true) (sl : PyData.canLayAll0 ps = true) (q : Φ (.bl (ps.any fun z => PyData.eqv z p)) μ) : dOp X (compareOp .In) x y μ Φ := fun v u H r1 r2 m Q kk =>
  wOp_of (op_inA (by omega)) ⟨p, ps, hx.dp m r1, hy.elim (fun h => .inl (h.dp m r2)) (fun h => .inr (h.dp m r2)), sp, sl, kk.val m q (.bl _)⟩
/-- [e for x in o if c] -/
theorem d_lcOI {x : Str} {scope : Scope} {tp cp : Pos} {own : List (Str × Nat)} {vs : List Nat} (j : Nat) (T : IterT X.prog X.w X.K X.mg C fld)
    (h : dE X G0 it δ μ fun d μ1 => ∃ (fs : List (Str × D)) (kvs : List (List Key × D)) (Pv : Nat → List D → Mu → Prop), OAt μ1 d C fs ∧ fs.lookup fld = some (.dct kvs) ∧ Pv 0 [] μ1 ∧ (∀ (i : Nat) k r acc μ2 p, kvs[i]? = some (k, r) → Pv i acc μ2 → μ2 p = none → LcTurnIf X scope elt c p acc ((wipeD δ vs).set j (some (keyT k))) μ2 (Pv (i + 1))) ∧ ∀ acc μ2 p, Pv kvs.length acc μ2 → μ2 p = none → Φ (.ref p) (updM μ2 p (.lst acc)))
    (hb : blkC X.N X.env.scope scope own = true := by kernel_rfl) (hj : j ∈ vs := by decide) (hv : own.map (·.2) = vs := by rfl) (hN : X.N.Nodup := by assumption) (hc : X.calm = true := by rfl)
    (hi : X.N[j]? = some x := by rfl) (hx : ∀ s H C cl fp, Loc (BX X scope s H C cl fp).env.scope x := by first | exact fun _ _ _ _ _ => Or.inl rfl | exact fun _ _ _ _ _ => Or.inr rfl) (hf : ∀ s H C cl fp, (BX X scope s H C cl fp).fn x = true ∨ (BX X scope s H C cl fp).env.scope.names.lookup x = some .local := by first | exact fun _ _ _ _ _ => .inr rfl | exact fun _ _ _ _ _ => .inl rfl)
    (hs : ∀ x, foldedSetIterable it X.env x = pure x := by intro _; rfl) (hr : Room k X.A := by assumption) (hk : 1 ≤ k := by decide) : dE X G0 (.ListComp elt [⟨.Name x tp, it, [c], 0⟩] scope cp) δ μ Φ := fun σ H B Q kq => by
  refine wE_of (pe_lc hc hN (pi_ownK T (hr.mono hk) pe_w) (blkOk_by hb) (fun s H C cl fp => pg_name (i := j) hN hi (hx s H C cl fp) (hf s H C cl fp)) (fun s H C cl fp => pts_one (⟨fun pins s' σ' H' Q' I q => q s H C cl fp pins s' I⟩ : PT _ _ (wTs X scope c))) (fun s H C cl fp => (⟨fun pins s' σ' H' Q' I q => q s H C cl fp pins s' I⟩ : PE _ _ (wEs X scope elt))) hs) ?_
  rw [hv]
  refine h σ H B _ fun v H1 d μ1 q m1 e1 r1 => ?_
  obtain ⟨fs, kvs, Pv, hoa, hl, p0, turn, fin⟩ := q
  have B1 := (B.step m1 e1).wipe vs
  obtain ⟨ao, dx, vs', rfl, hia, ria⟩ := oat_ins r1 m1 hoa
  obtain ⟨w, hw, rw'⟩ := ria.lookup hl
  obtain ⟨a, o, ws, rfl, ha, ra, stay⟩ := dwalk_at (St := fun μ2 => ∃ i acc, Pv i acc μ2) rw' m1 (.inl rfl)
  refine ⟨ao, dx, vs', a, o, ws, rfl, hia, hw, ha, fun D hD => ?_⟩
  have hi0 : Im (updM μ1 D (.lst [])) (upd H1 D (.lst [])) = Im μ1 H1 := im_new hD
  have B2 : Bd X.K (Im μ1 H1) (wipeD δ vs) (updM μ1 D (.lst [])) (L2.wipe σ vs) (upd H1 D (.lst [])) := B1.rebase.step (m1.upd hi0 .nil) (by rw [hi0]; exact Sub.refl _)
  refine lc_it walk_keysT (fun i H' => ∃ acc μ2, Pv i acc μ2 ∧ μ2 D = none ∧ Bd X.K (Im μ1 H1) (wipeD δ vs) (updM μ2 D (.lst acc)) (L2.wipe σ vs) H') ⟨[], μ1, p0, mu_free m1 hD, B2⟩ (fun i H' _ ⟨acc, μ2, hP, _, B'⟩ => stay μ2 D _ H' ⟨i, acc, hP⟩ hD B'.mu B'.base) (fun i y H' H'' hlt ⟨acc, μ2, hP, hp2, B'⟩ hy => ?_) (fun H' ⟨acc, μ2, hP, hp2, B'⟩ => ?_)
  · obtain ⟨rfl, k', v', q', hw, rfl, hq⟩ := hy
    obtain ⟨r, hkr⟩ := key_at ra.keys hw
    refine ⟨by rw [wipe_set hj, wipe_wipe], ?_⟩
    exact lc_turnIf (B'.set (rp_key B'.mu hq)) B' (turn i k' r acc μ2 D hkr hP hp2)
  · rw [ra.length] at hP
    exact lc_end (kq.after e1) hp2 (fin acc μ2 D hP hp2) B'
/-- the same where test and element change nothing -/
theorem d_lcOIp {x : Str} {scope : Scope} {tp cp : Pos} {own : List (Str × Nat)} {vs : List Nat} (j : Nat) (T : IterT X.prog X.w X.K X.mg C fld) (f : List Key → D) (t : List Key → Bool)
    (h : dE X G0 it δ μ fun d μ1 => ∃ fs kvs, (OAt μ1 d C fs ∧ fs.lookup fld = some (.dct kvs)) ∧ kvs.length ≤ sizeLine ∧ (∀ k r, (k, r) ∈ kvs → ∀ p acc, μ1 p = none → (dTs X scope c ((wipeD δ vs).set j (some (keyT k))) (updM μ1 p acc) fun b μ3 => b = t k ∧ μ3 = updM μ1 p acc) ∧ Gives X scope elt ((wipeD δ vs).set j (some (keyT k))) (updM μ1 p acc) (f k)) ∧ Φ (.lst ((kvs.filter fun kv => t kv.1).map fun kv => f kv.1)) μ1)
    (hb : blkC X.N X.env.scope scope own = true := by kernel_rfl) (hj : j ∈ vs := by decide) (hv : own.map (·.2) = vs := by rfl) (hN : X.N.Nodup := by assumption) (hc : X.calm = true := by rfl)
    (hi : X.N[j]? = some x := by rfl) (hx : ∀ s H C cl fp, Loc (BX X scope s H C cl fp).env.scope x := by first | exact fun _ _ _ _ _ => Or.inl rfl | exact fun _ _ _ _ _ => Or.inr rfl) (hf : ∀ s H C cl fp, (BX X scope s H C cl fp).fn x = true ∨ (BX X scope s H C cl fp).env.scope.names.lookup x = some .local := by first | exact fun _ _ _ _ _ => .inr rfl | exact fun _ _ _ _ _ => .inl rfl)
    (hs : ∀ x, foldedSetIterable it X.env x = pure x := by intro _; rfl) (hr : Room k X.A := by assumption) (hk : 1 ≤ k := by decide) : dE X G0 (.ListComp elt [⟨.Name x tp, it, [c], 0⟩] scope cp) δ μ Φ := by
  refine d_fz (d_lcOI j T (h.imp fun d μ1 ⟨fs, kvs, ed, hl, hg, q⟩ => ⟨fs, kvs, fun i acc μ2 => acc = ((kvs.take i).filter fun kv => t kv.1).map (fun kv => f kv.1) ∧ μ2 = μ1, ed.1, ed.2, ⟨by rw [List.take_zero]; rfl, rfl⟩, ?_, ?_⟩) hb hj hv hN hc hi hx hf hs hr hk)
  · rintro i k r acc μ2 p hd ⟨rfl, rfl⟩ hp
    have hi' := (List.getElem?_eq_some_iff.mp hd).1
    obtain ⟨g1, g2⟩ := hg k r (List.mem_of_getElem? hd) p (.lst (((kvs.take i).filter fun kv => t kv.1).map (fun kv => f kv.1))) hp
    have hlen : (((kvs.take i).filter fun kv => t kv.1).map (fun kv => f kv.1)).length ≤ i := by
      rw [List.length_map]
      exact Nat.le_trans (List.length_filter_le _ _) (by rw [List.length_take]; omega)
    refine ⟨by omega, fun G1 s H0 C cl fp => (g1 G1 s H0 C cl fp).imp fun b μ3 ⟨e1, e2⟩ => ?_⟩
    subst e1 e2
    refine ⟨_, rfl, hp, fun hb => ⟨?_, rfl⟩, fun hb => fun G1 s H0 C cl fp => (g2 G1 s H0 C cl fp).imp fun r' μ4 ⟨e3, e4⟩ => ?_⟩
    · rw [List.take_add_one, hd, List.filter_append]
      show _ = List.map _ (_ ++ List.filter _ [(k, r)])
      rw [List.filter_cons_of_neg (by rw [hb]; exact Bool.false_ne_true), List.filter_nil, List.append_nil]
    · subst e3 e4
      refine ⟨_, rfl, hp, ?_, rfl⟩
      rw [List.take_add_one, hd, List.filter_append]
      show _ = List.map _ (_ ++ List.filter _ [(k, r)])
      rw [List.filter_cons_of_pos (p := fun kv : List Key × D => t kv.1) hb, List.filter_nil, List.map_append]
      rfl
  · rintro acc μ2 p ⟨rfl, rfl⟩ hp
    rw [List.take_length]
    exact fz_ref hp q
/-! ### calls with defaults and keywords, an error taken -/
/-- f(e, .., k = v, ..): n written, then keywords ks -/
structure CalN (P : Program) (w : World) (K : PySem.W.Frag) (mg : Str → Option Value) (base : Heap) (k : Nat) (x : Str) (n : Nat) (ks : List Str) (gD : List D → List D → List D) (sp : DSp) : Prop where
  ex : ∃ (f : Addr) (fd : FuncData) (ps : List Str) (g : List Value → List Value → List Value) (gV : List V → List V → List V), FnOk P w K mg base (L2N.CX P w) k f fd ps (liftSp K sp) ∧ mg x = some (.ref f) ∧ PySem.W.keepIn K (.ref f) = true ∧ KBn K fd ps n ks g gV ∧
    ∀ G us vs ds es, RpAll K G us es → RpAll K G vs ds → es.length = n → ds.length = ks.length → RpAll K G (gV us vs) (gD es ds)
theorem d_callXD {p : Pos} {xx : Str} {Ψ : List (Option D) → DX} {dds : List D} (Cd : CalD X.prog X.w X.K X.mg X.base j xx dds sp) (tk : dTk X G0 Ψ) (ha : dA X G0 (e :: es) δ μ fun xs μ1 => sp (xs ++ dds) μ1 Φ (Ψ δ)) (hr : Room k X.A := by assumption) (hj : j ≤ k := by decide) (hg : Gl X xx := by rfl) (hdb : (xx == ("__debug__" : Str)) = false := by decide)
    (he : starEach (e :: es) X.env = (false, eval e X.env) :: starEach es X.env := by rfl) (hpl : (backTo pos (starEach es X.env)).any (·.1) = false := by rfl) : dE X G0 (.Call (.Name xx p) (e :: es) [] pos) δ μ Φ := fun σ H B Q kk => by
  obtain ⟨f, fd, ps, dvs, ds, F, hm, hk, hb, hv, hd⟩ := Cd.ex
  obtain ⟨W, tw, tq⟩ := tk
  refine wE_of (pe_callSD F (hr.mono hj) hg hm hk hb hv (fun σ => L2N.passAt tw σ) pa_w hdb he hpl) ?_
  refine ha σ H B _ fun vs H1 xs μ1 q m1 e1 r1 => ?_
  exact ⟨xs ++ dds, μ1, Φ, Ψ δ, r1.append (hd _), m1, q, kk.after e1, fun C d H2 gs μ2 q2 m2 e2 er => tq.1 C d δ σ H2 gs μ2 q2 (B.step m2 (e1.trans e2)) er, fun C H2 μ2 q2 m2 e2 => tq.2 C δ σ H2 μ2 q2 (B.step m2 (e1.trans e2))⟩
theorem d_callXN {p : Pos} {xx : Str} {Ψ : List (Option D) → DX} {kws : List Keyword} {ks : List Str} {n : Nat} {gD : List D → List D → List D} (Cd : CalN X.prog X.w X.K X.mg X.base j xx n ks gD sp) (tk : dTk X G0 Ψ) (ha : dA X G0 (e :: es) δ μ fun xs μ1 => dKw X G0 kws δ μ1 fun zs μ2 => xs.length = n ∧ zs.length = ks.length ∧ sp (gD xs zs) μ2 Φ (Ψ δ)) (hr : Room k X.A := by assumption) (hj : j ≤ k := by decide) (hg : Gl X xx := by rfl) (hdb : (xx == ("__debug__" : Str)) = false := by decide)
    (hall : (backToKw pos (keywordEach kws X.env)).all (·.1.isSome) = true := by rfl) (hks : (backToKw pos (keywordEach kws X.env)).filterMap (·.1) = ks := by rfl)
    (he : starEach (e :: es) X.env = (false, eval e X.env) :: starEach es X.env := by rfl) (hpl : ((backTo pos (starEach (e :: es) X.env)).any (·.1) || (backToKw pos (keywordEach kws X.env)).any (·.1.isNone)) = false := by rfl) : dE X G0 (.Call (.Name xx p) (e :: es) kws pos) δ μ Φ := fun σ H B Q kk => by
  obtain ⟨f, fd, ps, g, gV, F, hm, hk, hb, hv⟩ := Cd.ex
  obtain ⟨W, tw, tq⟩ := tk
  intro pins s I
  refine wpAny_Call_Name_kw (ld_glob I hg hm ?_ hdb)
  refine PySem.W.callWith_KW (h₀ := X.base) I.ok.mod.kin hk hall (thn (pa_w.run pos pins s σ H (fun vs H1 => wK X kws σ H1 fun zs H2 => vs.length = n ∧ zs.length = ks.length ∧ liftSp X.K sp (gV vs zs) H2 Q (WE W σ)) I (ha σ H B _ fun vs H1 xs μ1 q m1 e1 r1 => ?_)) fun us s1 ⟨vs, H1, I1, r, q⟩ => ?_) hpl he
  · refine q σ H1 (B.step m1 e1) _ fun zs H2 ds μ2 ⟨l1, l2, q2⟩ m2 e2 r2 => ?_
    exact ⟨by rw [r1.length]; exact l1, by rw [r2.length]; exact l2, gD xs ds, μ2, Φ, Ψ δ, hv _ _ _ _ _ (r1.mono e2) r2 l1 l2, m2, q2, kk.after (e1.trans e2), fun C d H3 gs μ3 q3 m3 e3 er => tq.1 C d δ σ H3 gs μ3 q3 (B.step m3 ((e1.trans e2).trans e3)) er, fun C H3 μ3 q3 m3 e3 => tq.2 C δ σ H3 μ3 q3 (B.step m3 ((e1.trans e2).trans e3))⟩
  refine thn (pk_w.run pos pins s1 σ H1 _ I1 q) fun ws s2 ⟨zs, H2, I2, rz, l1, l2, q2⟩ => ⟨I2.kIn, ?_⟩
  rw [hks]
  have r2 := hb.rel r rz
  refine wpAny_call (codeAny_mono (F.run X.A X.stack s2 H2 ⟨us, ks.zip ws⟩ (g us ws) (gV vs zs) Q (WE W σ) (hr.mono hj) I2.env0 (hb.to s2 us ws I2.kIn (r.length.symm.trans l1) (rz.length.symm.trans l2)) r2 q2) fun r s' hq => ?_)
  cases r with
  | error e => exact L2N.passAt tw σ pins H2 s2 e s' I2 hq
  | ok fl =>
    cases fl with
    | ret u => exact I2.after hq
    | next => exact False.elim hq
    | brk => exact False.elim hq
    | cont => exact False.elim hq
theorem c_listO (T : IterT X.prog X.w X.K X.mg C fld) (TL : LenT X.prog X.w X.K X.mg X.base C fld) {kvs : List (List Key × D)} (h1 : OAt μ x C fs) (hl : fs.lookup fld = some (.dct kvs)) (hz : kvs.length ≤ 1000) (q : Φ (.lst (kvs.map fun kv => keyT kv.1)) μ) (hr : Room k X.A := by assumption) (hk : 6 ≤ k := by decide) (hc : X.calm = true := by rfl) : dCall X (.type "list") [x] μ Φ := fun vs H r m Q kk => by
  obtain ⟨v, rfl, rv⟩ := rp1 r
  obtain ⟨a, dx, ws, rfl, hia, ria⟩ := oat_ins rv m h1
  obtain ⟨w, hw, rw'⟩ := ria.lookup hl
  cases rw' with
  | dct hG ra =>
    refine wCall_of (call_listO T TL (hr.mono hk) hc) ⟨a, dx, ws, _, _, _, rfl, hia, hw, im_all _ _ hG, by rw [ra.length]; exact hz, fun p bs hp hk => kk.new m hp q (rp_lst m hp (keys_rp m hk ra.keys))⟩
end
end DL

namespace GU
open PySem PyProof.Rows Srt SrtO TS
/-! ### sorted() of pairs (an int, a tuple of ints), where the int settles the rest -/
def PairF (h : Heap) (v : Value) (k : Int × List Int) : Prop := ∃ a xs t u, v = .ref a ∧ IsTup h a xs ∧ xs.toList = [.int k.1 t, u] ∧ TupInts h u k.2
theorem PairF.keeps {h h' : Heap} {v : Value} {k : Int × List Int} (x : PairF h v k) (kp : ∀ b o, h.get? b = some o → o.cls = .type "tuple" → h'.get? b = some o) : PairF h' v k := by
  obtain ⟨a, xs, t, u, e, ⟨o, ho, hc, hd⟩, hx, hu⟩ := x
  exact ⟨a, xs, t, u, e, ⟨o, kp _ _ ho hc, hc, hd⟩, hx, hu.keeps kp⟩
theorem reads_ints {h : Heap} : ∀ {vs : List Value} {ns : List Int}, IntsAre vs ns → ReadsAll h vs (ns.map PyData.int) []
  | _, _, .nil => .nil
  | _, _, .cons n t r => .cons (as := []) (bs := []) (.int n t) (reads_ints r)
theorem reads_tup {h : Heap} {v : Value} {ns : List Int} (x : TupInts h v ns) : Reads h v (.tuple (ns.map PyData.int)) [] := by
  obtain ⟨a, xs, rfl, ⟨o, ho, hc, n, hd⟩, i⟩ := x
  exact .tuple ho hc hd (reads_ints i)
theorem lay_ints : ∀ ns : List Int, PyData.canLayAll0 (ns.map PyData.int) = true
  | [] => rfl
  | n :: ns => by rw [List.map_cons, PyData.canLayAll0, lay_ints ns]; rfl
theorem dep_ints : ∀ ns : List Int, PyData.depthAll (ns.map PyData.int) ≤ 1
  | [] => by rw [List.map_nil, PyData.depthAll]; omega
  | n :: ns => by
    rw [List.map_cons, PyData.depthAll]
    have := dep_ints ns
    have e : (PyData.int n).depth ≤ 1 := by rw [PyData.depth]; omega
    omega
section
variable {prog : Program} {w : World} {A : Around} {E : Value → Shared → Prop} {s : Shared}
theorem cmp_pair {k : Value → Int × List Int} {vs : List Value} (hu : A.units + 8 < cLine) (hp : ∀ v ∈ vs, PairF s.heap v (k v)) (hs : ∀ v ∈ vs, ∀ u ∈ vs, (k v).1 = (k u).1 → (k v).2 = (k u).2) : Cmp prog w A s (tuples' true) (fun p => p.1 ∈ vs) (lt2 fun v u => decide ((k v).1 < (k u).1)) := by
  intro p q hm hm'
  obtain ⟨a, xs, t, u, e, ⟨o, ho, hc, n, hd⟩, hx, hi⟩ := hp _ hm
  obtain ⟨a', xs', t', u', e', ⟨o', ho', hc', n', hd'⟩, hx', hi'⟩ := hp _ hm'
  show wpAny (model prog w) A (keyLt' (tuples' true) p.1 q.1) (fun r s' => s' = s ∧ r = decide ((k p.1).1 < (k q.1).1)) (fun _ _ => False) s
  have hs1 := hs _ hm _ hm'
  generalize k p.1 = kp at *
  generalize k q.1 = kq at *
  rw [e, e']
  refine PySem.W.kat_lt ho hd ho' hd' ?_
  have l1 : xs.size = 2 := by rw [← Array.length_toList, hx]; rfl
  have l2 : xs'.size = 2 := by rw [← Array.length_toList, hx']; rfl
  rw [hx, hx', l1, l2, List.zip_cons_cons]
  refine PySem.W.kat_cons (SeqAt.EqAt.int_int kp.1 t kq.1 t' prog w _ _ ?_)
  refine PySem.W.kat_go (fun e1 => ?_) (fun e1 => ?_)
  · have ex : kp.1 = kq.1 := by simpa using e1
    refine PySem.W.kat_yes ?_
    rw [List.zip_cons_cons, List.zip_nil_right]
    refine PySem.W.kat_cons (SeqAt.eqAt_reads _ _ A s u u' _ _ (reads_tup hi) (reads_tup hi') (by rw [PyData.canLay0]; exact lay_ints _) (by rw [PyData.canLay0]; exact lay_ints _) (by
      have a1 := dep_ints kp.2
      have : min (PyData.tuple (kp.2.map PyData.int)).depth (PyData.tuple (kq.2.map PyData.int)).depth ≤ (PyData.tuple (kp.2.map PyData.int)).depth := Nat.min_le_left _ _
      have a2 : (PyData.tuple (kp.2.map PyData.int)).depth ≤ 3 := by rw [PyData.depth]; omega
      omega) prog w _ _ ?_)
    rw [← hs1 ex, SeqAt.eqv_refl (PyData.tuple (kp.2.map PyData.int)) (by rw [PyData.canLay0]; exact lay_ints _)]
    refine PySem.W.kat_yes (PySem.W.kat_nil ⟨rfl, ?_⟩)
    rw [ex]
    simp
  · exact PySem.W.kat_no (TS.oneLt_ints _ ⟨rfl, rfl⟩)
theorem firstsP {k : Value → Int × List Int} : ∀ (vs : List Value) {Q : List (Option Value) → Shared → Prop}, (∀ v ∈ vs, PairF s.heap v (k v)) → (∀ fs : List (Option Value), fs.length = vs.length → (∀ f ∈ fs, ∃ i t, f = some (Value.int i t)) → Q fs s) → wpAny (model prog w) A (vs.mapM firstOfTuple') Q E s
  | [], Q, _, h => by
    rw [List.mapM_nil]
    exact wpAny_pure (h [] rfl (fun f hf => by cases hf))
  | v :: vs, Q, t, h => by
    obtain ⟨a, xs, t1, u, e0, ⟨o, ho, hc, n, hd⟩, hx, hi⟩ := t v List.mem_cons_self
    subst e0
    rw [List.mapM_cons]
    refine wpAny_bind ?_
    rw [PySem.W.kas_first_eq]
    refine wpAny_bind (PySem.W.Looks.here (show PySem.W.Looks (model prog w) s.heap (typeOf (.ref a)) o.cls from (PySem.W.Looks.ld ho).andThen .now) ?_)
    rw [hc, if_neg (by first | decide | simp)]
    refine wpAny_bind (listItems_at ho hd (wpAny_pure ?_))
    refine wpAny_bind (firstsP vs (Q := fun bs s' => wpAny (model prog w) A (pure (xs[0]? :: bs)) Q E s') (fun v hv => t v (List.mem_cons_of_mem _ hv)) fun fs hl hi => wpAny_pure (h _ (by rw [List.length_cons, List.length_cons, hl]) fun f hf => ?_))
    rcases List.mem_cons.mp hf with e | hf
    · rw [e, ← Array.getElem?_toList, hx]
      exact ⟨_, _, rfl⟩
    · exact hi f hf
theorem kind_pair {k : Value → Int × List Int} {vs : List Value} {Q : SortKind → Shared → Prop} (h2 : 2 ≤ vs.length) (hp : ∀ v ∈ vs, PairF s.heap v (k v)) (h : Q (tuples' true) s) : wpAny (model prog w) A (keyKind' vs.toArray) Q E s := by
  rw [keyKind'_eq, List.mapM_toArray, map_eq_pure_bind]
  refine wpAny_bind (wpAny_bind (firstsP vs hp fun fs hl hi => wpAny_pure ?_))
  have hall : (fs.toArray.all fun x => x.isSome) = true := by
    simp only [List.all_toArray, List.all_eq_true]
    intro f hf
    obtain ⟨i, t, rfl⟩ := hi f hf
    rfl
  rw [if_pos hall]
  refine wpAny_bind (wpAny_rule ?_)
  have hT : ∀ v ∈ fs.filterMap id, PySem.W.Looks (model prog w) s.heap (typeOf v) (.type "int") := fun v hv => by
    obtain ⟨f, hf, e⟩ := List.mem_filterMap.mp hv
    obtain ⟨i, t, rfl⟩ := hi f hf
    cases e
    exact PySem.W.Looks.now
  have hfm : fs.toArray.filterMap id = (fs.filterMap id).toArray := by simp
  rw [hfm, oneTypeOnly'_eq, List.mapM_toArray, map_eq_pure_bind]
  refine wpAny_bind (wpAny_bind (wpAny_bind (PySem.W.kas_mapM (r := .type "int") _ (fun v hv Q' hq => (hT v hv).here hq) (wpAny_pure ?_))))
  have e : (Value.type "int" != Value.type "tuple") = true := by first | decide +kernel | rfl | decide
  have e2 : (Value.type "int" == Value.type "int") = true := by first | decide +kernel | rfl | decide
  obtain ⟨f1, r, hr⟩ : ∃ f1 r, fs.filterMap id = f1 :: r := by
    cases fs with
    | nil => simp at hl; omega
    | cons f fs =>
      obtain ⟨i, t, rfl⟩ := hi f List.mem_cons_self
      exact ⟨Value.int i t, fs.filterMap id, by simp⟩
  rw [hr]
  have hall2 : ((List.map (fun _ => Value.type "int") (f1 :: r)).toArray.all fun x => x == Value.type "int") = true := by
    simp only [List.all_toArray, List.all_map, List.all_eq_true]
    intro _ _
    exact e2
  have h0 : (List.map (fun _ => Value.type "int") (f1 :: r)).toArray[0]? = some (Value.type "int") := by simp
  rw [h0]
  simp only [hall2, if_true]
  refine wpAny_pure (wpAny_pure ?_)
  show Q (tuples' (Value.type "int" != Value.type "tuple")) s
  rw [e]
  exact h
theorem swo_fst {k : Value → Int × List Int} : Swo fun v u => decide ((k v).1 < (k u).1) := ⟨fun x y h => by
  have := of_decide_eq_true h
  exact decide_eq_false (by omega), fun x y z h1 h2 => by
  have := of_decide_eq_false h1
  have := of_decide_eq_false h2
  exact decide_eq_false (by omega)⟩
theorem sorted_pair {l : Addr} {vs : List Value} {k : Value → Int × List Int} {Q : Value → Shared → Prop} (hu : A.in1.in1.units + 8 < cLine) (hl : s.heap.IsList l vs.toArray) (hz : vs.length ≤ sizeLine) (hp : ∀ v ∈ vs, PairF s.heap v (k v)) (hs : ∀ v ∈ vs, ∀ u ∈ vs, (k v).1 = (k u).1 → (k v).2 = (k u).2)
    (h : ∀ (h' : Heap) (d : Addr) (out : List Value), Srtd (fun v u => decide ((k v).1 < (k u).1)) out → Stb (fun v u => decide ((k v).1 < (k u).1)) out vs → (∀ b o, s.heap.get? b = some o → h'.get? b = some o) → s.heap.objs.size ≤ d → (∃ n, h'.get? d = some (seqObj "list" out.toArray n)) → Q (.ref d) { s with heap := h' }) :
    wpAny (model prog w) A (call (.builtin "sorted") [.ref l]) Q E s := by
  refine sorted_ord (swo_fst (k := k)) hl hz (fun h2 h₁ a ha kk => ?_) fun out hs hb => ?_
  · intro h' keep
    have hp' : ∀ v ∈ vs, PairF h' v (k v) := fun v hm => (hp v hm).keeps fun b o e c => by
      obtain ⟨ne, e1⟩ := kk b o e
      exact keep b o ne e1
    exact ⟨tuples' true, fun Q E hq => kind_pair (s := { s with heap := h' }) h2 hp' hq, cmp_pair (s := { s with heap := h' }) hu hp' hs⟩
  · exact h _ _ out hs hb (fun b o e => sortedAll_old e) (Nat.le_succ _) (sortedAll_at s.heap vs out.toArray)
end
end GU
namespace L2
open PySem PySem.Spec PyProof.Rows
def rSortedPF (K : PySem.W.Frag) : List V → Hp → VK → Prop := fun vs H Q => ∃ (a : Addr) (xs : List V) (k : V → Int × List Int), vs = [V.ref a] ∧ SqL K H a xs ∧ (∀ x ∈ xs, ∃ t w, x = V.ref t ∧ SqT K H t [.int (k x).1, w] ∧ TupI K H w (k x).2) ∧ (∀ x ∈ xs, ∀ y ∈ xs, (k x).1 = (k y).1 → (k x).2 = (k y).2) ∧
  ∀ ys p, SrtO.Srtd (fun x y => decide ((k x).1 < (k y).1)) ys → ys.Perm xs → H p = none → Q (.ref p) (upd H p (.lst ys))
theorem cr_sortedPF {X : Cx} (hu : X.A.units + 16 < cLine) : CallR X (.builtin "sorted") (rSortedPF X.K) := by
  intro pins s σ H vs us Q I r h
  obtain ⟨a, xs, k, rfl, hs, hx, hsame, q⟩ := h
  obtain ⟨its, rv, hl, hz⟩ := I.list hs
  rw [Vals.ref1 r]
  obtain ⟨e1, e2⟩ := bkV_refs rv fun x m => by
    obtain ⟨t, w, e, _⟩ := hx x m
    exact ⟨t, e⟩
  have mem : ∀ v ∈ its, bkV v ∈ xs := fun v hv => by rw [e1]; exact List.mem_map.mpr ⟨_, hv, rfl⟩
  refine GU.sorted_pair (k := fun u => k (bkV u)) (show X.A.units + 2 + 8 < cLine by omega) hl.isList (by rw [← rv.length]; exact hz) (fun v hv => ?_) (fun v hv u hu => hsame _ (mem v hv) _ (mem u hu)) fun h' d out h1 h2 kp hd hn => ?_
  · obtain ⟨t, rfl⟩ := e2 v hv
    obtain ⟨t', w, e, ht, hw⟩ := hx _ (mem _ hv)
    obtain rfl : t = t' := by
      have e' : V.ref t = V.ref t' := e
      exact V.ref.inj e'
    obtain ⟨its2, rv2, hT, _⟩ := I.tuple ht
    obtain ⟨tw, ew, htw⟩ := hw
    obtain ⟨u1, u2, rfl, ra, rb⟩ := vals2 rv2
    obtain ⟨t1, rfl⟩ := ra
    subst ew
    cases rb
    exact ⟨t, _, t1, .ref tw, rfl, hT, rfl, tupI_raw I htw⟩
  · have h3 : ∀ u ∈ out, ∃ a, u = Value.ref a := fun u hu => e2 u (h2.perm.mem_iff.mp hu)
    obtain ⟨n, hn⟩ := hn
    have hp : (out.map bkV).Perm xs := by
      rw [e1]
      exact h2.perm.map bkV
    refine ⟨.ref d, upd H d (.lst (out.map bkV)), I.laid (t' := s.toks) kp hd ⟨?_, out, n, bkV_vals h3, hn⟩, rfl, q _ d (SrtO.srtd_map h1) hp (I.hok.fresh hd)⟩
    rw [hp.length_eq]
    exact hz
end L2
namespace DL
open PySem PySem.Spec PyProof.Rows L2
def plD (x : Int × List Int) : D := .tup [.int x.1, tupI x.2]
def kP (H : Hp) : V → Int × List Int
  | .ref a => match H a with
    | some (.tup [.int i, w]) => (i, kOf H w)
    | _ => (0, [])
  | _ => (0, [])
section
variable {X : Cx} {G0 : Hp} {μ : Mu} {Φ : DK} {K : PySem.W.Frag} {H G : Hp} {e : Expr} {es : List Expr} {δ : List (Option D)} {pos apos cpos : Pos}
theorem rp_plD {v : V} {x : Int × List Int} (r : Rp K (Im μ H) v (plD x)) : (∃ t w, v = V.ref t ∧ SqT K H t [.int x.1, w] ∧ TupI K H w x.2) ∧ kP H v = x := by
  obtain ⟨a, vs, rfl, ha, ra⟩ := rp_tup_at r
  obtain ⟨v1, v2, rfl, r1, r2⟩ := rp2 ra
  cases rp_int r1
  obtain ⟨h1, h2⟩ := rp_tupI r2
  refine ⟨⟨a, v2, rfl, SqT.of ha, h1⟩, ?_⟩
  show (match H a with | some (.tup [.int i, w]) => (i, kOf H w) | _ => ((0 : Int), ([] : List Int))) = x
  rw [ha]
  show (x.1, kOf H v2) = x
  rw [h2]
theorem rp_plDs : ∀ {L : List (Int × List Int)} {vs : List V}, RpAll K (Im μ H) vs (L.map plD) → vs.map (kP H) = L ∧ ∀ v ∈ vs, (∃ t w, v = V.ref t ∧ SqT K H t [.int (kP H v).1, w] ∧ TupI K H w (kP H v).2) ∧ Rp K (Im μ H) v (plD (kP H v))
  | [], _, .nil => ⟨rfl, fun v h => by cases h⟩
  | ns :: L, _, .cons (v := v) (vs := vs) r t => by
    obtain ⟨e1, e2⟩ := rp_plDs t
    obtain ⟨h1, h2⟩ := rp_plD r
    refine ⟨by rw [List.map_cons, h2, e1], fun u hu => ?_⟩
    rcases List.mem_cons.mp hu with e | hu
    · subst e
      rw [h2]
      exact ⟨h1, r⟩
    · exact e2 u hu
theorem rp_plD_all : ∀ {vs : List V}, (∀ v ∈ vs, Rp K G v (plD (kP H v))) → RpAll K G vs ((vs.map (kP H)).map plD)
  | [], _ => .nil
  | v :: vs, h => .cons (h v List.mem_cons_self) (rp_plD_all fun u hu => h u (List.mem_cons_of_mem _ hu))
/-- sorted() of pairs (an int, a tuple of ints), where the int settles the rest -/
theorem c_sortPF {L : List (Int × List Int)} (hu : X.A.units + 64 < cLine) (hs : ∀ x ∈ L, ∀ y ∈ L, x.1 = y.1 → x.2 = y.2) (q : ∀ L' : List (Int × List Int), L'.Perm L → L'.Pairwise (fun x y => x.1 ≤ y.1) → Φ (.lst (L'.map plD)) μ) : dCall X (.builtin "sorted") [.lst (L.map plD)] μ Φ := fun vs H r0 m Q kk => by
  obtain ⟨v, rfl, r1⟩ := rp1 r0
  obtain ⟨p, ws, rfl, ha, ra⟩ := rp_lst_at r1
  obtain ⟨e1, e2⟩ := rp_plDs ra
  have mem : ∀ v ∈ ws, kP H v ∈ L := fun v hv => by rw [← e1]; exact List.mem_map.mpr ⟨v, hv, rfl⟩
  refine wCall_of (cr_sortedPF (by omega)) ⟨p, ws, kP H, rfl, SqL.of ha, fun x hx => (e2 x hx).1, fun x hx y hy => hs _ (mem x hx) _ (mem y hy), fun ys l hs hp hl => ?_⟩
  refine kk.new m hl (q (ys.map (kP H)) (by rw [← e1]; exact hp.map _) ?_) (rp_lst m hl ?_)
  · rw [List.pairwise_map]
    refine hs.imp fun {a b} h => ?_
    have := of_decide_eq_false h
    omega
  · exact rp_plD_all fun v hv => (e2 v (hp.mem_iff.mp hv)).2
/-- sorted(xs, reverse = True) of ints -/
theorem d_sortRev {p : Pos} {kws : List Keyword} (h : dA X G0 (e :: es) δ μ fun xs μ1 => dKw X G0 kws δ μ1 fun zs μ2 => ∃ ns : List Int, xs = [.lst (ns.map .int)] ∧ zs = [.bl true] ∧ ∀ ns' : List Int, ns'.Perm ns → ns'.Pairwise (· ≥ ·) → Φ (.lst (ns'.map .int)) μ2) (hm : X.mg "sorted" = none := by assumption) (hg : Gl X "sorted" := by rfl)
    (he : backTo pos (starEach (e :: es) X.env) = (false, eval e X.env) :: backTo pos (starEach es X.env) := by rfl) (hpl : (backTo pos (starEach (e :: es) X.env)).any (·.1) = false := by rfl)
    (hall : (backToKw pos (keywordEach kws X.env)).all (·.1.isSome) = true := by rfl) (hnone : (backToKw pos (keywordEach kws X.env)).any (·.1.isNone) = false := by rfl) (hks : (backToKw pos (keywordEach kws X.env)).filterMap (·.1) = [Str.ofString "reverse"] := by rfl) : dE X G0 (.Call (.Name "sorted" p) (e :: es) kws pos) δ μ Φ := fun σ H B Q kk => by
  refine wE_of (pe_callBK (id := "sorted") (cr_sortedRev (b := true)) hg hm (by decide +kernel) pa_w pk_w (by decide) (by decide) he hpl hall hnone hks) ?_
  refine h σ H B _ fun vs H1 xs μ1 q m1 e1 r1 => ?_
  refine q σ H1 (B.step m1 e1) _ fun ws H2 zs μ2 q2 m2 e2 r2 => ?_
  obtain ⟨ns, rfl, rfl, qq⟩ := q2
  obtain ⟨v, rfl, rv⟩ := rp1 (r1.mono e2)
  obtain ⟨w, rfl, rw'⟩ := rp1 r2
  obtain ⟨a, us, rfl, ha, ra⟩ := rp_lst_at rv
  rw [ra.ints] at ha
  refine ⟨a, ns, rfl, by rw [rp_bl rw'], SqL.of ha, fun ns' q hp ho hq => ?_⟩
  exact (kk.after (e1.trans e2)).new m2 hq (qq ns' hp ho) (rp_lst m2 hq RpAll.of_ints)
/-- xs.clear() -/
theorem d_clearL {o : Expr} (h : dE X G0 o δ μ fun d μ1 => ∃ p ds, d = .ref p ∧ μ1 p = some (.lst ds) ∧ Φ .non (updM μ1 p (.lst []))) (hbase : attributeBase o "clear" X.env (eval o X.env) = eval o X.env := by rfl) (hline : (apos.endLine == cpos.line) = true := by rfl) : dE X G0 (.Call (.Attribute o "clear" apos) [] [] cpos) δ μ Φ := fun σ H B Q k => by
  refine wE_of (pe_bm0 PySem.F.plainAttrs_list PySem.F.slot_list_clear PySem.F.type_list_clear mt_clear pe_w hbase hline) ?_
  refine h.go B fun v H1 d μ1 ⟨p, ds, ed, hp, q⟩ m1 e1 r1 => ?_
  subst ed
  cases rp_ref r1
  obtain ⟨ws, ha, ra⟩ := m1.lst hp
  refine ⟨.inl ⟨rfl, ws, SqL.of ha⟩, p, ws, rfl, rfl, ha, ?_⟩
  have hi : Im (updM μ1 p (.lst [])) (upd H1 p (.lst [])) = Im μ1 H1 := im_upd (by rw [hp]; rfl)
  exact k _ _ _ _ q (m1.upd hi .nil) (by rw [hi]; exact e1) .non
end
end DL

namespace DL
open PySem PySem.Spec PyProof.Rows L2
section
variable {X : Cx} {G0 : Hp} {e a b c it elt : Expr} {es rest : List Expr} {sts : List Stmt} {δ : List (Option D)} {μ : Mu} {Φ : DK} {pos : Pos} {K : PySem.W.Frag} {H : Hp} {Q : VK} {E : DEnds}
/-- y = [e for x in a list that stays] -/
theorem s_setL {x y : Str} {scope : Scope} {tp cp py spos : Pos} {own : List (Str × Nat)} {vs : List Nat} (i0 j : Nat)
    (h : dE X G0 it δ μ fun d μ1 => ∃ ds, d = .lst ds ∧ ∃ Pv : Nat → List D → Mu → Prop, Pv 0 [] μ1 ∧ (∀ (i : Nat) d acc μ2 p, ds[i]? = some d → Pv i acc μ2 → μ2 p = none → LcTurn X scope elt p acc ((wipeD δ vs).set j (some d)) μ2 (Pv (i + 1))) ∧ ∀ acc μ2 p, Pv ds.length acc μ2 → μ2 p = none → Fz (fun d μ' => E.nx (δ.set i0 (some d)) μ') (.ref p) (updM μ2 p (.lst acc)))
    (hy : X.N[i0]? = some y := by rfl) (hyl : X.env.scope.names.lookup y = some .local := by rfl) (hsw : swapsWith (.ListComp elt [⟨.Name x tp, it, [], 0⟩] scope cp) (some (.Name y py)) spos.line X.env = pure true := by exact sw_true rfl rfl rfl (by decide +kernel))
    (hb : blkC X.N X.env.scope scope own = true := by kernel_rfl) (hj : j ∈ vs := by decide) (hv : own.map (·.2) = vs := by rfl) (hN : X.N.Nodup := by assumption) (hc : X.calm = true := by rfl)
    (hi : X.N[j]? = some x := by rfl) (hx : ∀ s H C cl fp, Loc (BX X scope s H C cl fp).env.scope x := by first | exact fun _ _ _ _ _ => Or.inl rfl | exact fun _ _ _ _ _ => Or.inr rfl) (hf : ∀ s H C cl fp, (BX X scope s H C cl fp).fn x = true ∨ (BX X scope s H C cl fp).env.scope.names.lookup x = some .local := by first | exact fun _ _ _ _ _ => .inr rfl | exact fun _ _ _ _ _ => .inl rfl)
    (hs : ∀ x, foldedSetIterable it X.env x = pure x := by intro _; rfl) : dS X G0 (.Assign [.Name y py] (.ListComp elt [⟨.Name x tp, it, [], 0⟩] scope cp) spos) δ μ E := fun σ H B => by
  refine wS_of (ps_setLc (i := i0) hc hN hy hyl hsw (pi_list pe_w) (blkOk_by hb) (fun s H C cl fp => pg_name (i := j) hN hi (hx s H C cl fp) (hf s H C cl fp)) (fun _ _ _ _ _ => pts_nil) (fun s H C cl fp => (⟨fun pins s' σ' H' Q' I q => q s H C cl fp pins s' I⟩ : PE _ _ (wEs X scope elt))) hs) ?_
  have k : KP X.K μ H (fun d μ' => E.nx (δ.set i0 (some d)) μ') (fun v H1 => gName i0 v σ H1 (dEn X.K G0 E).nx) := fun v H1 d μ1 q m1 e1 r1 => ⟨_, μ1, q, (B.step m1 e1).set r1⟩
  rw [hv]
  refine h σ H B _ fun v H1 d μ1 q m1 e1 r1 => ?_
  obtain ⟨ds, rfl, Pv, p0, turn, fin⟩ := q
  obtain ⟨a, ws, rfl, hG, ra⟩ : ∃ a ws, v = .ref a ∧ Im μ1 H1 a = some (.lst ws) ∧ RpAll X.K (Im μ1 H1) ws ds := by
    cases r1 with
    | lst h r => exact ⟨_, _, rfl, h, r⟩
  have B1 := (B.step m1 e1).wipe vs
  refine ⟨a, rfl, ⟨ws, SqL.of (im_all _ _ hG)⟩, fun p hp => ?_⟩
  have hi0 : Im (updM μ1 p (.lst [])) (upd H1 p (.lst [])) = Im μ1 H1 := im_new hp
  have B2 : Bd X.K (Im μ1 H1) (wipeD δ vs) (updM μ1 p (.lst [])) (L2.wipe σ vs) (upd H1 p (.lst [])) := B1.rebase.step (m1.upd hi0 .nil) (by rw [hi0]; exact Sub.refl _)
  refine lc_list (xs := ws) (fun i H' => ∃ acc μ2, Pv i acc μ2 ∧ μ2 p = none ∧ Bd X.K (Im μ1 H1) (wipeD δ vs) (updM μ2 p (.lst acc)) (L2.wipe σ vs) H') ⟨[], μ1, p0, mu_free m1 hp, B2⟩ (fun i H' _ ⟨acc, μ2, _, _, B'⟩ => SqL.of (im_all _ _ (B'.base _ _ hG))) (fun i y H' hy ⟨acc, μ2, hP, hp2, B'⟩ => ?_) (fun H' ⟨acc, μ2, hP, hp2, B'⟩ => ?_)
  · have hl : i < ds.length := by rw [← ra.length]; exact (List.getElem?_eq_some_iff.mp hy).1
    obtain ⟨w', hw, rw'⟩ := ra.get (List.getElem?_eq_getElem hl)
    rw [hw] at hy
    cases hy
    refine ⟨by rw [wipe_set hj, wipe_wipe], ?_⟩
    exact lc_turn (B'.set (rw'.mono B'.base)) B' (turn i _ acc μ2 p (List.getElem?_eq_getElem hl) hP hp2)
  · rw [ra.length] at hP
    exact lc_end (k.fz.after e1) hp2 (fin acc μ2 p hP hp2) B'
end
end DL

namespace DL
open PySem PySem.Spec PyProof.Rows L2
section
variable {X : Cx} {G0 : Hp} {k v : Expr} {δ : List (Option D)} {μ : Mu} {Φ : DK} {pos : Pos}
/-- {k: v}, k a tuple of integers and texts: a new dict -/
theorem d_disp1 (hu : X.A.units + 64 < cLine) (h : ∀ p, μ p = none → dE X G0 k δ (updM μ p (.dct [])) fun kx μ1 => dE X G0 v δ μ1 fun vx μ2 => ∃ kk μ3, kx = keyT kk ∧ μ2 = updM μ3 p (.dct []) ∧ μ3 p = none ∧ Φ (.ref p) (updM μ3 p (.dct [(kk, vx)]))) : dE X G0 (.Dict [some k] [v] pos) δ μ Φ := fun σ H B Q kq => by
  intro pins s I
  have hn : H s.heap.objs.size = none := I.hok.fresh (Nat.le_refl _)
  have I1 := I.laid (a := s.heap.objs.size) (o := .dT []) (h' := s.heap.push { cls := .type "dict", data := .dict #[] }) (t' := s.toks) (fun _ _ q => Heap.get?_push_of_some _ q) (Nat.le_refl _) (dt_empty s.heap I.big)
  generalize hp : s.heap.objs.size = p at hn I1
  have hi0 : Im (updM μ p (.dct [])) (upd H p (.dT [])) = Im μ H := im_new hn
  have B1 : Bd X.K G0 δ (updM μ p (.dct [])) σ (upd H p (.dT [])) := B.step (B.mu.upd hi0 .nil) (by rw [hi0]; exact Sub.refl _)
  rw [arm_eval_Dict, zip_pairTrees [some k] [v] X.env pos rfl rfl, dictDisplay_pairs (pairTrees [some k] [v] X.env pos) (by simp [pairTrees]) (by simp [pairTrees])]
  refine wpAny_bind (wpAny_standAt (wpAny_bind (wpAny_subDictH (knd := tupleKind (mixKind X.prog X.w)) (A := X.A) (show X.A.units < cLine by omega) (by simp [pairTrees]) ?_)))
  rw [hp]
  refine pairTrees_cons_walk ?_
  refine wpAny_mono (h p (mu_free B.mu hn) σ _ B1 (fun vk H2 => ∃ kx μ1, dE X G0 v δ μ1 (fun vx μ2 => ∃ kk μ3, kx = keyT kk ∧ μ2 = updM μ3 p (.dct []) ∧ μ3 p = none ∧ Φ (.ref p) (updM μ3 p (.dct [(kk, vx)]))) ∧ MuOk X.K μ1 H2 ∧ Sub (Im μ H) (Im μ1 H2) ∧ Rp X.K (Im μ1 H2) vk kx)
    (fun vk H2 kx μ1 q m e r => ⟨kx, μ1, q, m, by rw [← hi0]; exact e, r⟩) pins _ I1) (fun kv s1 hk => ?_) fun _ _ e => e
  obtain ⟨vk, H2, I2, rk, kx, μ1, qv, m1, e1, r1⟩ := hk
  refine wpAny_mono (qv σ H2 (B.step m1 e1) (fun vv H3 => ∃ vx μ2 kk μ3, kx = keyT kk ∧ μ2 = updM μ3 p (.dct []) ∧ μ3 p = none ∧ Φ (.ref p) (updM μ3 p (.dct [(kk, vx)])) ∧ MuOk X.K μ2 H3 ∧ Sub (Im μ1 H2) (Im μ2 H3) ∧ Rp X.K (Im μ2 H3) vv vx)
    (fun vv H3 vx μ2 ⟨kk, μ3, a1, a2, a3, a4⟩ m e r => ⟨vx, μ2, kk, μ3, a1, a2, a3, a4, m, e, r⟩) pins _ I2) (fun u s2 hv => ?_) fun _ _ e => e
  obtain ⟨vv, H3, I3, rv, vx, μ2, kk, μ3, rfl, rfl, hp3, qf, m2, e2, r2⟩ := hv
  obtain ⟨b, rfl, hb⟩ := rp_keyT (r1.mono e2)
  obtain rfl : kv = Value.ref b := rk
  have hb3 : H3 b = some (.tup (kk.map kV)) := hb
  obtain ⟨ws, hd3, rd3⟩ := m2.dct (p := p) (ds := []) updM_same
  cases rd3
  refine wpAny_pure ?_
  obtain ⟨z, hsys, xs, kt, dd⟩ := dt_of I3.hok hd3
  cases kt
  refine ⟨[(kk, b, u)], ⟨rfl, rfl, key_of I3.hok hb3, trivial⟩, dd, fun h' tk dd' hs => ?_⟩
  have ex : storedAllH ([] : List (List Key × Addr × Value)) [(kk, b, u)] = [(kk, b, u)] := storedAllH_append_of_fresh [] [(kk, b, u)] (by simp)
  rw [ex] at dd'
  obtain ⟨o, es, ep, ho, h2, h3, h4, _, h5⟩ := dd'
  have nbp : b ≠ p := ne_of hb3 hd3 (fun z => nomatch z)
  have new : ObjOk X.prog X.w (upd H3 p (.dT [(kk, vv)])) h' p (.dT [(kk, vv)]) := ⟨(show 1 ≤ sizeLine by decide), hsys, [(kk, b, u)], .cons ⟨rfl, by rw [upd_ne nbp]; exact hb3, rv⟩ .nil, o, es, ep, ho, h2, h3, h4, h5⟩
  have I4 := d_write (t' := tk) I3 (by rw [hd3]; exact True.intro) hs ⟨_, ho⟩ new
  have hi3 : Im (updM μ3 p (.dct [(kk, vx)])) (upd H3 p (.dT [(kk, vv)])) = Im (updM μ3 p (.dct [])) H3 := by
    funext a
    unfold Im updM L2.upd
    by_cases e : a = p
    · simp [e]
    · simp [e]
  have m4 : MuOk X.K (updM μ3 p (.dct [(kk, vx)])) (upd H3 p (.dT [(kk, vv)])) := by
    have := m2.upd (p := p) (c := .dct [(kk, vx)]) (o := .dT [(kk, vv)]) (by rw [updM_upd]; exact hi3) (.cons r2 .nil)
    rw [updM_upd] at this
    exact this
  refine wpAny_pure ⟨.ref p, _, I4, rfl, kq _ _ _ _ qf m4 ?_ (.ref p)⟩
  rw [hi3]
  exact e1.trans e2
end
end DL

namespace GA
open PySem PyProof.Rows Srt SrtO
section
variable {prog : Program} {w : World} {A : Around} {s : Shared} {E : Value → Shared → Prop}
theorem collect_tup {l : Addr} {vs : List Value} {Q : List Value → Shared → Prop} (hl : IsTup s.heap l vs.toArray)
    (h : Q vs { s with heap := (s.heap.push (seqObj "list" #[] 0)).update s.heap.objs.size (Obj.mapSeq (· ++ vs.toArray)) }) (hsz : vs.length ≤ sizeLine) :
    wpAny (model prog w) A (collect (.ref l)) Q E s := by
  obtain ⟨o, ho, hc, n, hd⟩ := id hl
  unfold collect
  refine wpAny_bind (wpAny_runValue (codeAny_builtin entry_proto_collect' ?_))
  show wpAny _ _ (do again (.builtin "list.__iadd__" ⟨[← newList [], .ref l], []⟩)) _ _ s
  refine wpAny_bind (wpAny_newList (wpAny_pure ⟨Code.quiet_builtin _ (by decide +kernel), codeAny_builtin entry_list_iadd' ?_⟩))
  show wpAny _ _ (Builtin.List.listExtendWith (.ref s.heap.objs.size) (.ref l) (.ref s.heap.objs.size)) _ _ { s with heap := s.heap.push (seqObj "list" #[] 0) }
  unfold Builtin.List.listExtendWith
  have ho' : (s.heap.push (seqObj "list" #[] 0)).get? l = some o := Heap.get?_push_of_some _ ho
  refine wpAny_bind (wpAny_typeOf (T := "tuple") ⟨o, ho', hc⟩ ?_)
  have ht : (Value.type "tuple" == Value.type "tuple") = true := by rfl
  rw [if_pos (by rw [ht]; simp)]
  refine wpAny_bind (listItems_at ho' hd ?_)
  refine wpAny_bind (listItems_at (xs := #[]) (n := 0) (Heap.get?_push_size _ rfl) rfl ?_)
  rw [if_neg (by simp)]
  refine wpAny_bind (listUpdate_at (xs := #[]) (n := 0) (Heap.get?_push_size _ rfl) rfl ?_ (Nat.zero_le _) (by show (#[] ++ vs.toArray).size ≤ sizeLine + 1; simp only [Array.size_append, List.size_toArray, List.length_nil]; omega))
  refine wpAny_pure ?_
  show wpAny (model prog w) A (do
      let o ← load s.heap.objs.size
      match o.data with
      | .seq xs _ => pure xs.toList
      | _ => unsupported "internal:collect") Q E { s with heap := (s.heap.push (seqObj "list" #[] 0)).update s.heap.objs.size (Obj.mapSeq (· ++ vs.toArray)) }
  refine wpAny_bind (wpAny_load (get?_update_seq (Heap.get?_push_size _ rfl) _) ?_)
  show wpAny _ _ (pure ((#[] : Array Value) ++ vs.toArray).toList) Q E _
  rw [show ((#[] : Array Value) ++ vs.toArray).toList = vs by simp]
  exact wpAny_pure h
/-- sorted(t) of a tuple -/
theorem sorted_ordT {l : Addr} {vs : List Value} {ltv : Value → Value → Bool} {Q : Value → Shared → Prop} (O : Swo ltv) (hl : IsTup s.heap l vs.toArray) (hz : vs.length ≤ sizeLine)
    (hS : 2 ≤ vs.length → ∀ (h₁ : Heap) (a : Addr), h₁.get? a = some (seqObj "list" vs.toArray 0) → (∀ b o, s.heap.get? b = some o → b ≠ a ∧ h₁.get? b = some o) → SortableO prog w A.in1.in1 { s with heap := h₁ } a vs ltv)
    (h : ∀ out : List Value, Srtd ltv out → Stb ltv out vs → Q (.ref (s.heap.objs.size + 1)) { s with heap := sortedAll s.heap vs out.toArray }) :
    wpAny (model prog w) A (call (.builtin "sorted") [.ref l]) Q E s := by
  refine Calls.call_function_entry kind_sorted plain_sorted entry_sorted (args_sorted1 _) ?_
  unfold Builtin.«sorted»
  refine wpAny_bind (m := checkCount "sorted" 1 1 _) (wpAny_pure ?_)
  refine wpAny_bind (collect_tup hl ?_ hz)
  refine wpAny_bind (wpAny_newList ?_ hz)
  have hsz : ((s.heap.push (seqObj "list" #[] 0)).update s.heap.objs.size (Obj.mapSeq (· ++ vs.toArray))).objs.size = s.heap.objs.size + 1 := by
    rw [Heap.size_update, size_push']
  have hoL : (((s.heap.push (seqObj "list" #[] 0)).update s.heap.objs.size (Obj.mapSeq (· ++ vs.toArray))).push (seqObj "list" vs.toArray 0)).get? (s.heap.objs.size + 1) = some (seqObj "list" vs.toArray 0) := by
    rw [← hsz]; exact Heap.get?_push_size _ rfl
  have keep : ∀ b o, s.heap.get? b = some o → b ≠ s.heap.objs.size + 1 ∧ (((s.heap.push (seqObj "list" #[] 0)).update s.heap.objs.size (Obj.mapSeq (· ++ vs.toArray))).push (seqObj "list" vs.toArray 0)).get? b = some o := fun b o q => by
    have hlt : b < s.heap.objs.size := Heap.lt_size q
    refine ⟨Nat.ne_of_lt (Nat.lt_succ_of_lt hlt), Heap.get?_push_of_some _ ?_⟩
    rw [Heap.get?_update_ne _ _ _ _ (Nat.ne_of_lt hlt)]
    exact Heap.get?_push_of_some _ q
  show wpAny _ _ _ _ _ { s with heap := ((s.heap.push (seqObj "list" #[] 0)).update s.heap.objs.size (Obj.mapSeq (· ++ vs.toArray))).push (seqObj "list" vs.toArray 0) }
  rw [hsz]
  refine wpAny_bind (wpAny_holding (wpAny_call_entry slot_list_sort ⟨_, hoL, rfl⟩ entry_list_sort (list_sort_ord O hoL hz (fun h2 => hS h2 _ _ hoL keep) fun out hs hb => ⟨_, rfl, ?_⟩) (args_list_sort _)))
  exact wpAny_pure ⟨_, rfl, h out hs hb⟩
end
end GA
namespace L2
open PySem PySem.Spec PyProof.Rows
def rSortedIT (K : PySem.W.Frag) : List V → Hp → VK → Prop := fun vs H Q => ∃ (a : Addr) (ns : List Int), vs = [V.ref a] ∧ SqT K H a (ns.map V.int) ∧
  ∀ (ns' : List Int) (p : Addr), ns'.Perm ns → ns'.Pairwise (· ≤ ·) → H p = none → Q (.ref p) (upd H p (.lst (ns'.map V.int)))
theorem cr_sortedIT {X : Cx} : CallR X (.builtin "sorted") (rSortedIT X.K) := by
  intro pins s σ H vs us Q I r h
  obtain ⟨a, ns, rfl, hs, q⟩ := h
  obtain ⟨its, rv, hl, hz⟩ := I.tuple hs
  rw [Vals.ref1 r]
  have hi := rv.ints
  refine GA.sorted_ordT SrtO.swo_int hl (by rw [← rv.length]; exact hz) (fun h2 h₁ a' _ _ => SrtO.ints_sortable hi h2) fun out h1 h2 => ?_
  obtain ⟨k1, k2, k3⟩ := SrtO.ints_out hi h1 h2
  obtain ⟨ep, he'⟩ := PyProof.Rows.sortedAll_at s.heap its out.toArray
  have hlen : ((out.map SrtO.iv).map V.int).length ≤ sizeLine := by
    rw [List.length_map, k2.length_eq]
    rw [List.length_map] at hz
    exact hz
  exact ⟨.ref _, upd H (s.heap.objs.size + 1) (.lst ((out.map SrtO.iv).map V.int)), I.laid (t' := s.toks) (fun _ _ => PyProof.Rows.sortedAll_old) (Nat.le_succ _) ⟨hlen, out, ep, vals_of_ints k1, he'⟩, rfl, q _ _ k2 k3 (I.hok.fresh (Nat.le_succ _))⟩
theorem w_it {J : It} {n : Nat} {G : Hp → Prop} {Y : Nat → Hp → V → Hp → Prop} (w : Walk J n G Y) {H1 : Hp} {Qd : Hp → Prop} {B : V → Hp → (Hp → Prop) → Prop} (Pv : Nat → Hp → Prop) (h0 : Pv 0 H1) (hG : ∀ i H, i ≤ n → Pv i H → G H)
    (hs : ∀ i x H H', i < n → Pv i H → Y i H x H' → B x H' (Pv (i + 1))) (hd : ∀ H, Pv n H → Qd H) :
    ∃ W : Nat → Nat → Hp → Prop, (∃ m, W 0 m H1) ∧ ∀ i m H, W i m H →
      (J.stop i H ∧ Qd H) ∨ (J.go i H ∧ ∃ Nx : Hp → Prop, (∀ H', Nx H' → ∃ m', m' < m ∧ W (i + 1) m' H') ∧ ∀ x H', J.yld i H x H' → B x H' Nx) := by
  refine ⟨fun i m H => m = n - i ∧ i ≤ n ∧ Pv i H, ⟨n, by simp, Nat.zero_le _, h0⟩, ?_⟩
  rintro i m H ⟨rfl, hi, p⟩
  have q := hG i H hi p
  by_cases hlt : i < n
  · refine .inr ⟨w.goes i H hlt q, Pv (i + 1), fun H' p' => ⟨n - (i + 1), by omega, rfl, hlt, p'⟩, fun x H' y => hs i x H H' hlt p (w.yields i H x H' hlt q y)⟩
  · have e : i = n := by omega
    subst e
    exact .inl ⟨w.stops H q, hd H p⟩
end L2
namespace DL
open PySem PySem.Spec PyProof.Rows L2
section
variable {X : Cx} {G0 : Hp} {e e2 a b c it it1 elt o : Expr} {es rest : List Expr} {sts : List Stmt} {δ : List (Option D)} {μ : Mu} {Φ : DK} {pos apos cpos : Pos} {K : PySem.W.Frag} {H G : Hp} {Q : VK} {E : DEnds} {xs ys : List D} {x y d : D}
theorem _root_.DL.RpAll.eraseIdx {G : Hp} : ∀ {vs : List V} {ds : List D} (i : Nat), RpAll K G vs ds → RpAll K G (vs.eraseIdx i) (ds.eraseIdx i)
  | _, _, _, .nil => .nil
  | _, _, 0, .cons _ t => t
  | _, _, i + 1, .cons r t => .cons r (RpAll.eraseIdx i t)
/-- [e for x in a tuple for y in a tuple], where nothing changes -/
theorem d_lc2TT {x y : Str} {scope : Scope} {tp tq cp : Pos} {own : List (Str × Nat)} {vs : List Nat} (j j2 : Nat) (f : D → List D) (el : D → D → D)
    (h : dE X G0 it δ μ fun d μ1 => ∃ ds, d = .tup ds ∧ (ds.flatMap fun d => (f d).map (el d)).length ≤ sizeLine ∧
      (∀ d ∈ ds, ∀ p acc, μ1 p = none → dEs X scope it1 ((wipeD δ vs).set j (some d)) (updM μ1 p (.lst acc)) fun r μ3 => r = .tup (f d) ∧ μ3 = updM μ1 p (.lst acc)) ∧
      (∀ d ∈ ds, ∀ z ∈ f d, ∀ p acc, μ1 p = none → dEs X scope elt ((wipeD ((wipeD δ vs).set j (some d)) [j2]).set j2 (some z)) (updM μ1 p (.lst acc)) fun r μ3 => r = el d z ∧ μ3 = updM μ1 p (.lst acc)) ∧
      ∀ p, μ1 p = none → Φ (.ref p) (updM μ1 p (.lst (ds.flatMap fun d => (f d).map (el d)))))
    (hb : blkC X.N X.env.scope scope own = true := by kernel_rfl) (hj : j ∈ vs := by decide) (hj2 : j2 ∈ vs := by decide) (hv : own.map (·.2) = vs := by rfl) (hN : X.N.Nodup := by assumption) (hc : X.calm = true := by rfl)
    (hi : X.N[j]? = some x := by rfl) (hx : ∀ s H C cl fp, Loc (BX X scope s H C cl fp).env.scope x := by first | exact fun _ _ _ _ _ => Or.inl rfl | exact fun _ _ _ _ _ => Or.inr rfl) (hf : ∀ s H C cl fp, (BX X scope s H C cl fp).fn x = true ∨ (BX X scope s H C cl fp).env.scope.names.lookup x = some .local := by first | exact fun _ _ _ _ _ => .inr rfl | exact fun _ _ _ _ _ => .inl rfl)
    (hi2 : X.N[j2]? = some y := by rfl) (hx2 : ∀ s H C cl fp, Loc (BX X scope s H C cl fp).env.scope y := by first | exact fun _ _ _ _ _ => Or.inl rfl | exact fun _ _ _ _ _ => Or.inr rfl) (hf2 : ∀ s H C cl fp, (BX X scope s H C cl fp).fn y = true ∨ (BX X scope s H C cl fp).env.scope.names.lookup y = some .local := by first | exact fun _ _ _ _ _ => .inr rfl | exact fun _ _ _ _ _ => .inl rfl)
    (hs : ∀ x, foldedSetIterable it X.env x = pure x := by intro _; rfl) (hs1 : ∀ env x, foldedSetIterable it1 env x = pure x := by intro _ _; rfl) : dE X G0 (.ListComp elt [⟨.Name x tp, it, [], 0⟩, ⟨.Name y tq, it1, [], 0⟩] scope cp) δ μ Φ := fun σ H B Q k => by
  refine wE_of (pe_lc2 (vs1 := [j2]) hc hN (pi_tup pe_w) (blkOk_by hb) (fun i hi' => by rw [hv]; rw [List.mem_singleton.mp hi']; exact hj2) (fun s H C cl fp => pg_name (i := j) hN hi (hx s H C cl fp) (hf s H C cl fp)) (fun _ _ _ _ _ => pts_nil)
    (fun s H C cl fp => (show PI (BX X scope s H C cl fp) (.Name y tq) it1 (iTup X.K (wEs X scope it1)) from pi_tup (⟨fun pins s' σ' H' Q' I q => q s H C cl fp pins s' I⟩ : PE _ _ (wEs X scope it1)))) (fun s H C cl fp => pg_name (i := j2) hN hi2 (hx2 s H C cl fp) (hf2 s H C cl fp)) (fun _ _ _ _ _ => pts_nil)
    (fun s H C cl fp => (⟨fun pins s' σ' H' Q' I q => q s H C cl fp pins s' I⟩ : PE _ _ (wEs X scope elt))) hs hs1) ?_
  rw [hv]
  refine h σ H B _ fun v H1 d μ1 q m1 e1 r1 => ?_
  obtain ⟨ds, rfl, hlen, hit, hel, fin⟩ := q
  obtain ⟨a, ws, rfl, hG, ra⟩ : ∃ a ws, v = .ref a ∧ Im μ1 H1 a = some (.tup ws) ∧ RpAll X.K (Im μ1 H1) ws ds := by
    cases r1 with
    | tup h r => exact ⟨_, _, rfl, h, r⟩
  have B1 := (B.step m1 e1).wipe vs
  refine ⟨a, rfl, ⟨ws, SqT.of (im_all _ _ hG)⟩, fun p hp => ?_⟩
  have hpn : μ1 p = none := mu_free m1 hp
  have hi0 : Im (updM μ1 p (.lst [])) (upd H1 p (.lst [])) = Im μ1 H1 := im_new hp
  have B2 : Bd X.K (Im μ1 H1) (wipeD δ vs) (updM μ1 p (.lst [])) (L2.wipe σ vs) (upd H1 p (.lst [])) := B1.rebase.step (m1.upd hi0 .nil) (by rw [hi0]; exact Sub.refl _)
  refine w_it (walk_tup (xs := ws)) (fun i H' => Bd X.K (Im μ1 H1) (wipeD δ vs) (updM μ1 p (.lst ((ds.take i).flatMap fun d => (f d).map (el d)))) (L2.wipe σ vs) H') ?_ (fun i H' _ B' => SqT.of (im_all _ _ (B'.base _ _ hG))) (fun i yv H' H'' hi' B' hy => ?_) (fun H' B' => ?_)
  · rw [List.take_zero]
    exact B2
  · obtain ⟨rfl, hy⟩ := hy
    have hl : i < ds.length := by rw [← ra.length]; exact hi'
    obtain ⟨w', hw, rw'⟩ := ra.get (List.getElem?_eq_getElem hl)
    rw [hw] at hy
    have hy' : yv = w' := (Option.some.inj hy).symm
    subst hy'
    have hdm : ds[i] ∈ ds := List.getElem_mem hl
    have et : (ds.take (i + 1)).flatMap (fun d => (f d).map (el d)) = (ds.take i).flatMap (fun d => (f d).map (el d)) ++ (f ds[i]).map (el ds[i]) := by
      rw [List.take_add_one, List.getElem?_eq_getElem hl, List.flatMap_append]
      simp
    have hle : ((ds.take (i + 1)).flatMap fun d => (f d).map (el d)).length ≤ sizeLine := by
      refine Nat.le_trans ?_ hlen
      conv => rhs; rw [← List.take_append_drop (i + 1) ds, List.flatMap_append, List.length_append]
      omega
    generalize ha : (ds.take i).flatMap (fun d => (f d).map (el d)) = acc at B' et ⊢
    rw [et] at hle ⊢
    rw [List.length_append, List.length_map] at hle
    generalize ds[i] = dd at *
    have Bx := B'.set (rw'.mono B'.base) (i := j)
    refine ⟨by rw [wipe_set hj, wipe_wipe], ?_⟩
    unfold tYes
    dsimp only
    rw [if_pos rfl]
    intro s H0 C cl fp
    refine hit dd hdm p acc hpn (Im μ1 H1) s H0 C cl fp _ H'' Bx _ fun v4 H4 r μ3 q m4 e4 r4 => ?_
    obtain ⟨rfl, rfl⟩ := q
    obtain ⟨a4, us, rfl, hG4, rb⟩ : ∃ a us, v4 = .ref a ∧ Im (updM μ1 p (.lst acc)) H4 a = some (.tup us) ∧ RpAll X.K (Im (updM μ1 p (.lst acc)) H4) us (f dd) := by
      cases r4 with
      | tup h r => exact ⟨_, _, rfl, h, r⟩
    have By := Bx.step m4 e4
    have Bz := B'.step m4 e4
    refine ⟨a4, rfl, ⟨us, SqT.of (im_all _ _ hG4)⟩, ?_⟩
    refine w_it (walk_tup (xs := us)) (fun k H' => Bd X.K (Im (updM μ1 p (.lst acc)) H4) ((wipeD δ vs).set j (some dd)) (updM μ1 p (.lst (acc ++ ((f dd).take k).map (el dd)))) ((L2.wipe σ vs).set j (some yv)) H' ∧ Bd X.K (Im (updM μ1 p (.lst acc)) H4) (wipeD δ vs) (updM μ1 p (.lst (acc ++ ((f dd).take k).map (el dd)))) (L2.wipe σ vs) H') ?_ (fun k H' _ B' => SqT.of (im_all _ _ (B'.1.base _ _ hG4))) (fun k y H5 H6 hk B5 hy => ?_) (fun H' B5 => ?_)
    · rw [List.take_zero, List.map_nil, List.append_nil]
      exact ⟨By.rebase, Bz.rebase⟩
    · obtain ⟨rfl, hy⟩ := hy
      have hl2 : k < (f dd).length := by rw [← rb.length]; exact hk
      obtain ⟨w2, hw2, rw2⟩ := rb.get (List.getElem?_eq_getElem hl2)
      rw [hw2] at hy
      cases hy
      have hzm : (f dd)[k] ∈ f dd := List.getElem_mem hl2
      have et2 : ((f dd).take (k + 1)).map (el dd) = ((f dd).take k).map (el dd) ++ [el dd (f dd)[k]] := by
        rw [List.take_add_one, List.getElem?_eq_getElem hl2, List.map_append]
        rfl
      have hlk : (acc ++ ((f dd).take k).map (el dd)).length < sizeLine := by
        rw [List.length_append, List.length_map, List.length_take]
        omega
      rw [et2, ← List.append_assoc]
      generalize acc ++ ((f dd).take k).map (el dd) = acc2 at *
      generalize (f dd)[k] = z at *
      have Bw := (B5.1.wipe [j2]).set (rw2.mono B5.1.base) (i := j2)
      refine ⟨by rw [wipe_set (List.mem_singleton.mpr rfl), wipe_wipe], ?_⟩
      rw [if_pos rfl]
      intro s H0 C cl fp
      refine hel dd hdm z hzm p acc2 hpn _ s H0 C cl fp _ H6 Bw _ fun v7 H7 r7 μ7 q7 m7 e7 r7' => ?_
      obtain ⟨rfl, rfl⟩ := q7
      obtain ⟨ws7, ha7, ra7⟩ := m7.lst updM_same
      have hi7 : Im (updM μ1 p (.lst (acc2 ++ [el dd z]))) (upd H7 p (.lst (ws7 ++ [v7]))) = Im (updM μ1 p (.lst acc2)) H7 := by
        rw [← updM_upd (c := .lst acc2)]
        exact im_upd (by rw [updM_same]; rfl)
      have m8 : MuOk X.K (updM μ1 p (.lst (acc2 ++ [el dd z]))) (upd H7 p (.lst (ws7 ++ [v7]))) := by
        rw [← updM_upd (c := .lst acc2)]
        refine m7.upd ?_ (ra7.append (.cons r7' .nil))
        rw [updM_upd]
        exact hi7
      have e8 : Sub (Im (updM μ1 p (.lst acc2)) H6) (Im (updM μ1 p (.lst (acc2 ++ [el dd z]))) (upd H7 p (.lst (ws7 ++ [v7])))) := by rw [hi7]; exact e7
      exact ⟨ws7, ha7, by rw [ra7.length]; exact hlk, B5.1.step m8 e8, B5.2.step m8 e8⟩
    · rw [rb.length, List.take_length] at B5
      exact B5.2.weaken Bz.base
  · rw [ra.length, List.take_length] at B'
    exact lc_end (k.after e1) hpn (fin p hpn) B'
/-- sorted() of a list or a tuple of ints -/
theorem c_sortI {ns : List Int} (hd : d = .lst (ns.map .int) ∨ d = .tup (ns.map .int)) (q : ∀ ns' : List Int, ns'.Perm ns → ns'.Pairwise (· ≤ ·) → Φ (.lst (ns'.map .int)) μ) : dCall X (.builtin "sorted") [d] μ Φ := fun vs H r m Q k => by
  obtain ⟨v, rfl, rv⟩ := rp1 r
  rcases hd with rfl | rfl
  · obtain ⟨a, ws, rfl, ha, ra⟩ := rp_lst_at rv
    rw [ra.ints] at ha
    exact wCall_of cr_sortedI ⟨a, ns, rfl, SqL.of ha, fun ns' p h1 h2 hp => k.new m hp (q ns' h1 h2) (rp_lst m hp RpAll.of_ints)⟩
  · obtain ⟨a, ws, rfl, ha, ra⟩ := rp_tup_at rv
    rw [ra.ints] at ha
    exact wCall_of cr_sortedIT ⟨a, ns, rfl, SqT.of ha, fun ns' p h1 h2 hp => k.new m hp (q ns' h1 h2) (rp_lst m hp RpAll.of_ints)⟩
/-- del xs[i] -/
theorem s_delL {o ix : Expr} {tpos : Pos} (h : dE X G0 o δ μ fun dd μ1 => dE X G0 ix δ μ1 fun di μ2 => ∃ p ds i k, dd = .ref p ∧ di = .int i ∧ μ2 p = some (.lst ds) ∧ -(2 ^ 63) ≤ i ∧ i < 2 ^ 63 ∧ seqIndex? i ds.length = some k ∧ E.nx δ (updM μ2 p (.lst (ds.eraseIdx k)))) : dS X G0 (.Delete [.Subscript o ix tpos] pos) δ μ E := fun σ H B => by
  refine wS_of (ps_delL pe_w pe_w) ?_
  refine h.go B fun v H1 dd μ1 q1 m1 e1 r1 => ?_
  refine q1.go (B.step m1 e1) fun u H2 di μ2 q2 m2 e2 r2 => ?_
  obtain ⟨p, ds, i, k, rfl, rfl, hp, b1, b2, hk, q⟩ := q2
  cases rp_ref r1
  cases rp_int r2
  obtain ⟨ws, ha, ra⟩ := m2.lst hp
  have hi : Im (updM μ2 p (.lst (ds.eraseIdx k))) (upd H2 p (.lst (ws.eraseIdx k))) = Im μ2 H2 := im_upd (by rw [hp]; rfl)
  refine ⟨p, ws, i, k, rfl, rfl, ha, b1, b2, by rw [ra.length]; exact hk, _, _, q, (B.step m1 e1).step (m2.upd hi (ra.eraseIdx k)) ?_⟩
  rw [hi]
  exact e2
/-- xs.pop(i) -/
theorem d_popAt {o : Expr} (h : dE X G0 o δ μ fun dd μ1 => ∃ p, dd = .ref p ∧ (∃ ds, μ1 p = some (.lst ds)) ∧ dE X G0 e δ μ1 fun d μ2 => ∃ ds i k y, d = .int i ∧ μ2 p = some (.lst ds) ∧ -(2 ^ 63) ≤ i ∧ i < 2 ^ 63 ∧ seqIndex? i ds.length = some k ∧ ds[k]? = some y ∧ Φ y (updM μ2 p (.lst (ds.eraseIdx k))))
    (hbase : attributeBase o "pop" X.env (eval o X.env) = eval o X.env := by rfl)
    (hfew : ((backTo pos (starEach [e] X.env)).all (fun x => !x.1) && (backToKw pos (keywordEach [] X.env)).all (fun x => x.1.isSome)
      && decide ([e].length + ([] : List Keyword).length + (if ([] : List Keyword).isEmpty then 0 else 1) < 30)) = true := by rfl) (hline : (apos.endLine == pos.line) = true := by rfl) (hst : starEach [e] X.env = (false, eval e X.env) :: starEach [] X.env := by rfl) : dE X G0 (.Call (.Attribute o "pop" apos) [e] [] pos) δ μ Φ := fun σ H B Q k => by
  refine wE_of (pe_bm PySem.F.plainAttrs_list PySem.F.slot_list_pop PySem.F.type_list_pop mt_popAt pe_w (pa_cons pe_w pa_nil hst) (hbase := hbase) (hfew := hfew) (hline := hline) (hs := hst)) ?_
  refine h σ H B _ fun vo H1 dd μ1 q1 m1 e1 r1 => ?_
  obtain ⟨p, rfl, ⟨ds, hp⟩, q1⟩ := q1
  cases rp_ref r1
  obtain ⟨vs, ha, ra⟩ := m1.lst hp
  refine ⟨.inl ⟨rfl, vs, SqL.of ha⟩, ?_⟩
  refine q1.go (B.step m1 e1) fun v H2 d μ2 q2 m2 e2 r2 => ?_
  obtain ⟨ds, i, kk, y, rfl, hp, b1, b2, hk, hy, q⟩ := q2
  cases rp_int r2
  obtain ⟨vs, ha, ra⟩ := m2.lst hp
  obtain ⟨w, hw, rw'⟩ := ra.get hy
  have hi : Im (updM μ2 p (.lst (ds.eraseIdx kk))) (upd H2 p (.lst (vs.eraseIdx kk))) = Im μ2 H2 := im_upd (by rw [hp]; rfl)
  refine ⟨p, vs, i, kk, w, rfl, rfl, ha, b1, b2, by rw [ra.length]; exact hk, hw, k _ _ _ _ q (m2.upd hi (ra.eraseIdx kk)) ?_ (by rw [hi]; exact rw')⟩
  rw [hi]
  exact e1.trans e2
/-- o1[i1], o2[i2] = .. -/
theorem s_swap {o1 i1 o2 i2 : Expr} {p1 p2 pt : Pos} {kk : Nat} (h : dE X G0 e δ μ fun d μ1 => ∃ d1 d2, d = .tup [d1, d2] ∧ dE X G0 o1 δ μ1 fun dd μ2 => dE X G0 i1 δ μ2 fun di μ3 => ∃ p k ds j, dd = .ref p ∧ di = .int k ∧ μ3 p = some (.lst ds) ∧ ixN ds.length k = some j ∧
      dE X G0 o2 δ (updM μ3 p (.lst (ds.set j d1))) fun dd' μ4 => dE X G0 i2 δ μ4 fun di' μ5 => ∃ p' k' ds' j', dd' = .ref p' ∧ di' = .int k' ∧ μ5 p' = some (.lst ds') ∧ ixN ds'.length k' = some j' ∧ E.nx δ (updM μ5 p' (.lst (ds'.set j' d2))))
    (ha1 : ∀ v, assign (.Subscript o1 i1 p1) X.env v = (do
      let ov ← holding [v] (eval o1 X.env)
      let iv ← holding [v, ov] (eval i1 X.env)
      standAt p1
      holding [v, ov, iv] (setItem ov iv v)
      release [v, ov, iv] []) := by intro _; rfl)
    (ha2 : ∀ v, assign (.Subscript o2 i2 p2) X.env v = (do
      let ov ← holding [v] (eval o2 X.env)
      let iv ← holding [v, ov] (eval i2 X.env)
      standAt p2
      holding [v, ov, iv] (setItem ov iv v)
      release [v, ov, iv] []) := by intro _; rfl) (hc : X.calm = true := by rfl)
    (hs1 : (assignEach [.Subscript o1 i1 p1, .Subscript o2 i2 p2] X.env).map (·.2) = assign (.Subscript o1 i1 p1) X.env :: (assignEach [.Subscript o2 i2 p2] X.env).map (·.2) := by rfl) (hs2 : (assignEach [.Subscript o2 i2 p2] X.env).map (·.2) = assign (.Subscript o2 i2 p2) X.env :: (assignEach [] X.env).map (·.2) := by rfl)
    (hn : (assignEach [.Subscript o1 i1 p1, .Subscript o2 i2 p2] X.env).length = 2 := by rfl) (hst : (assignEach [.Subscript o1 i1 p1, .Subscript o2 i2 p2] X.env).findIdx? (·.1) = none := by rfl)
    (hs : swapsWithSole [.Tuple [.Subscript o1 i1 p1, .Subscript o2 i2 p2] kk pt] e pos.line X.env = pure false := by rfl) (hw : swappedStores [.Tuple [.Subscript o1 i1 p1, .Subscript o2 i2 p2] kk pt] e X.env = pure none := by rfl) (h1 : (assignEach [.Tuple [.Subscript o1 i1 p1, .Subscript o2 i2 p2] kk pt] X.env).map (·.2) = [assign (.Tuple [.Subscript o1 i1 p1, .Subscript o2 i2 p2] kk pt) X.env] := by rfl) :
    dS X G0 (.Assign [.Tuple [.Subscript o1 i1 p1, .Subscript o2 i2 p2] kk pt] e pos) δ μ E := fun σ H B => by
  refine wS_of (ps_asg pe_w (pg_tup (n := 2) hc (pgs_cons (pg_sub pe_w pe_w set_list ha1) (pgs_cons (pg_sub pe_w pe_w set_list ha2) pgs_nil hs2) hs1) hn hst) hs hw h1) ?_
  refine h.go B fun v H1 d μ1 q1 m1 e1 r1 => ?_
  obtain ⟨d1, d2, rfl, q1⟩ := q1
  obtain ⟨a, vs, rfl, ha, ra⟩ := rp_tup_at r1
  obtain ⟨v1, v2, rfl, rv1, rv2⟩ := rp2 ra
  refine ⟨a, [v1, v2], rfl, SqT.of ha, rfl, v1, [v2], rfl, ?_⟩
  refine q1.go (B.step m1 e1) fun vo H2 dd μ2 q2 m2 e2 r2 => ?_
  refine q2.go (B.step m2 (e1.trans e2)) fun vi H3 di μ3 q3 m3 e3 r3 => ?_
  obtain ⟨p, k, ds, j, rfl, rfl, hp, hj, q⟩ := q3
  cases rp_ref r2
  cases rp_int r3
  obtain ⟨ws, hb, rb⟩ := m3.lst hp
  have hi : Im (updM μ3 p (.lst (ds.set j d1))) (upd H3 p (.lst (ws.set j v1))) = Im μ3 H3 := im_upd (by rw [hp]; rfl)
  refine ⟨p, ws, k, j, rfl, rfl, hb, by rw [rb.length]; exact hj, v2, [], rfl, ?_⟩
  have m4 := m3.upd hi (RpAll.set (rv1.mono (e2.trans e3)) j rb)
  have e4 : Sub (Im μ3 H3) (Im (updM μ3 p (.lst (ds.set j d1))) (upd H3 p (.lst (ws.set j v1)))) := by rw [hi]; exact Sub.refl _
  refine q.go (B.step m4 ((e1.trans (e2.trans e3)).trans e4)) fun vo' H5 dd' μ5 q5 m5 e5 r5 => ?_
  refine q5.go (B.step m5 (((e1.trans (e2.trans e3)).trans e4).trans e5)) fun vi' H6 di' μ6 q6 m6 e6 r6 => ?_
  obtain ⟨p', k', ds', j', rfl, rfl, hp', hj', q⟩ := q6
  cases rp_ref r5
  cases rp_int r6
  obtain ⟨ws', hb', rb'⟩ := m6.lst hp'
  have hi' : Im (updM μ6 p' (.lst (ds'.set j' d2))) (upd H6 p' (.lst (ws'.set j' v2))) = Im μ6 H6 := im_upd (by rw [hp']; rfl)
  refine ⟨p', ws', k', j', rfl, rfl, hb', by rw [rb'.length]; exact hj', rfl, δ, _, q, B.step (m6.upd hi' (RpAll.set (rv2.mono ((e2.trans e3).trans (e4.trans (e5.trans e6)))) j' rb')) ?_⟩
  rw [hi']
  exact ((e1.trans (e2.trans e3)).trans e4).trans (e5.trans e6)
end
/-! ### several clauses -/
section
variable {X : Cx} {G0 : Hp} {δ : List (Option D)} {μ : Mu} {E : DEnds} {Ψ : List (Option D) → DX} {x : Str} {C : Addr} {pos : Pos} {hds : List ExceptHandler}
/-- what a list of clauses makes of errors -/
def dCl (X : Cx) (G0 : Hp) (E : DEnds) (hds : List ExceptHandler) (Ψ : List (Option D) → DX) : Prop := ∃ WD : Ends → WX, (∀ D, X.Ok → Clauses X D hds (WD D)) ∧
  (∀ (C d : Addr) δ σ H2 gs μ2, Ψ δ C gs μ2 → Bd X.K G0 δ μ2 σ H2 → ErrAt X.K μ2 H2 C d gs → WD (dEn X.K G0 E) (.ref C) (some d) σ H2) ∧
  ∀ (C : Addr) δ σ H2 μ2, Ψ δ C bareG μ2 → Bd X.K G0 δ μ2 σ H2 → WD (dEn X.K G0 E) (.ref C) none σ H2
theorem dcl_nil (tk : dTk X G0 Ψ) (hs : X.stack = X.env :: X.outer := by rfl) (hf : X.env.frame = some X.env.locals := by rfl) : dCl X G0 E [] Ψ := by
  obtain ⟨Wo, tw, tq⟩ := tk
  exact ⟨fun _ => Wo, fun D ok => cl_nil hs hf tw, tq.1, tq.2⟩
theorem dcl_bare {b1 : Stmt} {suite1 : List Stmt} {np1 pos1 : Pos} (hm : X.mg x = some (.ref C)) (r : dCl X G0 E hds Ψ) (hg : Gl X x := by rfl) (hdb : (x == ("__debug__" : Str)) = false := by decide) (hf : X.env.frame = some X.env.locals := by rfl) :
    dCl X G0 E (.ExceptHandler (some (.Name x np1)) none (b1 :: suite1) pos1 :: hds) (TryN X G0 C (b1 :: suite1) E Ψ) := by
  obtain ⟨WD, r1, r2, r3⟩ := r
  refine ⟨fun D => wFirst X.K (.ref C) (fun a cls d σ H => ∀ oe pn, L2N.Zn cls d oe → (∃ vs, oe.data = .fields vs) → wSs (X.suite a ((a, oe) :: pn)) (b1 :: suite1) D σ H) (WD D),
    fun D ok => cl_bare (ts := fun a cls d D σ H => ∀ oe pn, L2N.Zn cls d oe → (∃ vs, oe.data = .fields vs) → wSs (X.suite a ((a, oe) :: pn)) (b1 :: suite1) D σ H) hf ⟨hg, hdb, .inl hm⟩ ok (fun a oe cls d pn hz hv => ⟨fun pins s σ' H' D I q => q oe pn hz hv pins s I⟩) (r1 D ok),
    fun C' d δ' σ' H2 gs μ2 q B2 er => ?_, fun C' δ' σ' H2 μ2 q B2 => ?_⟩
  · obtain ⟨b, hx, h1, h2⟩ := q
    exact ⟨b, hx, fun eb a ha oe pn' hz hv => h1 eb a _ oe pn' hz hv σ' H2 B2, fun eb => r2 C' d δ' σ' H2 gs μ2 (h2 eb) B2 er⟩
  · obtain ⟨b, hx, h1, h2⟩ := q
    exact ⟨b, hx, fun eb a ha oe pn' hz hv => h1 eb a _ oe pn' hz hv σ' H2 B2, fun eb => r3 C' δ' σ' H2 μ2 (h2 eb) B2⟩
theorem dcl_as (i : Nat) {n : Str} {b1 : Stmt} {suite1 : List Stmt} {np1 pos1 : Pos} (hm : X.mg x = some (.ref C)) (r : dCl X G0 E hds Ψ) (hN : X.N.Nodup := by assumption) (hi : X.N[i]? = some n := by rfl) (hln : X.env.kindOf n = some .local := by rfl) (hg : Gl X x := by rfl) (hdb : (x == ("__debug__" : Str)) = false := by decide) (hf : X.env.frame = some X.env.locals := by rfl) :
    dCl X G0 E (.ExceptHandler (some (.Name x np1)) (some n) (b1 :: suite1) pos1 :: hds) (TryX X G0 C i (b1 :: suite1) E Ψ) := by
  obtain ⟨WD, r1, r2, r3⟩ := r
  refine ⟨fun D => wFirst X.K (.ref C) (fun a cls d σ H => ∀ oe pn, L2N.Zn cls d oe → (∃ vs, oe.data = .fields vs) → wSs (X.suite a ((a, oe) :: pn)) (b1 :: suite1) (dropD i D) (σ.set i (some (.ref a))) H) (WD D),
    fun D ok => cl_as (ts := fun a cls d D σ H => ∀ oe pn, L2N.Zn cls d oe → (∃ vs, oe.data = .fields vs) → wSs (X.suite a ((a, oe) :: pn)) (b1 :: suite1) D σ H) hf hN hi hln ⟨hg, hdb, .inl hm⟩ ok (fun a oe cls d pn hz hv => ⟨fun pins s σ' H' D I q => q oe pn hz hv pins s I⟩) (r1 D ok),
    fun C' d δ' σ' H2 gs μ2 q B2 er => ?_, fun C' δ' σ' H2 μ2 q B2 => ?_⟩
  · obtain ⟨b, hx, h1, h2, _⟩ := q
    refine ⟨b, hx, fun eb a ha oe pn' hz hv => ?_, fun eb => r2 C' d δ' σ' H2 gs μ2 (h2 eb) B2 er⟩
    refine wSs_mono ?_ (h1 eb a d oe pn' hz hv _ H2 (B2.set (er a)))
    exact ⟨fun σ3 H3 ⟨δ3, μ3, q3, B3⟩ => ⟨_, μ3, q3, B3.none i⟩, fun _ _ q => q, fun σ3 H3 ⟨δ3, μ3, q3, B3⟩ => ⟨_, μ3, q3, B3.none i⟩, fun σ3 H3 ⟨δ3, μ3, q3, B3⟩ => ⟨_, μ3, q3, B3.none i⟩⟩
  · obtain ⟨b, hx, _, h2, h3⟩ := q
    refine ⟨b, hx, fun eb a ha oe pn' hz hv => ?_, fun eb => r3 C' δ' σ' H2 μ2 (h2 eb) B2⟩
    refine wSs_mono ?_ (h3 eb rfl a oe pn' hz hv _ H2 (B2.set (.ref a)))
    exact ⟨fun σ3 H3 ⟨δ3, μ3, q3, B3⟩ => ⟨_, μ3, q3, B3.none i⟩, fun _ _ q => q, fun σ3 H3 ⟨δ3, μ3, q3, B3⟩ => ⟨_, μ3, q3, B3.none i⟩, fun σ3 H3 ⟨δ3, μ3, q3, B3⟩ => ⟨_, μ3, q3, B3.none i⟩⟩
theorem s_tryC {h0 : ExceptHandler} {body : List Stmt} (r : dCl X G0 E (h0 :: hds) Ψ) (hb : ∀ (pn : List (Addr × Obj)) (xe : Value → Shared → Prop), PassesOwn (model X.prog X.w) X.A X.env xe → dTk (X.tr pn xe) G0 Ψ → dSs (X.tr pn xe) G0 body δ μ E)
    (hs : X.stack = X.env :: X.outer := by rfl) (hf : X.env.frame = some X.env.locals := by rfl) : dS X G0 (.Try body (h0 :: hds) [] [] pos) δ μ E := fun σ H B => by
  obtain ⟨WD, r1, r2, r3⟩ := r
  refine wS_of (ps_tryC (tb := fun W D σ H => ∀ pn xe, L2N.Takes (X.tr pn xe) W → PassesOwn (model X.prog X.w) X.A X.env xe → wSs (X.tr pn xe) body D σ H) (WD := WD) hs hf
    (fun W pn xe tk' hp => ⟨fun pins s σ' H' D I q => q pn xe tk' hp pins s I⟩) r1) ?_
  intro pn xe tk' hp
  exact hb pn xe hp ⟨_, tk', r2, r3⟩ σ H B
end
end DL

namespace DL
open PySem PySem.Spec PyProof.Rows L2
/-! ### dicts whose keys are ints or texts -/
def DAtK (μ : Mu) (d : D) (kvs : List (Key × D)) : Prop := d = .dck kvs ∨ ∃ p, d = .ref p ∧ μ p = some (.dck kvs)
def valK (kvs : List (Key × D)) (k : Key) : Option D := (kvs.find? fun kv => decide (kv.1 = k)).map (·.2)
def putW (kvs : List (Key × D)) (k : Key) (v : D) : List (Key × D) := if (kvs.any fun kv => decide (kv.1 = k)) then kvs.map fun kv => if kv.1 = k then (kv.1, v) else kv else kvs ++ [(k, v)]
section
variable {X : Cx} {G0 : Hp} {e a b c it elt o : Expr} {es rest : List Expr} {sts : List Stmt} {δ : List (Option D)} {μ : Mu} {Φ : DK} {pos apos : Pos} {K : PySem.W.Frag} {H G : Hp} {Q : VK} {E : DEnds} {kvs : List (Key × D)} {k : Key} {d x y r : D}
theorem datk_rd {v : V} (r : Rp K (Im μ H) v d) (m : MuOk K μ H) (h : DAtK μ d kvs) : ∃ a vs, v = .ref a ∧ Rd H a (.dK vs) ∧ RpKw K (Im μ H) vs kvs := by
  rcases h with rfl | ⟨p, rfl, h⟩
  · cases r with
    | dck h r => exact ⟨_, _, rfl, .inr ⟨_, im_all _ _ h⟩, r⟩
  · obtain ⟨vs, h1, h2⟩ := m.dck h
    exact ⟨p, vs, rp_ref r, .inl h1, h2⟩
theorem RpKw.keys : ∀ {vs : List (Key × V)} {ds : List (Key × D)}, RpKw K G vs ds → vs.map (·.1) = ds.map (·.1)
  | _, _, .nil => rfl
  | _, _, .cons _ t => congrArg _ t.keys
theorem RpKw.length {vs : List (Key × V)} {ds : List (Key × D)} (h : RpKw K G vs ds) : vs.length = ds.length := by
  have := congrArg List.length h.keys
  simpa using this
theorem RpKw.val : ∀ {vs : List (Key × V)} {ds : List (Key × D)} (k : Key), RpKw K G vs ds → (∀ d, valK ds k = some d → ∃ v, valV vs k = some v ∧ Rp K G v d) ∧ (valK ds k = none → valV vs k = none)
  | _, _, k, .nil => ⟨fun d h => by simp [valK] at h, fun _ => rfl⟩
  | (k', v) :: vs, (_, d') :: ds, k, .cons r t => by
    obtain ⟨i1, i2⟩ := RpKw.val k t
    by_cases e : k' = k
    · subst e
      refine ⟨fun d h => ?_, fun h => ?_⟩
      · simp [valK, List.find?_cons] at h
        subst h
        exact ⟨v, valV_pos rfl, r⟩
      · simp [valK, List.find?_cons] at h
    · have e1 : valK ((k', d') :: ds) k = valK ds k := by simp [valK, List.find?_cons, e]
      rw [e1]
      refine ⟨fun d h => ?_, fun h => ?_⟩
      · obtain ⟨u, h1, h2⟩ := i1 d h
        exact ⟨u, by rw [valV_neg (by exact e)]; exact h1, h2⟩
      · rw [valV_neg (by exact e)]
        exact i2 h
theorem RpKw.isSome {vs : List (Key × V)} {ds : List (Key × D)} (k : Key) (h : RpKw K G vs ds) : (valV vs k).isSome = (valK ds k).isSome := by
  cases e : valK ds k with
  | none => rw [(h.val k).2 e] <;> rfl
  | some d =>
    obtain ⟨v, h1, _⟩ := (h.val k).1 d e
    rw [h1]
    rfl
theorem RpKw.append : ∀ {vs ws : List (Key × V)} {ds us : List (Key × D)}, RpKw K G vs ds → RpKw K G ws us → RpKw K G (vs ++ ws) (ds ++ us)
  | _, _, _, _, .nil, h2 => h2
  | _, _, _, _, .cons r t, h2 => .cons r (RpKw.append t h2)
theorem RpKw.repl {v : V} (hv : Rp K G v d) (k : Key) : ∀ {vs : List (Key × V)} {ds : List (Key × D)}, RpKw K G vs ds → RpKw K G (vs.map fun kv => if kv.1 = k then (kv.1, v) else kv) (ds.map fun kv => if kv.1 = k then (kv.1, d) else kv)
  | _, _, .nil => .nil
  | (k', u) :: vs, (_, u') :: ds, .cons r t => by
    rw [List.map_cons, List.map_cons]
    by_cases e : k' = k
    · rw [if_pos (by exact e), if_pos (by exact e)]
      exact .cons hv (RpKw.repl hv k t)
    · rw [if_neg (by exact e), if_neg (by exact e)]
      exact .cons r (RpKw.repl hv k t)
theorem RpKw.any (k : Key) : ∀ {vs : List (Key × V)} {ds : List (Key × D)}, RpKw K G vs ds → (vs.any fun kv => decide (kv.1 = k)) = (ds.any fun kv => decide (kv.1 = k))
  | _, _, .nil => rfl
  | (k', u) :: vs, (_, u') :: ds, .cons r t => by
    rw [List.any_cons, List.any_cons, RpKw.any k t]
theorem RpKw.put {v : V} (hv : Rp K G v d) (k : Key) {vs : List (Key × V)} {ds : List (Key × D)} (h : RpKw K G vs ds) : RpKw K G (putK vs k v) (putW ds k d) := by
  unfold putK putW
  rw [h.any k]
  split
  · exact h.repl hv k
  · exact h.append (.cons hv .nil)
theorem RpKw.merge : ∀ {ms : List (Key × V)} {md : List (Key × D)} {vs : List (Key × V)} {ds : List (Key × D)}, RpKw K G ms md → RpKw K G vs ds → RpKw K G (mergeK vs ms) (md.foldl (fun acc kv => putW acc kv.1 kv.2) ds)
  | _, _, _, _, .nil, h => h
  | (k, u) :: ms, (_, u') :: md, vs, ds, .cons r t, h => by
    show RpKw K G (mergeK (putK vs k u) ms) (md.foldl (fun acc kv => putW acc kv.1 kv.2) (putW ds k u'))
    exact RpKw.merge t (h.put r k)
/-- d[i] -/
theorem x_dck (hu : X.A.units + 64 < cLine) (hd : DAtK μ x kvs) (hv : valK kvs k = some r) (q : Φ r μ) : dIx X x (kD k) μ Φ := fun v u H r1 r2 m Q kk => by
  obtain ⟨a, vs, rfl, h1, h2⟩ := datk_rd r1 m hd
  obtain rfl := rp_kD.mp r2
  obtain ⟨w, hw, rw'⟩ := (h2.val k).1 r hv
  exact wIx_of (ix_dct (by omega)) ⟨a, w, rfl, .inl ⟨vs, k, h1, rfl, hw.symm⟩, kk.val m q rw'⟩
/-- d[i] = e -/
theorem s_putK {o ix : Expr} {tpos : Pos} (hu : X.A.units + 64 < cLine) (h : dE X G0 e δ μ fun d μ1 => dE X G0 o δ μ1 fun dd μ2 => dE X G0 ix δ μ2 fun di μ3 => ∃ p k ds, dd = .ref p ∧ di = kD k ∧ μ3 p = some (.dck ds) ∧ ds.length < sizeLine ∧ E.nx δ (updM μ3 p (.dck (putW ds k d))))
    (ha : ∀ v, assign (.Subscript o ix tpos) X.env v = (do
      let ov ← holding [v] (eval o X.env)
      let iv ← holding [v, ov] (eval ix X.env)
      standAt tpos
      holding [v, ov, iv] (setItem ov iv v)
      release [v, ov, iv] []) := by intro _; rfl)
    (hs : swapsWithSole [.Subscript o ix tpos] e pos.line X.env = pure false := by rfl) (hw : swappedStores [.Subscript o ix tpos] e X.env = pure none := by rfl) (h1 : (assignEach [.Subscript o ix tpos] X.env).map (·.2) = [assign (.Subscript o ix tpos) X.env] := by rfl) :
    dS X G0 (.Assign [.Subscript o ix tpos] e pos) δ μ E := fun σ H B => by
  have sd : PSet X (fun o i v H Q => ∃ a H', o = .ref a ∧ DPut H a i v H' ∧ Q H') := by
    intro pins s σ H x y z u v w Q I r1 r2 r3 h
    obtain ⟨a, H', rfl, g, q⟩ := h
    obtain rfl : u = Value.ref a := r1
    exact d_setItem (by omega) I g r2 r3 fun s' I' => ⟨H', I', q⟩
  refine wS_of (ps_asg pe_w (pg_sub pe_w pe_w sd ha) hs hw h1) ?_
  refine h.go B fun v H1 d μ1 q1 m1 e1 r1 => ?_
  refine q1.go (B.step m1 e1) fun vo H2 dd μ2 q2 m2 e2 r2 => ?_
  refine q2.go (B.step m2 (e1.trans e2)) fun vi H3 di μ3 q3 m3 e3 r3 => ?_
  obtain ⟨p, k, ds, rfl, rfl, hp, hl, q⟩ := q3
  cases rp_ref r2
  obtain rfl := rp_kD.mp r3
  obtain ⟨vs, ha, ra⟩ := m3.dck hp
  have hi : Im (updM μ3 p (.dck (putW ds k d))) (upd H3 p (.dK (putK vs k v))) = Im μ3 H3 := im_upd (by rw [hp]; rfl)
  refine ⟨p, _, rfl, DPut.k ha (by rw [ra.length]; exact hl), δ, _, q, B.step (m3.upd hi (ra.put (r1.mono (e2.trans e3)) k)) ?_⟩
  rw [hi]
  exact e1.trans (e2.trans e3)
/-- {}: keys ints or texts -/
theorem d_newK (q : ∀ p, μ p = none → Φ (.ref p) (updM μ p (.dck []))) : dE X G0 (.Dict [] [] pos) δ μ Φ := fun σ H B Q kk => by
  refine wE_of pe_dnewK fun p hp => ?_
  have e : Im (updM μ p (.dck [])) (upd H p (.dK [])) = Im μ H := im_new hp
  exact kk _ _ _ _ (q p (mu_free B.mu hp)) (B.mu.upd e .nil) (by rw [e]; exact Sub.refl _) (.ref p)
/-- {}: keys tuples -/
theorem d_newT (q : ∀ p, μ p = none → Φ (.ref p) (updM μ p (.dct []))) : dE X G0 (.Dict [] [] pos) δ μ Φ := fun σ H B Q kk => by
  refine wE_of pe_dnewT fun p hp => ?_
  have e : Im (updM μ p (.dct [])) (upd H p (.dT [])) = Im μ H := im_new hp
  exact kk _ _ _ _ (q p (mu_free B.mu hp)) (B.mu.upd e .nil) (by rw [e]; exact Sub.refl _) (.ref p)
def pairW (kv : Key × D) : D := .tup [kD kv.1, kv.2]
theorem rp_pairW (m : MuOk K μ H) : ∀ {vs : List V} {kvs : List (Key × D)}, RpAll K (Im μ H) vs (kvs.map pairW) → ∃ (ps : List Addr) (ws : List (Key × V)), vs = ps.map V.ref ∧ Paired (fun p kv => SqT K H p [kV kv.1, kv.2]) ps ws ∧ RpKw K (Im μ H) ws kvs
  | _, [], .nil => ⟨[], [], rfl, .nil, .nil⟩
  | _, (k, d) :: kvs, .cons r t => by
    obtain ⟨ps, ws, rfl, h1, h2⟩ := rp_pairW m t
    obtain ⟨p, us, rfl, hp, rp⟩ := rp_tup_at r
    obtain ⟨v, u, rfl, rk, rv⟩ := rp2 rp
    obtain rfl := rp_kD.mp rk
    exact ⟨p :: ps, (k, u) :: ws, rfl, .cons (SqT.of hp) h1, .cons rv h2⟩
/-- dict(pairs) -/
theorem c_dictW (q : ∀ p, μ p = none → Φ (.ref p) (updM μ p (.dck (kvs.foldl (fun acc kv => putW acc kv.1 kv.2) [])))) (hc : X.calm = true := by rfl) : dCall X (.type "dict") [.lst (kvs.map pairW)] μ Φ := fun vs H r0 m Q kk => by
  obtain ⟨v, rfl, r1⟩ := rp1 r0
  obtain ⟨a, us, rfl, ha, ra⟩ := rp_lst_at r1
  obtain ⟨ps, ws, rfl, h1, h2⟩ := rp_pairW m ra
  refine wCall_of (call_dictP hc) ⟨a, ps, ws, rfl, SqL.of ha, h1, fun p hp => ?_⟩
  have e : Im (updM μ p (.dck (kvs.foldl (fun acc kv => putW acc kv.1 kv.2) []))) (upd H p (.dK (mergeK [] ws))) = Im μ H := im_new hp
  exact kk _ _ _ _ (q p (mu_free m hp)) (m.upd e (RpKw.merge h2 .nil)) (by rw [e]; exact Sub.refl _) (.ref p)
/-- a value, or a new dict that stays (locked) from now on -/
def FzK (Φ : DK) : DK := fun d μ => Φ d μ ∨ ∃ p ds μ2, d = .ref p ∧ μ = updM μ2 p (.dck ds) ∧ μ2 p = none ∧ Φ (.dck ds) μ2
theorem frz_dck {p : Addr} {ds : List (Key × D)} {ws : List (Key × V)} {od : Obj} (m : MuOk K (updM μ p (.dck ds)) H) (h : μ p = none) (hw : H p = some (.dK ws)) :
    MuOk K μ (upd H p (.frz od (.dK ws))) ∧ Sub (Im (updM μ p (.dck ds)) H) (Im μ (upd H p (.frz od (.dK ws)))) ∧ Rp K (Im μ (upd H p (.frz od (.dK ws)))) (.ref p) (.dck ds) := by
  have sub : Sub (Im (updM μ p (.dck ds)) H) (Im μ (upd H p (.frz od (.dK ws)))) := by
    rw [← im_lock (o := .frz od (.dK ws))]
    exact im_drop
  obtain ⟨ws', h1, h2⟩ := m.dck updM_same
  rw [hw] at h1
  cases h1
  refine ⟨fun q c hq => ?_, sub, .dck (xs := ws) (o := od) ?_ (h2.mono sub)⟩
  · have ne : q ≠ p := fun e => by
      rw [e, h] at hq
      cases hq
    have z := m q c ((updM_ne ne).trans hq)
    rw [upd_ne ne]
    exact z.mono sub
  · unfold Im
    rw [h, upd_same]
    rfl
theorem d_fzK (h : dE X G0 e δ μ (FzK Φ)) : dE X G0 e δ μ Φ := fun σ H B Q k => by
  have z := h σ H B (fun v H2 => Q v H2 ∨ ∃ p ws, v = .ref p ∧ H2 p = some (.dK ws) ∧ ∀ od, Q v (upd H2 p (.frz od (.dK ws)))) fun v H2 d μ2 q m e2 r => ?_
  · intro pins s I
    refine thn (z pins s I) fun u s' ⟨v, H2, I2, rv, q⟩ => ?_
    rcases q with q | ⟨p, ws, ev, hp, q⟩
    · exact ⟨v, H2, I2, rv, q⟩
    · obtain ⟨od, I3⟩ := I2.lock hp trivial
      exact ⟨v, _, I3, rv, q od⟩
  · rcases q with q | ⟨p, ds, μ3, rfl, rfl, hp, q⟩
    · exact .inl (k v H2 d μ2 q m e2 r)
    · cases rp_ref r
      obtain ⟨ws, h1, h2⟩ := m.dck updM_same
      refine .inr ⟨p, ws, rfl, h1, fun od => ?_⟩
      obtain ⟨z1, z2, z3⟩ := frz_dck (od := od) m hp h1
      exact k _ _ _ μ3 q z1 (e2.trans z2) z3
theorem fzk_ref {p : Addr} {ds : List (Key × D)} (hp : μ p = none) (q : Φ (.dck ds) μ) : FzK Φ (.ref p) (updM μ p (.dck ds)) := .inr ⟨p, ds, μ, rfl, rfl, hp, q⟩
end
end DL

namespace DL
open PySem PySem.Spec PyProof.Rows L2
section
theorem s_forK {X : Cx} {G0 : Hp} {body : List Stmt} {δ : List (Option D)} {μ : Mu} {E : DEnds} {it tg : Expr} {pos : Pos} (h : dE X G0 it δ μ fun d μ1 => ∃ (kvs : List (List Key × D)) (Pv : Nat → List (Option D) → Mu → Prop), d = .dct kvs ∧ Pv 0 δ μ1 ∧
      (∀ (i : Nat) kk r δ' μ', kvs[i]? = some (kk, r) → Pv i δ' μ' → dTg X tg (keyT kk) δ' fun δ2 => ∀ G1, Sub G0 G1 → dSs X G1 body δ2 μ' { E with nx := Pv (i + 1), ct := Pv (i + 1), bk := E.nx }) ∧ ∀ δ' μ', Pv kvs.length δ' μ' → E.nx δ' μ')
    (hp : PassesOwn (model X.prog X.w) X.A X.env X.xe := by assumption) (hc : X.calm = true := by rfl) (hs : ∀ x, foldedSetIterable it X.env x = pure x := by intro _; rfl) : dS X G0 (.For tg it body [] pos) δ μ E := fun σ H B => by
  refine wS_of (ps_for hp hc (pi_keys pe_w) pg_w pss_w hs) ?_
  refine h.go B fun v H1 d μ1 ⟨kvs, Pv, ed, p0, turn, fin⟩ m1 e1 r1 => ?_
  subst ed
  cases r1 with
  | dct hG ra =>
  rename_i a o ws
  have B1 := B.step m1 e1
  refine ⟨a, _, rfl, .inr ⟨_, im_all _ _ hG, for_it walk_keysT (fun i σ' H' => ∃ δ' μ', Pv i δ' μ' ∧ Bd X.K (Im μ1 H1) δ' μ' σ' H') ⟨δ, μ1, p0, B1.rebase⟩ (fun i σ' H' _ ⟨δ', μ', hP, B'⟩ => im_all _ _ (B'.base _ _ hG)) (fun i x σ' H' H'' hlt ⟨δ', μ', hP, B'⟩ hy => ?_) (fun σ' H' ⟨δ', μ', hP, B'⟩ => ?_)⟩⟩
  · obtain ⟨rfl, k', v', q', hw', rfl, hq⟩ := hy
    obtain ⟨r, hkr⟩ := key_at ra.keys hw'
    refine turn i k' r δ' μ' hkr hP (Im μ1 H1) μ' σ' _ _ B' (rp_key B'.mu hq) _ fun δ2 σ2 q B2 => ?_
    refine wSs_mono ?_ (q (Im μ1 H1) B1.base σ2 _ B2)
    exact ⟨fun _ _ q => q, fun v H ⟨d, μ, q, m, e, r⟩ => ⟨d, μ, q, m, B1.base.trans e, r⟩, fun _ _ ⟨δ, μ, q, B⟩ => ⟨δ, μ, q, B.weaken B1.base⟩, fun _ _ q => q⟩
  · rw [ra.length] at hP
    exact ⟨δ', μ', fin δ' μ' hP, B'.weaken B1.base⟩
theorem s_forLx {X : Cx} {G0 : Hp} {body : List Stmt} {δ : List (Option D)} {μ : Mu} {E : DEnds} {it tg : Expr} {pos : Pos} (h : dE X G0 it δ μ fun d μ1 => ∃ ds, d = .lst ds ∧ ∃ Pv : Nat → List (Option D) → Mu → Prop, Pv 0 δ μ1 ∧
      (∀ (i : Nat) d δ' μ', ds[i]? = some d → Pv i δ' μ' → dTg X tg d δ' fun δ2 => ∀ G1, Sub G0 G1 → dSs X G1 body δ2 μ' { E with nx := Pv (i + 1), ct := Pv (i + 1), bk := E.nx }) ∧ ∀ δ' μ', Pv ds.length δ' μ' → E.nx δ' μ')
    (hp : PassesOwn (model X.prog X.w) X.A X.env X.xe := by assumption) (hc : X.calm = true := by rfl) (hs : ∀ x, foldedSetIterable it X.env x = pure x := by intro _; rfl) : dS X G0 (.For tg it body [] pos) δ μ E := fun σ H B => by
  refine wS_of (ps_for hp hc (pi_list pe_w) pg_w pss_w hs) ?_
  refine h.go B fun v H1 d μ1 ⟨ds, ed, Pv, p0, turn, fin⟩ m1 e1 r1 => ?_
  subst ed
  obtain ⟨a, vs, rfl, hG, ra⟩ : ∃ a vs, v = .ref a ∧ Im μ1 H1 a = some (.lst vs) ∧ RpAll X.K (Im μ1 H1) vs ds := by
    cases r1 with
    | lst h r => exact ⟨_, _, rfl, h, r⟩
  have B1 := B.step m1 e1
  refine ⟨a, rfl, ⟨vs, SqL.of (im_all _ _ hG)⟩, for_list (xs := vs) (fun i σ' H' => ∃ δ' μ', Pv i δ' μ' ∧ Bd X.K (Im μ1 H1) δ' μ' σ' H') ⟨δ, μ1, p0, B1.rebase⟩ (fun i σ' H' _ ⟨δ', μ', _, B'⟩ => SqL.of (im_all _ _ (B'.base _ _ hG))) (fun i x σ' H' hx ⟨δ', μ', hP, B'⟩ => ?_) (fun σ' H' ⟨δ', μ', hP, B'⟩ => ?_)⟩
  · have hi : i < ds.length := by rw [← ra.length]; exact (List.getElem?_eq_some_iff.mp hx).1
    obtain ⟨w', hw, rw'⟩ := ra.get (List.getElem?_eq_getElem hi)
    rw [hw] at hx
    cases hx
    refine turn i _ δ' μ' (List.getElem?_eq_getElem hi) hP (Im μ1 H1) μ' σ' H' x B' (rw'.mono B'.base) _ fun δ2 σ2 q B2 => ?_
    refine wSs_mono ?_ (q (Im μ1 H1) B1.base σ2 H' B2)
    exact ⟨fun _ _ q => q, fun v H ⟨d, μ, q, m, e, r⟩ => ⟨d, μ, q, m, B1.base.trans e, r⟩, fun _ _ ⟨δ, μ, q, B⟩ => ⟨δ, μ, q, B.weaken B1.base⟩, fun _ _ q => q⟩
  · rw [ra.length] at hP
    exact ⟨δ', μ', fin δ' μ' hP, B'.weaken B1.base⟩

variable {X : Cx} {G0 : Hp} {e a b c it elt o : Expr} {es rest : List Expr} {sts : List Stmt} {δ : List (Option D)} {μ : Mu} {Φ : DK} {pos apos : Pos} {K : PySem.W.Frag} {H G : Hp} {Q : VK} {E : DEnds} {k : Key} {d x y r : D}
/-- list(range(n)) -/
theorem d_listR {p rp ip : Pos} (h : dE X G0 a δ μ fun x μ1 => ∃ n : Nat, x = .int n ∧ n ≤ 1000 ∧ ∀ p, μ1 p = none → Φ (.ref p) (updM μ1 p (.lst ((rangeI n).map .int)))) (hm2 : X.mg "list" = none := by assumption) (hm : X.mg "range" = none := by assumption) (hc : X.calm = true := by rfl) (hg : Gl X "range" := by rfl) (hg2 : Gl X "list" := by rfl)
    (na : starEach [a] X.env = (false, eval a X.env) :: starEach [] X.env := by rfl) (na2 : starEach [.Call (.Name "range" rp) [a] [] ip] X.env = (false, eval (.Call (.Name "range" rp) [a] [] ip) X.env) :: starEach [] X.env := by rfl) :
    dE X G0 (.Call (.Name "list" p) [.Call (.Name "range" rp) [a] [] ip] [] pos) δ μ Φ := fun σ H B Q k => by
  refine wE_of (pe_listRg hc hg2 hm2 (prg_1 hg hm pe_w na) na2) ?_
  refine h.go B fun v H1 x μ1 ⟨n, ex, hn, q⟩ m1 e1 r1 => ?_
  subst ex
  cases rp_int r1
  refine ⟨n, rfl, RgOk.of_le (by omega) (by omega) (by omega) (by omega), fun p hp => ?_⟩
  rw [rgV_ints]
  exact (k.after e1).newM m1 hp .of_ints q
/-- a dict with ints or texts as keys in a slot stays from now on -/
theorem s_frzK {i : Nat} {p : Addr} {ds : List (Key × D)} (hi : δ[i]? = some (some (.ref p))) (hp : μ p = none) (h : dSs X G0 sts (δ.set i (some (.dck ds))) μ E) : dSs X G0 sts δ (updM μ p (.dck ds)) E := fun σ H B => by
  obtain ⟨v, h1, r⟩ := B.sl i _ hi
  cases rp_ref r
  obtain ⟨ws, h2, h3⟩ := B.mu.dck updM_same
  intro pins s I
  obtain ⟨od, I3⟩ := I.lock h2 trivial
  obtain ⟨z1, z2, z3⟩ := frz_dck (od := od) B.mu hp h2
  have B' : Bd X.K G0 δ μ σ (upd H p (.frz od (.dK ws))) := B.step z1 z2
  have z := B'.set (i := i) z3
  have e : σ.set i (some (.ref p)) = σ := by
    refine List.ext_getElem? fun j => ?_
    by_cases q : i = j
    · subst q
      rw [List.getElem?_set, if_pos rfl, h1, if_pos (List.getElem?_eq_some_iff.mp h1).1]
    · rw [List.getElem?_set_ne q]
  rw [e] at z
  exact h σ _ z pins s I3
theorem fz_at {p : Addr} {ds : List D} {μ : Mu} {Φ : DK} (hp : μ p = some (.lst ds)) (q : Φ (.lst ds) (delM μ p)) : Fz Φ (.ref p) μ := by
  have h := fz_ref (Φ := Φ) (p := p) (ds := ds) (μ := delM μ p) delM_same q
  rw [upd_del hp] at h
  exact h
theorem fz_no {d : D} {μ : Mu} {Φ : DK} (q : Φ d μ) : Fz Φ d μ := .inl q
theorem del_upd {μ : Mu} {p : Addr} {c : D} (h : μ p = none) : delM (updM μ p c) p = μ := by
  funext b
  by_cases hb : b = p
  · rw [hb, delM_same, h]
  · rw [delM_ne hb, updM_ne hb]
/-- for x in a list that may change, but does not -/
theorem s_forM {body : List Stmt} {tg : Expr} (h : dE X G0 it δ μ fun d μ1 => ∃ (p : Addr) (ds : List D) (Pv : Nat → List (Option D) → Mu → Prop), d = .ref p ∧ (∀ i δ' μ', Pv i δ' μ' → μ' p = some (.lst ds)) ∧ Pv 0 δ μ1 ∧
      (∀ (i : Nat) d δ' μ', ds[i]? = some d → Pv i δ' μ' → dTg X tg d δ' fun δ2 => ∀ G1, Sub G0 G1 → dSs X G1 body δ2 μ' { E with nx := Pv (i + 1), ct := Pv (i + 1), bk := E.nx }) ∧ ∀ δ' μ', Pv ds.length δ' μ' → E.nx δ' μ')
    (hp : PassesOwn (model X.prog X.w) X.A X.env X.xe := by assumption) (hc : X.calm = true := by rfl) (hs : ∀ x, foldedSetIterable it X.env x = pure x := by intro _; rfl) : dS X G0 (.For tg it body [] pos) δ μ E := fun σ H B => by
  refine wS_of (ps_for hp hc (pi_list pe_w) pg_w pss_w hs) ?_
  refine h.go B fun v H1 d μ1 ⟨p, ds, Pv, ed, keep, p0, turn, fin⟩ m1 e1 r1 => ?_
  subst ed
  cases rp_ref r1
  have B1 := B.step m1 e1
  obtain ⟨vs, ha, ra⟩ := m1.lst (keep 0 _ _ p0)
  have same : ∀ i δ' μ' σ' H', Pv i δ' μ' → Bd X.K (Im μ1 H1) δ' μ' σ' H' → ∃ us, H' p = some (.lst us) ∧ RpAll X.K (Im μ' H') us ds := fun i δ' μ' σ' H' hP B' => B'.mu.lst (keep i _ _ hP)
  refine ⟨p, rfl, ⟨vs, SqL.of ha⟩, ?_⟩
  refine ⟨fun k n σ' H' => n = ds.length - k ∧ k ≤ ds.length ∧ ∃ δ' μ', Pv k δ' μ' ∧ Bd X.K (Im μ1 H1) δ' μ' σ' H', ⟨_, rfl, Nat.zero_le _, δ, μ1, p0, B1.rebase⟩, ?_⟩
  rintro k n σ' H' ⟨rfl, hk, δ', μ', hP, B'⟩
  obtain ⟨us, hu, ru⟩ := same k δ' μ' σ' H' hP B'
  have sq : SqL X.K H' p us := SqL.of hu
  have w := walk_list (K := X.K) (a := p) (xs := us)
  have hlen : us.length = ds.length := ru.length
  by_cases hlt : k < ds.length
  · refine .inr ⟨w.goes k H' (by omega) sq, fun σ2 H2 => ∃ δ2 μ2, Pv (k + 1) δ2 μ2 ∧ Bd X.K (Im μ1 H1) δ2 μ2 σ2 H2, fun σ2 H2 z => ⟨ds.length - (k + 1), by omega, rfl, hlt, z⟩, fun x H2 hy => ?_⟩
    obtain ⟨rfl, hx⟩ := w.yields k H' x H2 (by omega) sq hy
    obtain ⟨w', hw, rw'⟩ := ru.get (List.getElem?_eq_getElem hlt)
    have ex : x = w' := Option.some.inj (hx.symm.trans hw)
    subst ex
    refine turn k _ δ' μ' (List.getElem?_eq_getElem hlt) hP (Im μ1 H1) μ' σ' _ x B' rw' _ fun δ2 σ2 q B2 => ?_
    refine wSs_mono ?_ (q (Im μ1 H1) B1.base σ2 _ B2)
    exact ⟨fun _ _ q => q, fun v H ⟨d, μ, q, m, e, r⟩ => ⟨d, μ, q, m, B1.base.trans e, r⟩, fun _ _ ⟨δ, μ, q, B⟩ => ⟨δ, μ, q, B.weaken B1.base⟩, fun _ _ q => q⟩
  · have ek : k = ds.length := by omega
    subst ek
    have st := w.stops H' sq
    rw [hlen] at st
    exact .inl ⟨st, δ', μ', fin δ' μ' hP, B'.weaken B1.base⟩
end
/-! ### ints in order -/
def insI (x : Int) : List Int → List Int
  | [] => [x]
  | y :: r => if x ≤ y then x :: y :: r else y :: insI x r
def srt : List Int → List Int
  | [] => []
  | x :: r => insI x (srt r)
theorem insI_perm (x : Int) : ∀ l : List Int, (insI x l).Perm (x :: l)
  | [] => .refl _
  | y :: r => by
    unfold insI
    split
    · exact .refl _
    · exact ((insI_perm x r).cons y).trans (.swap x y r)
theorem srt_perm : ∀ l : List Int, (srt l).Perm l
  | [] => .refl _
  | x :: r => (insI_perm x (srt r)).trans ((srt_perm r).cons x)
theorem insI_ord (x : Int) : ∀ {l : List Int}, l.Pairwise (· ≤ ·) → (insI x l).Pairwise (· ≤ ·)
  | [], _ => by simp [insI]
  | y :: r, h => by
    unfold insI
    obtain ⟨h1, h2⟩ := List.pairwise_cons.mp h
    split
    · rename_i hxy
      refine List.pairwise_cons.mpr ⟨fun z hz => ?_, h⟩
      rcases List.mem_cons.mp hz with e | hz
      · rw [e]; exact hxy
      · have := h1 z hz; omega
    · rename_i hxy
      refine List.pairwise_cons.mpr ⟨fun z hz => ?_, insI_ord x h2⟩
      rcases List.mem_cons.mp ((insI_perm x r).mem_iff.mp hz) with e | hz
      · rw [e]; omega
      · exact h1 z hz
theorem srt_ord : ∀ l : List Int, (srt l).Pairwise (· ≤ ·)
  | [] => .nil
  | x :: r => insI_ord x (srt_ord r)
theorem ord_uniq {l m : List Int} (hl : l.Pairwise (· ≤ ·)) (hm : m.Pairwise (· ≤ ·)) (h : l.Perm m) : l = m :=
  List.Perm.eq_of_pairwise (le := (· ≤ ·)) (fun a b _ _ h1 h2 => Int.le_antisymm h1 h2) hl hm h
theorem srt_of {l m : List Int} (h : m.Perm l) (ho : m.Pairwise (· ≤ ·)) : m = srt l := ord_uniq ho (srt_ord l) (h.trans (srt_perm l).symm)
theorem srt_congr {l m : List Int} (h : l.Perm m) : srt l = srt m := ord_uniq (srt_ord _) (srt_ord _) ((srt_perm l).trans (h.trans (srt_perm m).symm))
theorem srt_len (l : List Int) : (srt l).length = l.length := (srt_perm l).length_eq
/-- sorted() of ints -/
theorem c_srt {X : Cx} {μ : Mu} {Φ : DK} {d : D} {ns : List Int} (hd : d = .lst (ns.map .int) ∨ d = .tup (ns.map .int)) (q : Φ (.lst ((srt ns).map .int)) μ) : dCall X (.builtin "sorted") [d] μ Φ := c_sortI hd fun ns' h1 h2 => by
  rw [srt_of h1 h2]
  exact q
theorem rangeI_pw (n : Nat) : (rangeI n).Pairwise (· < ·) := by
  unfold rangeI
  rw [List.pairwise_map]
  exact List.pairwise_lt_range.imp fun h => by omega
theorem rangeI_ord (n : Nat) : (rangeI n).Pairwise (· ≤ ·) := (rangeI_pw n).imp fun h => by omega
theorem rangeI_nodup (n : Nat) : (rangeI n).Nodup := (rangeI_pw n).imp fun h => by omega
theorem mem_rangeI {n : Nat} {i : Int} : i ∈ rangeI n ↔ 0 ≤ i ∧ i < n := by
  unfold rangeI
  rw [List.mem_map]
  constructor
  · rintro ⟨k, hk, rfl⟩
    have := List.mem_range.mp hk
    omega
  · rintro ⟨h0, h1⟩
    exact ⟨i.toNat, List.mem_range.mpr (by omega), by omega⟩
theorem rangeI_len (n : Nat) : (rangeI n).length = n := by unfold rangeI; rw [List.length_map, List.length_range]
theorem srt_range {n : Nat} {l : List Int} (h : l.Perm (rangeI n)) : srt l = rangeI n := (srt_of h.symm (rangeI_ord n)).symm
theorem eqv_ints : ∀ a b : List Int, PyData.eqvAll (a.map PyData.int) (b.map PyData.int) = decide (a = b)
  | [], [] => rfl
  | [], y :: b => by rw [List.map_nil, List.map_cons, PyData.eqvAll]; simp
  | x :: a, [] => by rw [List.map_nil, List.map_cons, PyData.eqvAll]; simp
  | x :: a, y :: b => by
    rw [List.map_cons, List.map_cons, PyData.eqvAll, PyData.eqv, eqv_ints a b]
    by_cases e1 : x = y
    · subst e1
      by_cases e2 : a = b
      · subst e2
        simp
      · simp [e2]
    · simp [e1]
theorem eqv_intsL (a b : List Int) : PyData.eqv (.list (a.map .int)) (.list (b.map .int)) = decide (a = b) := by
  rw [PyData.eqv]
  exact eqv_ints a b
/-! ### in, not in -/
section
variable {X : Cx} {μ : Mu} {Φ : DK}
theorem op_ninA (hu : X.A.units + 65 < cLine) : OpR X (compareOp .NotIn) (fun x y H Q => ∃ d ds, Dp X.K H x d ∧ (Dp X.K H y (.list ds) ∨ Dp X.K H y (.tuple ds)) ∧ SeqAt.shaped d = true ∧ PyData.canLayAll0 ds = true ∧ Q (.bl (!ds.any fun z => PyData.eqv z d)) H) := by
  intro pins s σ H x y v u Q I rx ry h
  obtain ⟨d, ds, hd, he, sd, se, q⟩ := h
  obtain ⟨as, r1⟩ := Dp.reads I d x v hd rx
  rcases he with he | he
  · obtain ⟨bs, r2⟩ := Dp.reads I (.list ds) y u he ry
    exact SeqAt.notIn_list_reads r2 r1 se (SeqAt.canLay_of_shaped sd) (room_in_shaped sd hu) ⟨.bl _, H, I, rfl, q⟩
  · obtain ⟨bs, r2⟩ := Dp.reads I (.tuple ds) y u he ry
    exact SeqAt.notIn_tuple_reads r2 r1 se (SeqAt.canLay_of_shaped sd) (room_in_shaped sd hu) ⟨.bl _, H, I, rfl, q⟩
theorem o_ninA {x y : D} {p : PyData} {ps : List PyData} (hu : X.A.units + 66 < cLine) (hx : Py μ x p) (hy : Py μ y (.list ps) ∨ Py μ y (.tuple ps)) (sp : SeqAt.shaped p = true) (sl : PyData.canLayAll0 ps = true) (q : Φ (.bl (!ps.any fun z => PyData.eqv z p)) μ) : dOp X (compareOp .NotIn) x y μ Φ := fun v u H r1 r2 m Q kk =>
  wOp_of (op_ninA (by omega)) ⟨p, ps, hx.dp m r1, hy.elim (fun h => .inl (h.dp m r2)) (fun h => .inr (h.dp m r2)), sp, sl, kk.val m q (.bl _)⟩
theorem any_ints (i : Int) (g : List Int) : ((g.map PyData.int).any fun z => PyData.eqv z (.int i)) = decide (i ∈ g) := by
  induction g with
  | nil => rfl
  | cons x g ih =>
    rw [List.map_cons, List.any_cons, ih, PyData.eqv]
    by_cases e : x = i
    · subst e
      simp
    · have : (i ∈ x :: g) ↔ i ∈ g := by
        rw [List.mem_cons]
        exact ⟨fun h => h.elim (fun h => absurd h.symm e) id, .inr⟩
      simp [e, this]
theorem lay_is : ∀ ns : List Int, PyData.canLayAll0 (ns.map PyData.int) = true
  | [] => rfl
  | n :: ns => by
    rw [List.map_cons, PyData.canLayAll0, lay_is ns]
    rfl
theorem sh_int (i : Int) : SeqAt.shaped (.int i) = true := rfl
theorem py_ints {d : D} {g : List Int} (h : d = .lst (g.map .int) ∨ d = .tup (g.map .int) ∨ ∃ p, d = .ref p ∧ μ p = some (.lst (g.map .int))) : Py μ d (.list (g.map .int)) ∨ Py μ d (.tuple (g.map .int)) := by
  rcases h with rfl | rfl | ⟨p, rfl, h⟩
  · exact .inl (.lst PyAll.ints)
  · exact .inr (.tup PyAll.ints)
  · exact .inl (.ref h PyAll.ints)
/-- an int in ints -/
theorem o_inI {d : D} {i : Int} {g : List Int} (hu : X.A.units + 66 < cLine) (h : d = .lst (g.map .int) ∨ d = .tup (g.map .int) ∨ ∃ p, d = .ref p ∧ μ p = some (.lst (g.map .int))) (q : Φ (.bl (decide (i ∈ g))) μ) : dOp X (compareOp .In) (.int i) d μ Φ := by
  refine o_inA hu (.int i) (py_ints h) (sh_int i) (lay_is g) ?_
  rw [any_ints]
  exact q
theorem o_ninI {d : D} {i : Int} {g : List Int} (hu : X.A.units + 66 < cLine) (h : d = .lst (g.map .int) ∨ d = .tup (g.map .int) ∨ ∃ p, d = .ref p ∧ μ p = some (.lst (g.map .int))) (q : Φ (.bl (!decide (i ∈ g))) μ) : dOp X (compareOp .NotIn) (.int i) d μ Φ := by
  refine o_ninA hu (.int i) (py_ints h) (sh_int i) (lay_is g) ?_
  rw [any_ints]
  exact q
end
/-! ### comprehensions that change nothing, over ints -/
section
variable {X : Cx} {G0 : Hp} {a c it elt : Expr} {δ : List (Option D)} {μ : Mu} {Φ : DK}
/-- a test that tells k and changes nothing -/
def Tells (X : Cx) (scope : Scope) (c : Expr) (δ : List (Option D)) (μ : Mu) (k : Bool) : Prop := dTs X scope c δ μ fun b μ3 => b = k ∧ μ3 = μ
theorem filt_one (t : Int → Bool) (i : Int) : [i].filter t = if t i = true then [i] else [] := by
  rw [List.filter_cons, List.filter_nil]
theorem turn_filt {scope : Scope} {p : Addr} {g : List Int} {t : Int → Bool} {i : Nat} {k : Int} {δ2 : List (Option D)} (hk : g[i]? = some k) (hl : g.length ≤ sizeLine) (hp : μ p = none)
    (ht : ∀ acc, Tells X scope c δ2 (updM μ p acc) (t k)) (he : ∀ acc, Gives X scope elt δ2 (updM μ p acc) (.int k)) :
    LcTurnIf X scope elt c p (((g.take i).filter t).map .int) δ2 μ fun acc μ2 => acc = ((g.take (i + 1)).filter t).map .int ∧ μ2 = μ := by
  have hi := (List.getElem?_eq_some_iff.mp hk).1
  have e : (g.take (i + 1)).filter t = (g.take i).filter t ++ if t k = true then [k] else [] := by
    rw [List.take_add_one, hk, List.filter_append]
    congr 1
    exact filt_one t k
  refine ⟨?_, fun G1 s H0 C cl fp => (ht _ G1 s H0 C cl fp).imp fun b μ3 ⟨e1, e2⟩ => ?_⟩
  · rw [List.length_map]
    have h1 := List.length_filter_le t (g.take i)
    rw [List.length_take] at h1
    omega
  subst e1 e2
  refine ⟨μ, rfl, hp, fun hb => ⟨by rw [e, hb]; simp, rfl⟩, fun hb => fun G1 s H0 C cl fp => (he _ G1 s H0 C cl fp).imp fun r μ5 ⟨e3, e4⟩ => ?_⟩
  subst e3 e4
  refine ⟨μ, rfl, hp, ?_, rfl⟩
  rw [e, if_pos hb, List.map_append]
  rfl
/-- [x for x in a tuple of ints if ..] -/
theorem d_lcTf {x : Str} {scope : Scope} {tp cp : Pos} {own : List (Str × Nat)} {vs : List Nat} (j : Nat) (t : Int → Bool)
    (h : dE X G0 it δ μ fun d μ1 => ∃ g : List Int, d = .tup (g.map .int) ∧ g.length ≤ sizeLine ∧ (∀ k ∈ g, ∀ p acc, μ1 p = none → Tells X scope c ((wipeD δ vs).set j (some (.int k))) (updM μ1 p acc) (t k) ∧ Gives X scope elt ((wipeD δ vs).set j (some (.int k))) (updM μ1 p acc) (.int k)) ∧ Φ (.lst ((g.filter t).map .int)) μ1)
    (hb : blkC X.N X.env.scope scope own = true := by kernel_rfl) (hj : j ∈ vs := by decide) (hv : own.map (·.2) = vs := by rfl) (hN : X.N.Nodup := by assumption) (hc : X.calm = true := by rfl)
    (hi : X.N[j]? = some x := by rfl) (hx : ∀ s H C cl fp, Loc (BX X scope s H C cl fp).env.scope x := by first | exact fun _ _ _ _ _ => Or.inl rfl | exact fun _ _ _ _ _ => Or.inr rfl) (hf : ∀ s H C cl fp, (BX X scope s H C cl fp).fn x = true ∨ (BX X scope s H C cl fp).env.scope.names.lookup x = some .local := by first | exact fun _ _ _ _ _ => .inr rfl | exact fun _ _ _ _ _ => .inl rfl)
    (hs : ∀ x, foldedSetIterable it X.env x = pure x := by intro _; rfl) : dE X G0 (.ListComp elt [⟨.Name x tp, it, [c], 0⟩] scope cp) δ μ Φ := by
  refine d_fz (d_lcTI j (h.imp fun d μ1 ⟨g, ed, hl, hg, q⟩ => ⟨g.map .int, ed, fun i acc μ2 => acc = ((g.take i).filter t).map .int ∧ μ2 = μ1, ⟨by rw [List.take_zero]; rfl, rfl⟩, ?_, ?_⟩) hb hj hv hN hc hi hx hf hs)
  · rintro i d acc μ2 p hd ⟨rfl, rfl⟩ hp
    rw [List.getElem?_map] at hd
    cases hk : g[i]? with
    | none => rw [hk] at hd; cases hd
    | some k =>
      rw [hk] at hd
      cases hd
      have hm := List.mem_of_getElem? hk
      exact turn_filt hk hl hp (fun acc => (hg k hm p acc hp).1) (fun acc => (hg k hm p acc hp).2)
  · rintro acc μ2 p ⟨rfl, rfl⟩ hp
    rw [List.length_map, List.take_length]
    exact fz_ref hp q
/-- [x for x in range(n) if ..] -/
theorem d_lcRf {x : Str} {scope : Scope} {rp ip tp cp : Pos} {own : List (Str × Nat)} {vs : List Nat} (j : Nat) (t : Int → Bool)
    (h : dA X G0 [a] δ μ fun ns μ1 => ∃ n : Nat, ns = [.int n] ∧ n ≤ 1000 ∧ (∀ k : Int, 0 ≤ k → k < n → ∀ p acc, μ1 p = none → Tells X scope c ((wipeD δ vs).set j (some (.int k))) (updM μ1 p acc) (t k) ∧ Gives X scope elt ((wipeD δ vs).set j (some (.int k))) (updM μ1 p acc) (.int k)) ∧ Φ (.lst (((rangeI n).filter t).map .int)) μ1)
    (hb : blkC X.N X.env.scope scope own = true := by kernel_rfl) (hj : j ∈ vs := by decide) (hv : own.map (·.2) = vs := by rfl) (hN : X.N.Nodup := by assumption) (hc : X.calm = true := by rfl)
    (hi : X.N[j]? = some x := by rfl) (hx : ∀ s H C cl fp, Loc (BX X scope s H C cl fp).env.scope x := by first | exact fun _ _ _ _ _ => Or.inl rfl | exact fun _ _ _ _ _ => Or.inr rfl) (hf : ∀ s H C cl fp, (BX X scope s H C cl fp).fn x = true ∨ (BX X scope s H C cl fp).env.scope.names.lookup x = some .local := by first | exact fun _ _ _ _ _ => .inr rfl | exact fun _ _ _ _ _ => .inl rfl)
    (hm : X.mg "range" = none := by assumption) (hg : Gl X "range" := by rfl) (hst : starEach [a] X.env = [(false, eval a X.env)] := by rfl)
    (hs : ∀ x, foldedSetIterable (.Call (.Name "range" rp) [a] [] ip) X.env x = pure x := by intro _; rfl) : dE X G0 (.ListComp elt [⟨.Name x tp, .Call (.Name "range" rp) [a] [] ip, [c], 0⟩] scope cp) δ μ Φ := by
  have h' : ∀ ns μ1, (∃ n : Nat, ns = [D.int n] ∧ n ≤ 1000 ∧ (∀ k : Int, 0 ≤ k → k < n → ∀ p acc, μ1 p = none → Tells X scope c ((wipeD δ vs).set j (some (.int k))) (updM μ1 p acc) (t k) ∧ Gives X scope elt ((wipeD δ vs).set j (some (.int k))) (updM μ1 p acc) (.int k)) ∧ Φ (.lst (((rangeI n).filter t).map .int)) μ1) →
      ∃ n : Int, ns = [.int n] ∧ n < 2 ^ 62 ∧ -(2 ^ 62) ≤ n ∧ ∃ Pv : Nat → List D → Mu → Prop, Pv 0 [] μ1 ∧ (∀ (i : Nat) acc μ2 p, i < n.toNat → Pv i acc μ2 → μ2 p = none → LcTurnIf X scope elt c p acc ((wipeD δ vs).set j (some (.int i))) μ2 (Pv (i + 1))) ∧ ∀ acc μ2 p, Pv n.toNat acc μ2 → μ2 p = none → Fz Φ (.ref p) (updM μ2 p (.lst acc)) := by
    rintro ns μ1 ⟨n, rfl, hn, hg', q⟩
    have rl := rangeI_len n
    refine ⟨n, rfl, by omega, by omega, fun i acc μ2 => acc = (((rangeI n).take i).filter t).map .int ∧ μ2 = μ1, ⟨by rw [List.take_zero]; rfl, rfl⟩, ?_, ?_⟩
    · rintro i acc μ2 p hi' ⟨rfl, rfl⟩ hp
      have hi2 : i < n := by omega
      have hk : (rangeI n)[i]? = some (i : Int) := by
        unfold rangeI
        rw [List.getElem?_map, List.getElem?_range hi2]
        rfl
      exact turn_filt hk (by rw [rl, sizeLine_eq]; omega) hp (fun acc => (hg' i (by omega) (by omega) p acc hp).1) (fun acc => (hg' i (by omega) (by omega) p acc hp).2)
    · rintro acc μ2 p ⟨rfl, rfl⟩ hp
      rw [Int.toNat_natCast, List.take_of_length_le (Nat.le_of_eq rl)]
      exact fz_ref hp q
  exact d_fz (d_lcRI j (fun σ H B Q k => h σ H B Q fun vs2 H2 ds μ2 q => k vs2 H2 ds μ2 (h' ds μ2 q)) hb hj hv hN hc hi hx hf hm hg hst hs)
/-- [e for x in range(n)] -/
theorem d_lcRp {x : Str} {scope : Scope} {rp ip tp cp : Pos} {own : List (Str × Nat)} {vs : List Nat} (j : Nat) (f : Int → D)
    (h : dA X G0 [a] δ μ fun ns μ1 => ∃ n : Nat, ns = [.int n] ∧ n ≤ 1000 ∧ (∀ k : Int, 0 ≤ k → k < n → ∀ p acc, μ1 p = none → Gives X scope elt ((wipeD δ vs).set j (some (.int k))) (updM μ1 p acc) (f k)) ∧ ∀ p, μ1 p = none → Φ (.ref p) (updM μ1 p (.lst ((rangeI n).map f))))
    (hb : blkC X.N X.env.scope scope own = true := by kernel_rfl) (hj : j ∈ vs := by decide) (hv : own.map (·.2) = vs := by rfl) (hN : X.N.Nodup := by assumption) (hc : X.calm = true := by rfl)
    (hi : X.N[j]? = some x := by rfl) (hx : ∀ s H C cl fp, Loc (BX X scope s H C cl fp).env.scope x := by first | exact fun _ _ _ _ _ => Or.inl rfl | exact fun _ _ _ _ _ => Or.inr rfl) (hf : ∀ s H C cl fp, (BX X scope s H C cl fp).fn x = true ∨ (BX X scope s H C cl fp).env.scope.names.lookup x = some .local := by first | exact fun _ _ _ _ _ => .inr rfl | exact fun _ _ _ _ _ => .inl rfl)
    (hm : X.mg "range" = none := by assumption) (hg : Gl X "range" := by rfl) (hst : starEach [a] X.env = [(false, eval a X.env)] := by rfl)
    (hs : ∀ x, foldedSetIterable (.Call (.Name "range" rp) [a] [] ip) X.env x = pure x := by intro _; rfl) : dE X G0 (.ListComp elt [⟨.Name x tp, .Call (.Name "range" rp) [a] [] ip, [], 0⟩] scope cp) δ μ Φ := by
  refine d_lcR j (fun σ H B Q k => h σ H B Q fun vs2 H2 ds μ2 q => k vs2 H2 ds μ2 ?_) hb hj hv hN hc hi hx hf hm hg hst hs
  obtain ⟨n, rfl, hn, hg', q⟩ := q
  have rl := rangeI_len n
  refine ⟨n, rfl, by omega, by omega, fun i acc μ3 => acc = ((rangeI n).take i).map f ∧ μ3 = μ2, ⟨by rw [List.take_zero]; rfl, rfl⟩, ?_, ?_⟩
  · rintro i acc μ3 p hi' ⟨rfl, rfl⟩ hp
    have hi2 : i < n := by omega
    have hk : (rangeI n)[i]? = some (i : Int) := by
      unfold rangeI
      rw [List.getElem?_map, List.getElem?_range hi2]
      rfl
    refine ⟨by rw [List.length_map, List.length_take, rl, sizeLine_eq]; omega, fun G1 s H0 C cl fp => (hg' i (by omega) (by omega) p _ hp G1 s H0 C cl fp).imp fun r μ5 ⟨e1, e2⟩ => ?_⟩
    subst e1 e2
    exact ⟨_, rfl, hp, take_snoc hk, rfl⟩
  · rintro acc μ3 p ⟨rfl, rfl⟩ hp
    rw [Int.toNat_natCast, List.take_of_length_le (Nat.le_of_eq rl)]
    exact q p hp
end
end DL

namespace DL
open PySem PySem.Spec PyProof.Rows L2
section
variable {X : Cx} {G0 : Hp} {e a b c it elt : Expr} {es rest : List Expr} {sts : List Stmt} {δ : List (Option D)} {μ : Mu} {Φ : DK} {pos : Pos} {K : PySem.W.Frag} {H : Hp} {Q : VK} {E : DEnds}
theorem s_setT {x y : Str} {scope : Scope} {tp cp py spos : Pos} {own : List (Str × Nat)} {vs : List Nat} (i0 j : Nat)
    (h : dE X G0 it δ μ fun d μ1 => ∃ ds, d = .tup ds ∧ ∃ Pv : Nat → List D → Mu → Prop, Pv 0 [] μ1 ∧ (∀ (i : Nat) d acc μ2 p, ds[i]? = some d → Pv i acc μ2 → μ2 p = none → LcTurn X scope elt p acc ((wipeD δ vs).set j (some d)) μ2 (Pv (i + 1))) ∧ ∀ acc μ2 p, Pv ds.length acc μ2 → μ2 p = none → Fz (fun d μ' => E.nx (δ.set i0 (some d)) μ') (.ref p) (updM μ2 p (.lst acc)))
    (hy : X.N[i0]? = some y := by rfl) (hyl : X.env.scope.names.lookup y = some .local := by rfl) (hsw : swapsWith (.ListComp elt [⟨.Name x tp, it, [], 0⟩] scope cp) (some (.Name y py)) spos.line X.env = pure true := by exact sw_true rfl rfl rfl (by decide +kernel))
    (hb : blkC X.N X.env.scope scope own = true := by kernel_rfl) (hj : j ∈ vs := by decide) (hv : own.map (·.2) = vs := by rfl) (hN : X.N.Nodup := by assumption) (hc : X.calm = true := by rfl)
    (hi : X.N[j]? = some x := by rfl) (hx : ∀ s H C cl fp, Loc (BX X scope s H C cl fp).env.scope x := by first | exact fun _ _ _ _ _ => Or.inl rfl | exact fun _ _ _ _ _ => Or.inr rfl) (hf : ∀ s H C cl fp, (BX X scope s H C cl fp).fn x = true ∨ (BX X scope s H C cl fp).env.scope.names.lookup x = some .local := by first | exact fun _ _ _ _ _ => .inr rfl | exact fun _ _ _ _ _ => .inl rfl)
    (hs : ∀ x, foldedSetIterable it X.env x = pure x := by intro _; rfl) : dS X G0 (.Assign [.Name y py] (.ListComp elt [⟨.Name x tp, it, [], 0⟩] scope cp) spos) δ μ E := fun σ H B => by
  refine wS_of (ps_setLc (i := i0) hc hN hy hyl hsw (pi_tup pe_w) (blkOk_by hb) (fun s H C cl fp => pg_name (i := j) hN hi (hx s H C cl fp) (hf s H C cl fp)) (fun _ _ _ _ _ => pts_nil) (fun s H C cl fp => (⟨fun pins s' σ' H' Q' I q => q s H C cl fp pins s' I⟩ : PE _ _ (wEs X scope elt))) hs) ?_
  have k : KP X.K μ H (fun d μ' => E.nx (δ.set i0 (some d)) μ') (fun v H1 => gName i0 v σ H1 (dEn X.K G0 E).nx) := fun v H1 d μ1 q m1 e1 r1 => ⟨_, μ1, q, (B.step m1 e1).set r1⟩
  rw [hv]
  refine h σ H B _ fun v H1 d μ1 q m1 e1 r1 => ?_
  obtain ⟨ds, rfl, Pv, p0, turn, fin⟩ := q
  obtain ⟨a, ws, rfl, hG, ra⟩ : ∃ a ws, v = .ref a ∧ Im μ1 H1 a = some (.tup ws) ∧ RpAll X.K (Im μ1 H1) ws ds := by
    cases r1 with
    | tup h r => exact ⟨_, _, rfl, h, r⟩
  have B1 := (B.step m1 e1).wipe vs
  refine ⟨a, rfl, ⟨ws, SqT.of (im_all _ _ hG)⟩, fun p hp => ?_⟩
  have hi0 : Im (updM μ1 p (.lst [])) (upd H1 p (.lst [])) = Im μ1 H1 := im_new hp
  have B2 : Bd X.K (Im μ1 H1) (wipeD δ vs) (updM μ1 p (.lst [])) (L2.wipe σ vs) (upd H1 p (.lst [])) := B1.rebase.step (m1.upd hi0 .nil) (by rw [hi0]; exact Sub.refl _)
  refine lc_tup (xs := ws) (fun i H' => ∃ acc μ2, Pv i acc μ2 ∧ μ2 p = none ∧ Bd X.K (Im μ1 H1) (wipeD δ vs) (updM μ2 p (.lst acc)) (L2.wipe σ vs) H') ⟨[], μ1, p0, mu_free m1 hp, B2⟩ (fun i H' _ ⟨acc, μ2, _, _, B'⟩ => SqT.of (im_all _ _ (B'.base _ _ hG))) (fun i y H' hy ⟨acc, μ2, hP, hp2, B'⟩ => ?_) (fun H' ⟨acc, μ2, hP, hp2, B'⟩ => ?_)
  · have hl : i < ds.length := by rw [← ra.length]; exact (List.getElem?_eq_some_iff.mp hy).1
    obtain ⟨w', hw, rw'⟩ := ra.get (List.getElem?_eq_getElem hl)
    rw [hw] at hy
    cases hy
    refine ⟨by rw [wipe_set hj, wipe_wipe], ?_⟩
    exact lc_turn (B'.set (rw'.mono B'.base)) B' (turn i _ acc μ2 p (List.getElem?_eq_getElem hl) hP hp2)
  · rw [ra.length] at hP
    exact lc_end (k.fz.after e1) hp2 (fin acc μ2 p hP hp2) B'
theorem s_setRI {x y : Str} {scope : Scope} {rp ip tp cp py spos : Pos} {own : List (Str × Nat)} {vs : List Nat} (i0 j : Nat)
    (h : dA X G0 [a] δ μ fun ns μ1 => ∃ n : Int, ns = [.int n] ∧ n < 2 ^ 62 ∧ -(2 ^ 62) ≤ n ∧ ∃ Pv : Nat → List D → Mu → Prop, Pv 0 [] μ1 ∧ (∀ (i : Nat) acc μ2 p, i < n.toNat → Pv i acc μ2 → μ2 p = none → LcTurnIf X scope elt c p acc ((wipeD δ vs).set j (some (.int i))) μ2 (Pv (i + 1))) ∧ ∀ acc μ2 p, Pv n.toNat acc μ2 → μ2 p = none → Fz (fun d μ' => E.nx (δ.set i0 (some d)) μ') (.ref p) (updM μ2 p (.lst acc)))
    (hy : X.N[i0]? = some y := by rfl) (hyl : X.env.scope.names.lookup y = some .local := by rfl) (hsw : swapsWith (.ListComp elt [⟨.Name x tp, .Call (.Name "range" rp) [a] [] ip, [c], 0⟩] scope cp) (some (.Name y py)) spos.line X.env = pure true := by exact sw_true rfl rfl rfl (by decide +kernel))
    (hb : blkC X.N X.env.scope scope own = true := by kernel_rfl) (hj : j ∈ vs := by decide) (hv : own.map (·.2) = vs := by rfl) (hN : X.N.Nodup := by assumption) (hc : X.calm = true := by rfl)
    (hi : X.N[j]? = some x := by rfl) (hx : ∀ s H C cl fp, Loc (BX X scope s H C cl fp).env.scope x := by first | exact fun _ _ _ _ _ => Or.inl rfl | exact fun _ _ _ _ _ => Or.inr rfl) (hf : ∀ s H C cl fp, (BX X scope s H C cl fp).fn x = true ∨ (BX X scope s H C cl fp).env.scope.names.lookup x = some .local := by first | exact fun _ _ _ _ _ => .inr rfl | exact fun _ _ _ _ _ => .inl rfl)
    (hm : X.mg "range" = none := by assumption) (hg : Gl X "range" := by rfl) (hst : starEach [a] X.env = [(false, eval a X.env)] := by rfl)
    (hs : ∀ x, foldedSetIterable (.Call (.Name "range" rp) [a] [] ip) X.env x = pure x := by intro _; rfl) : dS X G0 (.Assign [.Name y py] (.ListComp elt [⟨.Name x tp, .Call (.Name "range" rp) [a] [] ip, [c], 0⟩] scope cp) spos) δ μ E := fun σ H B => by
  refine wS_of (ps_setLc (i := i0) hc hN hy hyl hsw (pi_range1 hg hm pa_w hst) (blkOk_by hb) (fun s H C cl fp => pg_name (i := j) hN hi (hx s H C cl fp) (hf s H C cl fp)) (fun s H C cl fp => pts_one (⟨fun pins s' σ' H' Q' I q => q s H C cl fp pins s' I⟩ : PT _ _ (wTs X scope c))) (fun s H C cl fp => (⟨fun pins s' σ' H' Q' I q => q s H C cl fp pins s' I⟩ : PE _ _ (wEs X scope elt))) hs) ?_
  rw [hv]
  have k : KP X.K μ H (fun d μ' => E.nx (δ.set i0 (some d)) μ') (fun v H1 => gName i0 v σ H1 (dEn X.K G0 E).nx) := fun v H1 d μ1 q m1 e1 r1 => ⟨_, μ1, q, (B.step m1 e1).set r1⟩
  refine h σ H B _ fun vs' H1 ds μ1 q m1 e1 r1 => ?_
  obtain ⟨n, rfl, b1, b2, Pv, p0, turn, fin⟩ := q
  obtain ⟨v, rfl, r2⟩ := rp1 r1
  cases rp_int r2
  have B1 := (B.step m1 e1).wipe vs
  refine ⟨n, rfl, b2, b1, fun p hp => ?_⟩
  have hi0 : Im (updM μ1 p (.lst [])) (upd H1 p (.lst [])) = Im μ1 H1 := im_new hp
  have B2 : Bd X.K (Im μ1 H1) (wipeD δ vs) (updM μ1 p (.lst [])) (L2.wipe σ vs) (upd H1 p (.lst [])) := B1.rebase.step (m1.upd hi0 .nil) (by rw [hi0]; exact Sub.refl _)
  refine lc_range (lo := 0) (n := n.toNat) (fun i H' => ∃ acc μ2, Pv i acc μ2 ∧ μ2 p = none ∧ Bd X.K (Im μ1 H1) (wipeD δ vs) (updM μ2 p (.lst acc)) (L2.wipe σ vs) H') ⟨[], μ1, p0, mu_free m1 hp, B2⟩ (fun i H' hl ⟨acc, μ2, hP, hp2, B'⟩ => ?_) (fun H' ⟨acc, μ2, hP, hp2, B'⟩ => ?_)
  · refine ⟨by rw [wipe_set hj, wipe_wipe], ?_⟩
    have e0 : (0 : Int) + (i : Int) = (i : Int) := Int.zero_add _
    rw [e0]
    exact lc_turnIf (B'.set (.int _)) B' (turn i acc μ2 p hl hP hp2)
  · exact lc_end (k.fz.after e1) hp2 (fin acc μ2 p hP hp2) B'
theorem s_setLp {x y : Str} {scope : Scope} {tp cp py spos : Pos} {own : List (Str × Nat)} {vs : List Nat} (i0 j : Nat) (f : D → D)
    (h : dE X G0 it δ μ fun d μ1 => ∃ ds, d = .lst ds ∧ ds.length ≤ sizeLine ∧ (∀ d ∈ ds, ∀ p acc, μ1 p = none → Gives X scope elt ((wipeD δ vs).set j (some d)) (updM μ1 p acc) (f d)) ∧ ∀ p, μ1 p = none → Fz (fun d μ' => E.nx (δ.set i0 (some d)) μ') (.ref p) (updM μ1 p (.lst (ds.map f))))
    (hy : X.N[i0]? = some y := by rfl) (hyl : X.env.scope.names.lookup y = some .local := by rfl) (hsw : swapsWith (.ListComp elt [⟨.Name x tp, it, [], 0⟩] scope cp) (some (.Name y py)) spos.line X.env = pure true := by exact sw_true rfl rfl rfl (by decide +kernel))
    (hb : blkC X.N X.env.scope scope own = true := by kernel_rfl) (hj : j ∈ vs := by decide) (hv : own.map (·.2) = vs := by rfl) (hN : X.N.Nodup := by assumption) (hc : X.calm = true := by rfl)
    (hi : X.N[j]? = some x := by rfl) (hx : ∀ s H C cl fp, Loc (BX X scope s H C cl fp).env.scope x := by first | exact fun _ _ _ _ _ => Or.inl rfl | exact fun _ _ _ _ _ => Or.inr rfl) (hf : ∀ s H C cl fp, (BX X scope s H C cl fp).fn x = true ∨ (BX X scope s H C cl fp).env.scope.names.lookup x = some .local := by first | exact fun _ _ _ _ _ => .inr rfl | exact fun _ _ _ _ _ => .inl rfl)
    (hs : ∀ x, foldedSetIterable it X.env x = pure x := by intro _; rfl) : dS X G0 (.Assign [.Name y py] (.ListComp elt [⟨.Name x tp, it, [], 0⟩] scope cp) spos) δ μ E := by
  refine s_setL i0 j (h.imp fun d μ1 ⟨ds, ed, hl, hg, q⟩ => ⟨ds, ed, fun i acc μ2 => acc = (ds.take i).map f ∧ μ2 = μ1, ⟨by rw [List.take_zero]; rfl, rfl⟩, ?_, ?_⟩) hy hyl hsw hb hj hv hN hc hi hx hf hs
  · rintro i d acc μ2 p hd ⟨rfl, rfl⟩ hp
    have hi' := (List.getElem?_eq_some_iff.mp hd).1
    refine ⟨by rw [List.length_map, List.length_take]; omega, fun G1 s H0 C cl fp => (hg d (List.mem_of_getElem? hd) p _ hp G1 s H0 C cl fp).imp fun r μ3 ⟨e1, e2⟩ => ?_⟩
    subst e1 e2
    exact ⟨_, rfl, hp, take_snoc hd, rfl⟩
  · rintro acc μ2 p ⟨rfl, rfl⟩ hp
    rw [List.take_length]
    exact q p hp
theorem s_setTp {x y : Str} {scope : Scope} {tp cp py spos : Pos} {own : List (Str × Nat)} {vs : List Nat} (i0 j : Nat) (f : D → D)
    (h : dE X G0 it δ μ fun d μ1 => ∃ ds, d = .tup ds ∧ ds.length ≤ sizeLine ∧ (∀ d ∈ ds, ∀ p acc, μ1 p = none → Gives X scope elt ((wipeD δ vs).set j (some d)) (updM μ1 p acc) (f d)) ∧ ∀ p, μ1 p = none → Fz (fun d μ' => E.nx (δ.set i0 (some d)) μ') (.ref p) (updM μ1 p (.lst (ds.map f))))
    (hy : X.N[i0]? = some y := by rfl) (hyl : X.env.scope.names.lookup y = some .local := by rfl) (hsw : swapsWith (.ListComp elt [⟨.Name x tp, it, [], 0⟩] scope cp) (some (.Name y py)) spos.line X.env = pure true := by exact sw_true rfl rfl rfl (by decide +kernel))
    (hb : blkC X.N X.env.scope scope own = true := by kernel_rfl) (hj : j ∈ vs := by decide) (hv : own.map (·.2) = vs := by rfl) (hN : X.N.Nodup := by assumption) (hc : X.calm = true := by rfl)
    (hi : X.N[j]? = some x := by rfl) (hx : ∀ s H C cl fp, Loc (BX X scope s H C cl fp).env.scope x := by first | exact fun _ _ _ _ _ => Or.inl rfl | exact fun _ _ _ _ _ => Or.inr rfl) (hf : ∀ s H C cl fp, (BX X scope s H C cl fp).fn x = true ∨ (BX X scope s H C cl fp).env.scope.names.lookup x = some .local := by first | exact fun _ _ _ _ _ => .inr rfl | exact fun _ _ _ _ _ => .inl rfl)
    (hs : ∀ x, foldedSetIterable it X.env x = pure x := by intro _; rfl) : dS X G0 (.Assign [.Name y py] (.ListComp elt [⟨.Name x tp, it, [], 0⟩] scope cp) spos) δ μ E := by
  refine s_setT i0 j (h.imp fun d μ1 ⟨ds, ed, hl, hg, q⟩ => ⟨ds, ed, fun i acc μ2 => acc = (ds.take i).map f ∧ μ2 = μ1, ⟨by rw [List.take_zero]; rfl, rfl⟩, ?_, ?_⟩) hy hyl hsw hb hj hv hN hc hi hx hf hs
  · rintro i d acc μ2 p hd ⟨rfl, rfl⟩ hp
    have hi' := (List.getElem?_eq_some_iff.mp hd).1
    refine ⟨by rw [List.length_map, List.length_take]; omega, fun G1 s H0 C cl fp => (hg d (List.mem_of_getElem? hd) p _ hp G1 s H0 C cl fp).imp fun r μ3 ⟨e1, e2⟩ => ?_⟩
    subst e1 e2
    exact ⟨_, rfl, hp, take_snoc hd, rfl⟩
  · rintro acc μ2 p ⟨rfl, rfl⟩ hp
    rw [List.take_length]
    exact q p hp
theorem s_setRp {x y : Str} {scope : Scope} {rp ip tp cp py spos : Pos} {own : List (Str × Nat)} {vs : List Nat} (i0 j : Nat) (f : Int → D)
    (h : dA X G0 [a] δ μ fun ns μ1 => ∃ n : Nat, ns = [.int n] ∧ n ≤ 1000 ∧ (∀ k : Int, 0 ≤ k → k < n → ∀ p acc, μ1 p = none → Gives X scope elt ((wipeD δ vs).set j (some (.int k))) (updM μ1 p acc) (f k)) ∧ ∀ p, μ1 p = none → Fz (fun d μ' => E.nx (δ.set i0 (some d)) μ') (.ref p) (updM μ1 p (.lst ((rangeI n).map f))))
    (hy : X.N[i0]? = some y := by rfl) (hyl : X.env.scope.names.lookup y = some .local := by rfl) (hsw : swapsWith (.ListComp elt [⟨.Name x tp, .Call (.Name "range" rp) [a] [] ip, [], 0⟩] scope cp) (some (.Name y py)) spos.line X.env = pure true := by exact sw_true rfl rfl rfl (by decide +kernel))
    (hb : blkC X.N X.env.scope scope own = true := by kernel_rfl) (hj : j ∈ vs := by decide) (hv : own.map (·.2) = vs := by rfl) (hN : X.N.Nodup := by assumption) (hc : X.calm = true := by rfl)
    (hi : X.N[j]? = some x := by rfl) (hx : ∀ s H C cl fp, Loc (BX X scope s H C cl fp).env.scope x := by first | exact fun _ _ _ _ _ => Or.inl rfl | exact fun _ _ _ _ _ => Or.inr rfl) (hf : ∀ s H C cl fp, (BX X scope s H C cl fp).fn x = true ∨ (BX X scope s H C cl fp).env.scope.names.lookup x = some .local := by first | exact fun _ _ _ _ _ => .inr rfl | exact fun _ _ _ _ _ => .inl rfl)
    (hm : X.mg "range" = none := by assumption) (hg : Gl X "range" := by rfl) (hst : starEach [a] X.env = [(false, eval a X.env)] := by rfl)
    (hs : ∀ x, foldedSetIterable (.Call (.Name "range" rp) [a] [] ip) X.env x = pure x := by intro _; rfl) : dS X G0 (.Assign [.Name y py] (.ListComp elt [⟨.Name x tp, .Call (.Name "range" rp) [a] [] ip, [], 0⟩] scope cp) spos) δ μ E := by
  refine s_setR i0 j (fun σ H B Q k => h σ H B Q fun vs2 H2 ds μ2 q => k vs2 H2 ds μ2 ?_) hy hyl hsw hb hj hv hN hc hi hx hf hm hg hst hs
  obtain ⟨n, rfl, hn, hg', q⟩ := q
  have rl := rangeI_len n
  refine ⟨n, rfl, by omega, by omega, fun i acc μ3 => acc = ((rangeI n).take i).map f ∧ μ3 = μ2, ⟨by rw [List.take_zero]; rfl, rfl⟩, ?_, ?_⟩
  · rintro i acc μ3 p hi' ⟨rfl, rfl⟩ hp
    have hi2 : i < n := by omega
    have hk : (rangeI n)[i]? = some (i : Int) := by
      unfold rangeI
      rw [List.getElem?_map, List.getElem?_range hi2]
      rfl
    refine ⟨by rw [List.length_map, List.length_take, rl, sizeLine_eq]; omega, fun G1 s H0 C cl fp => (hg' i (by omega) (by omega) p _ hp G1 s H0 C cl fp).imp fun r μ5 ⟨e1, e2⟩ => ?_⟩
    subst e1 e2
    exact ⟨_, rfl, hp, take_snoc hk, rfl⟩
  · rintro acc μ3 p ⟨rfl, rfl⟩ hp
    rw [Int.toNat_natCast, List.take_of_length_le (Nat.le_of_eq rl)]
    exact q p hp
theorem s_setRf {x y : Str} {scope : Scope} {rp ip tp cp py spos : Pos} {own : List (Str × Nat)} {vs : List Nat} (i0 j : Nat) (t : Int → Bool)
    (h : dA X G0 [a] δ μ fun ns μ1 => ∃ n : Nat, ns = [.int n] ∧ n ≤ 1000 ∧ (∀ k : Int, 0 ≤ k → k < n → ∀ p acc, μ1 p = none → Tells X scope c ((wipeD δ vs).set j (some (.int k))) (updM μ1 p acc) (t k) ∧ Gives X scope elt ((wipeD δ vs).set j (some (.int k))) (updM μ1 p acc) (.int k)) ∧ ∀ p, μ1 p = none → Fz (fun d μ' => E.nx (δ.set i0 (some d)) μ') (.ref p) (updM μ1 p (.lst (((rangeI n).filter t).map .int))))
    (hy : X.N[i0]? = some y := by rfl) (hyl : X.env.scope.names.lookup y = some .local := by rfl) (hsw : swapsWith (.ListComp elt [⟨.Name x tp, .Call (.Name "range" rp) [a] [] ip, [c], 0⟩] scope cp) (some (.Name y py)) spos.line X.env = pure true := by exact sw_true rfl rfl rfl (by decide +kernel))
    (hb : blkC X.N X.env.scope scope own = true := by kernel_rfl) (hj : j ∈ vs := by decide) (hv : own.map (·.2) = vs := by rfl) (hN : X.N.Nodup := by assumption) (hc : X.calm = true := by rfl)
    (hi : X.N[j]? = some x := by rfl) (hx : ∀ s H C cl fp, Loc (BX X scope s H C cl fp).env.scope x := by first | exact fun _ _ _ _ _ => Or.inl rfl | exact fun _ _ _ _ _ => Or.inr rfl) (hf : ∀ s H C cl fp, (BX X scope s H C cl fp).fn x = true ∨ (BX X scope s H C cl fp).env.scope.names.lookup x = some .local := by first | exact fun _ _ _ _ _ => .inr rfl | exact fun _ _ _ _ _ => .inl rfl)
    (hm : X.mg "range" = none := by assumption) (hg : Gl X "range" := by rfl) (hst : starEach [a] X.env = [(false, eval a X.env)] := by rfl)
    (hs : ∀ x, foldedSetIterable (.Call (.Name "range" rp) [a] [] ip) X.env x = pure x := by intro _; rfl) : dS X G0 (.Assign [.Name y py] (.ListComp elt [⟨.Name x tp, .Call (.Name "range" rp) [a] [] ip, [c], 0⟩] scope cp) spos) δ μ E := by
  refine s_setRI i0 j (fun σ H B Q k => h σ H B Q fun vs2 H2 ds μ2 q => k vs2 H2 ds μ2 ?_) hy hyl hsw hb hj hv hN hc hi hx hf hm hg hst hs
  obtain ⟨n, rfl, hn, hg', q⟩ := q
  have rl := rangeI_len n
  refine ⟨n, rfl, by omega, by omega, fun i acc μ3 => acc = (((rangeI n).take i).filter t).map .int ∧ μ3 = μ2, ⟨by rw [List.take_zero]; rfl, rfl⟩, ?_, ?_⟩
  · rintro i acc μ3 p hi' ⟨rfl, rfl⟩ hp
    have hi2 : i < n := by omega
    have hk : (rangeI n)[i]? = some (i : Int) := by
      unfold rangeI
      rw [List.getElem?_map, List.getElem?_range hi2]
      rfl
    exact turn_filt hk (by rw [rl, sizeLine_eq]; omega) hp (fun acc => (hg' i (by omega) (by omega) p acc hp).1) (fun acc => (hg' i (by omega) (by omega) p acc hp).2)
  · rintro acc μ3 p ⟨rfl, rfl⟩ hp
    rw [Int.toNat_natCast, List.take_of_length_le (Nat.le_of_eq rl)]
    exact q p hp
end
end DL

namespace PySem
open Sem (wp)
open AutoSeq1 (wpAny_loadPart')
theorem gf_enumerate_newT (l : Addr) (items : Array Value) (n : Nat) (dct : Option Addr) (sl : Array (Option Value)) :
    Meets (Builtin.«enumerate.__new__» ⟨[.type "enumerate", .ref l], []⟩) (fun _ R s => s.heap.get? l = some { cls := .type "tuple", dict := dct, data := .seq items n, slots := sl } ∧
      R (.ok (.ret (.ref (s.heap.push { cls := .type "tuple_iterator", data := .fields #[.ref l, .int 0 0] }).objs.size)))
        { s with heap := (s.heap.push { cls := .type "tuple_iterator", data := .fields #[.ref l, .int 0 0] }).push { cls := .type "enumerate", data := .fields #[.none, .bool false, .ref s.heap.objs.size, rawInt 0, .none, .none] } }) :=
  .of_wp fun prog w A R s h => by
    obtain ⟨hp, g, d, tk, os⟩ := s; obtain ⟨hl, h⟩ := h
    have hsub := sub_enumerate
    have hL : Heap.IsTuple (Shared.heap ⟨hp, g, d, tk, os⟩) l items := ⟨_, hl, rfl, n, rfl⟩
    wp_walk using wpAny_loadPart' hl
    refine wpAny_stack_any fun st => wpAny_pure ?_
    split
    · rename_i c _ _ _ _ _
      cases (c == Value.type "enumerate")
      · wp_walk using wpAny_loadPart' hl, wpAny_pyIter_tuple hL
        exact ⟨_, rfl, h⟩
      · wp_walk using wpAny_loadPart' hl, wpAny_pyIter_tuple hL
        exact ⟨_, rfl, h⟩
    · wp_walk using wpAny_loadPart' hl, wpAny_pyIter_tuple hL
      exact ⟨_, rfl, h⟩
section
variable {prog : Program} {w : World} {A : Around} {E : Value → Shared → Prop} {s : Shared}
theorem gf_call_enumerate_tuple {l : Addr} {items : Array Value} {Q : Value → Shared → Prop} (hL : s.heap.IsTuple l items)
    (h : ∀ h', IsEnum h' (s.heap.objs.size + 1) s.heap.objs.size 0 .none → h'.IsTupleIter s.heap.objs.size l 0 → h'.objs.size = s.heap.objs.size + 2 →
      (∀ b o, s.heap.get? b = some o → h'.get? b = some o) → Q (.ref (s.heap.objs.size + 1)) { s with heap := h' }) :
    wpAny (model prog w) A (call (.type "enumerate") [.ref l]) Q E s := by
  obtain ⟨⟨c, dct, dt, sl⟩, hl, hc, n, hd⟩ := hL
  replace hc : c = .type "tuple" := hc
  replace hd : dt = .seq items n := hd
  subst hc hd
  refine callType_new F.called_enumerate (by decide) (F.typeCall_enumerate_1 _) (F.newCall_enumerate_1 _) (fun obj => F.args_object_init_2 obj _) F.entry_enumerate_new
    (gf_enumerate_newT l items n dct sl) ⟨hl, ?_⟩
  have hz : (s.heap.push { cls := .type "tuple_iterator", data := .fields #[.ref l, .int 0 0] }).objs.size = s.heap.objs.size + 1 := Heap.size_push ..
  show _ ∧ _
  rw [hz]
  have he : IsEnum ((s.heap.push { cls := .type "tuple_iterator", data := .fields #[.ref l, .int 0 0] }).push
      { cls := .type "enumerate", data := .fields #[.none, .bool false, .ref s.heap.objs.size, rawInt 0, .none, .none] }) (s.heap.objs.size + 1) s.heap.objs.size 0 .none := by
    have := Heap.get?_push_size (s.heap.push { cls := .type "tuple_iterator", data := .fields #[.ref l, .int 0 0] })
      (o := { cls := .type "enumerate", data := .fields #[.none, .bool false, .ref s.heap.objs.size, rawInt 0, .none, .none] }) rfl
    rw [hz] at this; exact this
  refine ⟨⟨_, he, rfl⟩, h _ he ⟨_, Heap.get?_push_of_some _ (Heap.get?_push_size _ rfl), rfl, rfl⟩ (by rw [Heap.size_push, hz]) fun b o x => Heap.get?_push_of_some _ (Heap.get?_push_of_some _ x)⟩
end
end PySem
namespace L2
open PySem PySem.Spec PyProof.Rows
/-- the tuple at a, each item in a new pair -/
def IteT (K : PySem.W.Frag) (a : Addr) : It :=
  ⟨fun i H => ∃ (xs : List V) (x : V), SqT K H a xs ∧ xs[i]? = some x, fun i H v H' => ∃ T x, v = .ref T ∧ H T = none ∧ H' = upd H T (.tup [.int (i : Nat), x]) ∧ ∀ xs, SqT K H a xs → xs[i]? = some x, fun i H => ∃ xs : List V, SqT K H a xs ∧ xs.length ≤ i⟩
theorem turn_enumT {P : Program} {w : World} {K : PySem.W.Frag} {elts : List Expr} {kk : Nat} {tpos : Pos} (a e it : Addr) :
    Turn P w K (.Tuple elts kk tpos) (IteT K a) [e, it] e (fun i h => (∃ old, IsEnum h e it ((i : Nat) : Int) old) ∧ h.IsTupleIter it a i ∧ e ≠ it) where
  mem := by simp
  obj := fun i h st b hb => by
    obtain ⟨⟨old, he⟩, ⟨o, ho, hc, hd⟩, _⟩ := st
    have e' : b = e ∨ b = it := by simpa using hb
    rcases e' with z | z
    · rw [z]; exact ⟨_, he, fun v q => nomatch q⟩
    · rw [z]; exact ⟨o, ho, fun v q => by rw [hd] at q; cases q⟩
  keep := fun i h h' st k => let ⟨⟨old, he⟩, hi, hne⟩ := st; ⟨⟨old, k e (by simp) _ he⟩, hi.at fun o q => k it (by simp) o q, hne⟩
  item := by
    intro X hP hw hK hc i pins s σ H E I hf st hg
    subst hP hw hK
    obtain ⟨⟨old, he⟩, hit, hne⟩ := st
    obtain ⟨xs, x, hq, hx⟩ := hg
    obtain ⟨its, rv, p, hz⟩ := I.tuple hq
    obtain ⟨u, hu, ru⟩ := rv.get hx
    have hel : e < s.heap.objs.size := Heap.lt_size he
    have hil : it < s.heap.objs.size := by obtain ⟨_, q, _⟩ := hit; exact Heap.lt_size q
    have nea : e ≠ a := fun z => by
      obtain ⟨o, ho, hc', _⟩ := p
      rw [← z, he] at ho
      cases ho
      exact absurd (Value.type.inj hc') (by decide)
    have nia : a ≠ it := fun z => by
      obtain ⟨o, ho, hc', _⟩ := p
      obtain ⟨o2, ho2, hc2, _⟩ := hit
      rw [z, ho2] at ho
      cases ho
      exact absurd (Value.type.inj (hc2.symm.trans hc')) (by decide)
    have hil2 : i < its.length := (List.getElem?_eq_some_iff.mp hu).1
    refine wpAny_pyNext_enum_itemD (Draws.tuple (prog := X.prog) (w := X.w) (A := X.A.in1) (I.ok.hd hc) it a nia its.toArray) he ⟨hit, p⟩ (by simpa using hil2) hne (by simp [hne, nea]) fun x' h' tk hP' ho hst' hT hsz hk => ?_
    have ex : x' = u := by
      have : its[i]? = some x' := by simpa using hP'
      rw [hu] at this
      exact (Option.some.inj this).symm
    subst ex
    have hit' := hst'.1
    refine ⟨_, rfl, wpAny_letOwnedTupleGo_enum (s := { s with heap := h', toks := tk + 1 }) ho fun h'' he' sb => ?_⟩
    have hT2 : h''.get? s.heap.objs.size = some { cls := .type "tuple", data := .seq #[.int i tk, x'] } := (sb.2 _ (Nat.ne_of_gt hel)).trans hT
    have new : ObjOk X.prog X.w (upd H s.heap.objs.size (.tup [.int (i : Nat), x])) h'' s.heap.objs.size (.tup [.int (i : Nat), x]) :=
      ⟨by show 2 ≤ sizeLine; decide, [.int i tk, x'], .cons ⟨_, rfl⟩ (.cons ru .nil), ⟨_, hT2, rfl, _, rfl⟩⟩
    have I1 : Inv X pins σ (upd H s.heap.objs.size (.tup [.int (i : Nat), x])) { s with heap := h'', toks := tk + 1 } :=
      I.turnedNew (ch := [e, it]) (fun b ob hb q => (sb.2 b (fun z => hb (by simp [z]))).trans (hk b ob (fun z => hb (by simp [z])) (fun z => hb (by simp [z])) q)) hf (Nat.le_refl _) new
    refine ⟨.ref s.heap.objs.size, _, I1, rfl, ⟨_, x, rfl, I.hok.fresh (Nat.le_refl _), rfl, fun ys hy => by rw [I.tuple_inj hy hq]; exact hx⟩, ⟨⟨x', ?_⟩, hit'.at fun o q => (sb.2 it (Ne.symm hne)).trans q, hne⟩, fun b hb => ?_⟩
    · have e1 : ((i + 1 : Nat) : Int) = (i : Int) + 1 := by omega
      rw [e1]; exact he'
    · have hb' : b < s.heap.objs.size := by
        have e' : b = e ∨ b = it := by simpa using hb
        rcases e' with z | z
        · rw [z]; exact hel
        · rw [z]; exact hil
      rw [upd_ne (Nat.ne_of_lt hb')]
      exact (hf b hb).1
  done := by
    intro X hP hw hK hc i pins s σ H E I hf st hg
    subst hP hw hK
    obtain ⟨⟨old, he⟩, hit, hne⟩ := st
    obtain ⟨xs, hq, hx⟩ := hg
    obtain ⟨its, rv, p, hz⟩ := I.tuple hq
    obtain ⟨f0, f1, f2, f3, f4, f5⟩ := hf it (by simp)
    have hl := rv.length
    have hne' : its.toArray[i]? = none := by simp; omega
    have hT : s.TypeIs (.ref e) "enumerate" := ⟨_, he, rfl⟩
    unfold pyNext
    refine wpAny_bind (wpAny_attempt (wpAny_callSpecial?_slot (name := Str.ofString "__next__") hT F.slot_enumerate_next
      (wpAny_call_entry F.slot_enumerate_next hT F.entry_enumerate_next ?_ (F.args_enumerate_next_1 _))))
    show wpAny _ _ (field (.ref e) 2 >>= _) _ _ _
    refine wpAny_bind (wpAny_field he rfl (x := .ref it) rfl ?_)
    refine wpAny_bind (wpAny_nextOf_tuple_end (I.ok.hd hc) hit p hne' fun h' x he' hx' => ?_)
    obtain ⟨o, ho, hc'⟩ := hx'
    refine wpAny_bind (wpAny_isInstance (T := "StopIteration") (b := true) ⟨o, ho, hc'⟩ isSubtype_stop ?_)
    exact wpAny_pure ⟨rfl, I.turned (t' := s.toks) (fun b o hb q => he' b o hb q) f0 f1 f3 f4 f5⟩
  self := fun A i s Q E st h => let ⟨⟨_, he⟩, _⟩ := st; wpAny_pyIter_enum he h
/-- of a list or a tuple -/
def iEnumA (K : PySem.W.Frag) (ta : TA) : TI := fun σ H R => ta σ H fun vs H1 => ∃ a xs, vs = [.ref a] ∧ ((SqL K H1 a xs ∧ R (Ite K a) H1) ∨ (SqT K H1 a xs ∧ R (IteT K a) H1))
theorem pi_enumA {X : Cx} {e : Expr} {ta : TA} {p pos tpos : Pos} {elts : List Expr} {kk : Nat} (hg : Gl X "enumerate") (hm : X.mg "enumerate" = none) (ha : PA X [e] ta) (hs : starEach [e] X.env = [(false, eval e X.env)] := by rfl) :
    PI X (.Tuple elts kk tpos) (.Call (.Name "enumerate" p) [e] [] pos) (iEnumA X.K ta) := by
  refine ⟨fun pins s σ H R I h => ?_⟩
  refine Call_ (ld_blt I hg hm boot_enumerate (PyProof.Rows.callWith_type1 (thn (ha.run pos pins s σ H _ I h) fun us s1 ⟨vs, H1, I1, r1, q1⟩ => ?_) hs rfl))
  obtain ⟨a, xs, ex, q1⟩ := q1
  subst ex
  cases r1 with
  | cons r rr =>
    cases rr
    cases r
    have fresh2 : ∀ b ∈ [s1.heap.objs.size + 1, s1.heap.objs.size], FpOk X pins H1 b := fun b hb => by
      have e' : b = s1.heap.objs.size + 1 ∨ b = s1.heap.objs.size := by simpa using hb
      have hle : s1.heap.objs.size ≤ b := by
        rcases e' with z | z
        · rw [z]; exact Nat.le_add_right _ _
        · rw [z]; exact Nat.le_refl _
      exact I1.fpOk hle (I1.hok.fresh hle)
    rcases q1 with ⟨hq, q⟩ | ⟨hq, q⟩
    · obtain ⟨its, rv, p', hz⟩ := I1.list hq
      refine call_enumerate_list p'.isList fun h' he hit hsz hk => wpAny_pyIter_enum he ?_
      have I2 : Inv X pins σ H1 { s1 with heap := h' } := I1.kept (t' := s1.toks) hk
      exact ⟨s1.heap.objs.size + 1, [s1.heap.objs.size + 1, s1.heap.objs.size], _, _, H1, rfl, I2, turn_enum a (s1.heap.objs.size + 1) s1.heap.objs.size, ⟨⟨.none, he⟩, hit, Nat.succ_ne_self _⟩, fresh2, q⟩
    · obtain ⟨its, rv, p', hz⟩ := I1.tuple hq
      refine gf_call_enumerate_tuple p' fun h' he hit hsz hk => wpAny_pyIter_enum he ?_
      have I2 : Inv X pins σ H1 { s1 with heap := h' } := I1.kept (t' := s1.toks) hk
      exact ⟨s1.heap.objs.size + 1, [s1.heap.objs.size + 1, s1.heap.objs.size], _, _, H1, rfl, I2, turn_enumT a (s1.heap.objs.size + 1) s1.heap.objs.size, ⟨⟨.none, he⟩, hit, Nat.succ_ne_self _⟩, fresh2, q⟩
theorem walk_enumT {K : PySem.W.Frag} {a : Addr} {xs : List V} : Walk (IteT K a) xs.length (fun H => SqT K H a xs) (YPair (fun i => some (.int (i : Nat))) (fun i => xs[i]?)) := by
  refine ⟨fun i _ hi q => ⟨xs, xs[i], q, by simp [hi]⟩, fun _ q => ⟨xs, q, Nat.le_refl _⟩, fun i H v H' _ q y => ?_⟩
  obtain ⟨T, x, h1, h2, h3, h4⟩ := y
  exact ⟨T, .int (i : Nat), x, h1, h2, h3, rfl, h4 xs q⟩
end L2
namespace DL
open PySem PySem.Spec PyProof.Rows L2
section
variable {X : Cx} {G0 : Hp} {e : Expr} {body : List Stmt} {δ : List (Option D)} {μ : Mu} {pos : Pos} {E : DEnds}
/-- for i, x in enumerate(a list or a tuple that stays) -/
theorem s_forE {elts : List Expr} {kk : Nat} {tpos p ip : Pos} (xs : List D) (h : dA X G0 [e] δ μ fun ds μ1 => (ds = [.lst xs] ∨ ds = [.tup xs]) ∧ ∃ Pv : Nat → List (Option D) → Mu → Prop, Pv 0 δ μ1 ∧
      (∀ (i : Nat) x δ' μ', xs[i]? = some x → Pv i δ' μ' → dTg X (.Tuple elts kk tpos) (.tup [.int i, x]) δ' fun δ2 => ∀ G1, Sub G0 G1 → dSs X G1 body δ2 μ' { E with nx := Pv (i + 1), ct := Pv (i + 1), bk := E.nx }) ∧ ∀ δ' μ', Pv xs.length δ' μ' → E.nx δ' μ')
    (hm : X.mg "enumerate" = none := by assumption) (hg : Gl X "enumerate" := by rfl) (hp : PassesOwn (model X.prog X.w) X.A X.env X.xe := by assumption) (hc : X.calm = true := by rfl)
    (hst : starEach [e] X.env = [(false, eval e X.env)] := by rfl)
    (hs : ∀ x, foldedSetIterable (.Call (.Name "enumerate" p) [e] [] ip) X.env x = pure x := by intro _; rfl) : dS X G0 (.For (.Tuple elts kk tpos) (.Call (.Name "enumerate" p) [e] [] ip) body [] pos) δ μ E := fun σ H B => by
  refine wS_of (ps_for hp hc (pi_enumA hg hm pa_w hst) pg_w pss_w hs) ?_
  refine h σ H B _ fun vs H1 ds μ1 ⟨ed, Pv, p0, turn, fin⟩ m1 e1 r1 => ?_
  have B1 := B.step m1 e1
  have go : ∀ (ws : List V), RpAll X.K (Im μ1 H1) ws xs → ∀ (i : Nat) (v : V) (σ' : L2.St) (H' H'' : Hp), i < xs.length → (∃ δ' μ', Pv i δ' μ' ∧ Bd X.K (Im μ1 H1) δ' μ' σ' H') → YPair (fun i => some (.int (i : Nat))) (fun i => ws[i]?) i H' v H'' →
      gW X (.Tuple elts kk tpos) v σ' H'' fun σ2 H2 => wSs X body { dEn X.K G0 E with nx := fun σ H => ∃ δ' μ', Pv (i + 1) δ' μ' ∧ Bd X.K (Im μ1 H1) δ' μ' σ H, ct := fun σ H => ∃ δ' μ', Pv (i + 1) δ' μ' ∧ Bd X.K (Im μ1 H1) δ' μ' σ H, bk := (dEn X.K G0 E).nx } σ2 H2 := by
    rintro ws ra i v σ' H' H'' hi ⟨δ', μ', hP, B'⟩ ⟨T, x, y, rfl, hT, rfl, hx, hy⟩
    obtain ⟨w', hw, rw'⟩ := ra.get (List.getElem?_eq_getElem hi)
    have e1' : V.int (i : Nat) = x := Option.some.inj hx
    have e2' : y = w' := Option.some.inj (hy.symm.trans hw)
    subst e1' e2'
    have B'' := B'.ext (sub_new (o := .tup [.int (i : Nat), y]) hT)
    refine turn i _ δ' μ' (List.getElem?_eq_getElem hi) hP (Im μ1 H1) μ' σ' _ _ B'' (rp_tup B'.mu hT (.cons (.int _) (.cons (rw'.mono B'.base) .nil))) _ fun δ2 σ2 q B2 => ?_
    refine wSs_mono ?_ (q (Im μ1 H1) B1.base σ2 _ B2)
    exact ⟨fun _ _ q => q, fun v H ⟨d, μ, q, m, e, r⟩ => ⟨d, μ, q, m, B1.base.trans e, r⟩, fun _ _ ⟨δ, μ, q, B⟩ => ⟨δ, μ, q, B.weaken B1.base⟩, fun _ _ q => q⟩
  rcases ed with rfl | rfl
  · obtain ⟨v, rfl, r2⟩ := rp1 r1
    obtain ⟨a, ws, rfl, hG, ra⟩ : ∃ a vs, v = .ref a ∧ Im μ1 H1 a = some (.lst vs) ∧ RpAll X.K (Im μ1 H1) vs xs := by
      cases r2 with
      | lst h r => exact ⟨_, _, rfl, h, r⟩
    refine ⟨a, ws, rfl, .inl ⟨SqL.of (im_all _ _ hG), ?_⟩⟩
    refine for_it walk_enum (fun i σ' H' => ∃ δ' μ', Pv i δ' μ' ∧ Bd X.K (Im μ1 H1) δ' μ' σ' H') ⟨δ, μ1, p0, B1.rebase⟩ (fun i σ' H' _ ⟨δ', μ', _, B'⟩ => SqL.of (im_all _ _ (B'.base _ _ hG))) (fun i v σ' H' H'' hi hP y => go ws ra i v σ' H' H'' (by rw [← ra.length]; exact hi) hP y) (fun σ' H' ⟨δ', μ', hP, B'⟩ => ⟨δ', μ', fin δ' μ' (by rw [← ra.length]; exact hP), B'.weaken B1.base⟩)
  · obtain ⟨v, rfl, r2⟩ := rp1 r1
    obtain ⟨a, ws, rfl, hG, ra⟩ : ∃ a vs, v = .ref a ∧ Im μ1 H1 a = some (.tup vs) ∧ RpAll X.K (Im μ1 H1) vs xs := by
      cases r2 with
      | tup h r => exact ⟨_, _, rfl, h, r⟩
    refine ⟨a, ws, rfl, .inr ⟨SqT.of (im_all _ _ hG), ?_⟩⟩
    refine for_it walk_enumT (fun i σ' H' => ∃ δ' μ', Pv i δ' μ' ∧ Bd X.K (Im μ1 H1) δ' μ' σ' H') ⟨δ, μ1, p0, B1.rebase⟩ (fun i σ' H' _ ⟨δ', μ', _, B'⟩ => SqT.of (im_all _ _ (B'.base _ _ hG))) (fun i v σ' H' H'' hi hP y => go ws ra i v σ' H' H'' (by rw [← ra.length]; exact hi) hP y) (fun σ' H' ⟨δ', μ', hP, B'⟩ => ⟨δ', μ', fin δ' μ' (by rw [← ra.length]; exact hP), B'.weaken B1.base⟩)
end
section
variable {X : Cx} {G0 : Hp} {it elt : Expr} {δ : List (Option D)} {μ : Mu} {Φ : DK}
theorem d_lcTq {x : Str} {scope : Scope} {tp cp : Pos} {own : List (Str × Nat)} {vs : List Nat} (j : Nat) (f : D → D)
    (h : dE X G0 it δ μ fun d μ1 => ∃ ds, d = .tup ds ∧ ds.length ≤ sizeLine ∧ (∀ d ∈ ds, ∀ p acc, μ1 p = none → Gives X scope elt ((wipeD δ vs).set j (some d)) (updM μ1 p acc) (f d)) ∧ ∀ p, μ1 p = none → Φ (.ref p) (updM μ1 p (.lst (ds.map f))))
    (hb : blkC X.N X.env.scope scope own = true := by kernel_rfl) (hj : j ∈ vs := by decide) (hv : own.map (·.2) = vs := by rfl) (hN : X.N.Nodup := by assumption) (hc : X.calm = true := by rfl)
    (hi : X.N[j]? = some x := by rfl) (hx : ∀ s H C cl fp, Loc (BX X scope s H C cl fp).env.scope x := by first | exact fun _ _ _ _ _ => Or.inl rfl | exact fun _ _ _ _ _ => Or.inr rfl) (hf : ∀ s H C cl fp, (BX X scope s H C cl fp).fn x = true ∨ (BX X scope s H C cl fp).env.scope.names.lookup x = some .local := by first | exact fun _ _ _ _ _ => .inr rfl | exact fun _ _ _ _ _ => .inl rfl)
    (hs : ∀ x, foldedSetIterable it X.env x = pure x := by intro _; rfl) : dE X G0 (.ListComp elt [⟨.Name x tp, it, [], 0⟩] scope cp) δ μ Φ := by
  refine (d_lcT j (h.imp fun d μ1 ⟨ds, ed, hl, hg, q⟩ => ⟨ds, ed, fun i acc μ2 => acc = (ds.take i).map f ∧ μ2 = μ1, ⟨by rw [List.take_zero]; rfl, rfl⟩, ?_, ?_⟩) hb hj hv hN hc hi hx hf hs)
  · rintro i d acc μ2 p hd ⟨rfl, rfl⟩ hp
    have hi' := (List.getElem?_eq_some_iff.mp hd).1
    refine ⟨by rw [List.length_map, List.length_take]; omega, fun G1 s H0 C cl fp => (hg d (List.mem_of_getElem? hd) p _ hp G1 s H0 C cl fp).imp fun r μ3 ⟨e1, e2⟩ => ?_⟩
    subst e1 e2
    exact ⟨_, rfl, hp, take_snoc hd, rfl⟩
  · rintro acc μ2 p ⟨rfl, rfl⟩ hp
    rw [List.take_length]
    exact q p hp
theorem d_lcLq {x : Str} {scope : Scope} {tp cp : Pos} {own : List (Str × Nat)} {vs : List Nat} (j : Nat) (f : D → D)
    (h : dE X G0 it δ μ fun d μ1 => ∃ ds, d = .lst ds ∧ ds.length ≤ sizeLine ∧ (∀ d ∈ ds, ∀ p acc, μ1 p = none → Gives X scope elt ((wipeD δ vs).set j (some d)) (updM μ1 p acc) (f d)) ∧ ∀ p, μ1 p = none → Φ (.ref p) (updM μ1 p (.lst (ds.map f))))
    (hb : blkC X.N X.env.scope scope own = true := by kernel_rfl) (hj : j ∈ vs := by decide) (hv : own.map (·.2) = vs := by rfl) (hN : X.N.Nodup := by assumption) (hc : X.calm = true := by rfl)
    (hi : X.N[j]? = some x := by rfl) (hx : ∀ s H C cl fp, Loc (BX X scope s H C cl fp).env.scope x := by first | exact fun _ _ _ _ _ => Or.inl rfl | exact fun _ _ _ _ _ => Or.inr rfl) (hf : ∀ s H C cl fp, (BX X scope s H C cl fp).fn x = true ∨ (BX X scope s H C cl fp).env.scope.names.lookup x = some .local := by first | exact fun _ _ _ _ _ => .inr rfl | exact fun _ _ _ _ _ => .inl rfl)
    (hs : ∀ x, foldedSetIterable it X.env x = pure x := by intro _; rfl) : dE X G0 (.ListComp elt [⟨.Name x tp, it, [], 0⟩] scope cp) δ μ Φ := by
  refine (d_lcL j (h.imp fun d μ1 ⟨ds, ed, hl, hg, q⟩ => ⟨ds, ed, fun i acc μ2 => acc = (ds.take i).map f ∧ μ2 = μ1, ⟨by rw [List.take_zero]; rfl, rfl⟩, ?_, ?_⟩) hb hj hv hN hc hi hx hf hs)
  · rintro i d acc μ2 p hd ⟨rfl, rfl⟩ hp
    have hi' := (List.getElem?_eq_some_iff.mp hd).1
    refine ⟨by rw [List.length_map, List.length_take]; omega, fun G1 s H0 C cl fp => (hg d (List.mem_of_getElem? hd) p _ hp G1 s H0 C cl fp).imp fun r μ3 ⟨e1, e2⟩ => ?_⟩
    subst e1 e2
    exact ⟨_, rfl, hp, take_snoc hd, rfl⟩
  · rintro acc μ2 p ⟨rfl, rfl⟩ hp
    rw [List.take_length]
    exact q p hp
/-- a list or a tuple of ints up to i -/
theorem sl_to {d : D} {o : List Int} {i : Int} (hi : 0 ≤ i) (hd : d = .lst (o.map .int) ∨ d = .tup (o.map .int)) (q : ∀ d', (d' = .lst ((o.take i.toNat).map .int) ∨ d' = .tup ((o.take i.toNat).map .int)) → Φ d' μ) : dSl X d none (some i) μ Φ := by
  rcases hd with rfl | rfl
  · refine sl_lst ?_
    rw [cut_to hi, ← List.map_take]
    exact q _ (.inl rfl)
  · refine sl_tplA ?_
    rw [cut_to hi, ← List.map_take]
    exact q _ (.inr rfl)
theorem putW_new {kvs : List (Key × D)} {k : Key} {v : D} (h : ∀ kv ∈ kvs, kv.1 ≠ k) : putW kvs k v = kvs ++ [(k, v)] := by
  unfold putW
  rw [if_neg]
  intro z
  obtain ⟨kv, h1, h2⟩ := List.any_eq_true.mp z
  exact h kv h1 (of_decide_eq_true h2)
theorem valK_ints (f : Int → D) : ∀ {o : List Int} {q : Int}, q ∈ o → valK (o.map fun q => (Sum.inl q, f q)) (.inl q) = some (f q)
  | x :: o, q, h => by
    unfold valK
    rw [List.map_cons, List.find?_cons]
    by_cases e : x = q
    · subst e
      rw [decide_eq_true rfl]
      rfl
    · rw [decide_eq_false (fun z => e (Sum.inl.inj z))]
      rcases List.mem_cons.mp h with z | z
      · exact absurd z.symm e
      · exact valK_ints f z
end
end DL

/-! sorted() of a list of data of any kind -/
namespace L2
open PySem PySem.Spec PyProof.Rows
def rSortedD {β : Type} (K : PySem.W.Frag) (enc : β → PyData) (u : Nat) : List V → Hp → VK → Prop := fun vs H Q => ∃ (a : Addr) (bs : List (V × β)), vs = [V.ref a] ∧ SqL K H a (bs.map (·.1)) ∧ (∀ b ∈ bs, Dp K H b.1 (enc b.2)) ∧ PySem.W.AllAlike (bs.map fun b => enc b.2) ∧ PySem.W.Sortable (bs.map fun b => enc b.2) ∧ (∀ b ∈ bs, (enc b.2).depth ≤ u) ∧
  ∀ p, H p = none → Q (.ref p) (upd H p (.lst ((bs.mergeSort (PySem.W.dataLe false fun b => enc b.2)).map (·.1))))
theorem vals_each {β : Type} : ∀ {bs : List (V × β)} {us : List Value}, Vals (bs.map (·.1)) us → PySem.W.EachIs (fun v b => RelV b.1 v) us bs
  | [], _, r => by
    have r' : Vals [] _ := r
    cases r'
    exact .nil
  | b :: bs, _, r => by
    have r' : Vals (b.1 :: bs.map (·.1)) _ := r
    cases r' with
    | cons h t => exact .cons h (vals_each t)
theorem each_vals {β : Type} : ∀ {bs : List (V × β)} {us : List Value}, PySem.W.EachIs (fun v b => RelV b.1 v) us bs → Vals (bs.map (·.1)) us
  | _, _, .nil => .nil
  | _, _, .cons h t => .cons h (each_vals t)
theorem each_reads {β : Type} {X : Cx} {pins : List (Addr × Obj)} {σ : St} {H : Hp} {s : Shared} {enc : β → PyData} (I : Inv X pins σ H s) : ∀ {bs : List (V × β)} {us : List Value}, PySem.W.EachIs (fun v b => RelV b.1 v) us bs → (∀ b ∈ bs, Dp X.K H b.1 (enc b.2)) → PySem.W.EachIs (fun v b => ∃ as, Reads s.heap v (enc b.2) as) us bs
  | _, _, .nil, _ => .nil
  | _, _, .cons h t, q => .cons (Dp.reads I _ _ _ (q _ List.mem_cons_self) h) (each_reads I t fun b hb => q b (List.mem_cons_of_mem _ hb))
theorem cr_sortedD {β : Type} {enc : β → PyData} {u : Nat} {X : Cx} (hu : X.A.units + 16 + u < cLine) : CallR X (.builtin "sorted") (rSortedD X.K enc u) := by
  intro pins s σ H vs us Q I r h
  obtain ⟨a, bs, rfl, hs, hd, hal, hso, hdp, q⟩ := h
  obtain ⟨its, rv, hl, hz⟩ := I.list hs
  rw [Vals.ref1 r]
  have e := vals_each rv
  have hlen : its.length = bs.length := e.length
  refine PySem.W.sorted_data (enc := fun b => enc b.2) hl.isList e (each_reads I e hd) hal hso (by rw [List.length_map] at hz; exact hz) (fun b hb => ?_) fun out hol he => ?_
  · have h1 := hdp b hb
    omega
  · have hv := each_vals he
    have hd0 : s.heap.objs.size ≤ s.heap.objs.size + 1 := Nat.le_succ _
    obtain ⟨n, hn⟩ := sortedAll_at s.heap its (List.toArray out)
    refine ⟨.ref (s.heap.objs.size + 1), upd H (s.heap.objs.size + 1) (.lst ((bs.mergeSort (PySem.W.dataLe false fun b => enc b.2)).map (·.1))), I.laid (t' := s.toks) (fun b o e => sortedAll_old e) hd0 ⟨?_, out, n, hv, hn⟩, rfl, q _ (I.hok.fresh hd0)⟩
    rw [List.length_map, List.length_mergeSort]
    rw [List.length_map] at hz
    exact hz
end L2
namespace DL
open PySem PySem.Spec PyProof.Rows L2
section
variable {X : Cx} {G0 : Hp} {μ : Mu} {Φ : DK} {K : PySem.W.Frag} {H G : Hp}
theorem zip_map {α β : Type} (f : β → α → Prop) : ∀ {vs : List α} {bs : List β}, vs.length = bs.length → (vs.zip bs).map (·.1) = vs ∧ (vs.zip bs).map (·.2) = bs
  | [], [], _ => ⟨rfl, rfl⟩
  | v :: vs, b :: bs, h => by
    obtain ⟨h1, h2⟩ := zip_map f (vs := vs) (bs := bs) (by simpa using h)
    simp only [List.zip_cons_cons, List.map_cons, h1, h2, and_self]
theorem rp_zip {β : Type} {dOf : β → D} {G : Hp} : ∀ {vs : List V} {bs : List β}, RpAll K G vs (bs.map dOf) → ∀ b ∈ vs.zip bs, Rp K G b.1 (dOf b.2)
  | _, [], _, b, h => by rw [List.zip_nil_right] at h; cases h
  | _, x :: bs, r, b, h => by
    have r' : RpAll K G _ (dOf x :: bs.map dOf) := r
    cases r' with
    | cons r1 r2 =>
      rw [List.zip_cons_cons] at h
      rcases List.mem_cons.mp h with e | h
      · rw [e]
        exact r1
      · exact rp_zip r2 b h
theorem rp_unzip {β : Type} {dOf : β → D} {G : Hp} : ∀ {l : List (V × β)}, (∀ b ∈ l, Rp K G b.1 (dOf b.2)) → RpAll K G (l.map (·.1)) ((l.map (·.2)).map dOf)
  | [], _ => .nil
  | b :: l, h => .cons (h b List.mem_cons_self) (rp_unzip fun c hc => h c (List.mem_cons_of_mem _ hc))
/-- sorted() of a list of data: the sorted list as a value -/
theorem c_sortD {β : Type} {bs : List β} (dOf : β → D) (enc : β → PyData) (u : Nat) (hu : X.A.units + 16 + u < cLine) (hpy : ∀ b ∈ bs, Py μ (dOf b) (enc b)) (hal : PySem.W.AllAlike (bs.map enc)) (hso : PySem.W.Sortable (bs.map enc)) (hdp : ∀ b ∈ bs, (enc b).depth ≤ u) (q : Φ (.lst ((bs.mergeSort (PySem.W.dataLe false enc)).map dOf)) μ) : dCall X (.builtin "sorted") [.lst (bs.map dOf)] μ Φ := fun vs H r0 m Q kk => by
  obtain ⟨v, rfl, r1⟩ := rp1 r0
  obtain ⟨p, ws, rfl, ha, ra⟩ := rp_lst_at r1
  have hlen : ws.length = bs.length := by rw [ra.length, List.length_map]
  obtain ⟨z1, z2⟩ := zip_map (fun _ _ => True) hlen
  have hz := rp_zip ra
  have mem2 : ∀ b ∈ ws.zip bs, b.2 ∈ bs := fun b hb => (List.of_mem_zip hb).2
  have em : (ws.zip bs).map (fun b => enc b.2) = bs.map enc := by
    conv => rhs; rw [← z2, List.map_map]
    rfl
  refine wCall_of (cr_sortedD (enc := enc) (u := u) (by omega)) ⟨p, ws.zip bs, rfl, by rw [z1]; exact SqL.of ha, fun b hb => (hpy _ (mem2 b hb)).dp m (hz b hb), by rw [em]; exact hal, by rw [em]; exact hso, fun b hb => hdp _ (mem2 b hb), fun l hl => ?_⟩
  have e : ((ws.zip bs).mergeSort (PySem.W.dataLe false fun b => enc b.2)).map (·.2) = bs.mergeSort (PySem.W.dataLe false enc) := by
    rw [PySem.W.sort_maps (r := PySem.W.dataLe false fun b : V × β => enc b.2) (fun b : V × β => b.2) (s := PySem.W.dataLe false enc) fun a _ b _ => rfl, z2]
  refine kk.new m hl (by rw [← e] at q; exact q) (rp_lst m hl ?_)
  exact rp_unzip fun b hb => hz b ((List.mergeSort_perm _ _).mem_iff.mp hb)
end
end DL

/-! ### targets of three names -/
namespace DL
open PySem PySem.Spec PyProof.Rows L2
section
variable {X : Cx} {G0 : Hp} {e a b c it elt : Expr} {es rest : List Expr} {sts : List Stmt} {δ : List (Option D)} {μ : Mu} {Φ : DK} {pos : Pos} {K : PySem.W.Frag} {H : Hp} {Q : VK} {E : DEnds}
theorem rp3 {G : Hp} {vs : List V} {d1 d2 d3 : D} (r : RpAll K G vs [d1, d2, d3]) : ∃ v1 v2 v3, vs = [v1, v2, v3] ∧ Rp K G v1 d1 ∧ Rp K G v2 d2 ∧ Rp K G v3 d3 := by
  cases r with
  | cons h1 r => cases r with
    | cons h2 r => cases r with
      | cons h3 r => cases r with
        | nil => exact ⟨_, _, _, rfl, h1, h2, h3⟩
/-- [e for x, y, z in a list] -/
theorem d_lcL3 {x y z : Str} {scope : Scope} {tp tp2 tp3 tq cp : Pos} {kk : Nat} {own : List (Str × Nat)} {vs : List Nat} (j j2 j3 : Nat)
    (h : dE X G0 it δ μ fun d μ1 => ∃ ds, d = .lst ds ∧ ∃ Pv : Nat → List D → Mu → Prop, Pv 0 [] μ1 ∧ (∀ (i : Nat) d acc μ2 p, ds[i]? = some d → Pv i acc μ2 → μ2 p = none → ∃ d1 d2 d3, d = .tup [d1, d2, d3] ∧ LcTurn X scope elt p acc ((((wipeD δ vs).set j (some d1)).set j2 (some d2)).set j3 (some d3)) μ2 (Pv (i + 1))) ∧ ∀ acc μ2 p, Pv ds.length acc μ2 → μ2 p = none → Φ (.ref p) (updM μ2 p (.lst acc)))
    (hb : blkC X.N X.env.scope scope own = true := by kernel_rfl) (hj : j ∈ vs := by decide) (hj2 : j2 ∈ vs := by decide) (hj3 : j3 ∈ vs := by decide) (hv : own.map (·.2) = vs := by rfl) (hN : X.N.Nodup := by assumption) (hc : X.calm = true := by rfl)
    (hi : X.N[j]? = some x := by rfl) (hi2 : X.N[j2]? = some y := by rfl) (hi3 : X.N[j3]? = some z := by rfl) (hx : ∀ s H C cl fp, Loc (BX X scope s H C cl fp).env.scope x := by first | exact fun _ _ _ _ _ => Or.inl rfl | exact fun _ _ _ _ _ => Or.inr rfl) (hf : ∀ s H C cl fp, (BX X scope s H C cl fp).fn x = true ∨ (BX X scope s H C cl fp).env.scope.names.lookup x = some .local := by first | exact fun _ _ _ _ _ => .inr rfl | exact fun _ _ _ _ _ => .inl rfl)
    (hx2 : ∀ s H C cl fp, Loc (BX X scope s H C cl fp).env.scope y := by first | exact fun _ _ _ _ _ => Or.inl rfl | exact fun _ _ _ _ _ => Or.inr rfl) (hf2 : ∀ s H C cl fp, (BX X scope s H C cl fp).fn y = true ∨ (BX X scope s H C cl fp).env.scope.names.lookup y = some .local := by first | exact fun _ _ _ _ _ => .inr rfl | exact fun _ _ _ _ _ => .inl rfl)
    (hx3 : ∀ s H C cl fp, Loc (BX X scope s H C cl fp).env.scope z := by first | exact fun _ _ _ _ _ => Or.inl rfl | exact fun _ _ _ _ _ => Or.inr rfl) (hf3 : ∀ s H C cl fp, (BX X scope s H C cl fp).fn z = true ∨ (BX X scope s H C cl fp).env.scope.names.lookup z = some .local := by first | exact fun _ _ _ _ _ => .inr rfl | exact fun _ _ _ _ _ => .inl rfl)
    (hs1 : ∀ s H C cl fp, (assignEach [.Name x tp, .Name y tp2, .Name z tp3] (BX X scope s H C cl fp).env).map (·.2) = assign (.Name x tp) (BX X scope s H C cl fp).env :: (assignEach [.Name y tp2, .Name z tp3] (BX X scope s H C cl fp).env).map (·.2) := by exact fun _ _ _ _ _ => rfl) (hs2 : ∀ s H C cl fp, (assignEach [.Name y tp2, .Name z tp3] (BX X scope s H C cl fp).env).map (·.2) = assign (.Name y tp2) (BX X scope s H C cl fp).env :: (assignEach [.Name z tp3] (BX X scope s H C cl fp).env).map (·.2) := by exact fun _ _ _ _ _ => rfl) (hs3 : ∀ s H C cl fp, (assignEach [.Name z tp3] (BX X scope s H C cl fp).env).map (·.2) = assign (.Name z tp3) (BX X scope s H C cl fp).env :: (assignEach [] (BX X scope s H C cl fp).env).map (·.2) := by exact fun _ _ _ _ _ => rfl)
    (hn : ∀ s H C cl fp, (assignEach [.Name x tp, .Name y tp2, .Name z tp3] (BX X scope s H C cl fp).env).length = 3 := by exact fun _ _ _ _ _ => rfl) (hst : ∀ s H C cl fp, (assignEach [.Name x tp, .Name y tp2, .Name z tp3] (BX X scope s H C cl fp).env).findIdx? (·.1) = none := by exact fun _ _ _ _ _ => rfl)
    (hs : ∀ x, foldedSetIterable it X.env x = pure x := by intro _; rfl) : dE X G0 (.ListComp elt [⟨.Tuple [.Name x tp, .Name y tp2, .Name z tp3] kk tq, it, [], 0⟩] scope cp) δ μ Φ := fun σ H B Q k => by
  refine wE_of (pe_lc (g := gTup X.K 3 (gCons (gName j) (gCons (gName j2) (gCons (gName j3) gNil)))) hc hN (pi_list pe_w) (blkOk_by hb) (fun s H C cl fp => pg_tup (X := BX X scope s H C cl fp) (n := 3) hc (pgs_cons (pg_name (i := j) hN hi (hx s H C cl fp) (hf s H C cl fp)) (pgs_cons (pg_name (i := j2) hN hi2 (hx2 s H C cl fp) (hf2 s H C cl fp)) (pgs_cons (pg_name (i := j3) hN hi3 (hx3 s H C cl fp) (hf3 s H C cl fp)) pgs_nil (hs3 s H C cl fp)) (hs2 s H C cl fp)) (hs1 s H C cl fp)) (hn s H C cl fp) (hst s H C cl fp)) (fun _ _ _ _ _ => pts_nil) (fun s H C cl fp => (⟨fun pins s' σ' H' Q' I q => q s H C cl fp pins s' I⟩ : PE _ _ (wEs X scope elt))) hs) ?_
  rw [hv]
  refine h σ H B _ fun v H1 d μ1 q m1 e1 r1 => ?_
  obtain ⟨ds, rfl, Pv, p0, turn, fin⟩ := q
  obtain ⟨a, ws, rfl, hG, ra⟩ : ∃ a ws, v = .ref a ∧ Im μ1 H1 a = some (.lst ws) ∧ RpAll X.K (Im μ1 H1) ws ds := by
    cases r1 with
    | lst h r => exact ⟨_, _, rfl, h, r⟩
  have B1 := (B.step m1 e1).wipe vs
  refine ⟨a, rfl, ⟨ws, SqL.of (im_all _ _ hG)⟩, fun p hp => ?_⟩
  have hi0 : Im (updM μ1 p (.lst [])) (upd H1 p (.lst [])) = Im μ1 H1 := im_new hp
  have B2 : Bd X.K (Im μ1 H1) (wipeD δ vs) (updM μ1 p (.lst [])) (L2.wipe σ vs) (upd H1 p (.lst [])) := B1.rebase.step (m1.upd hi0 .nil) (by rw [hi0]; exact Sub.refl _)
  refine lc_list (xs := ws) (fun i H' => ∃ acc μ2, Pv i acc μ2 ∧ μ2 p = none ∧ Bd X.K (Im μ1 H1) (wipeD δ vs) (updM μ2 p (.lst acc)) (L2.wipe σ vs) H') ⟨[], μ1, p0, mu_free m1 hp, B2⟩ (fun i H' _ ⟨acc, μ2, _, _, B'⟩ => SqL.of (im_all _ _ (B'.base _ _ hG))) (fun i y H' hy ⟨acc, μ2, hP, hp2, B'⟩ => ?_) (fun H' ⟨acc, μ2, hP, hp2, B'⟩ => ?_)
  · have hl : i < ds.length := by rw [← ra.length]; exact (List.getElem?_eq_some_iff.mp hy).1
    obtain ⟨w', hw, rw'⟩ := ra.get (List.getElem?_eq_getElem hl)
    rw [hw] at hy
    cases hy
    obtain ⟨d1, d2, d3, ed, tn⟩ := turn i _ acc μ2 p (List.getElem?_eq_getElem hl) hP hp2
    rw [ed] at rw'
    obtain ⟨b, us, rfl, hb2, rb⟩ := rp_tup_at (rw'.mono B'.base)
    obtain ⟨v1, v2, v3, rfl, r1, r2, r3⟩ := rp3 rb
    refine ⟨b, [v1, v2, v3], rfl, SqT.of hb2, rfl, v1, [v2, v3], rfl, v2, [v3], rfl, v3, [], rfl, rfl, ?_, ?_⟩
    · rw [wipe_set hj3, wipe_set hj2, wipe_set hj, wipe_wipe]
    · exact lc_turn (((B'.set r1).set r2).set r3) B' tn
  · rw [ra.length] at hP
    exact lc_end (k.after e1) hp2 (fin acc μ2 p hP hp2) B'
/-- g < h, tuples of ints -/
theorem o_ltT {g h : List Int} (hu : X.A.units < cLine) (q : Φ (.bl (HT.lexLt g h)) μ) : dOp X (compareOp .Lt) (tupI g) (tupI h) μ Φ := fun v u H r1 r2 m Q kk => by
  obtain ⟨a, vs, rfl, ha, ra⟩ := rp_tup_at r1
  obtain ⟨b, us, rfl, hb, rb⟩ := rp_tup_at r2
  rw [ra.ints] at ha
  rw [rb.ints] at hb
  exact wOp_of (op_ltT hu) ⟨a, b, g, h, rfl, rfl, SqT.of ha, SqT.of hb, kk.val m q (.bl _)⟩
end
end DL

namespace DL
open PySem PySem.Spec PyProof.Rows L2
section
variable {X : Cx} {G0 : Hp} {e a b c it elt : Expr} {es rest : List Expr} {sts : List Stmt} {δ : List (Option D)} {μ : Mu} {Φ : DK} {pos : Pos} {K : PySem.W.Frag} {H : Hp} {Q : VK} {E : DEnds}
theorem s_setTI {x y : Str} {scope : Scope} {tp cp py spos : Pos} {own : List (Str × Nat)} {vs : List Nat} (i0 j : Nat)
    (h : dE X G0 it δ μ fun d μ1 => ∃ ds, d = .tup ds ∧ ∃ Pv : Nat → List D → Mu → Prop, Pv 0 [] μ1 ∧ (∀ (i : Nat) d acc μ2 p, ds[i]? = some d → Pv i acc μ2 → μ2 p = none → LcTurnIf X scope elt c p acc ((wipeD δ vs).set j (some d)) μ2 (Pv (i + 1))) ∧ ∀ acc μ2 p, Pv ds.length acc μ2 → μ2 p = none → Fz (fun d μ' => E.nx (δ.set i0 (some d)) μ') (.ref p) (updM μ2 p (.lst acc)))
    (hy : X.N[i0]? = some y := by rfl) (hyl : X.env.scope.names.lookup y = some .local := by rfl) (hsw : swapsWith (.ListComp elt [⟨.Name x tp, it, [c], 0⟩] scope cp) (some (.Name y py)) spos.line X.env = pure true := by exact sw_true rfl rfl rfl (by decide +kernel))
    (hb : blkC X.N X.env.scope scope own = true := by kernel_rfl) (hj : j ∈ vs := by decide) (hv : own.map (·.2) = vs := by rfl) (hN : X.N.Nodup := by assumption) (hc : X.calm = true := by rfl)
    (hi : X.N[j]? = some x := by rfl) (hx : ∀ s H C cl fp, Loc (BX X scope s H C cl fp).env.scope x := by first | exact fun _ _ _ _ _ => Or.inl rfl | exact fun _ _ _ _ _ => Or.inr rfl) (hf : ∀ s H C cl fp, (BX X scope s H C cl fp).fn x = true ∨ (BX X scope s H C cl fp).env.scope.names.lookup x = some .local := by first | exact fun _ _ _ _ _ => .inr rfl | exact fun _ _ _ _ _ => .inl rfl)
    (hs : ∀ x, foldedSetIterable it X.env x = pure x := by intro _; rfl) : dS X G0 (.Assign [.Name y py] (.ListComp elt [⟨.Name x tp, it, [c], 0⟩] scope cp) spos) δ μ E := fun σ H B => by
  refine wS_of (ps_setLc (i := i0) hc hN hy hyl hsw (pi_tup pe_w) (blkOk_by hb) (fun s H C cl fp => pg_name (i := j) hN hi (hx s H C cl fp) (hf s H C cl fp)) (fun s H C cl fp => pts_one (⟨fun pins s' σ' H' Q' I q => q s H C cl fp pins s' I⟩ : PT _ _ (wTs X scope c))) (fun s H C cl fp => (⟨fun pins s' σ' H' Q' I q => q s H C cl fp pins s' I⟩ : PE _ _ (wEs X scope elt))) hs) ?_
  have k : KP X.K μ H (fun d μ' => E.nx (δ.set i0 (some d)) μ') (fun v H1 => gName i0 v σ H1 (dEn X.K G0 E).nx) := fun v H1 d μ1 q m1 e1 r1 => ⟨_, μ1, q, (B.step m1 e1).set r1⟩
  rw [hv]
  refine h σ H B _ fun v H1 d μ1 q m1 e1 r1 => ?_
  obtain ⟨ds, rfl, Pv, p0, turn, fin⟩ := q
  obtain ⟨a, ws, rfl, hG, ra⟩ : ∃ a ws, v = .ref a ∧ Im μ1 H1 a = some (.tup ws) ∧ RpAll X.K (Im μ1 H1) ws ds := by
    cases r1 with
    | tup h r => exact ⟨_, _, rfl, h, r⟩
  have B1 := (B.step m1 e1).wipe vs
  refine ⟨a, rfl, ⟨ws, SqT.of (im_all _ _ hG)⟩, fun p hp => ?_⟩
  have hi0 : Im (updM μ1 p (.lst [])) (upd H1 p (.lst [])) = Im μ1 H1 := im_new hp
  have B2 : Bd X.K (Im μ1 H1) (wipeD δ vs) (updM μ1 p (.lst [])) (L2.wipe σ vs) (upd H1 p (.lst [])) := B1.rebase.step (m1.upd hi0 .nil) (by rw [hi0]; exact Sub.refl _)
  refine lc_tup (xs := ws) (fun i H' => ∃ acc μ2, Pv i acc μ2 ∧ μ2 p = none ∧ Bd X.K (Im μ1 H1) (wipeD δ vs) (updM μ2 p (.lst acc)) (L2.wipe σ vs) H') ⟨[], μ1, p0, mu_free m1 hp, B2⟩ (fun i H' _ ⟨acc, μ2, _, _, B'⟩ => SqT.of (im_all _ _ (B'.base _ _ hG))) (fun i y H' hy ⟨acc, μ2, hP, hp2, B'⟩ => ?_) (fun H' ⟨acc, μ2, hP, hp2, B'⟩ => ?_)
  · have hl : i < ds.length := by rw [← ra.length]; exact (List.getElem?_eq_some_iff.mp hy).1
    obtain ⟨w', hw, rw'⟩ := ra.get (List.getElem?_eq_getElem hl)
    rw [hw] at hy
    cases hy
    refine ⟨by rw [wipe_set hj, wipe_wipe], ?_⟩
    exact lc_turnIf (B'.set (rw'.mono B'.base)) B' (turn i _ acc μ2 p (List.getElem?_eq_getElem hl) hP hp2)
  · rw [ra.length] at hP
    exact lc_end (k.fz.after e1) hp2 (fin acc μ2 p hP hp2) B'
theorem s_setTf {x y : Str} {scope : Scope} {tp cp py spos : Pos} {own : List (Str × Nat)} {vs : List Nat} (i0 j : Nat) (t : Int → Bool)
    (h : dE X G0 it δ μ fun d μ1 => ∃ g : List Int, d = .tup (g.map .int) ∧ g.length ≤ sizeLine ∧ (∀ k ∈ g, ∀ p acc, μ1 p = none → Tells X scope c ((wipeD δ vs).set j (some (.int k))) (updM μ1 p acc) (t k) ∧ Gives X scope elt ((wipeD δ vs).set j (some (.int k))) (updM μ1 p acc) (.int k)) ∧ ∀ p, μ1 p = none → Fz (fun d μ' => E.nx (δ.set i0 (some d)) μ') (.ref p) (updM μ1 p (.lst ((g.filter t).map .int))))
    (hy : X.N[i0]? = some y := by rfl) (hyl : X.env.scope.names.lookup y = some .local := by rfl) (hsw : swapsWith (.ListComp elt [⟨.Name x tp, it, [c], 0⟩] scope cp) (some (.Name y py)) spos.line X.env = pure true := by exact sw_true rfl rfl rfl (by decide +kernel))
    (hb : blkC X.N X.env.scope scope own = true := by kernel_rfl) (hj : j ∈ vs := by decide) (hv : own.map (·.2) = vs := by rfl) (hN : X.N.Nodup := by assumption) (hc : X.calm = true := by rfl)
    (hi : X.N[j]? = some x := by rfl) (hx : ∀ s H C cl fp, Loc (BX X scope s H C cl fp).env.scope x := by first | exact fun _ _ _ _ _ => Or.inl rfl | exact fun _ _ _ _ _ => Or.inr rfl) (hf : ∀ s H C cl fp, (BX X scope s H C cl fp).fn x = true ∨ (BX X scope s H C cl fp).env.scope.names.lookup x = some .local := by first | exact fun _ _ _ _ _ => .inr rfl | exact fun _ _ _ _ _ => .inl rfl)
    (hs : ∀ x, foldedSetIterable it X.env x = pure x := by intro _; rfl) : dS X G0 (.Assign [.Name y py] (.ListComp elt [⟨.Name x tp, it, [c], 0⟩] scope cp) spos) δ μ E := by
  refine s_setTI i0 j (h.imp fun d μ1 ⟨g, ed, hl, hg, q⟩ => ⟨g.map .int, ed, fun i acc μ2 => acc = ((g.take i).filter t).map .int ∧ μ2 = μ1, ⟨by rw [List.take_zero]; rfl, rfl⟩, ?_, ?_⟩) hy hyl hsw hb hj hv hN hc hi hx hf hs
  · rintro i d acc μ2 p hd ⟨rfl, rfl⟩ hp
    rw [List.getElem?_map] at hd
    cases hk : g[i]? with
    | none => rw [hk] at hd; cases hd
    | some k =>
      rw [hk] at hd
      cases hd
      have hm := List.mem_of_getElem? hk
      exact turn_filt hk hl hp (fun acc => (hg k hm p acc hp).1) (fun acc => (hg k hm p acc hp).2)
  · rintro acc μ2 p ⟨rfl, rfl⟩ hp
    rw [List.length_map, List.take_length]
    exact q p hp
theorem s_setKI {x y : Str} {scope : Scope} {tp cp py spos : Pos} {own : List (Str × Nat)} {vs : List Nat} (i0 j : Nat)
    (h : dE X G0 it δ μ fun d μ1 => ∃ (kvs : List (List Key × D)) (Pv : Nat → List D → Mu → Prop), DWalk μ1 d kvs (fun μ2 => ∃ i acc, Pv i acc μ2) ∧ Pv 0 [] μ1 ∧ (∀ (i : Nat) k r acc μ2 p, kvs[i]? = some (k, r) → Pv i acc μ2 → μ2 p = none → LcTurnIf X scope elt c p acc ((wipeD δ vs).set j (some (keyT k))) μ2 (Pv (i + 1))) ∧ ∀ acc μ2 p, Pv kvs.length acc μ2 → μ2 p = none → Fz (fun d μ' => E.nx (δ.set i0 (some d)) μ') (.ref p) (updM μ2 p (.lst acc)))
    (hy : X.N[i0]? = some y := by rfl) (hyl : X.env.scope.names.lookup y = some .local := by rfl) (hsw : swapsWith (.ListComp elt [⟨.Name x tp, it, [c], 0⟩] scope cp) (some (.Name y py)) spos.line X.env = pure true := by exact sw_true rfl rfl rfl (by decide +kernel))
    (hb : blkC X.N X.env.scope scope own = true := by kernel_rfl) (hj : j ∈ vs := by decide) (hv : own.map (·.2) = vs := by rfl) (hN : X.N.Nodup := by assumption) (hc : X.calm = true := by rfl)
    (hi : X.N[j]? = some x := by rfl) (hx : ∀ s H C cl fp, Loc (BX X scope s H C cl fp).env.scope x := by first | exact fun _ _ _ _ _ => Or.inl rfl | exact fun _ _ _ _ _ => Or.inr rfl) (hf : ∀ s H C cl fp, (BX X scope s H C cl fp).fn x = true ∨ (BX X scope s H C cl fp).env.scope.names.lookup x = some .local := by first | exact fun _ _ _ _ _ => .inr rfl | exact fun _ _ _ _ _ => .inl rfl)
    (hs : ∀ x, foldedSetIterable it X.env x = pure x := by intro _; rfl) : dS X G0 (.Assign [.Name y py] (.ListComp elt [⟨.Name x tp, it, [c], 0⟩] scope cp) spos) δ μ E := fun σ H B => by
  refine wS_of (ps_setLc (i := i0) hc hN hy hyl hsw (pi_keys pe_w) (blkOk_by hb) (fun s H C cl fp => pg_name (i := j) hN hi (hx s H C cl fp) (hf s H C cl fp)) (fun s H C cl fp => pts_one (⟨fun pins s' σ' H' Q' I q => q s H C cl fp pins s' I⟩ : PT _ _ (wTs X scope c))) (fun s H C cl fp => (⟨fun pins s' σ' H' Q' I q => q s H C cl fp pins s' I⟩ : PE _ _ (wEs X scope elt))) hs) ?_
  have k : KP X.K μ H (fun d μ' => E.nx (δ.set i0 (some d)) μ') (fun v H1 => gName i0 v σ H1 (dEn X.K G0 E).nx) := fun v H1 d μ1 q m1 e1 r1 => ⟨_, μ1, q, (B.step m1 e1).set r1⟩
  rw [hv]
  refine h σ H B _ fun v H1 d μ1 q m1 e1 r1 => ?_
  obtain ⟨kvs, Pv, hd, p0, turn, fin⟩ := q
  have B1 := (B.step m1 e1).wipe vs
  obtain ⟨a, o, ws, rfl, ha, ra, stay⟩ := dwalk_at r1 m1 hd
  refine ⟨a, o, rfl, .inr ⟨ws, ha, fun D hD => ?_⟩⟩
  have hi0 : Im (updM μ1 D (.lst [])) (upd H1 D (.lst [])) = Im μ1 H1 := im_new hD
  have B2 : Bd X.K (Im μ1 H1) (wipeD δ vs) (updM μ1 D (.lst [])) (L2.wipe σ vs) (upd H1 D (.lst [])) := B1.rebase.step (m1.upd hi0 .nil) (by rw [hi0]; exact Sub.refl _)
  refine lc_it walk_keysT (fun i H' => ∃ acc μ2, Pv i acc μ2 ∧ μ2 D = none ∧ Bd X.K (Im μ1 H1) (wipeD δ vs) (updM μ2 D (.lst acc)) (L2.wipe σ vs) H') ⟨[], μ1, p0, mu_free m1 hD, B2⟩ (fun i H' _ ⟨acc, μ2, hP, _, B'⟩ => stay μ2 D _ H' ⟨i, acc, hP⟩ hD B'.mu B'.base) (fun i y H' H'' hlt ⟨acc, μ2, hP, hp2, B'⟩ hy => ?_) (fun H' ⟨acc, μ2, hP, hp2, B'⟩ => ?_)
  · obtain ⟨rfl, k', v', q', hw, rfl, hq⟩ := hy
    obtain ⟨r, hkr⟩ := key_at ra.keys hw
    refine ⟨by rw [wipe_set hj, wipe_wipe], ?_⟩
    exact lc_turnIf (B'.set (rp_key B'.mu hq)) B' (turn i k' r acc μ2 D hkr hP hp2)
  · rw [ra.length] at hP
    exact lc_end (k.fz.after e1) hp2 (fin acc μ2 D hP hp2) B'
theorem d_lcKI {x : Str} {scope : Scope} {tp cp : Pos} {own : List (Str × Nat)} {vs : List Nat} (j : Nat)
    (h : dE X G0 it δ μ fun d μ1 => ∃ (kvs : List (List Key × D)) (Pv : Nat → List D → Mu → Prop), DWalk μ1 d kvs (fun μ2 => ∃ i acc, Pv i acc μ2) ∧ Pv 0 [] μ1 ∧ (∀ (i : Nat) k r acc μ2 p, kvs[i]? = some (k, r) → Pv i acc μ2 → μ2 p = none → LcTurnIf X scope elt c p acc ((wipeD δ vs).set j (some (keyT k))) μ2 (Pv (i + 1))) ∧ ∀ acc μ2 p, Pv kvs.length acc μ2 → μ2 p = none → Φ (.ref p) (updM μ2 p (.lst acc)))
    (hb : blkC X.N X.env.scope scope own = true := by kernel_rfl) (hj : j ∈ vs := by decide) (hv : own.map (·.2) = vs := by rfl) (hN : X.N.Nodup := by assumption) (hc : X.calm = true := by rfl)
    (hi : X.N[j]? = some x := by rfl) (hx : ∀ s H C cl fp, Loc (BX X scope s H C cl fp).env.scope x := by first | exact fun _ _ _ _ _ => Or.inl rfl | exact fun _ _ _ _ _ => Or.inr rfl) (hf : ∀ s H C cl fp, (BX X scope s H C cl fp).fn x = true ∨ (BX X scope s H C cl fp).env.scope.names.lookup x = some .local := by first | exact fun _ _ _ _ _ => .inr rfl | exact fun _ _ _ _ _ => .inl rfl)
    (hs : ∀ x, foldedSetIterable it X.env x = pure x := by intro _; rfl) : dE X G0 (.ListComp elt [⟨.Name x tp, it, [c], 0⟩] scope cp) δ μ Φ := fun σ H B Q k => by
  refine wE_of (pe_lc hc hN (pi_keys pe_w) (blkOk_by hb) (fun s H C cl fp => pg_name (i := j) hN hi (hx s H C cl fp) (hf s H C cl fp)) (fun s H C cl fp => pts_one (⟨fun pins s' σ' H' Q' I q => q s H C cl fp pins s' I⟩ : PT _ _ (wTs X scope c))) (fun s H C cl fp => (⟨fun pins s' σ' H' Q' I q => q s H C cl fp pins s' I⟩ : PE _ _ (wEs X scope elt))) hs) ?_
  rw [hv]
  refine h σ H B _ fun v H1 d μ1 q m1 e1 r1 => ?_
  obtain ⟨kvs, Pv, hd, p0, turn, fin⟩ := q
  have B1 := (B.step m1 e1).wipe vs
  obtain ⟨a, o, ws, rfl, ha, ra, stay⟩ := dwalk_at r1 m1 hd
  refine ⟨a, o, rfl, .inr ⟨ws, ha, fun D hD => ?_⟩⟩
  have hi0 : Im (updM μ1 D (.lst [])) (upd H1 D (.lst [])) = Im μ1 H1 := im_new hD
  have B2 : Bd X.K (Im μ1 H1) (wipeD δ vs) (updM μ1 D (.lst [])) (L2.wipe σ vs) (upd H1 D (.lst [])) := B1.rebase.step (m1.upd hi0 .nil) (by rw [hi0]; exact Sub.refl _)
  refine lc_it walk_keysT (fun i H' => ∃ acc μ2, Pv i acc μ2 ∧ μ2 D = none ∧ Bd X.K (Im μ1 H1) (wipeD δ vs) (updM μ2 D (.lst acc)) (L2.wipe σ vs) H') ⟨[], μ1, p0, mu_free m1 hD, B2⟩ (fun i H' _ ⟨acc, μ2, hP, _, B'⟩ => stay μ2 D _ H' ⟨i, acc, hP⟩ hD B'.mu B'.base) (fun i y H' H'' hlt ⟨acc, μ2, hP, hp2, B'⟩ hy => ?_) (fun H' ⟨acc, μ2, hP, hp2, B'⟩ => ?_)
  · obtain ⟨rfl, k', v', q', hw, rfl, hq⟩ := hy
    obtain ⟨r, hkr⟩ := key_at ra.keys hw
    refine ⟨by rw [wipe_set hj, wipe_wipe], ?_⟩
    exact lc_turnIf (B'.set (rp_key B'.mu hq)) B' (turn i k' r acc μ2 D hkr hP hp2)
  · rw [ra.length] at hP
    exact lc_end (k.after e1) hp2 (fin acc μ2 D hP hp2) B'
end
end DL

/-! lists within a list that changes: from now on they stay -/
namespace DL
open PySem PySem.Spec PyProof.Rows L2
def gone (μ : Mu) (L : List Addr) : Mu := fun a => if a ∈ L then none else μ a
section
variable {X : Cx} {G0 : Hp} {sts : List Stmt} {δ : List (Option D)} {μ : Mu} {Φ : DK} {K : PySem.W.Frag} {H : Hp} {E : DEnds}
theorem gone_in {L : List Addr} {a : Addr} (h : a ∈ L) : gone μ L a = none := if_pos h
theorem gone_out {L : List Addr} {a : Addr} (h : a ∉ L) : gone μ L a = μ a := if_neg h
theorem im_gone {L : List Addr} : Sub (Im μ H) (Im (gone μ L) H) := fun a o h => by
  unfold Im at h ⊢
  by_cases q : (μ a).isSome = true
  · rw [if_pos q] at h
    cases h
  · rw [if_neg q] at h
    have : ¬ (gone μ L a).isSome = true := by
      unfold gone
      split
      · simp
      · exact q
    rw [if_neg this]
    exact h
theorem MuOk.gone {L : List Addr} (m : MuOk K μ H) : MuOk K (gone μ L) H := fun q c' hq => by
  have e : μ q = some c' := by
    unfold DL.gone at hq
    split at hq
    · cases hq
    · exact hq
  exact (m q c' e).mono im_gone
theorem imgone_at {L : List Addr} {a : Addr} {o : HO} (h : a ∈ L) (ha : H a = some o) : Im (gone μ L) H a = some o := by
  unfold Im
  rw [gone_in h]
  exact ha
theorem rp_rows1 (m : MuOk K μ H) {A : List Addr} : ∀ {L : List (Addr × List D)} {vs : List V}, RpAll K (Im μ H) vs (L.map fun x => D.ref x.1) → (∀ x ∈ L, μ x.1 = some (.lst x.2) ∧ x.1 ∈ A) → RpAll K (Im (gone μ A) H) vs (L.map fun x => D.lst x.2)
  | [], _, r, _ => by
    have r' : RpAll K (Im μ H) _ [] := r
    cases r'
    exact .nil
  | x :: L, _, r, h => by
    have r' : RpAll K (Im μ H) _ (D.ref x.1 :: L.map fun x => D.ref x.1) := r
    cases r' with
    | cons r1 r2 =>
      cases rp_ref r1
      obtain ⟨h1, h2⟩ := h x List.mem_cons_self
      obtain ⟨ws, hb, rb⟩ := m.lst h1
      exact .cons (.lst (imgone_at h2 hb) (rb.mono im_gone)) (rp_rows1 m r2 fun y hy => h y (List.mem_cons_of_mem _ hy))
theorem rp_rows (m : MuOk K μ H) {P : Addr} {L : List (Addr × List D)} (hP : μ P = some (.lst (L.map fun x => D.ref x.1))) (hr : ∀ x ∈ L, μ x.1 = some (.lst x.2)) : Rp K (Im (gone μ (P :: L.map (·.1))) H) (.ref P) (.lst (L.map fun x => D.lst x.2)) := by
  obtain ⟨vs, ha, ra⟩ := m.lst hP
  exact .lst (imgone_at List.mem_cons_self ha) (rp_rows1 m ra fun x hx => ⟨hr x hx, List.mem_cons_of_mem _ (List.mem_map.mpr ⟨x, hx, rfl⟩)⟩)
/-- a list of lists that may change: both stay from now on -/
theorem s_frzRows {i : Nat} {P : Addr} {L : List (Addr × List D)} (hi : δ[i]? = some (some (.ref P))) (hP : μ P = some (.lst (L.map fun x => D.ref x.1))) (hr : ∀ x ∈ L, μ x.1 = some (.lst x.2)) (h : dSs X G0 sts (δ.set i (some (.lst (L.map fun x => D.lst x.2)))) (gone μ (P :: L.map (·.1))) E) : dSs X G0 sts δ μ E := fun σ H B => by
  obtain ⟨v, h1, r⟩ := B.sl i _ hi
  cases rp_ref r
  have B' : Bd X.K G0 δ (gone μ (P :: L.map (·.1))) σ H := B.step B.mu.gone im_gone
  have z := B'.set (i := i) (rp_rows B.mu hP hr)
  have e : σ.set i (some (.ref P)) = σ := by
    refine List.ext_getElem? fun j => ?_
    by_cases q : i = j
    · subst q
      rw [List.getElem?_set, if_pos rfl, h1, if_pos (List.getElem?_eq_some_iff.mp h1).1]
    · rw [List.getElem?_set_ne q]
  rw [e] at z
  exact h σ H z
/-- the same behind a value -/
def FzR (Φ : DK) : DK := fun d μ => Φ d μ ∨ ∃ (P : Addr) (L : List (Addr × List D)), d = .ref P ∧ μ P = some (.lst (L.map fun x => D.ref x.1)) ∧ (∀ x ∈ L, μ x.1 = some (.lst x.2)) ∧ Φ (.lst (L.map fun x => D.lst x.2)) (gone μ (P :: L.map (·.1)))
theorem KP.fzR {Q : VK} (k : KP K μ H Φ Q) : KP K μ H (FzR Φ) Q := fun v H2 d μ2 q m e r => by
  rcases q with q | ⟨P, L, rfl, hP, hr, q⟩
  · exact k v H2 d μ2 q m e r
  · cases rp_ref r
    exact k _ H2 _ _ q m.gone (e.trans im_gone) (rp_rows m hP hr)
theorem d_fzR {e : Expr} (h : dE X G0 e δ μ (FzR Φ)) : dE X G0 e δ μ Φ := fun σ H B Q k => h σ H B Q k.fzR
end
end DL

/-! dict(zip(keys, values)), two lists -/
namespace HC
open PySem PySem.Spec PyProof.Rows L2 GT
section
variable {X : Cx}
def KeyAll (H : Hp) : List Addr → List (List Key × V) → Prop := Paired fun b kv => H b = some (.tup (kv.1.map kV))
theorem prs_zip {H : Hp} : ∀ {bs : List Addr} {kvs : List (List Key × V)} {us : List Value}, KeyAll H bs kvs → Vals (kvs.map (·.2)) us →
    ∃ prs : List (List Key × Addr × Value), prs.length = bs.length ∧ us.length = bs.length ∧ prs.map (·.1) = kvs.map (·.1) ∧ KT H kvs prs ∧ ∀ (j : Nat) (k v : Value), (bs.map Value.ref)[j]? = some k → us[j]? = some v → ∃ q b, prs[j]? = some (q, b, v) ∧ k = .ref b
  | _, _, us, .nil, r => by
    have r' : Vals [] us := r
    cases r'
    exact ⟨[], rfl, rfl, rfl, .nil, fun j k v e => by simp at e⟩
  | _, _, us, .cons (a := b) (b := kv) h t, r => by
    rename_i bs kvs
    have r' : Vals (kv.2 :: kvs.map (·.2)) us := r
    cases r' with
    | cons r1 r2 =>
      rename_i u us'
      obtain ⟨prs, e1, e2, e3, e4, e5⟩ := prs_zip t r2
      refine ⟨(kv.1, b, u) :: prs, by rw [List.length_cons, List.length_cons, e1], by rw [List.length_cons, List.length_cons, e2], by rw [List.map_cons, List.map_cons, e3], .cons ⟨rfl, h, r1⟩ e4, fun j k v ek ev => ?_⟩
      cases j with
      | zero =>
        have ek' : Value.ref b = k := by simpa using ek
        have ev' : u = v := by simpa using ev
        exact ⟨kv.1, b, by rw [← ev']; rfl, ek'.symm⟩
      | succ j => exact e5 j k v (by simpa using ek) (by simpa using ev)
theorem boot_dict : bootBuiltins "dict" = some (.type "dict") := by decide +kernel
theorem boot_zip : bootBuiltins "zip" = some (.type "zip") := by decide +kernel
def tDictZip (X : Cx) (ta : TA) : TE := fun σ H Q => ta σ H fun vs H1 => ∃ (a b : Addr) (bs : List Addr) (kvs : List (List Key × V)), vs = [.ref a, .ref b] ∧ SqL X.K H1 a (bs.map V.ref) ∧ SqL X.K H1 b (kvs.map (·.2)) ∧ KeyAll H1 bs kvs ∧ (kvs.map (·.1)).Nodup ∧ ∀ p, H1 p = none → Q (.ref p) (upd H1 p (.dT kvs))
theorem pe_dictZip {e1 e2 : Expr} {ta : TA} {p p2 pos pos2 : Pos} (hc : X.calm = true) (hu : X.A.units + 2 < cLine) (hg1 : Gl X "dict") (hm1 : X.mg "dict" = none) (hg2 : Gl X "zip") (hm2 : X.mg "zip" = none) (ha : PA X [e1, e2] ta)
    (hs2 : starEach [e1, e2] X.env = (false, eval e1 X.env) :: starEach [e2] X.env) (hp2 : (backTo pos2 (starEach [e2] X.env)).any (·.1) = false) : PE X (.Call (.Name "dict" p) [.Call (.Name "zip" p2) [e1, e2] [] pos2] [] pos) (tDictZip X ta) := by
  refine ⟨fun pins s σ H Q I h => ?_⟩
  refine Call_ (ld_blt I hg1 hm1 boot_dict (PyProof.Rows.callWith_type1 (args_cons (Call_ (ld_blt I hg2 hm2 boot_zip (PyProof.Rows.callWith_type1 (thn (ha.run pos2 pins s σ H _ I h) fun us s1 ⟨vs, H1, I1, r1, q1⟩ => ?_) hs2 hp2))) rfl) rfl rfl))
  obtain ⟨a, b, bs, kvs, rfl, hqa, hqb, hk, nd, q⟩ := q1
  obtain ⟨u1, u2, rfl, ra, rb⟩ := vals2 r1
  cases ra
  cases rb
  obtain ⟨its1, rv1, pl1, hz1⟩ := I1.list hqa
  obtain ⟨its2, rv2, pl2, hz2⟩ := I1.list hqb
  have ei := refs_at rv1
  subst ei
  rw [List.length_map] at hz1
  obtain ⟨prs, e1, e2, e3, e4, e5⟩ := prs_zip hk rv2
  refine call_zip_2 pl1.isList pl2.isList fun h' hzip hTI hTO hi1 hi2 hsz hkeep => args_nil ?_
  have I2 : Inv X pins σ H1 { s1 with heap := h' } := I1.kept (t' := s1.toks) hkeep
  have la : a < s1.heap.objs.size := by obtain ⟨_, e, _⟩ := pl1.isList; exact Heap.lt_size e
  have lb : b < s1.heap.objs.size := by obtain ⟨_, e, _⟩ := pl2.isList; exact Heap.lt_size e
  have D : ZipApart (s1.heap.objs.size + 4) (s1.heap.objs.size + 2) (s1.heap.objs.size + 3) s1.heap.objs.size (s1.heap.objs.size + 1) a b := by
    constructor <;> first | exact Nat.ne_of_lt (by omega) | exact Nat.ne_of_gt (by omega) | exact Nat.ne_of_lt (Nat.lt_of_lt_of_le la (by omega)) | exact Nat.ne_of_gt (Nat.lt_of_lt_of_le la (by omega)) | exact Nat.ne_of_lt (Nat.lt_of_lt_of_le lb (by omega)) | exact Nat.ne_of_gt (Nat.lt_of_lt_of_le lb (by omega)) | exact Nat.ne_of_lt la | exact Nat.ne_of_lt lb | exact Nat.ne_of_gt la | exact Nat.ne_of_gt lb
  have P := PairArg.zip (prog := X.prog) (w := X.w) (s1.heap.objs.size + 4) (s1.heap.objs.size + 2) (s1.heap.objs.size + 3) s1.heap.objs.size (s1.heap.objs.size + 1) a b D (bs.map Value.ref).toArray its2.toArray
  have hlen : prs.length ≤ sizeLine := by rw [e1]; exact hz1
  have hmin : min (bs.map Value.ref).toArray.size its2.toArray.size = prs.length := by
    simp [e1, e2]
  rw [hmin] at P
  refine call_dict_pairsH (s := { s1 with heap := h' }) (knd := tupleKind (mixKind X.prog X.w)) (ps := prs) P (I2.ok.hd hc) ?_ ?_ ?_ ?_ hlen fun h1 tk dd keep => ?_
  · show X.A.in1.in1.units < cLine
    exact hu
  · exact ⟨hzip, hTI, ⟨_, _, hTO⟩, hi1, hi2, pl1.isList.at fun o e => hkeep _ o e, pl2.isList.at fun o e => hkeep _ o e⟩
  · refine ⟨rfl, fun i key v e => ?_⟩
    obtain ⟨e6, e7⟩ := e
    exact e5 i key v (by simpa using e6) (by simpa using e7)
  · intro h2 kp x hx
    have kept : ∀ b o, s1.heap.get? b = some o → h2.get? b = some o := fun c o z => by
      have lc : Nat.succ c ≤ s1.heap.objs.size := Heap.lt_size z
      refine kp c o ?_ ?_ (hkeep c o z)
      · exact Nat.ne_of_lt (show Nat.lt c h'.objs.size from Nat.lt_of_lt_of_le lc (by omega))
      · intro hm
        have lc2 : Nat.succ c ≤ s1.heap.objs.size := lc
        have hm' : c = s1.heap.objs.size + 4 ∨ c = s1.heap.objs.size + 3 ∨ c = s1.heap.objs.size ∨ c = s1.heap.objs.size + 1 := by simpa using hm
        rcases hm' with e | e | e | e <;> (rw [e] at lc2; omega)
    exact key_of (I1.hok.kept kept) (kt_key e4 hx)
  · have nd2 : ((([] : List (List Key × Addr × Value)) ++ prs).map (·.1)).Nodup := by
      rw [List.nil_append, e3]
      exact nd
    rw [stored_fresh prs [] nd2, List.nil_append] at dd
    have kept : ∀ b o, s1.heap.get? b = some o → h1.get? b = some o := fun c o z => by
      have lc : Nat.succ c ≤ s1.heap.objs.size := Heap.lt_size z
      refine keep c o ?_ (hkeep c o z)
      intro hm
      have hm' : c = s1.heap.objs.size + 4 ∨ c = s1.heap.objs.size + 3 ∨ c = s1.heap.objs.size ∨ c = s1.heap.objs.size + 1 := by simpa using hm
      rcases hm' with e | e | e | e <;> (rw [e] at lc; omega)
    have big := I1.big
    have nosys : (h'.objs.size == sysModules) = false := beq_eq_false_iff_ne.mpr (Nat.ne_of_gt (Nat.lt_of_lt_of_le big (by omega)))
    have hle : s1.heap.objs.size ≤ h'.objs.size := by omega
    have free : H1 h'.objs.size = none := I1.hok.fresh hle
    obtain ⟨o, es, ep, y1, y2, y3, y4, y5, y6⟩ := dd
    have el : kvs.length = prs.length := Paired.length e4
    refine ⟨.ref h'.objs.size, upd H1 h'.objs.size (.dT kvs), I1.laid (t' := tk) kept hle ?_, rfl, q _ free⟩
    exact ⟨by rw [el]; exact hlen, nosys, prs, e4.keeps fun c ys ec => by rw [upd_ne (ne_of_none ec free)]; exact ec, o, es, ep, y1, y2, y3, y4, y6⟩
end
end HC
namespace DL
open PySem PySem.Spec PyProof.Rows L2
section
variable {X : Cx} {G0 : Hp} {e1 e2 : Expr} {δ : List (Option D)} {μ : Mu} {Φ : DK} {K : PySem.W.Frag} {H : Hp} {p p2 pos pos2 : Pos}
theorem rp_zipK : ∀ {us ws : List V} {kvs : List (List Key × D)}, RpAll K (Im μ H) us (kvs.map fun kv => keyT kv.1) → RpAll K (Im μ H) ws (kvs.map (·.2)) → ∃ (bs : List Addr) (kws : List (List Key × V)), us = bs.map V.ref ∧ ws = kws.map (·.2) ∧ HC.KeyAll H bs kws ∧ RpKv K (Im μ H) kws kvs
  | _, _, [], r1, r2 => by
    have r1' : RpAll K (Im μ H) _ [] := r1
    have r2' : RpAll K (Im μ H) _ [] := r2
    cases r1'
    cases r2'
    exact ⟨[], [], rfl, rfl, .nil, .nil⟩
  | _, _, (k, d) :: kvs, r1, r2 => by
    have r1' : RpAll K (Im μ H) _ (keyT k :: kvs.map fun kv => keyT kv.1) := r1
    have r2' : RpAll K (Im μ H) _ (d :: kvs.map (·.2)) := r2
    cases r1' with
    | cons a1 t1 =>
      cases r2' with
      | cons a2 t2 =>
        obtain ⟨bs, kws, rfl, rfl, h1, h2⟩ := rp_zipK t1 t2
        obtain ⟨b, rfl, hb⟩ := rp_keyT a1
        exact ⟨b :: bs, (k, _) :: kws, rfl, rfl, .cons hb h1, .cons a2 h2⟩
/-- dict(zip(keys, values)): two lists -/
theorem d_dictZip (hu : X.A.units + 64 < cLine) (h : dA X G0 [e1, e2] δ μ fun ds μ1 => ∃ kvs : List (List Key × D), ds = [.lst (kvs.map fun kv => keyT kv.1), .lst (kvs.map (·.2))] ∧ (kvs.map (·.1)).Nodup ∧ ∀ p, μ1 p = none → Φ (.ref p) (updM μ1 p (.dct kvs)))
    (hm1 : X.mg "dict" = none := by assumption) (hm2 : X.mg "zip" = none := by assumption) (hg1 : Gl X "dict" := by rfl) (hg2 : Gl X "zip" := by rfl) (hc : X.calm = true := by rfl)
    (hs2 : starEach [e1, e2] X.env = (false, eval e1 X.env) :: starEach [e2] X.env := by rfl) (hp2 : (backTo pos2 (starEach [e2] X.env)).any (·.1) = false := by rfl) : dE X G0 (.Call (.Name "dict" p) [.Call (.Name "zip" p2) [e1, e2] [] pos2] [] pos) δ μ Φ := fun σ H B Q kk => by
  refine wE_of (HC.pe_dictZip hc (by omega) hg1 hm1 hg2 hm2 pa_w hs2 hp2) ?_
  refine h σ H B _ fun vs H1 ds μ1 q m1 ee r0 => ?_
  obtain ⟨kvs, rfl, nd, q⟩ := q
  obtain ⟨v, u, rfl, r1, r2⟩ := rp2 r0
  obtain ⟨a, us, rfl, ha, ra⟩ := rp_lst_at r1
  obtain ⟨b, ws, rfl, hb, rb⟩ := rp_lst_at r2
  obtain ⟨bs, kws, rfl, rfl, hk, h2⟩ := rp_zipK ra rb
  refine ⟨a, b, bs, kws, rfl, SqL.of ha, SqL.of hb, hk, by rw [h2.keys]; exact nd, fun pn hp => ?_⟩
  have e : Im (updM μ1 pn (.dct kvs)) (upd H1 pn (.dT kws)) = Im μ1 H1 := im_new hp
  exact (kk.after ee) _ _ _ _ (q pn (mu_free m1 hp)) (m1.upd e h2) (by rw [e]; exact Sub.refl _) (.ref pn)
end
end DL

/-! zip of a tuple and a list; comprehensions over zip -/
namespace HD
open PySem PySem.Spec PyProof.Rows L2
/-- the tuple at a, the list at b, side by side -/
def ItzM (K : PySem.W.Frag) (a b : Addr) : It :=
  ⟨fun i H => ∃ (xs ys : List V) (x y : V), SqT K H a xs ∧ SqL K H b ys ∧ xs[i]? = some x ∧ ys[i]? = some y,
    fun i H v H' => ∃ T x y, v = .ref T ∧ H T = none ∧ H' = upd H T (.tup [x, y]) ∧ (∀ xs, SqT K H a xs → xs[i]? = some x) ∧ ∀ ys, SqL K H b ys → ys[i]? = some y,
    fun i H => ∃ xs ys : List V, SqT K H a xs ∧ SqL K H b ys ∧ i ≤ xs.length ∧ i ≤ ys.length ∧ (i = xs.length ∨ i = ys.length)⟩
theorem sep_of {z TI TO i1 i2 a b : Addr} (D : ZipApart z TI TO i1 i2 a b) : ZipSep2 z TI TO i1 i2 [i1, a] [i2, b] := by
  refine ⟨D.TIz, D.TOz, D.TITO, D.TIi1, by simp, ?_, ?_, D.TIi2, by simp, ?_, ?_, ?_, ?_⟩
  · simp [Ne.symm D.i1z, Ne.symm D.l1z]
  · simp [D.TOi1, Ne.symm D.l1TO]
  · simp [Ne.symm D.i2z, Ne.symm D.l2z]
  · simp [D.TOi2, Ne.symm D.l2TO]
  · simp [D.i12, Ne.symm D.l2i1]
  · simp [Ne.symm D.i12, Ne.symm D.l1i2]
theorem turn_zipM {P : Program} {w : World} {K : PySem.W.Frag} {elts : List Expr} {kk : Nat} {tpos : Pos} {a b z TI TO i1 i2 : Addr} (D : ZipApart z TI TO i1 i2 a b) :
    Turn P w K (.Tuple elts kk tpos) (ItzM K a b) [z, TI, TO, i1, i2] z (fun i h => IsZip h z TI TO .none ∧ IsTupOf2 h TI (.ref i1) (.ref i2) ∧ (∃ x y, IsTupOf2 h TO x y) ∧ h.IsTupleIter i1 a i ∧ h.IsListIter i2 b i) where
  mem := by simp
  obj := fun i h st c hc => by
    obtain ⟨s1, s2, ⟨x, y, s3⟩, ⟨o1, e1, _, d1⟩, ⟨o2, e2, _, d2⟩⟩ := st
    simp only [List.mem_cons, List.not_mem_nil, or_false] at hc
    rcases hc with q | q | q | q | q
    · rw [q]; exact ⟨_, s1, fun v e => nomatch e⟩
    · rw [q]; exact ⟨_, s2, fun v e => nomatch e⟩
    · rw [q]; exact ⟨_, s3, fun v e => nomatch e⟩
    · rw [q]; exact ⟨o1, e1, fun v e => by rw [d1] at e; cases e⟩
    · rw [q]; exact ⟨o2, e2, fun v e => by rw [d2] at e; cases e⟩
  keep := fun i h h' st k => by
    obtain ⟨s1, s2, ⟨x, y, s3⟩, s4, s5⟩ := st
    have g : ∀ c, c ∈ [z, TI, TO, i1, i2] → ∀ o, h.get? c = some o → h'.get? c = some o := k
    exact ⟨g _ (by simp) _ s1, g _ (by simp) _ s2, ⟨x, y, g _ (by simp) _ s3⟩, s4.at fun o q => g _ (by simp) o q, s5.at fun o q => g _ (by simp) o q⟩
  item := by
    intro X hP hw hK hc i pins s σ H E I hf st hg
    subst hP hw hK
    obtain ⟨s1, s2, ⟨x0, y0, s3⟩, s4, s5⟩ := st
    obtain ⟨xs, ys, x, y, qa, qb, gx, gy⟩ := hg
    obtain ⟨us, ra, pa, _⟩ := I.tuple qa
    obtain ⟨vs, rb, pb, _⟩ := I.list qb
    obtain ⟨u, eu, ru⟩ := ra.get gx
    obtain ⟨v, ev, rv⟩ := rb.get gy
    have lz : z < s.heap.objs.size := Heap.lt_size s1
    have n1 : i < us.toArray.size := by simpa using (List.getElem?_eq_some_iff.mp eu).1
    have n2 : i < vs.toArray.size := by simpa using (List.getElem?_eq_some_iff.mp ev).1
    refine wpAny_pyNext_zipD2_item (sep_of D) (Draws.tuple (prog := X.prog) (w := X.w) (A := X.A.in1) (I.ok.hd hc) i1 a D.l1i1 us.toArray) (Draws.list (prog := X.prog) (w := X.w) (A := X.A.in1) (I.ok.hd hc) i2 b D.l2i2 vs.toArray) s1 s2 s3 ⟨s4, pa⟩ ⟨s5, pb.isList⟩ n1 n2 fun x1 x2 h' tk y1 y2 c1 c2 c3 c4 c5 hsz hk => ?_
    have e1 : x1 = u := by
      have q : us[i]? = some x1 := by simpa using y1
      rw [eu] at q
      exact (Option.some.inj q).symm
    have e2 : x2 = v := by
      have q : vs[i]? = some x2 := by simpa using y2
      rw [ev] at q
      exact (Option.some.inj q).symm
    subst e1 e2
    refine ⟨_, rfl, wpAny_letOwnedTupleGo_zip (s := { s with heap := h', toks := tk }) c1 fun h2 z2 sb => ?_⟩
    have nz : s.heap.objs.size ≠ z := Nat.ne_of_gt lz
    have gT : h2.get? s.heap.objs.size = some { cls := .type "tuple", data := .seq #[x1, x2] } := (sb.2 _ nz).trans c5
    have ok : ObjOk X.prog X.w (upd H s.heap.objs.size (.tup [x, y])) h2 s.heap.objs.size (.tup [x, y]) :=
      ⟨by show 2 ≤ sizeLine; decide, [x1, x2], .cons ru (.cons rv .nil), ⟨_, gT, rfl, _, rfl⟩⟩
    have I2 : Inv X pins σ (upd H s.heap.objs.size (.tup [x, y])) { s with heap := h2, toks := tk } :=
      I.turnedNew (ch := [z, TI, TO, i1, i2]) (fun c o hb q => (sb.2 c fun q2 => hb (by simp [q2])).trans (hk c o (fun q2 => hb (by simp [q2])) (fun q2 => hb (by simp [q2])) (fun q2 => hb (by simp [q2])) (fun q2 => hb (by simp [q2])) q)) hf (Nat.le_refl _) ok
    refine ⟨.ref s.heap.objs.size, _, I2, rfl, ⟨_, x, y, rfl, I.hok.fresh (Nat.le_refl _), rfl, fun l hl => by rw [I.tuple_inj hl qa]; exact gx, fun l hl => by rw [I.list_inj hl qb]; exact gy⟩, ⟨z2, ?_, ⟨x1, x2, ?_⟩, ?_, ?_⟩, fun c hm => ?_⟩
    · exact (sb.2 _ D.TIz).trans (hk _ _ D.TIz D.TITO D.TIi1 D.TIi2 s2)
    · exact (sb.2 _ D.TOz).trans c2
    · exact c3.1.at fun o q => (sb.2 _ D.i1z).trans q
    · exact c4.1.at fun o q => (sb.2 _ D.i2z).trans q
    · have lc : c < s.heap.objs.size := by
        simp only [List.mem_cons, List.not_mem_nil, or_false] at hm
        rcases hm with q | q | q | q | q
        · rw [q]; exact lz
        · rw [q]; exact Heap.lt_size s2
        · rw [q]; exact Heap.lt_size s3
        · rw [q]; obtain ⟨_, q2, _⟩ := s4; exact Heap.lt_size q2
        · rw [q]; obtain ⟨_, q2, _⟩ := s5; exact Heap.lt_size q2
      rw [upd_ne (Nat.ne_of_lt lc)]
      exact (hf c hm).1
  done := by
    intro X hP hw hK hc i pins s σ H E I hf st hg
    subst hP hw hK
    obtain ⟨s1, s2, ⟨x0, y0, s3⟩, s4, s5⟩ := st
    obtain ⟨xs, ys, qa, qb, h1, h2, h3⟩ := hg
    obtain ⟨us, ra, pa, _⟩ := I.tuple qa
    obtain ⟨vs, rb, pb, _⟩ := I.list qb
    have l1 : us.toArray.size = xs.length := by have := ra.length; simp; omega
    have l2 : vs.toArray.size = ys.length := by have := rb.length; simp; omega
    exact wpAny_pyNext_zipD2_end (sep_of D) (Draws.tuple (prog := X.prog) (w := X.w) (A := X.A.in1) (I.ok.hd hc) i1 a D.l1i1 us.toArray) (Draws.list (prog := X.prog) (w := X.w) (A := X.A.in1) (I.ok.hd hc) i2 b D.l2i2 vs.toArray) s1 s2 s3 ⟨s4, pa⟩ ⟨s5, pb.isList⟩ (by omega) (by omega) (by omega) fun h' tk hk =>
      ⟨rfl, I.turnedL (ch := [z, TI, TO, i1, i2]) (fun c o hb q => hk c o (fun q2 => hb (by simp [q2])) (fun q2 => hb (by simp [q2])) (fun q2 => hb (by simp [q2])) (fun q2 => hb (by simp [q2])) q) hf⟩
  self := fun A i s Q E st h => wpAny_pyIter_zip st.1 h
/-- two lists, or a tuple and a list -/
def iZipM (K : PySem.W.Frag) (ta : TA) : TI := fun σ H R => ta σ H fun vs H1 => ∃ a b xs ys, vs = [.ref a, .ref b] ∧ ((SqL K H1 a xs ∧ SqL K H1 b ys ∧ R (Itz K a b) H1) ∨ (SqT K H1 a xs ∧ SqL K H1 b ys ∧ R (ItzM K a b) H1))
theorem pi_zipM {X : Cx} {e e2 : Expr} {ta : TA} {p pos tpos : Pos} {elts : List Expr} {kk : Nat} (hg : Gl X "zip") (hm : X.mg "zip" = none) (ha : PA X [e, e2] ta)
    (hs : starEach [e, e2] X.env = (false, eval e X.env) :: starEach [e2] X.env := by rfl) (hpl : (backTo pos (starEach [e2] X.env)).any (·.1) = false := by rfl) :
    PI X (.Tuple elts kk tpos) (.Call (.Name "zip" p) [e, e2] [] pos) (iZipM X.K ta) := by
  refine ⟨fun pins s σ H R I h => ?_⟩
  refine Call_ (ld_blt I hg hm PyProof.Rows.boot_zip (PyProof.Rows.callWith_type1 (thn (ha.run pos pins s σ H _ I h) fun us s1 ⟨vs, H1, I1, r1, q1⟩ => ?_) hs hpl))
  obtain ⟨a, b, xs, ys, rfl, q1⟩ := q1
  obtain ⟨u1, u2, rfl, r2, r3⟩ := vals2 r1
  cases r2
  cases r3
  have young : ∀ c, c ∈ [s1.heap.objs.size + 4, s1.heap.objs.size + 2, s1.heap.objs.size + 3, s1.heap.objs.size, s1.heap.objs.size + 1] → FpOk X pins H1 c := fun c hm => by
    have le : s1.heap.objs.size ≤ c := by
      simp only [List.mem_cons, List.not_mem_nil, or_false] at hm
      rcases hm with q | q | q | q | q <;> rw [q]
      · exact Nat.le_add_right _ _
      · exact Nat.le_add_right _ _
      · exact Nat.le_add_right _ _
      · exact Nat.le_refl _
      · exact Nat.le_add_right _ _
    exact I1.fpOk le (I1.hok.fresh le)
  rcases q1 with ⟨qa, qb, q⟩ | ⟨qa, qb, q⟩
  · obtain ⟨its, rv, p1, _⟩ := I1.list qa
    obtain ⟨its2, rv2, p2, _⟩ := I1.list qb
    refine call_zip_2 p1.isList p2.isList fun h' k1 k2 k3 k4 k5 hsz hk => wpAny_pyIter_zip k1 ?_
    have I2 : Inv X pins σ H1 { s1 with heap := h' } := I1.kept (t' := s1.toks) hk
    exact ⟨_, _, _, _, H1, rfl, I2, turn_zip (PySem.W.ktu_apart s1.heap.objs.size a b p1.lt p2.lt), ⟨k1, k2, ⟨_, _, k3⟩, k4, k5⟩, young, q⟩
  · obtain ⟨its, rv, p1, _⟩ := I1.tuple qa
    obtain ⟨its2, rv2, p2, _⟩ := I1.list qb
    obtain ⟨o1, ho1, _⟩ := id p1
    refine zip_begins2 (begins_tuple a its.toArray) (begins_list b its2.toArray) p1 p2.isList fun h' k1 k2 k3 k4 k5 hsz hk => wpAny_pyIter_zip k1 ?_
    have I2 : Inv X pins σ H1 { s1 with heap := h' } := I1.kept (t' := s1.toks) hk
    exact ⟨_, _, _, _, H1, rfl, I2, turn_zipM (PySem.W.ktu_apart s1.heap.objs.size a b (Heap.lt_size ho1) p2.lt), ⟨k1, k2, ⟨_, _, k3⟩, ⟨_, k4, rfl, rfl⟩, ⟨_, k5, rfl, rfl⟩⟩, young, q⟩
theorem walk_zipM {K : PySem.W.Frag} {a b : Addr} {xs ys : List V} {n : Nat} (hn : n = min xs.length ys.length) : Walk (ItzM K a b) n (fun H => SqT K H a xs ∧ SqL K H b ys) (YPair (fun i => xs[i]?) (fun i => ys[i]?)) := by
  subst hn
  refine ⟨fun i _ hi q => ?_, fun _ q => ⟨xs, ys, q.1, q.2, by omega, by omega, by omega⟩, fun i H v H' _ q y => ?_⟩
  · exact ⟨xs, ys, xs[i]'(by omega), ys[i]'(by omega), q.1, q.2, List.getElem?_eq_getElem _, List.getElem?_eq_getElem _⟩
  · obtain ⟨T, x, t, h1, h2, h3, h4, h5⟩ := y
    exact ⟨T, x, t, h1, h2, h3, h4 xs q.1, h5 ys q.2⟩
end HD
namespace DL
open PySem PySem.Spec PyProof.Rows L2
section
variable {X : Cx} {G0 : Hp} {e e2 elt : Expr} {δ : List (Option D)} {μ : Mu} {Φ : DK}
/-- [e for x, y in zip(..)], two lists, or a tuple and a list -/
theorem d_lcZ {x y : Str} {scope : Scope} {tp tp2 tq cp p ip : Pos} {kk : Nat} {own : List (Str × Nat)} {vs : List Nat} (j j2 : Nat)
    (h : dA X G0 [e, e2] δ μ fun ds μ1 => ∃ xs ys : List D, (ds = [.lst xs, .lst ys] ∨ ds = [.tup xs, .lst ys]) ∧ ∃ Pv : Nat → List D → Mu → Prop, Pv 0 [] μ1 ∧ (∀ (i : Nat) d1 d2 acc μ2 p, xs[i]? = some d1 → ys[i]? = some d2 → Pv i acc μ2 → μ2 p = none → LcTurn X scope elt p acc (((wipeD δ vs).set j (some d1)).set j2 (some d2)) μ2 (Pv (i + 1))) ∧ ∀ acc μ2 p, Pv (min xs.length ys.length) acc μ2 → μ2 p = none → Φ (.ref p) (updM μ2 p (.lst acc)))
    (hb : blkC X.N X.env.scope scope own = true := by kernel_rfl) (hj : j ∈ vs := by decide) (hj2 : j2 ∈ vs := by decide) (hv : own.map (·.2) = vs := by rfl) (hN : X.N.Nodup := by assumption) (hc : X.calm = true := by rfl)
    (hi : X.N[j]? = some x := by rfl) (hi2 : X.N[j2]? = some y := by rfl) (hx : ∀ s H C cl fp, Loc (BX X scope s H C cl fp).env.scope x := by first | exact fun _ _ _ _ _ => Or.inl rfl | exact fun _ _ _ _ _ => Or.inr rfl) (hf : ∀ s H C cl fp, (BX X scope s H C cl fp).fn x = true ∨ (BX X scope s H C cl fp).env.scope.names.lookup x = some .local := by first | exact fun _ _ _ _ _ => .inr rfl | exact fun _ _ _ _ _ => .inl rfl)
    (hx2 : ∀ s H C cl fp, Loc (BX X scope s H C cl fp).env.scope y := by first | exact fun _ _ _ _ _ => Or.inl rfl | exact fun _ _ _ _ _ => Or.inr rfl) (hf2 : ∀ s H C cl fp, (BX X scope s H C cl fp).fn y = true ∨ (BX X scope s H C cl fp).env.scope.names.lookup y = some .local := by first | exact fun _ _ _ _ _ => .inr rfl | exact fun _ _ _ _ _ => .inl rfl)
    (hs1 : ∀ s H C cl fp, (assignEach [.Name x tp, .Name y tp2] (BX X scope s H C cl fp).env).map (·.2) = assign (.Name x tp) (BX X scope s H C cl fp).env :: (assignEach [.Name y tp2] (BX X scope s H C cl fp).env).map (·.2) := by exact fun _ _ _ _ _ => rfl) (hs2 : ∀ s H C cl fp, (assignEach [.Name y tp2] (BX X scope s H C cl fp).env).map (·.2) = assign (.Name y tp2) (BX X scope s H C cl fp).env :: (assignEach [] (BX X scope s H C cl fp).env).map (·.2) := by exact fun _ _ _ _ _ => rfl)
    (hn : ∀ s H C cl fp, (assignEach [.Name x tp, .Name y tp2] (BX X scope s H C cl fp).env).length = 2 := by exact fun _ _ _ _ _ => rfl) (hst : ∀ s H C cl fp, (assignEach [.Name x tp, .Name y tp2] (BX X scope s H C cl fp).env).findIdx? (·.1) = none := by exact fun _ _ _ _ _ => rfl)
    (hm : X.mg "zip" = none := by assumption) (hg : Gl X "zip" := by rfl) (hst0 : starEach [e, e2] X.env = (false, eval e X.env) :: starEach [e2] X.env := by rfl) (hpl : (backTo ip (starEach [e2] X.env)).any (·.1) = false := by rfl)
    (hs : ∀ x, foldedSetIterable (.Call (.Name "zip" p) [e, e2] [] ip) X.env x = pure x := by intro _; rfl) : dE X G0 (.ListComp elt [⟨.Tuple [.Name x tp, .Name y tp2] kk tq, .Call (.Name "zip" p) [e, e2] [] ip, [], 0⟩] scope cp) δ μ Φ := fun σ H B Q k => by
  refine wE_of (pe_lc (g := gTup X.K 2 (gCons (gName j) (gCons (gName j2) gNil))) hc hN (HD.pi_zipM hg hm pa_w hst0 hpl) (blkOk_by hb) (fun s H C cl fp => pg_tup (X := BX X scope s H C cl fp) (n := 2) hc (pgs_cons (pg_name (i := j) hN hi (hx s H C cl fp) (hf s H C cl fp)) (pgs_cons (pg_name (i := j2) hN hi2 (hx2 s H C cl fp) (hf2 s H C cl fp)) pgs_nil (hs2 s H C cl fp)) (hs1 s H C cl fp)) (hn s H C cl fp) (hst s H C cl fp)) (fun _ _ _ _ _ => pts_nil) (fun s H C cl fp => (⟨fun pins s' σ' H' Q' I q => q s H C cl fp pins s' I⟩ : PE _ _ (wEs X scope elt))) hs) ?_
  rw [hv]
  refine h σ H B _ fun vs' H1 ds μ1 q m1 e1 r1 => ?_
  obtain ⟨xs, ys, ed, Pv, p0, turn, fin⟩ := q
  have B1 := (B.step m1 e1).wipe vs
  rcases ed with rfl | rfl
  · obtain ⟨v, u, rfl, r1, r2⟩ := rp2 r1
    obtain ⟨a, ws, rfl, hG, ra⟩ : ∃ a vs, v = .ref a ∧ Im μ1 H1 a = some (.lst vs) ∧ RpAll X.K (Im μ1 H1) vs xs := by
      cases r1 with
      | lst h r => exact ⟨_, _, rfl, h, r⟩
    obtain ⟨b, us, rfl, hG2, rb⟩ : ∃ a vs, u = .ref a ∧ Im μ1 H1 a = some (.lst vs) ∧ RpAll X.K (Im μ1 H1) vs ys := by
      cases r2 with
      | lst h r => exact ⟨_, _, rfl, h, r⟩
    refine ⟨a, b, ws, us, rfl, .inl ⟨SqL.of (im_all _ _ hG), SqL.of (im_all _ _ hG2), fun p hp => ?_⟩⟩
    have hi0 : Im (updM μ1 p (.lst [])) (upd H1 p (.lst [])) = Im μ1 H1 := im_new hp
    have B2 : Bd X.K (Im μ1 H1) (wipeD δ vs) (updM μ1 p (.lst [])) (L2.wipe σ vs) (upd H1 p (.lst [])) := B1.rebase.step (m1.upd hi0 .nil) (by rw [hi0]; exact Sub.refl _)
    refine lc_it (walk_zip (n := min xs.length ys.length) (by rw [ra.length, rb.length])) (fun i H' => ∃ acc μ2, Pv i acc μ2 ∧ μ2 p = none ∧ Bd X.K (Im μ1 H1) (wipeD δ vs) (updM μ2 p (.lst acc)) (L2.wipe σ vs) H') ⟨[], μ1, p0, mu_free m1 hp, B2⟩ (fun i H' _ ⟨acc, μ2, _, _, B'⟩ => ⟨SqL.of (im_all _ _ (B'.base _ _ hG)), SqL.of (im_all _ _ (B'.base _ _ hG2))⟩) (fun i y H' H'' hi ⟨acc, μ2, hP, hp2, B'⟩ yy => ?_) (fun H' ⟨acc, μ2, hP, hp2, B'⟩ => lc_end (k.after e1) hp2 (fin acc μ2 p hP hp2) B')
    obtain ⟨T, d1, d2, rfl, hT, rfl, g1, g2⟩ := yy
    have h1 : i < xs.length := by omega
    have h2 : i < ys.length := by omega
    obtain ⟨w', hw, rw'⟩ := ra.get (List.getElem?_eq_getElem h1)
    obtain ⟨u', hu, ru'⟩ := rb.get (List.getElem?_eq_getElem h2)
    have q1 : d1 = w' := Option.some.inj (g1.symm.trans hw)
    have q2 : d2 = u' := Option.some.inj (g2.symm.trans hu)
    subst q1 q2
    have B3 := B'.ext (sub_new (o := .tup [d1, d2]) hT)
    refine ⟨T, [d1, d2], rfl, SqT.of upd_same, rfl, d1, [d2], rfl, d2, [], rfl, rfl, ?_, ?_⟩
    · rw [wipe_set hj2, wipe_set hj, wipe_wipe]
    · exact lc_turn ((B3.set (rw'.mono B3.base)).set (ru'.mono B3.base)) B3 (turn i _ _ acc μ2 p (List.getElem?_eq_getElem h1) (List.getElem?_eq_getElem h2) hP hp2)
  · obtain ⟨v, u, rfl, r1, r2⟩ := rp2 r1
    obtain ⟨a, ws, rfl, hG, ra⟩ : ∃ a vs, v = .ref a ∧ Im μ1 H1 a = some (.tup vs) ∧ RpAll X.K (Im μ1 H1) vs xs := by
      cases r1 with
      | tup h r => exact ⟨_, _, rfl, h, r⟩
    obtain ⟨b, us, rfl, hG2, rb⟩ : ∃ a vs, u = .ref a ∧ Im μ1 H1 a = some (.lst vs) ∧ RpAll X.K (Im μ1 H1) vs ys := by
      cases r2 with
      | lst h r => exact ⟨_, _, rfl, h, r⟩
    refine ⟨a, b, ws, us, rfl, .inr ⟨SqT.of (im_all _ _ hG), SqL.of (im_all _ _ hG2), fun p hp => ?_⟩⟩
    have hi0 : Im (updM μ1 p (.lst [])) (upd H1 p (.lst [])) = Im μ1 H1 := im_new hp
    have B2 : Bd X.K (Im μ1 H1) (wipeD δ vs) (updM μ1 p (.lst [])) (L2.wipe σ vs) (upd H1 p (.lst [])) := B1.rebase.step (m1.upd hi0 .nil) (by rw [hi0]; exact Sub.refl _)
    refine lc_it (HD.walk_zipM (n := min xs.length ys.length) (by rw [ra.length, rb.length])) (fun i H' => ∃ acc μ2, Pv i acc μ2 ∧ μ2 p = none ∧ Bd X.K (Im μ1 H1) (wipeD δ vs) (updM μ2 p (.lst acc)) (L2.wipe σ vs) H') ⟨[], μ1, p0, mu_free m1 hp, B2⟩ (fun i H' _ ⟨acc, μ2, _, _, B'⟩ => ⟨SqT.of (im_all _ _ (B'.base _ _ hG)), SqL.of (im_all _ _ (B'.base _ _ hG2))⟩) (fun i y H' H'' hi ⟨acc, μ2, hP, hp2, B'⟩ yy => ?_) (fun H' ⟨acc, μ2, hP, hp2, B'⟩ => lc_end (k.after e1) hp2 (fin acc μ2 p hP hp2) B')
    obtain ⟨T, d1, d2, rfl, hT, rfl, g1, g2⟩ := yy
    have h1 : i < xs.length := by omega
    have h2 : i < ys.length := by omega
    obtain ⟨w', hw, rw'⟩ := ra.get (List.getElem?_eq_getElem h1)
    obtain ⟨u', hu, ru'⟩ := rb.get (List.getElem?_eq_getElem h2)
    have q1 : d1 = w' := Option.some.inj (g1.symm.trans hw)
    have q2 : d2 = u' := Option.some.inj (g2.symm.trans hu)
    subst q1 q2
    have B3 := B'.ext (sub_new (o := .tup [d1, d2]) hT)
    refine ⟨T, [d1, d2], rfl, SqT.of upd_same, rfl, d1, [d2], rfl, d2, [], rfl, rfl, ?_, ?_⟩
    · rw [wipe_set hj2, wipe_set hj, wipe_wipe]
    · exact lc_turn ((B3.set (rw'.mono B3.base)).set (ru'.mono B3.base)) B3 (turn i _ _ acc μ2 p (List.getElem?_eq_getElem h1) (List.getElem?_eq_getElem h2) hP hp2)
/-- list * int, the new one may change -/
theorem o_repN {xs : List D} {j : Int} (q : -(2 ^ 63) ≤ j ∧ j < 2 ^ 63 ∧ xs.length * j.toNat ≤ sizeLine ∧ ∀ p, μ p = none → Φ (.ref p) (updM μ p (.lst (List.replicate j.toNat xs).flatten))) : dOp X (binaryOp .Mult) (.lst xs) (.int j) μ Φ := fun v u H r1 r2 m Q k => by
  obtain ⟨a, vs, rfl, ha, ra⟩ := rp_lst_at r1
  rw [rp_int r2]
  exact wOp_of op_rep ⟨a, j, vs, rfl, rfl, ha, q.1, q.2.1, by rw [ra.length]; exact q.2.2.1, fun p hp => k.newM m hp (ra.rep _) q.2.2.2⟩
/-- [x for x in a list if ..] -/
theorem d_lcLg {x : Str} {scope : Scope} {it c : Expr} {tp cp : Pos} {own : List (Str × Nat)} {vs : List Nat} (j : Nat) (t : D → Bool)
    (h : dE X G0 it δ μ fun d μ1 => ∃ ds, d = .lst ds ∧ ds.length ≤ sizeLine ∧ (∀ d ∈ ds, ∀ p acc, μ1 p = none → Tells X scope c ((wipeD δ vs).set j (some d)) (updM μ1 p acc) (t d) ∧ Gives X scope elt ((wipeD δ vs).set j (some d)) (updM μ1 p acc) d) ∧ Φ (.lst (ds.filter t)) μ1)
    (hb : blkC X.N X.env.scope scope own = true := by kernel_rfl) (hj : j ∈ vs := by decide) (hv : own.map (·.2) = vs := by rfl) (hN : X.N.Nodup := by assumption) (hc : X.calm = true := by rfl)
    (hi : X.N[j]? = some x := by rfl) (hx : ∀ s H C cl fp, Loc (BX X scope s H C cl fp).env.scope x := by first | exact fun _ _ _ _ _ => Or.inl rfl | exact fun _ _ _ _ _ => Or.inr rfl) (hf : ∀ s H C cl fp, (BX X scope s H C cl fp).fn x = true ∨ (BX X scope s H C cl fp).env.scope.names.lookup x = some .local := by first | exact fun _ _ _ _ _ => .inr rfl | exact fun _ _ _ _ _ => .inl rfl)
    (hs : ∀ x, foldedSetIterable it X.env x = pure x := by intro _; rfl) : dE X G0 (.ListComp elt [⟨.Name x tp, it, [c], 0⟩] scope cp) δ μ Φ := by
  refine d_fz (d_lcLI j (h.imp fun d μ1 ⟨ds, ed, hl, hg, q⟩ => ⟨ds, ed, fun i acc μ2 => acc = (ds.take i).filter t ∧ μ2 = μ1, ⟨by rw [List.take_zero]; rfl, rfl⟩, ?_, ?_⟩) hb hj hv hN hc hi hx hf hs)
  · rintro i d acc μ2 p hd ⟨rfl, rfl⟩ hp
    have hm := List.mem_of_getElem? hd
    have hi' := (List.getElem?_eq_some_iff.mp hd).1
    have e : (ds.take (i + 1)).filter t = (ds.take i).filter t ++ if t d = true then [d] else [] := by
      rw [List.take_add_one, hd, List.filter_append]
      show _ ++ List.filter t [d] = _
      rw [List.filter_cons, List.filter_nil]
    have len : ((ds.take i).filter t).length < sizeLine := by
      have a := List.length_filter_le t (ds.take i)
      rw [List.length_take] at a
      omega
    refine ⟨len, fun G1 s H0 C cl fp σ H B Q kk => (hg d hm p _ hp).1 G1 s H0 C cl fp σ H B Q fun b H3 μ3 ⟨e1, e2⟩ m3 e3 => kk b H3 μ3 ?_ m3 e3⟩
    subst e1 e2
    refine ⟨_, rfl, hp, fun z => ⟨by rw [e, z]; simp, rfl⟩, fun z => fun G1 s H0 C cl fp => ((hg d hm p _ hp).2 G1 s H0 C cl fp).imp fun r μ5 ⟨e3, e4⟩ => ?_⟩
    subst e3 e4
    refine ⟨_, rfl, hp, ?_, rfl⟩
    rw [e, if_pos z]
  · rintro acc μ2 p ⟨rfl, rfl⟩ hp
    rw [List.take_length]
    exact fz_ref hp q
theorem cr_sumT (hc : X.calm = true) : CallR X (.builtin "sum") (fun vs H Q => ∃ (a : Addr) (ns : List Int), vs = [V.ref a] ∧ SqT X.K H a (ns.map V.int) ∧ Q (.int ns.sum) H) := by
  intro pins s σ H vs us Q I r h
  obtain ⟨a, ns, rfl, hs, q⟩ := h
  obtain ⟨its, rv, hl, _⟩ := I.tuple hs
  rw [Vals.ref1 r]
  have hi := rv.ints
  obtain ⟨xs, hx⟩ := hi.allInts.items
  have hn : numsOf its.toArray.toList = ns := by rw [show its.toArray.toList = its from rfl, hi.numsOf]
  rw [hx] at hl hn
  rw [nums_intItems] at hn
  refine PySem.W.ktm_sumG (I.ok.hd hc) hl fun h' tk t' hk => ?_
  rw [preSum_eq, List.take_of_length_le (by simp), hn]
  exact ⟨.int _, H, I.kept hk, ⟨_, rfl⟩, q⟩
theorem c_sumT {ns : List Int} (q : Φ (.int ns.sum) μ) (hc : X.calm = true := by rfl) : dCall X (.builtin "sum") [.tup (ns.map .int)] μ Φ := fun vs H r m Q k => by
  obtain ⟨v, rfl, r0⟩ := rp1 r
  obtain ⟨p, ws, rfl, ha, ra⟩ := rp_tup_at r0
  rw [rp_ints ra] at ha
  exact wCall_of (cr_sumT hc) ⟨p, ns, rfl, SqT.of ha, k.val m q (.int _)⟩
/-- xs.pop() -/
theorem d_pop0 {o : Expr} {apos cpos : Pos} (h : dE X G0 o δ μ fun d μ1 => ∃ p ds y, d = .ref p ∧ μ1 p = some (.lst ds) ∧ ds[ds.length - 1]? = some y ∧ Φ y (updM μ1 p (.lst (ds.eraseIdx (ds.length - 1))))) (hbase : attributeBase o "pop" X.env (eval o X.env) = eval o X.env := by rfl) (hline : (apos.endLine == cpos.line) = true := by rfl) : dE X G0 (.Call (.Attribute o "pop" apos) [] [] cpos) δ μ Φ := fun σ H B Q k => by
  refine wE_of (pe_bm0 PySem.F.plainAttrs_list PySem.F.slot_list_pop PySem.F.type_list_pop mt_pop pe_w hbase hline) ?_
  refine h.go B fun v H1 d μ1 ⟨p, ds, y, ed, hp, hy, q⟩ m1 e1 r1 => ?_
  subst ed
  cases rp_ref r1
  obtain ⟨ws, ha, ra⟩ := m1.lst hp
  obtain ⟨u, hu, ru⟩ := ra.get hy
  refine ⟨.inl ⟨rfl, ws, SqL.of ha⟩, p, ws, u, rfl, rfl, ha, by rw [ra.length]; exact hu, ?_⟩
  rw [← PyProof.Rows.Copied.eraseIdx_last, ra.length]
  have hi : Im (updM μ1 p (.lst (ds.eraseIdx (ds.length - 1)))) (upd H1 p (.lst (ws.eraseIdx (ds.length - 1)))) = Im μ1 H1 := im_upd (by rw [hp]; rfl)
  exact k _ _ _ _ q (m1.upd hi (ra.eraseIdx _)) (by rw [hi]; exact e1) (by rw [hi]; exact ru)
end
end DL

open PySem PySem.Spec PyProof.Rows L2 DL
namespace K35
open PySem PySem.Spec PyProof.Rows L2 DL
/-! ### the text -/
def topS (i : Nat) : Stmt := PySem.Challenge.pw_leastcomplaint_k35_blended_divisions.main.body.getD i (.Pass ⟨0, 0, 0, 0⟩)
abbrev s_common_divisor : Stmt := topS 7
theorem sc_common_divisor : FnScope ["one", "other"] ["one", "other"] (defScope s_common_divisor) := ⟨rfl, rfl, rfl, by decide +kernel, rfl, by decide +kernel, by decide +kernel⟩
abbrev s_ratio : Stmt := topS 8
theorem sc_ratio : FnScope ["top", "bottom", "divisor"] ["top", "bottom"] (defScope s_ratio) := ⟨rfl, rfl, rfl, by decide +kernel, rfl, by decide +kernel, by decide +kernel⟩
abbrev s_scaled : Stmt := topS 9
theorem sc_scaled : FnScope ["ratios", "unit", "top", "bottom"] ["ratios", "unit"] (defScope s_scaled) := ⟨rfl, rfl, rfl, by decide +kernel, rfl, by decide +kernel, by decide +kernel⟩
abbrev s_together : Stmt := topS 10
theorem sc_together : FnScope ["ratios", "unit", "top", "bottom"] ["ratios"] (defScope s_together) := ⟨rfl, rfl, rfl, by decide +kernel, rfl, by decide +kernel, by decide +kernel⟩
abbrev s_plain_integer : Stmt := topS 12
theorem sc_plain_integer : FnScope ["value"] ["value"] (defScope s_plain_integer) := ⟨rfl, rfl, rfl, by decide +kernel, rfl, by decide +kernel, by decide +kernel⟩
abbrev s_integer_list : Stmt := topS 13
theorem sc_integer_list : FnScope ["value", "item"] ["value"] (defScope s_integer_list) := ⟨rfl, rfl, rfl, by decide +kernel, rfl, by decide +kernel, by decide +kernel⟩
abbrev s_is_ratio : Stmt := topS 14
theorem sc_is_ratio : FnScope ["value"] ["value"] (defScope s_is_ratio) := ⟨rfl, rfl, rfl, by decide +kernel, rfl, by decide +kernel, by decide +kernel⟩
abbrev s_ratio_list : Stmt := topS 15
theorem sc_ratio_list : FnScope ["value", "item"] ["value"] (defScope s_ratio_list) := ⟨rfl, rfl, rfl, by decide +kernel, rfl, by decide +kernel, by decide +kernel⟩
abbrev s_are_amounts : Stmt := topS 18
theorem sc_are_amounts : FnScope ["value"] ["value"] (defScope s_are_amounts) := ⟨rfl, rfl, rfl, by decide +kernel, rfl, by decide +kernel, by decide +kernel⟩
abbrev s_are_shares : Stmt := topS 19
theorem sc_are_shares : FnScope ["value", "share"] ["value"] (defScope s_are_shares) := ⟨rfl, rfl, rfl, by decide +kernel, rfl, by decide +kernel, by decide +kernel⟩
abbrev s_mean : Stmt := topS 20
theorem sc_mean : FnScope ["ratios", "shares", "unit", "tops", "share", "top"] ["ratios", "shares"] (defScope s_mean) := ⟨rfl, rfl, rfl, by decide +kernel, rfl, by decide +kernel, by decide +kernel⟩
abbrev s_blended : Stmt := topS 21
theorem sc_blended : FnScope ["divisions", "shares", "players", "division", "player"] ["divisions", "shares"] (defScope s_blended) := ⟨rfl, rfl, rfl, by decide +kernel, rfl, by decide +kernel, by decide +kernel⟩
abbrev s_law_pool : Stmt := topS 23
theorem sc_law_pool : FnScope ["_law_script"] ["_law_script"] (defScope s_law_pool) := ⟨rfl, rfl, rfl, by decide +kernel, rfl, by decide +kernel, by decide +kernel⟩
abbrev s_law_take : Stmt := topS 24
theorem sc_law_take : FnScope ["_law_pool_here", "_law_many", "_law_at", "_law_drawn", "_law_mixed", "_law_digit"] ["_law_pool_here", "_law_many"] (defScope s_law_take) := ⟨rfl, rfl, rfl, by decide +kernel, rfl, by decide +kernel, by decide +kernel⟩
abbrev s_law_is_number : Stmt := topS 25
theorem sc_law_is_number : FnScope ["_law_thing"] ["_law_thing"] (defScope s_law_is_number) := ⟨rfl, rfl, rfl, by decide +kernel, rfl, by decide +kernel, by decide +kernel⟩
abbrev s_law_divisor : Stmt := topS 26
theorem sc_law_divisor : FnScope ["_law_numbers", "_law_found", "_law_number", "_law_one", "_law_other"] ["_law_numbers"] (defScope s_law_divisor) := ⟨rfl, rfl, rfl, by decide +kernel, rfl, by decide +kernel, by decide +kernel⟩
abbrev s_law_ratio : Stmt := topS 27
theorem sc_law_ratio : FnScope ["_law_up", "_law_down", "_law_piece"] ["_law_up", "_law_down"] (defScope s_law_ratio) := ⟨rfl, rfl, rfl, by decide +kernel, rfl, by decide +kernel, by decide +kernel⟩
abbrev s_law_groups : Stmt := topS 28
theorem sc_law_groups : FnScope ["_law_players", "_law_found", "_law_player", "_law_group"] ["_law_players"] (defScope s_law_groups) := ⟨rfl, rfl, rfl, by decide +kernel, rfl, by decide +kernel, by decide +kernel⟩
abbrev s_law_few : Stmt := topS 29
theorem sc_law_few : FnScope ["_law_pool_here"] ["_law_pool_here"] (defScope s_law_few) := ⟨rfl, rfl, rfl, by decide +kernel, rfl, by decide +kernel, by decide +kernel⟩
abbrev s_law_is_ratio : Stmt := topS 30
theorem sc_law_is_ratio : FnScope ["_law_value"] ["_law_value"] (defScope s_law_is_ratio) := ⟨rfl, rfl, rfl, by decide +kernel, rfl, by decide +kernel, by decide +kernel⟩
abbrev s_law_plus : Stmt := topS 31
theorem sc_law_plus : FnScope ["_law_one", "_law_other"] ["_law_one", "_law_other"] (defScope s_law_plus) := ⟨rfl, rfl, rfl, by decide +kernel, rfl, by decide +kernel, by decide +kernel⟩
abbrev s_law_total : Stmt := topS 32
theorem sc_law_total : FnScope ["_law_ratios", "_law_found", "_law_one"] ["_law_ratios"] (defScope s_law_total) := ⟨rfl, rfl, rfl, by decide +kernel, rfl, by decide +kernel, by decide +kernel⟩
abbrev s_law_amount : Stmt := topS 33
theorem sc_law_amount : FnScope ["_law_division", "_law_group", "_law_player"] ["_law_division", "_law_group"] (defScope s_law_amount) := ⟨rfl, rfl, rfl, by decide +kernel, rfl, by decide +kernel, by decide +kernel⟩
abbrev s_law_complaint : Stmt := topS 34
theorem sc_law_complaint : FnScope ["_law_worths", "_law_division", "_law_group", "_law_top", "_law_bottom"] ["_law_worths", "_law_division", "_law_group"] (defScope s_law_complaint) := ⟨rfl, rfl, rfl, by decide +kernel, rfl, by decide +kernel, by decide +kernel⟩
abbrev s_law_is_division : Stmt := topS 35
theorem sc_law_is_division : FnScope ["_law_worths", "_law_players", "_law_division", "_law_one"] ["_law_worths", "_law_players", "_law_division"] (defScope s_law_is_division) := ⟨rfl, rfl, rfl, by decide +kernel, rfl, by decide +kernel, by decide +kernel⟩
abbrev s_law_calm_for : Stmt := topS 36
theorem sc_law_calm_for : FnScope ["_law_worths", "_law_players", "_law_division", "_law_listed", "_law_group"] ["_law_worths", "_law_players", "_law_division", "_law_listed"] (defScope s_law_calm_for) := ⟨rfl, rfl, rfl, by decide +kernel, rfl, by decide +kernel, by decide +kernel⟩
abbrev s_law_minus : Stmt := topS 37
theorem sc_law_minus : FnScope ["_law_one", "_law_other"] ["_law_one", "_law_other"] (defScope s_law_minus) := ⟨rfl, rfl, rfl, by decide +kernel, rfl, by decide +kernel, by decide +kernel⟩
abbrev s_law_told : Stmt := topS 38
theorem sc_law_told : FnScope ["_law_lists", "_law_shares_here"] ["_law_lists", "_law_shares_here"] (defScope s_law_told) := ⟨rfl, rfl, rfl, by decide +kernel, rfl, by decide +kernel, by decide +kernel⟩
abbrev s_law_due : Stmt := topS 39
theorem sc_law_due : FnScope ["_law_lists", "_law_shares_here", "_law_row", "_law_found", "_law_at", "_law_total_here", "_law_k", "_law_one", "_law_top", "_law_bottom"] ["_law_lists", "_law_shares_here"] (defScope s_law_due) := ⟨rfl, rfl, rfl, by decide +kernel, rfl, by decide +kernel, by decide +kernel⟩
abbrev s_law_shares : Stmt := topS 40
theorem sc_law_shares : FnScope ["_law_pool_here", "_law_many", "_law_shares_here", "_law_spoil", "_law_k", "_law_share"] ["_law_pool_here", "_law_many"] (defScope s_law_shares) := ⟨rfl, rfl, rfl, by decide +kernel, rfl, by decide +kernel, by decide +kernel⟩
abbrev s_law_calm_blends : Stmt := topS 41
theorem sc_law_calm_blends : FnScope ["_law_pool_here", "_law_players", "_law_rows", "_law_k", "_law_worths", "_law_group", "_law_top", "_law_bottom", "_law_up", "_law_down", "_law_blend", "_law_player", "_law_row"] ["_law_pool_here"] (defScope s_law_calm_blends) := ⟨rfl, rfl, rfl, by decide +kernel, rfl, by decide +kernel, by decide +kernel⟩
abbrev s_law_weights_of : Stmt := topS 42
theorem sc_law_weights_of : FnScope ["_law_pool_here"] ["_law_pool_here"] (defScope s_law_weights_of) := ⟨rfl, rfl, rfl, by decide +kernel, rfl, by decide +kernel, by decide +kernel⟩
abbrev s_law : Stmt := topS 43
theorem sc_law : FnScope ["_law_script", "_law_pool_here", "_law_players", "_law_many", "_law_far", "_law_lists", "_law_k", "_law_player", "_law_spoil", "_law_row", "_law_odd", "_law_shares_here", "_law_saved", "_law_due_here"] ["_law_script"] (defScope s_law) := ⟨rfl, rfl, rfl, by decide +kernel, rfl, by decide +kernel, by decide +kernel⟩
abbrev c_DivisionError : Stmt := topS 1
abbrev c_BadRatio : Stmt := topS 2
abbrev s_BadRatio_init : Stmt := inClass c_BadRatio 0
theorem sc_BadRatio_init : FnScope ["self", "bottom"] ["self", "bottom"] (defScope s_BadRatio_init) := ⟨rfl, rfl, rfl, by decide +kernel, rfl, by decide +kernel, by decide +kernel⟩
abbrev c_BadShares : Stmt := topS 3
abbrev c_NotDivision : Stmt := topS 4
abbrev c_Mismatch : Stmt := topS 5

end K35

open PySem PySem.Spec PyProof.Rows L2 DL
local macro_rules | `(tactic| walk_at "dv") => `(tactic| ((with_reducible refine' d_v ?hN ?hd ?hv ?_); (case hN => with_reducible assumption); (case hd => rfl); (case hv => first | exact Or.inl rfl | exact Or.inr (Or.inl rfl) | exact Or.inr (Or.inr rfl))))
local macro_rules | `(tactic| walk_at "o1") => `(tactic| first | with_reducible refine o_add ?_ | with_reducible refine o_sub ?_ | with_reducible refine o_lt ?_ | with_reducible refine o_le ?_ | with_reducible refine o_gt ?_ | with_reducible refine o_ge ?_ | with_reducible refine o_eq ?_ | with_reducible refine o_ne ?_ | with_reducible refine o_neg ?_ | with_reducible refine o_eqS ?_ | with_reducible refine o_neS ?_ | ((with_reducible refine' x_tup ?h ?_); (case h => rfl)) | ((with_reducible refine' x_lst ?h ?_); (case h => rfl)) | with_reducible refine c_int ?_ | with_reducible refine c_intB ?_ | with_reducible refine c_abs ?_ | with_reducible refine c_lenL ?_ | with_reducible refine c_lenT ?_ | ((with_reducible refine c_max2 ?_ ?hc); (case hc => rfl)) | with_reducible refine tr_bl ?_ | with_reducible refine bl_ex ?_)
local macro_rules | `(tactic| walk_at "db") => `(tactic| first | ((with_reducible refine db_abs ?_ ?hm ?hg ?he ?hpl); (case hm => with_reducible assumption); (case hg => rfl); (case he => rfl); (case hpl => rfl)) | ((with_reducible refine db_len ?_ ?hm ?hg ?he ?hpl); (case hm => with_reducible assumption); (case hg => rfl); (case he => rfl); (case hpl => rfl)) | ((with_reducible refine db_max ?_ ?hm ?hg ?he ?hpl); (case hm => with_reducible assumption); (case hg => rfl); (case he => rfl); (case hpl => rfl)) | ((with_reducible refine db_int ?_ ?hm ?hg ?he ?hpl); (case hm => with_reducible assumption); (case hg => rfl); (case he => rfl); (case hpl => rfl)) | ((with_reducible refine db_isinstance ?_ ?hm ?hg ?he ?hpl); (case hm => with_reducible assumption); (case hg => rfl); (case he => rfl); (case hpl => rfl)) | ((with_reducible refine db_list ?_ ?hm ?hg ?he ?hpl); (case hm => with_reducible assumption); (case hg => rfl); (case he => rfl); (case hpl => rfl)) | ((with_reducible refine db_tuple ?_ ?hm ?hg ?he ?hpl); (case hm => with_reducible assumption); (case hg => rfl); (case he => rfl); (case hpl => rfl)) | ((with_reducible refine dt_int ?_ ?hm ?hg); (case hm => with_reducible assumption); (case hg => rfl)) | ((with_reducible refine dt_bool ?_ ?hm ?hg); (case hm => with_reducible assumption); (case hg => rfl)) | ((with_reducible refine dt_tuple ?_ ?hm ?hg); (case hm => with_reducible assumption); (case hg => rfl)) | ((with_reducible refine db_all ?_ ?hm ?hg ?he ?hpl); (case hm => with_reducible assumption); (case hg => rfl); (case he => rfl); (case hpl => rfl)) | ((with_reducible refine db_any ?_ ?hm ?hg ?he ?hpl); (case hm => with_reducible assumption); (case hg => rfl); (case he => rfl); (case hpl => rfl)) | ((with_reducible refine db_sum ?_ ?hm ?hg ?he ?hpl); (case hm => with_reducible assumption); (case hg => rfl); (case he => rfl); (case hpl => rfl)) | ((with_reducible refine db_sorted ?_ ?hm ?hg ?he ?hpl); (case hm => with_reducible assumption); (case hg => rfl); (case he => rfl); (case hpl => rfl)) | ((with_reducible refine db_min ?_ ?hm ?hg ?he ?hpl); (case hm => with_reducible assumption); (case hg => rfl); (case he => rfl); (case hpl => rfl)) | ((with_reducible refine db_dict ?_ ?hm ?hg ?he ?hpl); (case hm => with_reducible assumption); (case hg => rfl); (case he => rfl); (case hpl => rfl)) | ((with_reducible refine dt_list ?_ ?hm ?hg); (case hm => with_reducible assumption); (case hg => rfl)) | ((with_reducible refine dt_dict ?_ ?hm ?hg); (case hm => with_reducible assumption); (case hg => rfl)) | ((with_reducible refine dt_str ?_ ?hm ?hg); (case hm => with_reducible assumption); (case hg => rfl)))
local macro_rules | `(tactic| walk_at "d1") => `(tactic| first | walk_at "dv" | with_reducible refine d_int ?_ | with_reducible refine d_str ?_ | with_reducible refine d_bl ?_ | with_reducible refine d_non ?_ | with_reducible refine d_op ?_ | with_reducible refine d_un ?_ | ((with_reducible refine d_ix ?_ ?hs); (case hs => exact fun _ _ => rfl)) | walk_at "o1" | ((with_reducible refine d_cmp ?_ ?hm); (case hm => first | exact nomark _ | rfl)) | ((with_reducible refine t_cmp ?_ ?hm); (case hm => first | exact nomark _ | rfl)) | with_reducible refine d_tup ?_ | with_reducible refine t_not ?_ | ((with_reducible refine t_val ?_ ?he); (case he => intro _; rfl)) | ((with_reducible refine da_cons ?_ ?hs); (case hs => rfl)) | with_reducible refine da_nil ?_ | walk_at "db")
local macro_rules | `(tactic| walk_at "dd") => `(tactic| repeat walk_at "d1")
namespace K35
section
variable {P : Program} {w : World} {K : PySem.W.Frag} {mg : Str → Option Value} {base : Heap}
theorem ok_gcd (D : DefT K mg "common_divisor" s_common_divisor ["one", "other"]) (m_abs : mg "abs" = none) : Cal P w K mg base 1 "common_divisor" spGcd := by
  refine D.cal (k := 0) sc_common_divisor (fun ds μ Φ Ψ ⟨a, b, e, _⟩ => by rw [e]; rfl) (fun ds μ Φ Ψ h => ⟨fun f cd A outer s H E G0 hr hp tk => ?_⟩)
  have hnd := sc_common_divisor.nd
  have nm0 : (cxD P w K mg base ["one", "other"] "common_divisor" s_common_divisor f cd A outer s H E).N[0]? = some ("one" : Str) ∧ (("one" : Str) == ("__debug__" : Str)) = false ∧ (("one" : Str) == ("__classdict__" : Str)) = false := ⟨rfl, by decide, by decide⟩
  have nm1 : (cxD P w K mg base ["one", "other"] "common_divisor" s_common_divisor f cd A outer s H E).N[1]? = some ("other" : Str) ∧ (("other" : Str) == ("__debug__" : Str)) = false ∧ (("other" : Str) == ("__classdict__" : Str)) = false := ⟨rfl, by decide, by decide⟩
  have bn_abs : (cxD P w K mg base ["one", "other"] "common_divisor" s_common_divisor f cd A outer s H E).mg "abs" = none := m_abs
  obtain ⟨a, b, rfl, q⟩ := h
  refine s_cons (s_while (fun δ μ' => ∃ x y : Int, δ = [some (.int x), some (.int y)] ∧ μ' = μ ∧ Int.gcd x y = Int.gcd a b) (fun δ _ => match δ with | [_, some (.int y)] => y.natAbs | _ => 0) ⟨a, b, rfl, rfl, rfl⟩ ?_)
  rintro δ' μ' ⟨x, y, rfl, rfl, hg⟩
  walk_at "dd"
  refine wayN (fun hy => ?_) (fun hy => ?_)
  · refine s_one (s_par (i := 0) (j := 1) ?_)
    walk_at "dd"
    refine o_mod ⟨hy, ?_⟩
    walk_at "dd"
    exact ⟨_, _, rfl, ⟨y, x.fmod y, rfl, rfl, (gcd_fmod x y).trans hg⟩, fmod_natAbs x y hy⟩
  · subst hy
    refine s_one (s_ret ?_)
    walk_at "dd"
    rw [abs_gcd, hg]
    exact q
/-! ratios -/
def spRatio (CB : Addr) : DSp := fun ds μ Φ Ψ => ∃ a b : Int, ds = [.int a, .int b] ∧ (b = 0 → Ψ CB [("bottom", .int 0)] μ) ∧ (b ≠ 0 → b.natAbs < 2 ^ 8000 ∧ Φ (rat a b) μ)
theorem fn_ratio {CB : Addr} {f : Addr} {fd : FuncData} (F : FunD K "ratio" "ratio" (defArgs s_ratio) (defBody s_ratio) (defScope s_ratio) [.int 1] [] f fd) (Cg : Cal P w K mg base 1 "common_divisor" spGcd) (TE : ExcT P w K mg base "BadRatio" "bottom" CB) :
    FnOk P w K mg base (L2N.CX P w) 3 f fd ["top", "bottom"] (liftSp K (spRatio CB)) := by
  refine cal_fnD (k := 2) F sc_ratio (fun ds μ Φ Ψ ⟨a, b, e, _⟩ => by rw [e]; rfl) (fun ds μ Φ Ψ h => ⟨fun f cd A outer s H E G0 hr hp tk => ?_⟩)
  have hnd := sc_ratio.nd
  have nm0 : (cxD P w K mg base ["top", "bottom", "divisor"] "ratio" s_ratio f cd A outer s H E).N[0]? = some ("top" : Str) ∧ (("top" : Str) == ("__debug__" : Str)) = false ∧ (("top" : Str) == ("__classdict__" : Str)) = false := ⟨rfl, by decide, by decide⟩
  have nm1 : (cxD P w K mg base ["top", "bottom", "divisor"] "ratio" s_ratio f cd A outer s H E).N[1]? = some ("bottom" : Str) ∧ (("bottom" : Str) == ("__debug__" : Str)) = false ∧ (("bottom" : Str) == ("__classdict__" : Str)) = false := ⟨rfl, by decide, by decide⟩
  have nm2 : (cxD P w K mg base ["top", "bottom", "divisor"] "ratio" s_ratio f cd A outer s H E).N[2]? = some ("divisor" : Str) ∧ (("divisor" : Str) == ("__debug__" : Str)) = false ∧ (("divisor" : Str) == ("__classdict__" : Str)) = false := ⟨rfl, by decide, by decide⟩
  obtain ⟨a, b, rfl, q0, q1⟩ := h
  refine s_cons (s_if ?_)
  walk_at "dd"
  refine way (fun h0 => ?_) (fun h0 => ?_)
  · subst h0
    refine s_one (s_raise TE tk ?_)
    walk_at "dd"
    exact q0 rfl
  · obtain ⟨hb, q⟩ := q1 h0
    refine s_nil (s_cons (s_set (i := 2) (d_call Cg ?_)))
    walk_at "dd"
    refine ⟨a, b, rfl, ?_⟩
    refine s_cut (fun δ μ' => δ = [some (.int a), some (.int b), some (.int (rG a b))] ∧ μ' = μ) ?_ ?_
    · refine s_if ?_
      walk_at "dd"
      refine way (fun h1 => ?_) (fun h1 => ?_)
      · refine s_one (s_set (i := 2) ?_)
        walk_at "dd"
        refine ⟨?_, rfl⟩
        unfold rG
        rw [if_pos h1]
        rfl
      · refine s_nil ⟨?_, rfl⟩
        unfold rG
        rw [if_neg h1]
        rfl
    · rintro δ μ' ⟨rfl, rfl⟩
      refine s_one (s_ret ?_)
      walk_at "dd"
      refine o_div ⟨rG_div h0 hb (by decide) (by decide) _, ?_⟩
      walk_at "dd"
      refine o_div ⟨rG_div h0 hb (by decide) (by decide) _, ?_⟩
      walk_at "dd"
      exact ⟨(show 2 ≤ sizeLine by decide), q⟩
end
end K35

open PySem PySem.Spec PyProof.Rows L2 DL
namespace K35
section
variable {P : Program} {w : World} {K : PySem.W.Frag} {mg : Str → Option Value} {base : Heap}
def spDiv : DSp := fun ds μ Φ _ => ∃ ns : List Int, ds = [.lst (ns.map .int)] ∧ Φ (.int (gcdL ns)) μ
theorem ok_divisor (Df : DefT K mg "_law_divisor" s_law_divisor ["_law_numbers"]) (m_int : mg "int" = none) (m_abs : mg "abs" = none) : Cal P w K mg base 1 "_law_divisor" spDiv := by
  refine Df.cal (k := 0) sc_law_divisor (fun ds μ Φ Ψ ⟨ns, e, _⟩ => by rw [e]; rfl) (fun ds μ Φ Ψ h => ⟨fun f cd A outer s H E G0 hr hp tk => ?_⟩)
  have hnd := sc_law_divisor.nd
  have nm0 : (cxD P w K mg base ["_law_numbers", "_law_found", "_law_number", "_law_one", "_law_other"] "_law_divisor" s_law_divisor f cd A outer s H E).N[0]? = some ("_law_numbers" : Str) ∧ (("_law_numbers" : Str) == ("__debug__" : Str)) = false ∧ (("_law_numbers" : Str) == ("__classdict__" : Str)) = false := ⟨rfl, by decide, by decide⟩
  have nm1 : (cxD P w K mg base ["_law_numbers", "_law_found", "_law_number", "_law_one", "_law_other"] "_law_divisor" s_law_divisor f cd A outer s H E).N[1]? = some ("_law_found" : Str) ∧ (("_law_found" : Str) == ("__debug__" : Str)) = false ∧ (("_law_found" : Str) == ("__classdict__" : Str)) = false := ⟨rfl, by decide, by decide⟩
  have nm2 : (cxD P w K mg base ["_law_numbers", "_law_found", "_law_number", "_law_one", "_law_other"] "_law_divisor" s_law_divisor f cd A outer s H E).N[2]? = some ("_law_number" : Str) ∧ (("_law_number" : Str) == ("__debug__" : Str)) = false ∧ (("_law_number" : Str) == ("__classdict__" : Str)) = false := ⟨rfl, by decide, by decide⟩
  have nm3 : (cxD P w K mg base ["_law_numbers", "_law_found", "_law_number", "_law_one", "_law_other"] "_law_divisor" s_law_divisor f cd A outer s H E).N[3]? = some ("_law_one" : Str) ∧ (("_law_one" : Str) == ("__debug__" : Str)) = false ∧ (("_law_one" : Str) == ("__classdict__" : Str)) = false := ⟨rfl, by decide, by decide⟩
  have nm4 : (cxD P w K mg base ["_law_numbers", "_law_found", "_law_number", "_law_one", "_law_other"] "_law_divisor" s_law_divisor f cd A outer s H E).N[4]? = some ("_law_other" : Str) ∧ (("_law_other" : Str) == ("__debug__" : Str)) = false ∧ (("_law_other" : Str) == ("__classdict__" : Str)) = false := ⟨rfl, by decide, by decide⟩
  have bn_abs : (cxD P w K mg base ["_law_numbers", "_law_found", "_law_number", "_law_one", "_law_other"] "_law_divisor" s_law_divisor f cd A outer s H E).mg "abs" = none := m_abs
  have bn_int : (cxD P w K mg base ["_law_numbers", "_law_found", "_law_number", "_law_one", "_law_other"] "_law_divisor" s_law_divisor f cd A outer s H E).mg "int" = none := m_int
  obtain ⟨ns, rfl, q⟩ := h
  refine s_cons (s_set (i := 1) ?_)
  walk_at "dd"
  refine s_cut (fun δ μ' => ∃ v2 v3 v4, δ = [some (.lst (ns.map .int)), some (.int (gcdL ns)), v2, v3, v4] ∧ μ' = μ) ?_ ?_
  · refine s_forL (ds := ns.map .int) ?_
    walk_at "dd"
    refine ⟨rfl, fun i δ μ' => ∃ v2 v3 v4, δ = [some (.lst (ns.map .int)), some (.int (gcdL (ns.take i))), v2, v3, v4] ∧ μ' = μ, ⟨none, none, none, rfl, rfl⟩, ?_, ?_⟩
    · rintro i d δ' μ' hd ⟨v2, v3, v4, rfl, rfl⟩
      obtain ⟨n, hn, rfl⟩ := at_ints hd
      refine g_name (i := 2) fun G1 e1 => s_cons (s_set (i := 3) ?_)
      walk_at "dd"
      refine s_cons (s_set (i := 4) ?_)
      walk_at "dd"
      have hg0 := gcdL_nn (ns.take i)
      generalize hg : gcdL (ns.take i) = g at hg0 ⊢
      refine s_cut (fun δ μ2 => δ = [some (.lst (ns.map .int)), some (.int g), some (.int n), some (.int (Int.gcd g n : Int)), some (.int 0)] ∧ μ2 = μ') ?_ ?_
      · refine s_while (fun δ μ2 => ∃ x y : Int, δ = [some (.lst (ns.map .int)), some (.int g), some (.int n), some (.int x), some (.int y)] ∧ μ2 = μ' ∧ 0 ≤ x ∧ 0 ≤ y ∧ Int.gcd x y = Int.gcd g n)
          (fun δ _ => match δ with | [_, _, _, _, some (.int y)] => y.natAbs | _ => 0) ⟨_, g, rfl, rfl, ?_, hg0, ?_⟩ ?_
        · split <;> omega
        · have e : Int.gcd (if n < 0 then -n else n) g = Int.gcd n g := by
            split
            · rw [Int.neg_gcd]
            · rfl
          rw [e, Int.gcd_comm]
        · rintro δ' μ2 ⟨x, y, rfl, rfl, hx, hy, hxy⟩
          walk_at "dd"
          refine wayN (fun h0 => ?_) (fun h0 => ?_)
          · refine s_one (s_par (i := 3) (j := 4) ?_)
            walk_at "dd"
            refine o_mod ⟨h0, ?_⟩
            walk_at "dd"
            have r := fmod_range (i := x) (j := y) (by omega)
            exact ⟨_, _, rfl, ⟨y, x.fmod y, rfl, rfl, hy, r.1, (gcd_fmod x y).trans hxy⟩, fmod_natAbs x y h0⟩
          · subst h0
            refine ⟨?_, rfl⟩
            have e : (Int.gcd g n : Int) = x := by
              rw [← hxy, Int.gcd_zero_right]
              omega
            rw [e]
      · rintro δ' μ2 ⟨rfl, rfl⟩
        refine s_one (s_set (i := 1) ?_)
        walk_at "dd"
        refine ⟨some (.int n), some (.int (Int.gcd g n : Int)), some (.int 0), ?_, rfl⟩
        rw [gcdL_take hn, hg]
        rfl
    · rintro δ' μ' ⟨v2, v3, v4, rfl, rfl⟩
      refine ⟨v2, v3, v4, ?_, rfl⟩
      rw [List.length_map, List.take_length]
  · rintro δ' μ' ⟨v2, v3, v4, rfl, rfl⟩
    refine s_one (s_ret ?_)
    walk_at "dd"
    exact q
theorem gcdL_two (a b : Int) : gcdL [a, b] = (Int.gcd a b : Int) := by
  show (Int.gcd (Int.gcd 0 a : Int) b : Int) = _
  rw [Int.gcd_zero_left]
  have e : Int.gcd ((a.natAbs : Nat) : Int) b = Int.gcd a b := by
    rcases Int.natAbs_eq a with h | h
    · rw [← h]
    · rw [h, Int.natAbs_neg, Int.natAbs_natCast, Int.neg_gcd]
  rw [e]
def spLRatio : DSp := fun ds μ Φ _ => ∃ a b : Int, ds = [.int a, .int b] ∧ b ≠ 0 ∧ b.natAbs < 2 ^ 8000 ∧ Φ (rat a b) μ
theorem ok_lratio (Df : DefT K mg "_law_ratio" s_law_ratio ["_law_up", "_law_down"]) (Cd : Cal P w K mg base 1 "_law_divisor" spDiv) : Cal P w K mg base 2 "_law_ratio" spLRatio := by
  refine Df.cal (k := 1) sc_law_ratio (fun ds μ Φ Ψ ⟨a, b, e, _⟩ => by rw [e]; rfl) (fun ds μ Φ Ψ h => ⟨fun f cd A outer s H E G0 hr hp tk => ?_⟩)
  have hnd := sc_law_ratio.nd
  have nm0 : (cxD P w K mg base ["_law_up", "_law_down", "_law_piece"] "_law_ratio" s_law_ratio f cd A outer s H E).N[0]? = some ("_law_up" : Str) ∧ (("_law_up" : Str) == ("__debug__" : Str)) = false ∧ (("_law_up" : Str) == ("__classdict__" : Str)) = false := ⟨rfl, by decide, by decide⟩
  have nm1 : (cxD P w K mg base ["_law_up", "_law_down", "_law_piece"] "_law_ratio" s_law_ratio f cd A outer s H E).N[1]? = some ("_law_down" : Str) ∧ (("_law_down" : Str) == ("__debug__" : Str)) = false ∧ (("_law_down" : Str) == ("__classdict__" : Str)) = false := ⟨rfl, by decide, by decide⟩
  have nm2 : (cxD P w K mg base ["_law_up", "_law_down", "_law_piece"] "_law_ratio" s_law_ratio f cd A outer s H E).N[2]? = some ("_law_piece" : Str) ∧ (("_law_piece" : Str) == ("__debug__" : Str)) = false ∧ (("_law_piece" : Str) == ("__classdict__" : Str)) = false := ⟨rfl, by decide, by decide⟩
  obtain ⟨a, b, rfl, hb0, hb, q⟩ := h
  refine s_cons (s_set (i := 2) (d_call Cd ?_))
  walk_at "dd"
  refine d_lst ?_
  walk_at "dd"
  refine ⟨(show 2 ≤ sizeLine by decide), ?_⟩
  walk_at "dd"
  refine ⟨[a, b], rfl, ?_⟩
  rw [gcdL_two]
  refine s_cut (fun δ μ' => δ = [some (.int a), some (.int b), some (.int (rG a b))] ∧ μ' = μ) ?_ ?_
  · refine s_if ?_
    walk_at "dd"
    refine way (fun h1 => ?_) (fun h1 => ?_)
    · refine s_one (s_set (i := 2) ?_)
      walk_at "dd"
      refine ⟨?_, rfl⟩
      unfold rG
      rw [if_pos h1]
      rfl
    · refine s_nil ⟨?_, rfl⟩
      unfold rG
      rw [if_neg h1]
      rfl
  · rintro δ μ' ⟨rfl, rfl⟩
    refine s_one (s_ret ?_)
    walk_at "dd"
    refine o_div ⟨rG_div hb0 hb (by decide) (by decide) _, ?_⟩
    walk_at "dd"
    refine o_div ⟨rG_div hb0 hb (by decide) (by decide) _, ?_⟩
    walk_at "dd"
    exact ⟨(show 2 ≤ sizeLine by decide), q⟩
end
end K35

open PySem PySem.Spec PyProof.Rows L2 DL
namespace K35
section
variable {P : Program} {w : World} {K : PySem.W.Frag} {mg : Str → Option Value} {base : Heap}
/-! ### ratios whose bottoms divide a number -/
def unitL (rs : List (Int × Int)) : Int := rs.foldl (fun u r => u.fdiv (Int.gcd u r.2 : Int) * r.2) 1
def tops (rs : List (Int × Int)) : List Int := rs.map fun r => r.1 * (unitL rs).fdiv r.2
theorem unitL_snoc (rs : List (Int × Int)) (r : Int × Int) : unitL (rs ++ [r]) = (unitL rs).fdiv (Int.gcd (unitL rs) r.2 : Int) * r.2 := by
  unfold unitL
  rw [List.foldl_append]
  rfl
theorem unitL_take {rs : List (Int × Int)} {i : Nat} {r : Int × Int} (h : rs[i]? = some r) : unitL (rs.take (i + 1)) = (unitL (rs.take i)).fdiv (Int.gcd (unitL (rs.take i)) r.2 : Int) * r.2 := by
  rw [List.take_add_one, h]
  exact unitL_snoc _ _
theorem gcd_ne {a b : Int} (h : a ≠ 0) : (Int.gcd a b : Int) ≠ 0 := by
  intro z
  have z' : Int.gcd a b = 0 := by omega
  exact h (Int.gcd_eq_zero_iff.mp z').1
theorem fdiv_gcd_mul (a b : Int) : a.fdiv (Int.gcd a b : Int) * (Int.gcd a b : Int) = a := by
  rw [Int.fdiv_eq_ediv_of_dvd (Int.gcd_dvd_left a b)]
  exact Int.ediv_mul_cancel (Int.gcd_dvd_left a b)
theorem fdiv_gcd_pos {a b : Int} (h : 0 < a) : 0 < a.fdiv (Int.gcd a b : Int) := by
  have e := fdiv_gcd_mul a b
  have g : 0 < (Int.gcd a b : Int) := by
    have := gcd_ne (a := a) (b := b) (by omega)
    omega
  refine Classical.byContradiction fun z => ?_
  have := Int.mul_nonpos_of_nonpos_of_nonneg (show a.fdiv (Int.gcd a b : Int) ≤ 0 by omega) (show 0 ≤ (Int.gcd a b : Int) by omega)
  omega
theorem unitL_dvd0 (rs : List (Int × Int)) : ∀ r ∈ rs, r.2 ∣ unitL rs := by
  refine snoc_ind (p := fun rs => ∀ r ∈ rs, r.2 ∣ unitL rs) (fun r h => by cases h) (fun l x ih r hr => ?_) rs
  rw [unitL_snoc]
  have e := fdiv_gcd_mul (unitL l) x.2
  have dx : (Int.gcd (unitL l) x.2 : Int) ∣ x.2 := Int.gcd_dvd_right ..
  rcases List.mem_append.mp hr with hr | hr
  · obtain ⟨k, hk⟩ := dx
    have hU := ih r hr
    have e2 : (unitL l).fdiv (Int.gcd (unitL l) x.2 : Int) * x.2 = unitL l * k := by
      conv => lhs; rw [hk]
      rw [← Int.mul_assoc]
      conv => lhs; arg 1; rw [show (unitL l).fdiv (Int.gcd (unitL l) ((Int.gcd (unitL l) x.2 : Int) * k) : Int) = (unitL l).fdiv (Int.gcd (unitL l) x.2 : Int) from by rw [← hk]]
      rw [e]
    rw [e2]
    exact Int.dvd_mul_of_dvd_left hU
  · rw [List.mem_singleton.mp hr]
    exact Int.dvd_mul_left _ _
theorem unitL_pos0 (rs : List (Int × Int)) : (∀ r ∈ rs, 0 < r.2) → 0 < unitL rs := by
  refine snoc_ind (p := fun rs => (∀ r ∈ rs, 0 < r.2) → 0 < unitL rs) (fun _ => by decide) (fun l x ih h => ?_) rs
  rw [unitL_snoc]
  exact Int.mul_pos (fdiv_gcd_pos (ih fun r hr => h r (List.mem_append_left _ hr))) (h x (by simp))
/-- the least common multiple divides what both divide -/
theorem lcm_dvd {u b M : Int} (hu : 0 < u) (h1 : u ∣ M) (h2 : b ∣ M) : u.fdiv (Int.gcd u b : Int) * b ∣ M := by
  obtain ⟨s, hs⟩ := h1
  obtain ⟨t, ht⟩ := h2
  have g0 := gcd_ne (a := u) (b := b) (by omega)
  have e1 := fdiv_gcd_mul u b
  obtain ⟨b', hb'⟩ := Int.gcd_dvd_right u b
  generalize hg : (Int.gcd u b : Int) = g at *
  generalize hu' : u.fdiv g = u' at *
  have hgn : g.natAbs = Int.gcd u b := by rw [← hg]; simp
  have cop : Int.gcd u' b' = 1 := by
    have e3 : Int.gcd u b = Int.gcd u' b' * g.natAbs := by
      conv => lhs; rw [← e1, hb', Int.mul_comm g b', Int.gcd_mul_right]
    rw [← hgn] at e3
    have hp : 0 < g.natAbs := by omega
    exact Nat.eq_of_mul_eq_mul_right hp (by omega)
  have e4 : u' * s = b' * t := by
    refine Int.eq_of_mul_eq_mul_left g0 ?_
    calc g * (u' * s) = u' * g * s := by rw [← Int.mul_assoc, Int.mul_comm g u']
      _ = u * s := by rw [e1]
      _ = b * t := by rw [← hs, ht]
      _ = g * (b' * t) := by rw [hb', Int.mul_assoc]
  have cn : Nat.Coprime b'.natAbs u'.natAbs := by
    rw [Int.gcd_comm] at cop
    exact cop
  have dn : b'.natAbs ∣ u'.natAbs * s.natAbs := ⟨t.natAbs, by rw [← Int.natAbs_mul, e4, Int.natAbs_mul]⟩
  have d1 : b' ∣ s := Int.natAbs_dvd_natAbs.mp (cn.dvd_of_dvd_mul_left dn)
  obtain ⟨k, hk⟩ := d1
  refine ⟨k, ?_⟩
  rw [hs, hk, ← e1, hb']
  rw [Int.mul_assoc u' g, Int.mul_assoc u' (g * b'), Int.mul_assoc g b' k]
theorem unitL_dvdM {M : Int} (rs : List (Int × Int)) : (∀ r ∈ rs, 0 < r.2 ∧ r.2 ∣ M) → unitL rs ∣ M := by
  refine snoc_ind (p := fun rs => (∀ r ∈ rs, 0 < r.2 ∧ r.2 ∣ M) → unitL rs ∣ M) (fun _ => Int.one_dvd M) (fun l x ih h => ?_) rs
  have hl : ∀ r ∈ l, 0 < r.2 ∧ r.2 ∣ M := fun r hr => h r (List.mem_append_left _ hr)
  rw [unitL_snoc]
  exact lcm_dvd (unitL_pos0 l fun r hr => (hl r hr).1) (ih hl) (h x (by simp)).2
/-- the bottoms divide M, the values are within V -/
structure RM (M : Int) (V : Nat) (r : Int × Int) : Prop where
  pos : 0 < r.2
  dv : r.2 ∣ M
  val : r.1.natAbs ≤ V * r.2.natAbs
/-- M and V are small enough -/
structure MV (M : Int) (V : Nat) : Prop where
  pos : 0 < M
  m : M.natAbs < 2 ^ 1000
  v : V < 2 ^ 1000
theorem MV.bot {M : Int} {V : Nat} (h : MV M V) {b : Int} (hb : 0 < b) (hd : b ∣ M) : b.natAbs < 2 ^ 1000 := by
  have h1 := Int.le_of_dvd h.pos hd
  have h2 := h.m
  have h3 := h.pos
  omega
theorem RM.botB {M : Int} {V : Nat} {r : Int × Int} (hr : RM M V r) (h : MV M V) : r.2.natAbs < 2 ^ 1000 := h.bot hr.pos hr.dv
theorem RM.topB {M : Int} {V : Nat} {r : Int × Int} (hr : RM M V r) (h : MV M V) : r.1.natAbs < 2 ^ 2000 := by
  refine Nat.lt_of_le_of_lt hr.val ?_
  have h1 := hr.botB h
  have h2 := h.v
  rw [show (2000 : Nat) = 1000 + 1000 from rfl, Nat.pow_add]
  exact Nat.mul_lt_mul'' h2 h1
theorem unitL_M {M : Int} {V : Nat} (h : MV M V) {rs : List (Int × Int)} (hr : ∀ r ∈ rs, RM M V r) : 0 < unitL rs ∧ (unitL rs).natAbs < 2 ^ 1000 := by
  have h1 := unitL_pos0 rs fun r h => (hr r h).pos
  exact ⟨h1, h.bot h1 (unitL_dvdM rs fun r h => ⟨(hr r h).pos, (hr r h).dv⟩)⟩
theorem at_rats {rs : List (Int × Int)} {i : Nat} {d : D} (h : (rs.map dR)[i]? = some d) : ∃ r, rs[i]? = some r ∧ d = dR r := by
  rw [List.getElem?_map] at h
  cases e : rs[i]? with
  | none => rw [e] at h; cases h
  | some n => rw [e] at h; cases h; exact ⟨n, rfl, rfl⟩
theorem mem_at {α : Type} {l : List α} {i : Nat} {x : α} (h : l[i]? = some x) : x ∈ l := List.mem_of_getElem? h
def spTogether : DSp := fun ds μ Φ _ => ∃ (M : Int) (V : Nat) (rs : List (Int × Int)), (ds = [.lst (rs.map dR)] ∨ ds = [.tup (rs.map dR)]) ∧ MV M V ∧ (∀ r ∈ rs, RM M V r) ∧ rs.length ≤ 100 ∧ ∀ p, μ p = none → Φ (.tup [.int (unitL rs), .ref p]) (updM μ p (.lst ((tops rs).map .int)))
/-- [top * (unit // bottom) ..] -/
def spScaled : DSp := fun ds μ Φ _ => ∃ (M : Int) (V : Nat) (rs : List (Int × Int)), (ds = [.lst (rs.map dR), .int (unitL rs)] ∨ ds = [.tup (rs.map dR), .int (unitL rs)]) ∧ MV M V ∧ (∀ r ∈ rs, RM M V r) ∧ rs.length ≤ 100 ∧ ∀ p, μ p = none → Φ (.ref p) (updM μ p (.lst ((tops rs).map .int)))
theorem ok_scaled (Df : DefT K mg "scaled" s_scaled ["ratios", "unit"]) : Cal P w K mg base 1 "scaled" spScaled := by
  refine Df.cal (k := 0) sc_scaled (fun ds μ Φ Ψ ⟨M, V, rs, e, _⟩ => by rcases e with e | e <;> rw [e] <;> rfl) (fun ds μ Φ Ψ h => ⟨fun f cd A outer s H E G0 hr hp tk => ?_⟩)
  have hnd := sc_scaled.nd
  have nm0 : (cxD P w K mg base ["ratios", "unit", "top", "bottom"] "scaled" s_scaled f cd A outer s H E).N[0]? = some ("ratios" : Str) ∧ (("ratios" : Str) == ("__debug__" : Str)) = false ∧ (("ratios" : Str) == ("__classdict__" : Str)) = false := ⟨rfl, by decide, by decide⟩
  have nm1 : (cxD P w K mg base ["ratios", "unit", "top", "bottom"] "scaled" s_scaled f cd A outer s H E).N[1]? = some ("unit" : Str) ∧ (("unit" : Str) == ("__debug__" : Str)) = false ∧ (("unit" : Str) == ("__classdict__" : Str)) = false := ⟨rfl, by decide, by decide⟩
  have nm2 : (cxD P w K mg base ["ratios", "unit", "top", "bottom"] "scaled" s_scaled f cd A outer s H E).N[2]? = some ("top" : Str) ∧ (("top" : Str) == ("__debug__" : Str)) = false ∧ (("top" : Str) == ("__classdict__" : Str)) = false := ⟨rfl, by decide, by decide⟩
  have nm3 : (cxD P w K mg base ["ratios", "unit", "top", "bottom"] "scaled" s_scaled f cd A outer s H E).N[3]? = some ("bottom" : Str) ∧ (("bottom" : Str) == ("__debug__" : Str)) = false ∧ (("bottom" : Str) == ("__classdict__" : Str)) = false := ⟨rfl, by decide, by decide⟩
  obtain ⟨M, V, rs, e, hMV, hok, hl, q⟩ := h
  have hU := unitL_M hMV hok
  rcases e with rfl | rfl
  · refine s_one (s_ret ?_)
    refine d_lcL2 (own := [("top", 2), ("bottom", 3)]) (vs := [2, 3]) 2 3 ?_
    walk_at "dd"
    refine ⟨_, rfl, fun i acc μ2 => acc = ((rs.take i).map fun r => r.1 * (unitL rs).fdiv r.2).map .int ∧ μ2 = μ, ⟨rfl, rfl⟩, ?_, ?_⟩
    · rintro i d acc μ2 p hd ⟨rfl, rfl⟩ hp
      obtain ⟨r, hr2, rfl⟩ := at_rats hd
      have hrk := hok r (mem_at hr2)
      refine ⟨_, _, rfl, ?_, fun G1 s H0 C cl fp => ?_⟩
      · rw [List.length_map, List.length_map, List.length_take, sizeLine_eq]
        omega
      · walk_at "dd"
        refine o_div ⟨divOk (by have := hrk.pos; omega) (hrk.botB hMV) (by decide), ?_⟩
        refine o_mul ⟨mulOk (b := 1000) (hrk.topB hMV) ?_ (by decide), ?_⟩
        · refine Nat.lt_of_le_of_lt ?_ hU.2
          rw [Int.fdiv_eq_ediv_of_nonneg _ (by have := hrk.pos; omega)]
          exact Int.natAbs_ediv_le_natAbs _ _
        · refine ⟨μ2, rfl, hp, ?_, rfl⟩
          rw [List.take_add_one, hr2, List.map_append, List.map_append]
          rfl
    · rintro acc μ2 p ⟨rfl, rfl⟩ hp
      rw [List.length_map, List.take_length]
      walk_at "dd"
      exact q p hp
  · refine s_one (s_ret ?_)
    refine d_lcT2 (own := [("top", 2), ("bottom", 3)]) (vs := [2, 3]) 2 3 ?_
    walk_at "dd"
    refine ⟨_, rfl, fun i acc μ2 => acc = ((rs.take i).map fun r => r.1 * (unitL rs).fdiv r.2).map .int ∧ μ2 = μ, ⟨rfl, rfl⟩, ?_, ?_⟩
    · rintro i d acc μ2 p hd ⟨rfl, rfl⟩ hp
      obtain ⟨r, hr2, rfl⟩ := at_rats hd
      have hrk := hok r (mem_at hr2)
      refine ⟨_, _, rfl, ?_, fun G1 s H0 C cl fp => ?_⟩
      · rw [List.length_map, List.length_map, List.length_take, sizeLine_eq]
        omega
      · walk_at "dd"
        refine o_div ⟨divOk (by have := hrk.pos; omega) (hrk.botB hMV) (by decide), ?_⟩
        refine o_mul ⟨mulOk (b := 1000) (hrk.topB hMV) ?_ (by decide), ?_⟩
        · refine Nat.lt_of_le_of_lt ?_ hU.2
          rw [Int.fdiv_eq_ediv_of_nonneg _ (by have := hrk.pos; omega)]
          exact Int.natAbs_ediv_le_natAbs _ _
        · refine ⟨μ2, rfl, hp, ?_, rfl⟩
          rw [List.take_add_one, hr2, List.map_append, List.map_append]
          rfl
    · rintro acc μ2 p ⟨rfl, rfl⟩ hp
      rw [List.length_map, List.take_length]
      walk_at "dd"
      exact q p hp
theorem ok_together (Df : DefT K mg "together" s_together ["ratios"]) (Cg : Cal P w K mg base 1 "common_divisor" spGcd) (Cs : Cal P w K mg base 1 "scaled" spScaled) : Cal P w K mg base 2 "together" spTogether := by
  refine Df.cal (k := 1) sc_together (fun ds μ Φ Ψ ⟨M, V, rs, e, _⟩ => by rcases e with e | e <;> rw [e] <;> rfl) (fun ds μ Φ Ψ h => ⟨fun f cd A outer s H E G0 hr hp tk => ?_⟩)
  have hnd := sc_together.nd
  have nm0 : (cxD P w K mg base ["ratios", "unit", "top", "bottom"] "together" s_together f cd A outer s H E).N[0]? = some ("ratios" : Str) ∧ (("ratios" : Str) == ("__debug__" : Str)) = false ∧ (("ratios" : Str) == ("__classdict__" : Str)) = false := ⟨rfl, by decide, by decide⟩
  have nm1 : (cxD P w K mg base ["ratios", "unit", "top", "bottom"] "together" s_together f cd A outer s H E).N[1]? = some ("unit" : Str) ∧ (("unit" : Str) == ("__debug__" : Str)) = false ∧ (("unit" : Str) == ("__classdict__" : Str)) = false := ⟨rfl, by decide, by decide⟩
  have nm2 : (cxD P w K mg base ["ratios", "unit", "top", "bottom"] "together" s_together f cd A outer s H E).N[2]? = some ("top" : Str) ∧ (("top" : Str) == ("__debug__" : Str)) = false ∧ (("top" : Str) == ("__classdict__" : Str)) = false := ⟨rfl, by decide, by decide⟩
  have nm3 : (cxD P w K mg base ["ratios", "unit", "top", "bottom"] "together" s_together f cd A outer s H E).N[3]? = some ("bottom" : Str) ∧ (("bottom" : Str) == ("__debug__" : Str)) = false ∧ (("bottom" : Str) == ("__classdict__" : Str)) = false := ⟨rfl, by decide, by decide⟩
  obtain ⟨M, V, rs, e, hMV, hok, hl, q⟩ := h
  have hU := unitL_M hMV hok
  rcases e with rfl | rfl
  · refine s_cons (s_set (i := 1) ?_)
    walk_at "dd"
    refine s_cut (fun δ μ' => ∃ v w, δ = [some (.lst (rs.map dR)), some (.int (unitL rs)), v, w] ∧ μ' = μ) ?_ ?_
    · refine s_forL (ds := rs.map dR) ?_
      walk_at "dd"
      refine ⟨rfl, fun i δ μ' => ∃ v w, δ = [some (.lst (rs.map dR)), some (.int (unitL (rs.take i))), v, w] ∧ μ' = μ, ⟨none, none, rfl, rfl⟩, ?_, ?_⟩
      · rintro i d δ' μ' hd ⟨v, w, rfl, rfl⟩
        obtain ⟨r, hr2, rfl⟩ := at_rats hd
        have hi := unitL_M hMV (rs := rs.take i) fun r hr => hok r (List.mem_of_mem_take hr)
        have hrk := hok r (mem_at hr2)
        have hub : (unitL (rs.take i)).natAbs < 2 ^ 1000 := hi.2
        have hgn := gcd_ne (a := unitL (rs.take i)) (b := r.2) (by omega)
        have hgs : ((Int.gcd (unitL (rs.take i)) r.2 : Nat) : Int).natAbs < 2 ^ 1000 := Nat.lt_of_le_of_lt (by rw [Int.natAbs_natCast]; exact gcd_le (by have := hrk.pos; omega)) (hrk.botB hMV)
        refine g_pair (i := 2) (j := 3) fun G1 e1 => s_one (s_set (i := 1) (d_op (d_op ?_)))
        walk_at "dd"
        refine d_call Cg ?_
        walk_at "dd"
        refine ⟨_, _, rfl, ?_⟩
        refine o_div ⟨divOk hgn hgs (by decide), ?_⟩
        walk_at "dd"
        refine o_mul ⟨mulOk (Nat.lt_of_le_of_lt (abs_of_mul (fdiv_gcd_mul _ _) hgn) hub) (hrk.botB hMV) (by decide), ?_⟩
        refine ⟨some (.int r.1), some (.int r.2), ?_, rfl⟩
        rw [unitL_take hr2]
        rfl
      · rintro δ' μ' ⟨v, w, rfl, rfl⟩
        refine ⟨v, w, ?_, rfl⟩
        rw [List.length_map, List.take_length]
    · rintro δ' μ' ⟨v, w, rfl, rfl⟩
      refine s_one (s_ret (d_tup ?_))
      walk_at "dd"
      refine d_call Cs ?_
      walk_at "dd"
      refine ⟨M, V, rs, .inl rfl, hMV, hok, hl, fun p hp => ?_⟩
      walk_at "dd"
      exact ⟨(show 2 ≤ sizeLine by decide), q p hp⟩
  · refine s_cons (s_set (i := 1) ?_)
    walk_at "dd"
    refine s_cut (fun δ μ' => ∃ v w, δ = [some (.tup (rs.map dR)), some (.int (unitL rs)), v, w] ∧ μ' = μ) ?_ ?_
    · refine s_forT (ds := rs.map dR) ?_
      walk_at "dd"
      refine ⟨rfl, fun i δ μ' => ∃ v w, δ = [some (.tup (rs.map dR)), some (.int (unitL (rs.take i))), v, w] ∧ μ' = μ, ⟨none, none, rfl, rfl⟩, ?_, ?_⟩
      · rintro i d δ' μ' hd ⟨v, w, rfl, rfl⟩
        obtain ⟨r, hr2, rfl⟩ := at_rats hd
        have hi := unitL_M hMV (rs := rs.take i) fun r hr => hok r (List.mem_of_mem_take hr)
        have hrk := hok r (mem_at hr2)
        have hub : (unitL (rs.take i)).natAbs < 2 ^ 1000 := hi.2
        have hgn := gcd_ne (a := unitL (rs.take i)) (b := r.2) (by omega)
        have hgs : ((Int.gcd (unitL (rs.take i)) r.2 : Nat) : Int).natAbs < 2 ^ 1000 := Nat.lt_of_le_of_lt (by rw [Int.natAbs_natCast]; exact gcd_le (by have := hrk.pos; omega)) (hrk.botB hMV)
        refine g_pair (i := 2) (j := 3) fun G1 e1 => s_one (s_set (i := 1) (d_op (d_op ?_)))
        walk_at "dd"
        refine d_call Cg ?_
        walk_at "dd"
        refine ⟨_, _, rfl, ?_⟩
        refine o_div ⟨divOk hgn hgs (by decide), ?_⟩
        walk_at "dd"
        refine o_mul ⟨mulOk (Nat.lt_of_le_of_lt (abs_of_mul (fdiv_gcd_mul _ _) hgn) hub) (hrk.botB hMV) (by decide), ?_⟩
        refine ⟨some (.int r.1), some (.int r.2), ?_, rfl⟩
        rw [unitL_take hr2]
        rfl
      · rintro δ' μ' ⟨v, w, rfl, rfl⟩
        refine ⟨v, w, ?_, rfl⟩
        rw [List.length_map, List.take_length]
    · rintro δ' μ' ⟨v, w, rfl, rfl⟩
      refine s_one (s_ret (d_tup ?_))
      walk_at "dd"
      refine d_call Cs ?_
      walk_at "dd"
      refine ⟨M, V, rs, .inr rfl, hMV, hok, hl, fun p hp => ?_⟩
      walk_at "dd"
      exact ⟨(show 2 ≤ sizeLine by decide), q p hp⟩

end
end K35

open PySem PySem.Spec PyProof.Rows L2 DL
namespace K35
section
variable {P : Program} {w : World} {K : PySem.W.Frag} {mg : Str → Option Value} {base : Heap}
/-! ### ratios in lowest terms -/
def ratP (a b : Int) : Int × Int := (rT a b, rB a b)
theorem rat_dR (a b : Int) : rat a b = dR (ratP a b) := rfl
structure RS (r : Int × Int) : Prop where
  lw : Low r
  top : r.1.natAbs < 2 ^ 2000
  bot : r.2.natAbs < 2 ^ 2000
theorem low_uniq {r s : Int × Int} (h1 : Low r) (h2 : Low s) (e : r.1 * s.2 = s.1 * r.2) : r = s := by
  have n1 : r.1.natAbs * s.2.natAbs = s.1.natAbs * r.2.natAbs := by rw [← Int.natAbs_mul, ← Int.natAbs_mul, e]
  have c1 : Nat.Coprime r.2.natAbs r.1.natAbs := by
    have := h1.low
    rw [Int.gcd_comm] at this
    exact this
  have c2 : Nat.Coprime s.2.natAbs s.1.natAbs := by
    have := h2.low
    rw [Int.gcd_comm] at this
    exact this
  have d1 : r.2.natAbs ∣ s.2.natAbs := c1.dvd_of_dvd_mul_left ⟨s.1.natAbs, by rw [n1, Nat.mul_comm]⟩
  have d2 : s.2.natAbs ∣ r.2.natAbs := c2.dvd_of_dvd_mul_left ⟨r.1.natAbs, by rw [← n1, Nat.mul_comm]⟩
  have e2 : r.2.natAbs = s.2.natAbs := Nat.dvd_antisymm d1 d2
  have p1 := h1.pos
  have p2 := h2.pos
  have e3 : r.2 = s.2 := by omega
  have e4 : r.1 = s.1 := by
    rw [e3] at e
    exact Int.eq_of_mul_eq_mul_right (by omega) e
  exact Prod.ext e4 e3
theorem ratP_low {a b : Int} (h : 0 < b) : Low (ratP a b) := low_rat h
theorem ratP_val (a b : Int) : (ratP a b).1 * b = a * (ratP a b).2 := by
  have e1 := rT_mul a b
  have e2 := rB_mul a b
  show rT a b * b = a * rB a b
  calc rT a b * b = rT a b * (rB a b * rG a b) := by rw [e2]
    _ = rT a b * rG a b * rB a b := by rw [Int.mul_comm (rB a b), Int.mul_assoc]
    _ = a * rB a b := by rw [e1]
theorem ratP_uniq {a b : Int} {s : Int × Int} (hb : 0 < b) (hs : Low s) (e : a * s.2 = s.1 * b) : ratP a b = s := by
  refine low_uniq (ratP_low hb) hs ?_
  have v := ratP_val a b
  have hb0 : b ≠ 0 := by omega
  refine Int.eq_of_mul_eq_mul_right hb0 ?_
  calc (ratP a b).1 * s.2 * b = (ratP a b).1 * b * s.2 := by rw [Int.mul_assoc, Int.mul_comm s.2, ← Int.mul_assoc]
    _ = a * (ratP a b).2 * s.2 := by rw [v]
    _ = a * s.2 * (ratP a b).2 := by rw [Int.mul_assoc, Int.mul_comm (ratP a b).2, ← Int.mul_assoc]
    _ = s.1 * b * (ratP a b).2 := by rw [e]
    _ = s.1 * (ratP a b).2 * b := by rw [Int.mul_assoc, Int.mul_comm b, ← Int.mul_assoc]
/-- a sum of ratios, not brought down -/
def sumND (rs : List (Int × Int)) : Int × Int := rs.foldl (fun a r => (a.1 * r.2 + r.1 * a.2, a.2 * r.2)) (0, 1)
theorem sumND_snoc (rs : List (Int × Int)) (r : Int × Int) : sumND (rs ++ [r]) = ((sumND rs).1 * r.2 + r.1 * (sumND rs).2, (sumND rs).2 * r.2) := by
  unfold sumND
  rw [List.foldl_append]
  rfl
theorem sumND_pos : ∀ rs : List (Int × Int), (∀ r ∈ rs, 0 < r.2) → 0 < (sumND rs).2 := fun rs => by
  refine snoc_ind (p := fun rs => (∀ r ∈ rs, 0 < r.2) → 0 < (sumND rs).2) (fun _ => by decide) (fun l x ih h => ?_) rs
  rw [sumND_snoc]
  exact Int.mul_pos (ih fun r hr => h r (List.mem_append_left _ hr)) (h x (by simp))
/-- the same, brought down after each ratio -/
def tot (rs : List (Int × Int)) : Int × Int := rs.foldl (fun a r => ratP (a.1 * r.2 + r.1 * a.2) (a.2 * r.2)) (0, 1)
theorem tot_snoc (rs : List (Int × Int)) (r : Int × Int) : tot (rs ++ [r]) = ratP ((tot rs).1 * r.2 + r.1 * (tot rs).2) ((tot rs).2 * r.2) := by
  unfold tot
  rw [List.foldl_append]
  rfl
theorem tot_take {rs : List (Int × Int)} {i : Nat} {r : Int × Int} (h : rs[i]? = some r) : tot (rs.take (i + 1)) = ratP ((tot (rs.take i)).1 * r.2 + r.1 * (tot (rs.take i)).2) ((tot (rs.take i)).2 * r.2) := by
  rw [List.take_add_one, h]
  exact tot_snoc _ _
theorem tot_low : ∀ rs : List (Int × Int), (∀ r ∈ rs, 0 < r.2) → Low (tot rs) := fun rs => by
  refine snoc_ind (p := fun rs => (∀ r ∈ rs, 0 < r.2) → Low (tot rs)) (fun _ => ⟨by decide, by decide⟩) (fun l x ih h => ?_) rs
  rw [tot_snoc]
  exact ratP_low (Int.mul_pos (ih fun r hr => h r (List.mem_append_left _ hr)).pos (h x (by simp)))
theorem tot_val : ∀ rs : List (Int × Int), (∀ r ∈ rs, 0 < r.2) → (tot rs).1 * (sumND rs).2 = (sumND rs).1 * (tot rs).2 := fun rs => by
  refine snoc_ind (p := fun rs => (∀ r ∈ rs, 0 < r.2) → (tot rs).1 * (sumND rs).2 = (sumND rs).1 * (tot rs).2) (fun _ => by decide) (fun l x ih h => ?_) rs
  have hl : ∀ r ∈ l, 0 < r.2 := fun r hr => h r (List.mem_append_left _ hr)
  have i1 := ih hl
  have lw := tot_low l hl
  have hx : 0 < x.2 := h x (by simp)
  have v := ratP_val ((tot l).1 * x.2 + x.1 * (tot l).2) ((tot l).2 * x.2)
  rw [tot_snoc, sumND_snoc]
  generalize ratP ((tot l).1 * x.2 + x.1 * (tot l).2) ((tot l).2 * x.2) = s at v
  have t0 : (tot l).2 ≠ 0 := by have := lw.pos; omega
  refine Int.eq_of_mul_eq_mul_right t0 ?_
  show s.1 * ((sumND l).2 * x.2) * (tot l).2 = ((sumND l).1 * x.2 + x.1 * (sumND l).2) * s.2 * (tot l).2
  generalize (tot l).1 = t1 at *
  generalize (tot l).2 = t2 at *
  generalize (sumND l).1 = n1 at *
  generalize (sumND l).2 = d1 at *
  calc s.1 * (d1 * x.2) * t2 = s.1 * (t2 * x.2) * d1 := by
        rw [Int.mul_assoc s.1 (d1 * x.2) t2, Int.mul_assoc s.1 (t2 * x.2) d1, Int.mul_assoc d1, Int.mul_comm t2 x.2, Int.mul_comm (x.2 * t2) d1]
    _ = (t1 * x.2 + x.1 * t2) * s.2 * d1 := by rw [v]
    _ = (t1 * d1 * x.2 + x.1 * t2 * d1) * s.2 := by
        rw [Int.mul_assoc, Int.mul_comm s.2 d1, ← Int.mul_assoc, Int.add_mul, Int.mul_assoc t1 x.2 d1, Int.mul_comm x.2 d1, ← Int.mul_assoc]
    _ = (n1 * t2 * x.2 + x.1 * t2 * d1) * s.2 := by rw [i1]
    _ = (n1 * x.2 + x.1 * d1) * s.2 * t2 := by
        rw [Int.mul_assoc _ s.2 t2, Int.mul_comm s.2 t2, ← Int.mul_assoc, Int.add_mul _ _ t2, Int.mul_assoc n1 t2 x.2, Int.mul_comm t2 x.2, ← Int.mul_assoc n1 x.2 t2, Int.mul_assoc x.1 t2 d1, Int.mul_comm t2 d1, ← Int.mul_assoc x.1 d1 t2]
theorem tops_sum (U : Int) : ∀ rs : List (Int × Int), (∀ r ∈ rs, 0 < r.2 ∧ r.2 ∣ U) → (rs.map fun r => r.1 * U.fdiv r.2).sum * (sumND rs).2 = (sumND rs).1 * U := fun rs => by
  refine snoc_ind (p := fun rs => (∀ r ∈ rs, 0 < r.2 ∧ r.2 ∣ U) → (rs.map fun r => r.1 * U.fdiv r.2).sum * (sumND rs).2 = (sumND rs).1 * U) (fun _ => by simp [sumND]) (fun l x ih h => ?_) rs
  have i1 := ih fun r hr => h r (List.mem_append_left _ hr)
  obtain ⟨p, dv⟩ := h x (by simp)
  have e : U.fdiv x.2 * x.2 = U := by
    rw [Int.fdiv_eq_ediv_of_dvd dv]
    exact Int.ediv_mul_cancel dv
  rw [sumND_snoc, List.map_append, List.sum_append]
  show ((l.map fun r => r.1 * U.fdiv r.2).sum + ([x].map fun r => r.1 * U.fdiv r.2).sum) * ((sumND l).2 * x.2) = ((sumND l).1 * x.2 + x.1 * (sumND l).2) * U
  have e1 : ([x].map fun r => r.1 * U.fdiv r.2).sum = x.1 * U.fdiv x.2 := by simp
  rw [e1]
  generalize (l.map fun r => r.1 * U.fdiv r.2).sum = S at *
  generalize (sumND l).1 = n1 at *
  generalize (sumND l).2 = d1 at *
  generalize U.fdiv x.2 = k at *
  calc (S + x.1 * k) * (d1 * x.2) = S * d1 * x.2 + x.1 * d1 * (k * x.2) := by
        rw [Int.add_mul, ← Int.mul_assoc, Int.mul_assoc x.1 k, ← Int.mul_assoc k d1 x.2, Int.mul_comm k d1, Int.mul_assoc d1 k x.2, ← Int.mul_assoc x.1 d1]
    _ = n1 * U * x.2 + x.1 * d1 * U := by rw [i1, e]
    _ = (n1 * x.2 + x.1 * d1) * U := by rw [Int.add_mul, Int.mul_assoc n1 U, Int.mul_comm U, ← Int.mul_assoc]
theorem added_eq {rs : List (Int × Int)} (hp : ∀ r ∈ rs, 0 < r.2) : ratP (tops rs).sum (unitL rs) = tot rs := by
  have hU := unitL_pos0 rs hp
  refine ratP_uniq hU (tot_low rs hp) ?_
  have a := tops_sum (unitL rs) rs fun r hr => ⟨hp r hr, unitL_dvd0 rs r hr⟩
  have b := tot_val rs hp
  have d0 : (sumND rs).2 ≠ 0 := by have := sumND_pos rs hp; omega
  refine Int.eq_of_mul_eq_mul_right d0 ?_
  have a' : (tops rs).sum * (sumND rs).2 = (sumND rs).1 * unitL rs := a
  generalize (tops rs).sum = S at *
  generalize (sumND rs).1 = n1 at *
  generalize (sumND rs).2 = d1 at *
  generalize unitL rs = U at *
  calc S * (tot rs).2 * d1 = S * d1 * (tot rs).2 := by rw [Int.mul_assoc, Int.mul_comm (tot rs).2, ← Int.mul_assoc]
    _ = n1 * U * (tot rs).2 := by rw [a']
    _ = n1 * (tot rs).2 * U := by rw [Int.mul_assoc, Int.mul_comm U, ← Int.mul_assoc]
    _ = (tot rs).1 * d1 * U := by rw [b]
    _ = (tot rs).1 * U * d1 := by rw [Int.mul_assoc, Int.mul_comm d1, ← Int.mul_assoc]
theorem tops_val {M : Int} {V : Nat} {rs : List (Int × Int)} (hr : ∀ r ∈ rs, RM M V r) {r : Int × Int} (h : r ∈ rs) : (r.1 * (unitL rs).fdiv r.2).natAbs ≤ V * (unitL rs).natAbs := by
  have dv := unitL_dvd0 rs r h
  have e : (unitL rs).fdiv r.2 * r.2 = unitL rs := by
    rw [Int.fdiv_eq_ediv_of_dvd dv]
    exact Int.ediv_mul_cancel dv
  have v := (hr r h).val
  generalize (unitL rs).fdiv r.2 = k at e ⊢
  rw [← e, Int.natAbs_mul, Int.natAbs_mul]
  calc r.1.natAbs * k.natAbs ≤ V * r.2.natAbs * k.natAbs := Nat.mul_le_mul_right _ v
    _ = V * (k.natAbs * r.2.natAbs) := by rw [Nat.mul_assoc, Nat.mul_comm r.2.natAbs]
theorem sum_abs {l : List Int} {b : Nat} (h : ∀ x ∈ l, x.natAbs ≤ b) : l.sum.natAbs ≤ l.length * b := by
  induction l with
  | nil => simp
  | cons x l ih =>
    have h1 := h x List.mem_cons_self
    have h2 := ih fun y hy => h y (List.mem_cons_of_mem _ hy)
    rw [List.sum_cons, List.length_cons, Nat.succ_mul]
    have := Int.natAbs_add_le x l.sum
    omega
theorem ratP_bot_dvd (a b : Int) : (ratP a b).2 ∣ b := ⟨rG a b, (rB_mul a b).symm⟩
theorem tot_RM {M : Int} {V : Nat} {rs : List (Int × Int)} (hr : ∀ r ∈ rs, RM M V r) : RM M (rs.length * V) (tot rs) := by
  have hp : ∀ r ∈ rs, 0 < r.2 := fun r h => (hr r h).pos
  have hU := unitL_pos0 rs hp
  have lw := tot_low rs hp
  have e := added_eq hp
  have hd : (tot rs).2 ∣ unitL rs := by
    rw [← e]
    exact ratP_bot_dvd _ _
  refine ⟨lw.pos, Int.dvd_trans hd (unitL_dvdM rs fun r h => ⟨hp r h, (hr r h).dv⟩), ?_⟩
  have hs : (tops rs).sum.natAbs ≤ rs.length * (V * (unitL rs).natAbs) := by
    have := sum_abs (l := tops rs) (b := V * (unitL rs).natAbs) fun x hx => by
      unfold tops at hx
      obtain ⟨r, h, rfl⟩ := List.mem_map.mp hx
      exact tops_val hr h
    unfold tops at this ⊢
    rw [List.length_map] at this
    exact this
  have v := ratP_val (tops rs).sum (unitL rs)
  rw [e] at v
  have va : (tot rs).1.natAbs * (unitL rs).natAbs = (tops rs).sum.natAbs * (tot rs).2.natAbs := by rw [← Int.natAbs_mul, v, Int.natAbs_mul]
  have h3 : (tot rs).1.natAbs * (unitL rs).natAbs ≤ (rs.length * V * (tot rs).2.natAbs) * (unitL rs).natAbs := by
    rw [va]
    calc (tops rs).sum.natAbs * (tot rs).2.natAbs ≤ rs.length * (V * (unitL rs).natAbs) * (tot rs).2.natAbs := Nat.mul_le_mul_right _ hs
      _ = rs.length * V * (tot rs).2.natAbs * (unitL rs).natAbs := by
        rw [← Nat.mul_assoc, Nat.mul_assoc (rs.length * V), Nat.mul_comm (unitL rs).natAbs, ← Nat.mul_assoc]
  exact Nat.le_of_mul_le_mul_right h3 (by omega)
end
end K35

open PySem PySem.Spec PyProof.Rows L2 DL
namespace K35
section
variable {P : Program} {w : World} {K : PySem.W.Frag} {mg : Str → Option Value} {base : Heap}
/-! ### questions about values -/
def isI : D → Bool
  | .int _ => true
  | _ => false
def isIL : D → Bool
  | .lst ds => ds.all isI
  | .tup ds => ds.all isI
  | _ => false
/-- plain data; its items too -/
def Pl1 (d : D) : Prop := ∃ t, tyD d = some t
def Pl2 (d : D) : Prop := Pl1 d ∧ ∀ ds, (d = .lst ds ∨ d = .tup ds) → ds.length ≤ 1000 ∧ ∀ x ∈ ds, Pl1 x
theorem pl1_int (i : Int) : Pl1 (.int i) := ⟨_, rfl⟩
def spPI : DSp := fun ds μ Φ _ => ∃ d, ds = [d] ∧ Pl1 d ∧ Φ (.bl (isI d)) μ
theorem ok_pi (Df : DefT K mg "plain_integer" s_plain_integer ["value"]) (m_isinstance : mg "isinstance" = none) (m_int : mg "int" = none) (m_bool : mg "bool" = none) : Cal P w K mg base 1 "plain_integer" spPI := by
  refine Df.cal (k := 0) sc_plain_integer (fun ds μ Φ Ψ ⟨a, e, _⟩ => by rw [e]; rfl) (fun ds μ Φ Ψ h => ⟨fun f cd A outer s H E G0 hr hp tk => ?_⟩)
  have hnd := sc_plain_integer.nd
  have nm0 : (cxD P w K mg base ["value"] "plain_integer" s_plain_integer f cd A outer s H E).N[0]? = some ("value" : Str) ∧ (("value" : Str) == ("__debug__" : Str)) = false ∧ (("value" : Str) == ("__classdict__" : Str)) = false := ⟨rfl, by decide, by decide⟩
  have bn_isinstance : (cxD P w K mg base ["value"] "plain_integer" s_plain_integer f cd A outer s H E).mg "isinstance" = none := m_isinstance
  have bn_int : (cxD P w K mg base ["value"] "plain_integer" s_plain_integer f cd A outer s H E).mg "int" = none := m_int
  have bn_bool : (cxD P w K mg base ["value"] "plain_integer" s_plain_integer f cd A outer s H E).mg "bool" = none := m_bool
  obtain ⟨d, rfl, ⟨t, ht⟩, q⟩ := h
  refine s_one (s_ret (d_and ?_))
  walk_at "dd"
  cases d with
  | int i =>
    refine c_isi (k := true) (bl_ex (wayT (d_one (d_not ?_))))
    walk_at "dd"
    refine c_isi (k := false) (bl_ex ?_)
    exact q
  | bl b =>
    refine c_isi (k := true) (bl_ex (wayT (d_one (d_not ?_))))
    walk_at "dd"
    refine c_isi (k := true) (bl_ex ?_)
    exact q
  | non => exact c_isi (k := false) (bl_ex (wayF q))
  | str x => exact c_isi (k := false) (bl_ex (wayF q))
  | lst ds => exact c_isi (k := false) (bl_ex (wayF q))
  | tup ds => exact c_isi (k := false) (bl_ex (wayF q))
  | dck ks => exact c_isi (k := false) (bl_ex (wayF q))
  | _ => cases ht
theorem all_bls (ds : List D) (f : D → Bool) : (ds.map f).all id = ds.all f := by
  rw [List.all_map]
  rfl
theorem map_bl (ds : List D) (f : D → Bool) : ds.map (fun d => D.bl (f d)) = (ds.map f).map D.bl := by
  rw [List.map_map]
  rfl
def spIL : DSp := fun ds μ Φ _ => ∃ d, ds = [d] ∧ Pl2 d ∧ Φ (.bl (isIL d)) μ
theorem ok_il (Df : DefT K mg "integer_list" s_integer_list ["value"]) (Cp : Cal P w K mg base 1 "plain_integer" spPI) (m_isinstance : mg "isinstance" = none) (m_list : mg "list" = none) (m_tuple : mg "tuple" = none) (m_all : mg "all" = none) : Cal P w K mg base 2 "integer_list" spIL := by
  refine Df.cal (k := 1) sc_integer_list (fun ds μ Φ Ψ ⟨a, e, _⟩ => by rw [e]; rfl) (fun ds μ Φ Ψ h => ⟨fun f cd A outer s H E G0 hr hp tk => ?_⟩)
  have hnd := sc_integer_list.nd
  have nm0 : (cxD P w K mg base ["value", "item"] "integer_list" s_integer_list f cd A outer s H E).N[0]? = some ("value" : Str) ∧ (("value" : Str) == ("__debug__" : Str)) = false ∧ (("value" : Str) == ("__classdict__" : Str)) = false := ⟨rfl, by decide, by decide⟩
  have nm1 : (cxD P w K mg base ["value", "item"] "integer_list" s_integer_list f cd A outer s H E).N[1]? = some ("item" : Str) ∧ (("item" : Str) == ("__debug__" : Str)) = false ∧ (("item" : Str) == ("__classdict__" : Str)) = false := ⟨rfl, by decide, by decide⟩
  have bn_isinstance : (cxD P w K mg base ["value", "item"] "integer_list" s_integer_list f cd A outer s H E).mg "isinstance" = none := m_isinstance
  have bn_list : (cxD P w K mg base ["value", "item"] "integer_list" s_integer_list f cd A outer s H E).mg "list" = none := m_list
  have bn_tuple : (cxD P w K mg base ["value", "item"] "integer_list" s_integer_list f cd A outer s H E).mg "tuple" = none := m_tuple
  have bn_all : (cxD P w K mg base ["value", "item"] "integer_list" s_integer_list f cd A outer s H E).mg "all" = none := m_all
  obtain ⟨d, rfl, ⟨⟨t, ht⟩, hi⟩, q⟩ := h
  refine s_one (s_ret (d_and ?_))
  walk_at "dd"
  refine ⟨by decide, ?_⟩
  walk_at "dd"
  cases d with
  | int i => exact c_isi2 (k1 := false) (k2 := false) (bl_ex (wayF q))
  | bl b => exact c_isi2 (k1 := false) (k2 := false) (bl_ex (wayF q))
  | non => exact c_isi2 (k1 := false) (k2 := false) (bl_ex (wayF q))
  | str x => exact c_isi2 (k1 := false) (k2 := false) (bl_ex (wayF q))
  | dck ks => exact c_isi2 (k1 := false) (k2 := false) (bl_ex (wayF q))
  | lst ds =>
    obtain ⟨hl, hp⟩ := hi ds (.inl rfl)
    refine c_isi2 (k1 := true) (k2 := false) (bl_ex (wayT (d_one ?_)))
    walk_at "dd"
    refine d_lcLp (own := [("item", 1)]) (vs := [1]) 1 (fun d => .bl (isI d)) ?_
    walk_at "dd"
    refine ⟨ds, rfl, by rw [sizeLine_eq]; omega, fun x hx p acc hn G1 s H0 C cl fp => ?_, ?_⟩
    · refine d_call Cp ?_
      walk_at "dd"
      exact ⟨x, rfl, hp x hx, rfl, rfl⟩
    · walk_at "dd"
      rw [map_bl]
      refine c_all ?_
      rw [all_bls]
      exact q
  | tup ds =>
    obtain ⟨hl, hp⟩ := hi ds (.inr rfl)
    refine c_isi2 (k1 := false) (k2 := true) (bl_ex (wayT (d_one ?_)))
    walk_at "dd"
    refine d_lcTp (own := [("item", 1)]) (vs := [1]) 1 (fun d => .bl (isI d)) ?_
    walk_at "dd"
    refine ⟨ds, rfl, by rw [sizeLine_eq]; omega, fun x hx p acc hn G1 s H0 C cl fp => ?_, ?_⟩
    · refine d_call Cp ?_
      walk_at "dd"
      exact ⟨x, rfl, hp x hx, rfl, rfl⟩
    · walk_at "dd"
      rw [map_bl]
      refine c_all ?_
      rw [all_bls]
      exact q
  | _ => cases ht
end
end K35

open PySem PySem.Spec PyProof.Rows L2 DL
namespace K35
section
variable {P : Program} {w : World} {K : PySem.W.Frag} {mg : Str → Option Value} {base : Heap}
theorem ok_pool (Df : DefT K mg "_law_pool" s_law_pool ["_law_script"]) (m_list : mg "list" = none) : Cal P w K mg base 1 "_law_pool" spPool := by
  refine Df.cal (k := 0) sc_law_pool (fun ds μ Φ Ψ ⟨ns, e, _⟩ => by rw [e]; rfl) (fun ds μ Φ Ψ h => ⟨fun f cd A outer s H E G0 hr hp tk => ?_⟩)
  have hnd := sc_law_pool.nd
  have nm0 : (cxD P w K mg base ["_law_script"] "_law_pool" s_law_pool f cd A outer s H E).N[0]? = some ("_law_script" : Str) ∧ (("_law_script" : Str) == ("__debug__" : Str)) = false ∧ (("_law_script" : Str) == ("__classdict__" : Str)) = false := ⟨rfl, by decide, by decide⟩
  have bn_list : (cxD P w K mg base ["_law_script"] "_law_pool" s_law_pool f cd A outer s H E).mg "list" = none := m_list
  obtain ⟨ns, rfl, hl, q⟩ := h
  refine s_one (s_ret (d_lstM ?_))
  walk_at "dd"
  refine c_listS ?_
  walk_at "dd"
  exact ⟨(show 3 ≤ sizeLine by decide), fun p hp => q p _ hp ⟨0, 0, ns, rfl, by omega, by omega, by omega, hl⟩⟩
theorem drawn_at {ns : List Int} {i : Int} (h : 0 ≤ i) : ∃ v : Int, atI (ns.map D.int ++ [.int 0]) (i.fmod (if ((ns.map D.int).length : Int) > 1 then ((ns.map D.int).length : Int) else 1)) = some (.int v) := by
  have hM : 0 < (if ((ns.map D.int).length : Int) > 1 then ((ns.map D.int).length : Int) else 1) := by split <;> omega
  obtain ⟨h1, h2⟩ := fmod_range (i := i) hM
  generalize hr : i.fmod (if ((ns.map D.int).length : Int) > 1 then ((ns.map D.int).length : Int) else 1) = r at h1 h2
  have h3 : r.toNat < (ns ++ [0]).length := by
    rw [List.length_append, List.length_singleton]
    rw [List.length_map] at h2
    split at h2 <;> omega
  have e : ns.map D.int ++ [.int 0] = (ns ++ [0]).map D.int := by rw [List.map_append]; rfl
  obtain ⟨j, rfl⟩ : ∃ j : Nat, r = (j : Int) := ⟨r.toNat, by omega⟩
  rw [Int.toNat_natCast] at h3
  refine ⟨(ns ++ [0])[j], ?_⟩
  rw [e]
  refine atI_nat ?_
  rw [List.getElem?_map, List.getElem?_eq_getElem h3]
  rfl
theorem ok_take (Df : DefT K mg "_law_take" s_law_take ["_law_pool_here", "_law_many"]) (m_int : mg "int" = none) (m_max : mg "max" = none) (m_len : mg "len" = none) : Cal P w K mg base 1 "_law_take" spTake := by
  refine Df.cal (k := 0) sc_law_take (fun ds μ Φ Ψ ⟨p, m, c, n, e, _⟩ => by rw [e]; rfl) (fun ds μ Φ Ψ h => ⟨fun f cd A outer s H E G0 hr hp tk => ?_⟩)
  have hnd := sc_law_take.nd
  have nm0 : (cxD P w K mg base ["_law_pool_here", "_law_many", "_law_at", "_law_drawn", "_law_mixed", "_law_digit"] "_law_take" s_law_take f cd A outer s H E).N[0]? = some ("_law_pool_here" : Str) ∧ (("_law_pool_here" : Str) == ("__debug__" : Str)) = false ∧ (("_law_pool_here" : Str) == ("__classdict__" : Str)) = false := ⟨rfl, by decide, by decide⟩
  have nm1 : (cxD P w K mg base ["_law_pool_here", "_law_many", "_law_at", "_law_drawn", "_law_mixed", "_law_digit"] "_law_take" s_law_take f cd A outer s H E).N[1]? = some ("_law_many" : Str) ∧ (("_law_many" : Str) == ("__debug__" : Str)) = false ∧ (("_law_many" : Str) == ("__classdict__" : Str)) = false := ⟨rfl, by decide, by decide⟩
  have nm2 : (cxD P w K mg base ["_law_pool_here", "_law_many", "_law_at", "_law_drawn", "_law_mixed", "_law_digit"] "_law_take" s_law_take f cd A outer s H E).N[2]? = some ("_law_at" : Str) ∧ (("_law_at" : Str) == ("__debug__" : Str)) = false ∧ (("_law_at" : Str) == ("__classdict__" : Str)) = false := ⟨rfl, by decide, by decide⟩
  have nm3 : (cxD P w K mg base ["_law_pool_here", "_law_many", "_law_at", "_law_drawn", "_law_mixed", "_law_digit"] "_law_take" s_law_take f cd A outer s H E).N[3]? = some ("_law_drawn" : Str) ∧ (("_law_drawn" : Str) == ("__debug__" : Str)) = false ∧ (("_law_drawn" : Str) == ("__classdict__" : Str)) = false := ⟨rfl, by decide, by decide⟩
  have nm4 : (cxD P w K mg base ["_law_pool_here", "_law_many", "_law_at", "_law_drawn", "_law_mixed", "_law_digit"] "_law_take" s_law_take f cd A outer s H E).N[4]? = some ("_law_mixed" : Str) ∧ (("_law_mixed" : Str) == ("__debug__" : Str)) = false ∧ (("_law_mixed" : Str) == ("__classdict__" : Str)) = false := ⟨rfl, by decide, by decide⟩
  have nm5 : (cxD P w K mg base ["_law_pool_here", "_law_many", "_law_at", "_law_drawn", "_law_mixed", "_law_digit"] "_law_take" s_law_take f cd A outer s H E).N[5]? = some ("_law_digit" : Str) ∧ (("_law_digit" : Str) == ("__debug__" : Str)) = false ∧ (("_law_digit" : Str) == ("__classdict__" : Str)) = false := ⟨rfl, by decide, by decide⟩
  have bn_int : (cxD P w K mg base ["_law_pool_here", "_law_many", "_law_at", "_law_drawn", "_law_mixed", "_law_digit"] "_law_take" s_law_take f cd A outer s H E).mg "int" = none := m_int
  have bn_max : (cxD P w K mg base ["_law_pool_here", "_law_many", "_law_at", "_law_drawn", "_law_mixed", "_law_digit"] "_law_take" s_law_take f cd A outer s H E).mg "max" = none := m_max
  have bn_len : (cxD P w K mg base ["_law_pool_here", "_law_many", "_law_at", "_law_drawn", "_law_mixed", "_law_digit"] "_law_take" s_law_take f cd A outer s H E).mg "len" = none := m_len
  obtain ⟨p, m, c, n, rfl, hm0, hm1, hμ, ⟨i, cur, ns, rfl, hi0, hin, hc0, hns⟩, hn, q⟩ := h
  have hm2 : m.natAbs < 2 ^ 200 := na_lt (by omega) hm1
  have hi1 : i.natAbs < 2 ^ 31 := by omega
  refine s_cut (fun δ' μ' => ∃ v2 v3 v4 v5 i' cur', δ' = [some (.ref p), some (.int m), v2, v3, v4, v5] ∧ μ' = updM μ p (.lst [.int i', .int cur', .lst (ns.map .int)]) ∧ 0 ≤ i' ∧ i' ≤ n + 1 ∧ 0 ≤ cur') ?_ ?_
  · refine s_if ?_
    walk_at "dd"
    refine x_mut hμ rfl ?_
    walk_at "dd"
    refine way (fun h0 => ?_) (fun h0 => ?_)
    · refine s_cons (s_set (i := 2) ?_)
      walk_at "dd"
      refine x_mut hμ rfl ?_
      refine s_cons (s_item ?_)
      walk_at "dd"
      refine ⟨p, 0, _, 0, rfl, rfl, hμ, rfl, ?_⟩
      refine s_cons (s_set (i := 3) ?_)
      walk_at "dd"
      refine x_mut updM_same rfl ?_
      refine d_lst ?_
      walk_at "dd"
      refine ⟨by decide, o_cat ⟨by rw [List.length_map]; show ns.length + 1 ≤ sizeLine; rw [sizeLine_eq]; omega, ?_⟩⟩
      walk_at "dd"
      refine x_mut updM_same rfl ?_
      walk_at "dd"
      refine o_mod ⟨?_, ?_⟩
      · split <;> omega
      obtain ⟨v, hv⟩ := drawn_at (ns := ns) hi0
      refine x_lst hv ?_
      refine s_cons (s_set (i := 4) ?_)
      walk_at "dd"
      refine o_mod ⟨by decide, ?_⟩
      walk_at "dd"
      refine o_mul ⟨mulOk (a := 13) (b := 31) (by decide) hi1 (by decide), ?_⟩
      walk_at "dd"
      have r1 := fmod_range (i := v) (j := 2147483647) (by decide)
      refine o_pow ⟨⟨by decide, by decide, by omega⟩, ?_⟩
      walk_at "dd"
      refine o_mod ⟨by decide, ?_⟩
      have r2 := fmod_range (i := (v.fmod 2147483647 + 7919 * i + 13) ^ (5 : Int).toNat) (j := 2147483647) (by decide)
      generalize (v.fmod 2147483647 + 7919 * i + 13) ^ (5 : Int).toNat = y at r2 ⊢
      refine s_cons (s_set (i := 4) ?_)
      walk_at "dd"
      refine o_mul ⟨mulOk (a := 17) (b := 31) (by decide) hi1 (by decide), ?_⟩
      walk_at "dd"
      refine o_pow ⟨⟨by decide, by decide, by omega⟩, ?_⟩
      walk_at "dd"
      refine o_mod ⟨by decide, ?_⟩
      generalize (y.fmod 2147483647 + 104729 * i + 29) ^ (3 : Int).toNat = z
      refine s_cons (s_if ?_)
      walk_at "dd"
      refine o_pow ⟨⟨by decide, by decide, by decide⟩, ?_⟩
      walk_at "dd"
      refine way (fun h1 => ?_) (fun h1 => ?_)
      · refine s_one (s_ret ?_)
        walk_at "dd"
        refine o_div ⟨⟨by decide, by decide⟩, ?_⟩
        walk_at "dd"
        refine o_mod ⟨by omega, ?_⟩
        have r3 := fmod_range (i := (z.fmod 2147483629).fdiv 11) hm0
        exact q _ _ r3.1 r3.2 ⟨i + 1, cur, ns, rfl, by omega, by omega, hc0, hns⟩
      · refine s_nil (s_one (s_item ?_))
        walk_at "dd"
        refine ⟨p, 1, _, 1, rfl, rfl, updM_same, rfl, ⟨_, _, _, _, i + 1, v, rfl, ?_, by omega, by omega, ?_⟩⟩
        · rw [updM_upd]
          rfl
        · have e18 : (10 : Int) ^ (18 : Int).toNat = 1000000000000000000 := by decide
          rw [e18] at h1
          omega
    · refine s_nil ⟨none, none, none, none, i, cur, rfl, ?_, hi0, by omega, hc0⟩
      funext a
      unfold updM
      split
      · rename_i e
        rw [e, hμ]
      · rfl
  · rintro δ' μ' ⟨v2, v3, v4, v5, i', cur', rfl, rfl, g1, g2, g3⟩
    refine s_cons (s_set (i := 5) ?_)
    walk_at "dd"
    refine x_mut updM_same rfl ?_
    walk_at "dd"
    refine o_mod ⟨by omega, ?_⟩
    have r3 := fmod_range (i := cur') hm0
    refine s_cons (s_item ?_)
    walk_at "dd"
    refine x_mut updM_same rfl ?_
    walk_at "dd"
    refine o_div ⟨divOk (by omega) hm2 (by decide), ?_⟩
    walk_at "dd"
    refine ⟨p, 1, _, 1, rfl, rfl, updM_same, rfl, ?_⟩
    refine s_one (s_ret ?_)
    walk_at "dd"
    rw [updM_upd]
    refine q _ _ r3.1 r3.2 ⟨i', cur'.fdiv m, ns, rfl, g1, by omega, ?_, hns⟩
    rw [Int.fdiv_eq_ediv_of_nonneg _ (Int.le_of_lt hm0)]
    exact Int.ediv_nonneg g3 (Int.le_of_lt hm0)
end
end K35

open PySem PySem.Spec PyProof.Rows L2 DL
namespace K35
section
def addPl (i : Int) : D → D
  | .tup ds => .tup (ds ++ [.int i])
  | _ => .non
theorem addPl_map (i : Int) (L : List (List Int)) : (L.map tupI).map (addPl i) = (L.map (· ++ [i])).map tupI := by
  rw [List.map_map, List.map_map]
  refine List.map_congr_left fun g _ => ?_
  show D.tup (g.map D.int ++ [.int i]) = D.tup ((g ++ [i]).map D.int)
  rw [List.map_append]
  rfl
theorem at_tupI {L : List (List Int)} {x : D} (h : x ∈ L.map tupI) : ∃ g ∈ L, x = tupI g := by
  obtain ⟨g, hg, rfl⟩ := List.mem_map.mp h
  exact ⟨g, hg, rfl⟩
def gOf : D → List Int
  | .tup ds => ds.map dInt
  | _ => []
theorem gOf_tupI (g : List Int) : gOf (tupI g) = g := by
  show (g.map D.int).map dInt = g
  rw [List.map_map]
  exact (List.map_congr_left fun i _ => rfl).trans (List.map_id g)
/-- plain data, three deep -/
def Pl3 (d : D) : Prop := Pl1 d ∧ ∀ ds, (d = .lst ds ∨ d = .tup ds) → ds.length ≤ 1000 ∧ ∀ x ∈ ds, Pl2 x
end
end K35

open PySem PySem.Spec PyProof.Rows L2 DL
namespace K35
section
variable {P : Program} {w : World} {K : PySem.W.Frag} {mg : Str → Option Value} {base : Heap}
def spLGroups : DSp := fun ds μ Φ _ => ∃ n : Nat, ds = [.int n] ∧ n ≤ 5 ∧ Φ (.lst ((gL n).map tupI)) μ
theorem lgrow_len {i : Nat} (hi : i ≤ 5) {g : List Int} (hg : g ∈ lgrow i) : g.length ≤ 5 := by
  have h := (gfacts i hi).lperm.mem_iff.mpr hg
  rcases List.mem_cons.mp h with e | e
  · rw [e]
    decide
  · have := (gL_at hi e).2.1
    omega
theorem ok_lgroups (Df : DefT K mg "_law_groups" s_law_groups ["_law_players"]) (m_range : mg "range" = none) (m_sorted : mg "sorted" = none) : Cal P w K mg base 1 "_law_groups" spLGroups := by
  refine Df.cal (k := 0) sc_law_groups (fun ds μ Φ Ψ ⟨n, e, _⟩ => by rw [e]; rfl) (fun ds μ Φ Ψ h => ⟨fun f cd A outer s H E G0 hr hp tk => ?_⟩)
  have hnd := sc_law_groups.nd
  have nm0 : (cxD P w K mg base ["_law_players", "_law_found", "_law_player", "_law_group"] "_law_groups" s_law_groups f cd A outer s H E).N[0]? = some ("_law_players" : Str) ∧ (("_law_players" : Str) == ("__debug__" : Str)) = false ∧ (("_law_players" : Str) == ("__classdict__" : Str)) = false := ⟨rfl, by decide, by decide⟩
  have nm1 : (cxD P w K mg base ["_law_players", "_law_found", "_law_player", "_law_group"] "_law_groups" s_law_groups f cd A outer s H E).N[1]? = some ("_law_found" : Str) ∧ (("_law_found" : Str) == ("__debug__" : Str)) = false ∧ (("_law_found" : Str) == ("__classdict__" : Str)) = false := ⟨rfl, by decide, by decide⟩
  have nm2 : (cxD P w K mg base ["_law_players", "_law_found", "_law_player", "_law_group"] "_law_groups" s_law_groups f cd A outer s H E).N[2]? = some ("_law_player" : Str) ∧ (("_law_player" : Str) == ("__debug__" : Str)) = false ∧ (("_law_player" : Str) == ("__classdict__" : Str)) = false := ⟨rfl, by decide, by decide⟩
  have nm3 : (cxD P w K mg base ["_law_players", "_law_found", "_law_player", "_law_group"] "_law_groups" s_law_groups f cd A outer s H E).N[3]? = some ("_law_group" : Str) ∧ (("_law_group" : Str) == ("__debug__" : Str)) = false ∧ (("_law_group" : Str) == ("__classdict__" : Str)) = false := ⟨rfl, by decide, by decide⟩
  have bn_range : (cxD P w K mg base ["_law_players", "_law_found", "_law_player", "_law_group"] "_law_groups" s_law_groups f cd A outer s H E).mg "range" = none := m_range
  have bn_sorted : (cxD P w K mg base ["_law_players", "_law_found", "_law_player", "_law_group"] "_law_groups" s_law_groups f cd A outer s H E).mg "sorted" = none := m_sorted
  obtain ⟨n, rfl, h5, q⟩ := h
  refine s_cons (s_set (i := 1) ?_)
  refine d_lst ?_
  walk_at "dd"
  refine ⟨by decide, ?_⟩
  walk_at "dd"
  refine ⟨by decide, ?_⟩
  refine s_cut (fun δ μ' => ∃ v2, δ = [some (.int n), some (.lst ((lgrow n).map tupI)), v2, none] ∧ μ' = μ) ?_ ?_
  · refine s_forR ?_
    walk_at "dd"
    refine ⟨n, rfl, by omega, by omega, fun i δ μ' => ∃ v2, δ = [some (.int n), some (.lst ((lgrow i).map tupI)), v2, none] ∧ μ' = μ, ⟨none, rfl, rfl⟩, ?_, ?_⟩
    · rintro i δ μ' hi ⟨v2, rfl, rfl⟩
      have hi5 : i ≤ 5 := by omega
      have gl := (gfacts i hi5).llen
      refine g_name (i := 2) fun G1 e1 => ?_
      refine s_one (s_set (i := 1) ?_)
      walk_at "dd"
      refine d_lcLp (own := [("_law_group", 3)]) (vs := [3]) 3 (addPl i) ?_
      walk_at "dd"
      refine ⟨_, rfl, by rw [List.length_map, sizeLine_eq]; omega, fun x hx p acc hn G1 s H0 C cl fp => ?_, ?_⟩
      · obtain ⟨g, hg, rfl⟩ := at_tupI hx
        walk_at "dd"
        refine ⟨(show 1 ≤ sizeLine by decide), ?_⟩
        refine o_catA ⟨?_, rfl, rfl⟩
        have := lgrow_len hi5 hg
        rw [List.length_map, sizeLine_eq]
        show g.length + 1 ≤ _
        omega
      · rw [addPl_map]
        refine o_cat ⟨by rw [List.length_map, List.length_map, List.length_map, sizeLine_eq]; omega, some (.int i), ?_, rfl⟩
        rw [← List.map_append]
        rfl
    · rintro δ μ' ⟨v2, rfl, rfl⟩
      exact ⟨v2, rfl, rfl⟩
  · rintro δ μ' ⟨v2, rfl, rfl⟩
    refine s_one (s_ret (d_sl ?_))
    walk_at "dd"
    refine c_sortTup (hu64 hr) fun L' hp hs => ?_
    have gf := gfacts n h5
    rw [sort_uniq hp hs gf.lperm gf.lsorted]
    refine po_s ?_
    walk_at "dd"
    refine ⟨1, rfl, po_n (sl_lst ?_)⟩
    rw [cut_from (by decide)]
    exact q
def spFew : DSp := fun ds μ Φ _ => ∃ (p : Addr) (c : D) (m : Nat), ds = [.ref p] ∧ μ p = some c ∧ Pool m c ∧ m < 2 ^ 20 ∧ ∀ (n : Nat) c', 1 ≤ n → n ≤ 5 → Pool (m + 2) c' → Φ (.int n) (updM μ p c')
theorem ok_few (Df : DefT K mg "_law_few" s_law_few ["_law_pool_here"]) (Ct : Cal P w K mg base 1 "_law_take" spTake) (m_int : mg "int" = none) : Cal P w K mg base 2 "_law_few" spFew := by
  refine Df.cal (k := 1) sc_law_few (fun ds μ Φ Ψ ⟨p, c, m, e, _⟩ => by rw [e]; rfl) (fun ds μ Φ Ψ h => ⟨fun f cd A outer s H E G0 hr hp tk => ?_⟩)
  have hnd := sc_law_few.nd
  have nm0 : (cxD P w K mg base ["_law_pool_here"] "_law_few" s_law_few f cd A outer s H E).N[0]? = some ("_law_pool_here" : Str) ∧ (("_law_pool_here" : Str) == ("__debug__" : Str)) = false ∧ (("_law_pool_here" : Str) == ("__classdict__" : Str)) = false := ⟨rfl, by decide, by decide⟩
  have bn_int : (cxD P w K mg base ["_law_pool_here"] "_law_few" s_law_few f cd A outer s H E).mg "int" = none := m_int
  obtain ⟨p, c, m, rfl, hμ, hP, hm, q⟩ := h
  refine s_one (s_ret ?_)
  walk_at "dd"
  refine d_call Ct ?_
  walk_at "dd"
  refine d_lst ?_
  walk_at "dd"
  refine ⟨by decide, ?_⟩
  walk_at "dd"
  refine d_call Ct ?_
  walk_at "dd"
  refine ⟨p, 6, c, m, rfl, by decide, by decide, hμ, hP, by omega, fun d c1 h0 h1 hP1 => ?_⟩
  walk_at "dd"
  have key : ∃ v : Int, atI [D.int 4, .int 5] (if decide (d = 0) = true then 1 else 0) = some (.int v) ∧ (v = 4 ∨ v = 5) := by
    by_cases e : d = 0
    · rw [decide_eq_true e]
      exact ⟨5, rfl, .inr rfl⟩
    · rw [decide_eq_false e]
      exact ⟨4, rfl, .inl rfl⟩
  obtain ⟨v, hv, hv2⟩ := key
  refine x_lst hv ?_
  walk_at "dd"
  refine ⟨p, v, c1, m + 1, rfl, by omega, by omega, updM_same, hP1, by omega, fun d2 c2 g0 g1 hP2 => ?_⟩
  rw [updM_upd]
  walk_at "dd"
  obtain ⟨k, rfl⟩ : ∃ k : Nat, d2 = (k : Int) := ⟨d2.toNat, by omega⟩
  have e : (1 : Int) + (k : Int) = ((1 + k : Nat) : Int) := by omega
  rw [e]
  exact q (1 + k) c2 (by omega) (by omega) hP2
end
end K35

open PySem PySem.Spec PyProof.Rows L2 DL
namespace K35
section
variable {P : Program} {w : World} {K : PySem.W.Frag} {mg : Str → Option Value} {base : Heap} {C CM CN CG : Addr}
/-! ### questions about ratios -/
def isR : D → Bool
  | .tup [.int a, .int b] => decide (1 ≤ b) && decide ((Int.gcd a b : Int) = 1)
  | _ => false
def spIsR : DSp := fun ds μ Φ _ => ∃ d, ds = [d] ∧ Pl2 d ∧ Φ (.bl (isR d)) μ
theorem ok_isr (Df : DefT K mg "is_ratio" s_is_ratio ["value"]) (Ci : Cal P w K mg base 2 "integer_list" spIL) (Cg : Cal P w K mg base 1 "common_divisor" spGcd) (m_isinstance : mg "isinstance" = none) (m_tuple : mg "tuple" = none) (m_len : mg "len" = none) : Cal P w K mg base 3 "is_ratio" spIsR := by
  refine Df.cal (k := 2) sc_is_ratio (fun ds μ Φ Ψ ⟨a, e, _⟩ => by rw [e]; rfl) (fun ds μ Φ Ψ h => ⟨fun f cd A outer s H E G0 hr hp tk => ?_⟩)
  have hnd := sc_is_ratio.nd
  have nm0 : (cxD P w K mg base ["value"] "is_ratio" s_is_ratio f cd A outer s H E).N[0]? = some ("value" : Str) ∧ (("value" : Str) == ("__debug__" : Str)) = false ∧ (("value" : Str) == ("__classdict__" : Str)) = false := ⟨rfl, by decide, by decide⟩
  have bn_isinstance : (cxD P w K mg base ["value"] "is_ratio" s_is_ratio f cd A outer s H E).mg "isinstance" = none := m_isinstance
  have bn_tuple : (cxD P w K mg base ["value"] "is_ratio" s_is_ratio f cd A outer s H E).mg "tuple" = none := m_tuple
  have bn_len : (cxD P w K mg base ["value"] "is_ratio" s_is_ratio f cd A outer s H E).mg "len" = none := m_len
  obtain ⟨d, rfl, ⟨⟨t, ht⟩, hi⟩, q⟩ := h
  have fin : Φ (.bl (isR d)) μ → isR d = false → Φ (.bl false) μ := fun h z => by rw [z] at h; exact h
  refine s_cons (s_if (t_bool (tw_or (t_not (t_val ?_)))))
  walk_at "dd"
  cases d with
  | int i => exact c_isi (k := false) (tr_bl (orY rfl (yes rfl (s_one (s_ret (d_bl (fin q rfl)))))))
  | bl b => exact c_isi (k := false) (tr_bl (orY rfl (yes rfl (s_one (s_ret (d_bl (fin q rfl)))))))
  | non => exact c_isi (k := false) (tr_bl (orY rfl (yes rfl (s_one (s_ret (d_bl (fin q rfl)))))))
  | str x => exact c_isi (k := false) (tr_bl (orY rfl (yes rfl (s_one (s_ret (d_bl (fin q rfl)))))))
  | lst ds => exact c_isi (k := false) (tr_bl (orY rfl (yes rfl (s_one (s_ret (d_bl (fin q rfl)))))))
  | dck ks => exact c_isi (k := false) (tr_bl (orY rfl (yes rfl (s_one (s_ret (d_bl (fin q rfl)))))))
  | tup ds =>
    obtain ⟨hl, hp1⟩ := hi ds (.inr rfl)
    refine c_isi (k := true) (tr_bl (orN rfl (tw_or (t_cmp ?_))))
    walk_at "dd"
    have fl : ds.length ≠ 2 → isR (.tup ds) = false := fun h => by
      match ds, h with
      | [], _ => rfl
      | [a], _ => cases a <;> rfl
      | [a, b], h => exact absurd rfl h
      | a :: b :: c :: r, _ => cases a <;> first | rfl | (cases b <;> rfl)
    by_cases h2 : ds.length = 2
    · have e2 : ((ds.length : Int) = 2) := by omega
      refine orN (by simp [e2]) (tw_or1 (t_not (t_val ?_)))
      refine d_call Ci ?_
      walk_at "dd"
      refine ⟨.tup ds, rfl, ⟨⟨_, rfl⟩, hi⟩, tr_bl ?_⟩
      match ds, h2 with
      | [a, b], _ =>
        cases hI : isIL (.tup [a, b]) with
        | false =>
          have hf : isR (.tup [a, b]) = false := by
            have hI' : (isI a && (isI b && true)) = false := hI
            cases a <;> first | rfl | (cases b <;> first | rfl | cases hI')
          exact yes rfl (s_one (s_ret (d_bl (fin q hf))))
        | true =>
          have hI' : (isI a && (isI b && true)) = true := hI
          rw [Bool.and_eq_true, Bool.and_eq_true] at hI'
          cases a with
          | int a =>
            cases b with
            | int b =>
              refine no rfl (s_nil (s_one (s_ret (d_and ?_))))
              walk_at "dd"
              refine way (fun h1 => ?_) (fun h1 => ?_)
              · refine d_one (d_cmp ?_)
                refine d_call Cg ?_
                walk_at "dd"
                refine ⟨a, b, rfl, ?_⟩
                walk_at "dd"
                have e : isR (.tup [.int a, .int b]) = decide ((Int.gcd a b : Int) = 1) := by
                  show (decide (1 ≤ b) && decide ((Int.gcd a b : Int) = 1)) = _
                  rw [decide_eq_true (show 1 ≤ b by omega)]
                  rfl
                rw [e] at q
                exact q
              · refine fin q ?_
                show (decide (1 ≤ b) && decide ((Int.gcd a b : Int) = 1)) = _
                rw [decide_eq_false (show ¬ 1 ≤ b by omega)]
                rfl
            | _ => cases hI'.2.1
          | _ => cases hI'.1
    · have e2 : ¬ ((ds.length : Int) = 2) := by omega
      exact orY (by simp [e2]) (yes rfl (s_one (s_ret (d_bl (fin q (fl h2))))))
  | _ => cases ht
end
end K35

open PySem PySem.Spec PyProof.Rows L2 DL
namespace K35
section
def plB2 (d : D) : Bool := (tyD d).isSome
def pl2B2 (d : D) : Bool := plB2 d && (match d with | .lst ds => ds.all plB2 && decide (ds.length ≤ 1000) | .tup ds => ds.all plB2 && decide (ds.length ≤ 1000) | _ => true)
theorem pl1_of2 {d : D} (h : plB2 d = true) : Pl1 d := by
  unfold plB2 at h
  cases e : tyD d with
  | none => rw [e] at h; cases h
  | some t => exact ⟨t, e⟩
theorem pl2_of2 {d : D} (h : pl2B2 d = true) : Pl2 d := by
  unfold pl2B2 at h
  rw [Bool.and_eq_true] at h
  refine ⟨pl1_of2 h.1, fun ds hd => ?_⟩
  have h2 : (ds.all plB2 && decide (ds.length ≤ 1000)) = true := by
    rcases hd with rfl | rfl <;> exact h.2
  rw [Bool.and_eq_true] at h2
  exact ⟨of_decide_eq_true h2.2, fun x hx => pl1_of2 (List.all_eq_true.mp h2.1 x hx)⟩
theorem pl2_dR (r : Int × Int) : Pl2 (dR r) := pl2_of2 rfl
theorem pl3_lst {ds : List D} (hl : ds.length ≤ 1000) (h : ∀ x ∈ ds, Pl2 x) : Pl3 (.lst ds) := ⟨⟨_, rfl⟩, fun es he => by
  rcases he with he | he
  · injection he with he
    rw [← he]
    exact ⟨hl, h⟩
  · cases he⟩
theorem pl3_tup {ds : List D} (hl : ds.length ≤ 1000) (h : ∀ x ∈ ds, Pl2 x) : Pl3 (.tup ds) := ⟨⟨_, rfl⟩, fun es he => by
  rcases he with he | he
  · cases he
  · injection he with he
    rw [← he]
    exact ⟨hl, h⟩⟩
theorem isR_low {r : Int × Int} (h : Low r) : isR (dR r) = true := by
  show (decide (1 ≤ r.2) && decide ((Int.gcd r.1 r.2 : Int) = 1)) = true
  rw [decide_eq_true (show 1 ≤ r.2 by have := h.pos; omega), decide_eq_true (by rw [h.low]; rfl)]
  rfl
theorem pl3_rows {rs : List (Int × Int)} (h : rs.length ≤ 6) : Pl3 (.lst (rs.map dR)) ∧ Pl3 (.tup (rs.map dR)) := by
  have a : ∀ x ∈ rs.map dR, Pl2 x := fun x hx => by
    obtain ⟨r, _, rfl⟩ := List.mem_map.mp hx
    exact pl2_dR r
  exact ⟨pl3_lst (by rw [List.length_map]; omega) a, pl3_tup (by rw [List.length_map]; omega) a⟩
end
end K35

open PySem PySem.Spec PyProof.Rows L2 DL
namespace K35
section
variable {P : Program} {w : World} {K : PySem.W.Frag} {mg : Str → Option Value} {base : Heap} {CB CS CN CM : Addr}
def isRL : D → Bool
  | .lst ds => ds.all isR
  | .tup ds => ds.all isR
  | _ => false
/-- the items of a list or a tuple -/
def okL (ds : List D) : Bool := ds.all isR && (decide (1 ≤ ds.length) && decide (ds.length ≤ 5))
def spRL3 : DSp := fun ds μ Φ _ => ∃ (d : D) (it : List D), ds = [d] ∧ (d = .lst it ∨ d = .tup it) ∧ it.length ≤ 1000 ∧ (∀ x ∈ it, Pl2 x) ∧ Φ (.bl (it.all isR)) μ
theorem ok_rl3 (Df : DefT K mg "ratio_list" s_ratio_list ["value"]) (Cr : Cal P w K mg base 3 "is_ratio" spIsR) (m_isinstance : mg "isinstance" = none) (m_list : mg "list" = none) (m_tuple : mg "tuple" = none) (m_all : mg "all" = none) : Cal P w K mg base 4 "ratio_list" spRL3 := by
  refine Df.cal (k := 3) sc_ratio_list (fun ds μ Φ Ψ ⟨a, b, e, _⟩ => by rw [e]; rfl) (fun ds μ Φ Ψ h => ⟨fun f cd A outer s H E G0 hr hp tk => ?_⟩)
  have hnd := sc_ratio_list.nd
  have nm0 : (cxD P w K mg base ["value", "item"] "ratio_list" s_ratio_list f cd A outer s H E).N[0]? = some ("value" : Str) ∧ (("value" : Str) == ("__debug__" : Str)) = false ∧ (("value" : Str) == ("__classdict__" : Str)) = false := ⟨rfl, by decide, by decide⟩
  have nm1 : (cxD P w K mg base ["value", "item"] "ratio_list" s_ratio_list f cd A outer s H E).N[1]? = some ("item" : Str) ∧ (("item" : Str) == ("__debug__" : Str)) = false ∧ (("item" : Str) == ("__classdict__" : Str)) = false := ⟨rfl, by decide, by decide⟩
  have bn_isinstance : (cxD P w K mg base ["value", "item"] "ratio_list" s_ratio_list f cd A outer s H E).mg "isinstance" = none := m_isinstance
  have bn_list : (cxD P w K mg base ["value", "item"] "ratio_list" s_ratio_list f cd A outer s H E).mg "list" = none := m_list
  have bn_tuple : (cxD P w K mg base ["value", "item"] "ratio_list" s_ratio_list f cd A outer s H E).mg "tuple" = none := m_tuple
  have bn_all : (cxD P w K mg base ["value", "item"] "ratio_list" s_ratio_list f cd A outer s H E).mg "all" = none := m_all
  obtain ⟨d, it, rfl, hd, hl, hi, q⟩ := h
  refine s_one (s_ret (d_and ?_))
  walk_at "dd"
  refine ⟨by decide, ?_⟩
  walk_at "dd"
  rcases hd with rfl | rfl
  · refine c_isi2 (k1 := true) (k2 := false) (bl_ex (wayT (d_one ?_)))
    walk_at "dd"
    refine d_lcLp (own := [("item", 1)]) (vs := [1]) 1 (fun d => .bl (isR d)) ?_
    walk_at "dd"
    refine ⟨it, rfl, by rw [sizeLine_eq]; omega, fun x hx p acc hn G1 s H0 C cl fp => ?_, ?_⟩
    · refine d_call Cr ?_
      walk_at "dd"
      exact ⟨x, rfl, hi x hx, rfl, rfl⟩
    · walk_at "dd"
      rw [map_bl]
      refine c_all ?_
      rw [all_bls]
      exact q
  · refine c_isi2 (k1 := false) (k2 := true) (bl_ex (wayT (d_one ?_)))
    walk_at "dd"
    refine d_lcTp (own := [("item", 1)]) (vs := [1]) 1 (fun d => .bl (isR d)) ?_
    walk_at "dd"
    refine ⟨it, rfl, by rw [sizeLine_eq]; omega, fun x hx p acc hn G1 s H0 C cl fp => ?_, ?_⟩
    · refine d_call Cr ?_
      walk_at "dd"
      exact ⟨x, rfl, hi x hx, rfl, rfl⟩
    · walk_at "dd"
      rw [map_bl]
      refine c_all ?_
      rw [all_bls]
      exact q
theorem c_lenI {X : Cx} {μ : Mu} {Φ : DK} {d : D} {ds : List D} (h : d = .lst ds ∨ d = .tup ds) (q : Φ (.int ds.length) μ) : dCall X (.builtin "len") [d] μ Φ := by
  rcases h with rfl | rfl
  · exact c_lenL q
  · exact c_lenT q
def spAreA3 : DSp := fun ds μ Φ _ => ∃ (d : D) (it : List D), ds = [d] ∧ (d = .lst it ∨ d = .tup it) ∧ it.length ≤ 1000 ∧ (∀ x ∈ it, Pl2 x) ∧ Φ (.bl (okL it)) μ
theorem ok_area3 (Df : DefT K mg "are_amounts" s_are_amounts ["value"]) (Cr : Cal P w K mg base 4 "ratio_list" spRL3) (hc : ∃ u, mg "MOST_PLAYERS" = some u ∧ RelV (.int 5) u) (m_len : mg "len" = none) : Cal P w K mg base 5 "are_amounts" spAreA3 := by
  refine Df.cal (k := 4) sc_are_amounts (fun ds μ Φ Ψ ⟨a, b, e, _⟩ => by rw [e]; rfl) (fun ds μ Φ Ψ h => ⟨fun f cd A outer s H E G0 hr hp tk => ?_⟩)
  have hnd := sc_are_amounts.nd
  have nm0 : (cxD P w K mg base ["value"] "are_amounts" s_are_amounts f cd A outer s H E).N[0]? = some ("value" : Str) ∧ (("value" : Str) == ("__debug__" : Str)) = false ∧ (("value" : Str) == ("__classdict__" : Str)) = false := ⟨rfl, by decide, by decide⟩
  have bn_len : (cxD P w K mg base ["value"] "are_amounts" s_are_amounts f cd A outer s H E).mg "len" = none := m_len
  obtain ⟨d, it, rfl, hd, hl, hi, q⟩ := h
  refine s_one (s_ret (d_and ?_))
  refine d_call Cr ?_
  walk_at "dd"
  refine ⟨d, it, rfl, hd, hl, hi, ?_⟩
  unfold okL at q
  cases hI : it.all isR with
  | false =>
    rw [hI] at q
    exact bl_ex ⟨(fun z => by cases z), fun _ => q⟩
  | true =>
    rw [hI] at q
    refine bl_ex (yes rfl (d_one (d_chain ?_)))
    walk_at "dd"
    refine c_lenI hd ?_
    walk_at "dd"
    refine way (fun h1 => ?_) (fun h1 => ?_)
    · refine d_gc (v := .int 5) hc (fun _ => .int 5) ?_
      walk_at "dd"
      have e : (true && (decide (1 ≤ it.length) && decide (it.length ≤ 5))) = decide ((it.length : Int) ≤ 5) := by
        rw [Bool.true_and, decide_eq_true (show 1 ≤ it.length by omega), Bool.true_and]
        exact decide_eq_decide.mpr (by omega)
      rw [e] at q
      exact q
    · have e : (true && (decide (1 ≤ it.length) && decide (it.length ≤ 5))) = false := by
        rw [Bool.true_and, decide_eq_false (show ¬ 1 ≤ it.length by omega)]
        rfl
      rw [e] at q
      exact q
/-! ### shares -/
def shB (ss : List D) : Bool := ss.all isI && ((ss.any fun d => decide (dInt d > 0)) && ss.all fun d => decide (dInt d ≥ 0))
theorem all_ints : ∀ {ss : List D}, ss.all isI = true → ∃ ns : List Int, ss = ns.map .int
  | [], _ => ⟨[], rfl⟩
  | d :: ss, h => by
    rw [List.all_cons, Bool.and_eq_true] at h
    obtain ⟨ns, rfl⟩ := all_ints h.2
    cases d with
    | int i => exact ⟨i :: ns, rfl⟩
    | _ => cases h.1
def spShares : DSp := fun ds μ Φ _ => ∃ (S : D) (ss : List D), ds = [S] ∧ (S = .lst ss ∨ S = .tup ss) ∧ ss.length ≤ 100 ∧ (∀ x ∈ ss, Pl1 x) ∧ Φ (.bl (shB ss)) μ
theorem any_bls (ds : List D) (f : D → Bool) : (ds.map f).any id = ds.any f := by
  rw [List.any_map]
  rfl
theorem ok_shares (Df : DefT K mg "are_shares" s_are_shares ["value"]) (Ci : Cal P w K mg base 2 "integer_list" spIL) (m_any : mg "any" = none) (m_all : mg "all" = none) : Cal P w K mg base 3 "are_shares" spShares := by
  refine Df.cal (k := 2) sc_are_shares (fun ds μ Φ Ψ ⟨a, b, e, _⟩ => by rw [e]; rfl) (fun ds μ Φ Ψ h => ⟨fun f cd A outer s H E G0 hr hp tk => ?_⟩)
  have hnd := sc_are_shares.nd
  have nm0 : (cxD P w K mg base ["value", "share"] "are_shares" s_are_shares f cd A outer s H E).N[0]? = some ("value" : Str) ∧ (("value" : Str) == ("__debug__" : Str)) = false ∧ (("value" : Str) == ("__classdict__" : Str)) = false := ⟨rfl, by decide, by decide⟩
  have nm1 : (cxD P w K mg base ["value", "share"] "are_shares" s_are_shares f cd A outer s H E).N[1]? = some ("share" : Str) ∧ (("share" : Str) == ("__debug__" : Str)) = false ∧ (("share" : Str) == ("__classdict__" : Str)) = false := ⟨rfl, by decide, by decide⟩
  have bn_any : (cxD P w K mg base ["value", "share"] "are_shares" s_are_shares f cd A outer s H E).mg "any" = none := m_any
  have bn_all : (cxD P w K mg base ["value", "share"] "are_shares" s_are_shares f cd A outer s H E).mg "all" = none := m_all
  obtain ⟨S, ss, rfl, hS, hl, hi, q⟩ := h
  refine s_cons (s_if (t_bool (tw_or (t_not (t_val ?_)))))
  refine d_call Ci ?_
  walk_at "dd"
  have eI : isIL S = ss.all isI := by rcases hS with rfl | rfl <;> rfl
  refine ⟨S, rfl, ?_, tr_bl ?_⟩
  · rcases hS with rfl | rfl
    · exact ⟨⟨_, rfl⟩, fun ds hds => by
        rcases hds with e | e
        · injection e with e
          rw [← e]
          exact ⟨by omega, hi⟩
        · cases e⟩
    · exact ⟨⟨_, rfl⟩, fun ds hds => by
        rcases hds with e | e
        · cases e
        · injection e with e
          rw [← e]
          exact ⟨by omega, hi⟩⟩
  rw [eI]
  unfold shB at q
  cases hI : ss.all isI with
  | false =>
    rw [hI] at q
    exact orY rfl (yes rfl (s_one (s_ret (d_bl q))))
  | true =>
    rw [hI, Bool.true_and] at q
    obtain ⟨ns, rfl⟩ := all_ints hI
    have gt : ∀ {X : Cx} {μ : Mu} {Φ : DK} (i : Int), Φ (.bl (decide (i > 0))) μ → dOp X (compareOp .Gt) (.int i) (.int 0) μ Φ := fun i z => o_gt z
    refine orN rfl (tw_or1 (t_not (t_val ?_)))
    walk_at "dd"
    rcases hS with rfl | rfl
    · refine d_lcLp (own := [("share", 1)]) (vs := [1]) 1 (fun d => .bl (decide (dInt d > 0))) ?_
      walk_at "dd"
      refine ⟨ns.map .int, rfl, by rw [sizeLine_eq]; omega, fun x hx p acc hn G1 s H0 C cl fp => ?_, ?_⟩
      · obtain ⟨i, _, rfl⟩ := List.mem_map.mp hx
        walk_at "dd"
        exact ⟨rfl, rfl⟩
      walk_at "dd"
      rw [map_bl _ (fun d => decide (dInt d > 0))]
      refine c_any ?_
      rw [any_bls]
      refine tr_bl ?_
      cases hA : (ns.map D.int).any (fun d => decide (dInt d > 0)) with
      | false =>
        rw [hA] at q
        exact yes rfl (s_one (s_ret (d_bl q)))
      | true =>
        rw [hA, Bool.true_and] at q
        refine no rfl (s_nil (s_one (s_ret ?_)))
        walk_at "dd"
        refine d_lcLp (own := [("share", 1)]) (vs := [1]) 1 (fun d => .bl (decide (dInt d ≥ 0))) ?_
        walk_at "dd"
        refine ⟨ns.map .int, rfl, by rw [sizeLine_eq]; omega, fun x hx p acc hn G1 s H0 C cl fp => ?_, ?_⟩
        · obtain ⟨i, _, rfl⟩ := List.mem_map.mp hx
          walk_at "dd"
          exact ⟨rfl, rfl⟩
        walk_at "dd"
        rw [map_bl _ (fun d => decide (dInt d ≥ 0))]
        refine c_all ?_
        rw [all_bls]
        exact q
    · refine d_lcTp (own := [("share", 1)]) (vs := [1]) 1 (fun d => .bl (decide (dInt d > 0))) ?_
      walk_at "dd"
      refine ⟨ns.map .int, rfl, by rw [sizeLine_eq]; omega, fun x hx p acc hn G1 s H0 C cl fp => ?_, ?_⟩
      · obtain ⟨i, _, rfl⟩ := List.mem_map.mp hx
        walk_at "dd"
        exact ⟨rfl, rfl⟩
      walk_at "dd"
      rw [map_bl _ (fun d => decide (dInt d > 0))]
      refine c_any ?_
      rw [any_bls]
      refine tr_bl ?_
      cases hA : (ns.map D.int).any (fun d => decide (dInt d > 0)) with
      | false =>
        rw [hA] at q
        exact yes rfl (s_one (s_ret (d_bl q)))
      | true =>
        rw [hA, Bool.true_and] at q
        refine no rfl (s_nil (s_one (s_ret ?_)))
        walk_at "dd"
        refine d_lcTp (own := [("share", 1)]) (vs := [1]) 1 (fun d => .bl (decide (dInt d ≥ 0))) ?_
        walk_at "dd"
        refine ⟨ns.map .int, rfl, by rw [sizeLine_eq]; omega, fun x hx p acc hn G1 s H0 C cl fp => ?_, ?_⟩
        · obtain ⟨i, _, rfl⟩ := List.mem_map.mp hx
          walk_at "dd"
          exact ⟨rfl, rfl⟩
        walk_at "dd"
        rw [map_bl _ (fun d => decide (dInt d ≥ 0))]
        refine c_all ?_
        rw [all_bls]
        exact q
end
end K35

open PySem PySem.Spec PyProof.Rows L2 DL
namespace K35
section
variable {P : Program} {w : World} {K : PySem.W.Frag} {mg : Str → Option Value} {base : Heap} {CB CS CN CM : Addr}
/-! ### means -/
def wsum (ns ts : List Int) : Int := ((ns.zip ts).map fun p => p.1 * p.2).sum
def meanR (rs : List (Int × Int)) (ns : List Int) : Int × Int := ratP (wsum ns (tops rs)) (unitL rs * ns.sum)
theorem topsB {M : Int} {V : Nat} (hMV : MV M V) {rs : List (Int × Int)} (h : ∀ r ∈ rs, RM M V r) : ∀ t ∈ tops rs, t.natAbs < 2 ^ 2000 := fun t ht => by
  unfold tops at ht
  obtain ⟨r, hr, rfl⟩ := List.mem_map.mp ht
  have h1 := tops_val h hr
  refine Nat.lt_of_le_of_lt h1 ?_
  rw [show (2000 : Nat) = 1000 + 1000 from rfl, Nat.pow_add]
  exact Nat.mul_lt_mul'' hMV.v (unitL_M hMV h).2
/-- shares that are small -/
structure Shs (ns : List Int) : Prop where
  each : ∀ s ∈ ns, s.natAbs < 2 ^ 60
  pos : 0 < ns.sum
  sum : ns.sum.natAbs < 2 ^ 100
def spMean : DSp := fun ds μ Φ _ => ∃ (M : Int) (V : Nat) (rs : List (Int × Int)) (S : D) (ns : List Int), ds = [.lst (rs.map dR), S] ∧ (S = .lst (ns.map .int) ∨ S = .tup (ns.map .int)) ∧ MV M V ∧ (∀ r ∈ rs, RM M V r) ∧ rs.length ≤ 100 ∧ ns.length = rs.length ∧ Shs ns ∧ Φ (dR (meanR rs ns)) μ
theorem ok_mean (Df : DefT K mg "mean" s_mean ["ratios", "shares"]) (Ct : Cal P w K mg base 2 "together" spTogether) (Cr : Cal P w K mg base 3 "ratio" (spRatio CB)) (m_sum : mg "sum" = none) (m_zip : mg "zip" = none) : Cal P w K mg base 4 "mean" spMean := by
  refine Df.cal (k := 3) sc_mean (fun ds μ Φ Ψ ⟨M, V, rs, S, ns, e, _⟩ => by rw [e]; rfl) (fun ds μ Φ Ψ h => ⟨fun f cd A outer s H E G0 hr hp tk => ?_⟩)
  have hnd := sc_mean.nd
  have nm0 : (cxD P w K mg base ["ratios", "shares", "unit", "tops", "share", "top"] "mean" s_mean f cd A outer s H E).N[0]? = some ("ratios" : Str) ∧ (("ratios" : Str) == ("__debug__" : Str)) = false ∧ (("ratios" : Str) == ("__classdict__" : Str)) = false := ⟨rfl, by decide, by decide⟩
  have nm1 : (cxD P w K mg base ["ratios", "shares", "unit", "tops", "share", "top"] "mean" s_mean f cd A outer s H E).N[1]? = some ("shares" : Str) ∧ (("shares" : Str) == ("__debug__" : Str)) = false ∧ (("shares" : Str) == ("__classdict__" : Str)) = false := ⟨rfl, by decide, by decide⟩
  have nm2 : (cxD P w K mg base ["ratios", "shares", "unit", "tops", "share", "top"] "mean" s_mean f cd A outer s H E).N[2]? = some ("unit" : Str) ∧ (("unit" : Str) == ("__debug__" : Str)) = false ∧ (("unit" : Str) == ("__classdict__" : Str)) = false := ⟨rfl, by decide, by decide⟩
  have nm3 : (cxD P w K mg base ["ratios", "shares", "unit", "tops", "share", "top"] "mean" s_mean f cd A outer s H E).N[3]? = some ("tops" : Str) ∧ (("tops" : Str) == ("__debug__" : Str)) = false ∧ (("tops" : Str) == ("__classdict__" : Str)) = false := ⟨rfl, by decide, by decide⟩
  have nm4 : (cxD P w K mg base ["ratios", "shares", "unit", "tops", "share", "top"] "mean" s_mean f cd A outer s H E).N[4]? = some ("share" : Str) ∧ (("share" : Str) == ("__debug__" : Str)) = false ∧ (("share" : Str) == ("__classdict__" : Str)) = false := ⟨rfl, by decide, by decide⟩
  have nm5 : (cxD P w K mg base ["ratios", "shares", "unit", "tops", "share", "top"] "mean" s_mean f cd A outer s H E).N[5]? = some ("top" : Str) ∧ (("top" : Str) == ("__debug__" : Str)) = false ∧ (("top" : Str) == ("__classdict__" : Str)) = false := ⟨rfl, by decide, by decide⟩
  have bn_sum : (cxD P w K mg base ["ratios", "shares", "unit", "tops", "share", "top"] "mean" s_mean f cd A outer s H E).mg "sum" = none := m_sum
  have bn_zip : (cxD P w K mg base ["ratios", "shares", "unit", "tops", "share", "top"] "mean" s_mean f cd A outer s H E).mg "zip" = none := m_zip
  obtain ⟨M, V, rs, S, ns, rfl, hS, hMV, hok, hl, hnl, hsh, q⟩ := h
  have hU := unitL_M hMV hok
  have tl : (tops rs).length = rs.length := by unfold tops; rw [List.length_map]
  have tb := topsB hMV hok
  refine s_cons (s_unp ?_)
  refine d_call Ct ?_
  walk_at "dd"
  refine ⟨M, V, rs, .inl rfl, hMV, hok, hl, fun p hpn => g_pair (i := 2) (j := 3) ?_⟩
  refine s_frz (i := 3) rfl hpn ?_
  have side : ∀ d : D, [S, d] = [.lst (ns.map .int), d] ∨ [S, d] = [.tup (ns.map .int), d] := fun d => by
    rcases hS with e | e
    · exact .inl (by rw [e])
    · exact .inr (by rw [e])
  have fin : spRatio CB [.int (wsum ns (tops rs)), .int (unitL rs * ns.sum)] μ (fun d μ' => Φ d μ') NoX := by
    have hp2 : 0 < unitL rs * ns.sum := Int.mul_pos hU.1 hsh.pos
    exact ⟨_, _, rfl, fun z => by omega, fun _ => ⟨na_up (na_mul hU.2 hsh.sum) (by decide), q⟩⟩
  refine s_one (s_ret ?_)
  refine d_call Cr ?_
  walk_at "dd"
  refine d_fz (d_lcZ (own := [("share", 4), ("top", 5)]) (vs := [4, 5]) 4 5 ?_)
  walk_at "dd"
  refine ⟨ns.map .int, (tops rs).map .int, side _, fun i acc μ2 => acc = (((ns.zip (tops rs)).take i).map fun p => p.1 * p.2).map .int ∧ μ2 = μ, ⟨rfl, rfl⟩, ?_, ?_⟩
  · rintro i d1 d2 acc μ2 p2 h1 h2 ⟨rfl, rfl⟩ hp2
    obtain ⟨a, ha, rfl⟩ := at_ints h1
    obtain ⟨b, hb, rfl⟩ := at_ints h2
    have hz : (ns.zip (tops rs))[i]? = some (a, b) := List.getElem?_zip_eq_some.mpr ⟨ha, hb⟩
    refine ⟨?_, fun G1 s H0 C cl fp => ?_⟩
    · rw [List.length_map, List.length_map, List.length_take, List.length_zip, sizeLine_eq]
      omega
    · walk_at "dd"
      refine o_mul ⟨mulOk (hsh.each a (List.mem_of_getElem? ha)) (tb b (List.mem_of_getElem? hb)) (by decide), ?_⟩
      refine ⟨μ2, rfl, hp2, ?_, rfl⟩
      rw [List.take_add_one, hz, List.map_append, List.map_append]
      rfl
  · rintro acc μ2 p2 ⟨rfl, rfl⟩ hp2
    refine fz_ref hp2 ?_
    rw [List.length_map, List.length_map, tl, hnl, Nat.min_self, List.take_of_length_le (by rw [List.length_zip, tl, hnl]; omega)]
    walk_at "dd"
    refine c_sum ?_
    walk_at "dd"
    rcases hS with rfl | rfl
    · refine c_sum ?_
      refine o_mul ⟨mulOk hU.2 hsh.sum (by decide), ?_⟩
      walk_at "dd"
      exact fin
    · refine c_sumT ?_
      refine o_mul ⟨mulOk hU.2 hsh.sum (by decide), ?_⟩
      walk_at "dd"
      exact fin
/-! ### lists put together -/
def colR (rows : List (List (Int × Int))) (k : Nat) : List (Int × Int) := rows.map fun row => row.getD k (0, 1)
def blendR (n : Nat) (rows : List (List (Int × Int))) (ns : List Int) : List (Int × Int) := (List.range n).map fun k => meanR (colR rows k) ns
/-- some lists, or some tuples -/
def Lists (L : D) (its : List (List D)) : Prop := L = .lst (its.map .lst) ∨ L = .tup (its.map .tup)
def sameL (its : List (List D)) : Bool := its.all fun it => decide (it.length = (its.headD []).length)
structure Good (M : Int) (V n : Nat) (rows : List (List (Int × Int))) (ns : List Int) : Prop where
  mv : MV M V
  len : rows.length ≤ 60
  ne : rows ≠ []
  five : n ≤ 5
  one : 1 ≤ n
  row : ∀ row ∈ rows, row.length = n ∧ ∀ r ∈ row, RM M V r ∧ Low r
  sh : Shs ns
  same : ns.length = rows.length
def spBlend (CS CN CM : Addr) : DSp := fun ds μ Φ Ψ => ∃ (its : List (List D)) (ss : List D) (L S : D), ds = [L, S] ∧ Lists L its ∧ (S = .lst ss ∨ S = .tup ss) ∧ its.length ≤ 60 ∧ (∀ it ∈ its, it.length ≤ 1000 ∧ ∀ x ∈ it, Pl2 x) ∧ ss.length ≤ 100 ∧ (∀ x ∈ ss, Pl1 x) ∧
  ((shB ss && decide (ss.length = its.length)) = false → Ψ CS bareG μ) ∧
  ((shB ss && decide (ss.length = its.length)) = true → its.all okL = false → Ψ CN bareG μ) ∧
  ((shB ss && decide (ss.length = its.length)) = true → its.all okL = true → sameL its = false → Ψ CM bareG μ) ∧
  ((shB ss && decide (ss.length = its.length)) = true → its.all okL = true → sameL its = true → ∃ (M : Int) (V n : Nat) (rows : List (List (Int × Int))) (ns : List Int), Good M V n rows ns ∧ its = rows.map (fun row => row.map dR) ∧ ss = ns.map .int ∧ ∀ p, μ p = none → Φ (.ref p) (updM μ p (.lst ((blendR n rows ns).map dR))))
theorem d_lcLists {X : Cx} {G0 : Hp} {it elt : Expr} {δ : List (Option D)} {μ : Mu} {Φ : DK} {x : Str} {scope : Scope} {tp cp : Pos} {own : List (Str × Nat)} {vs : List Nat} (j : Nat) (f : D → D) {its : List (List D)} (hl : its.length ≤ 60)
    (hd : ∃ d0, Lists d0 its ∧ dE X G0 it δ μ fun d μ1 => d = d0 ∧ ((∀ it ∈ its, ∀ d, (d = .lst it ∨ d = .tup it) → ∀ p acc, μ1 p = none → Gives X scope elt ((wipeD δ vs).set j (some d)) (updM μ1 p acc) (f (.lst it))) ∧ Φ (.lst (its.map fun it => f (.lst it))) μ1))
    (hf2 : ∀ it, f (.tup it) = f (.lst it)) (hb : blkC X.N X.env.scope scope own = true := by kernel_rfl) (hj : j ∈ vs := by decide) (hv : own.map (·.2) = vs := by rfl) (hN : X.N.Nodup := by assumption) (hc : X.calm = true := by rfl)
    (hi : X.N[j]? = some x := by rfl) (hx : ∀ s H C cl fp, Loc (BX X scope s H C cl fp).env.scope x := by first | exact fun _ _ _ _ _ => Or.inl rfl | exact fun _ _ _ _ _ => Or.inr rfl) (hf : ∀ s H C cl fp, (BX X scope s H C cl fp).fn x = true ∨ (BX X scope s H C cl fp).env.scope.names.lookup x = some .local := by first | exact fun _ _ _ _ _ => .inr rfl | exact fun _ _ _ _ _ => .inl rfl)
    (hs : ∀ x, foldedSetIterable it X.env x = pure x := by intro _; rfl) : dE X G0 (.ListComp elt [⟨.Name x tp, it, [], 0⟩] scope cp) δ μ Φ := by
  obtain ⟨d0, hd0, hd⟩ := hd
  rcases hd0 with e | e
  · refine d_lcLp (own := own) j f (hd.imp fun d μ1 ⟨ed, hg, q⟩ => ?_) hb hj hv hN hc hi hx hf hs
    refine ⟨its.map .lst, ed.trans e, by rw [List.length_map, sizeLine_eq]; omega, fun x hx p acc hp => ?_, ?_⟩
    · obtain ⟨it, hit, rfl⟩ := List.mem_map.mp hx
      exact hg it hit _ (.inl rfl) p acc hp
    · rw [List.map_map]
      exact q
  · refine d_lcTp (own := own) j f (hd.imp fun d μ1 ⟨ed, hg, q⟩ => ?_) hb hj hv hN hc hi hx hf hs
    refine ⟨its.map .tup, ed.trans e, by rw [List.length_map, sizeLine_eq]; omega, fun x hx p acc hp => ?_, ?_⟩
    · obtain ⟨it, hit, rfl⟩ := List.mem_map.mp hx
      rw [hf2]
      exact hg it hit _ (.inr rfl) p acc hp
    · rw [List.map_map, show (f ∘ D.tup) = (fun it => f (.lst it)) from funext hf2]
      exact q
end
end K35

open PySem PySem.Spec PyProof.Rows L2 DL
namespace K35
section
variable {P : Program} {w : World} {K : PySem.W.Frag} {mg : Str → Option Value} {base : Heap} {CB CS CN CM : Addr}
theorem lists_len {X : Cx} {μ : Mu} {Φ : DK} {L : D} {its : List (List D)} (h : Lists L its) (q : Φ (.int its.length) μ) : dCall X (.builtin "len") [L] μ Φ := by
  rcases h with rfl | rfl
  · refine c_lenL ?_
    rw [List.length_map]
    exact q
  · refine c_lenT ?_
    rw [List.length_map]
    exact q
theorem lists_at {X : Cx} {μ : Mu} {Φ : DK} {L : D} {its : List (List D)} {it : List D} {i : Nat} (h : Lists L its) (hi : its[i]? = some it) (q : ∀ d, (d = .lst it ∨ d = .tup it) → Φ d μ) : dIx X L (.int (i : Int)) μ Φ := by
  rcases h with rfl | rfl
  · exact x_lst (atI_nat (show (its.map D.lst)[i]? = some (.lst it) by rw [List.getElem?_map, hi]; rfl)) (q _ (.inl rfl))
  · exact x_tup (atI_nat (show (its.map D.tup)[i]? = some (.tup it) by rw [List.getElem?_map, hi]; rfl)) (q _ (.inr rfl))
theorem x_rats {X : Cx} {μ : Mu} {Φ : DK} {d : D} {rs : List (Int × Int)} {i : Int} (h : d = .lst (rs.map dR) ∨ d = .tup (rs.map dR)) (h0 : 0 ≤ i) (h1 : i < rs.length) (q : Φ (dR (rs.getD i.toNat (0, 1))) μ) : dIx X d (.int i) μ Φ := by
  obtain ⟨j, rfl⟩ : ∃ j : Nat, i = (j : Int) := ⟨i.toNat, by omega⟩
  have hj : j < rs.length := by omega
  have e : (rs.map dR)[j]? = some (dR (rs.getD j (0, 1))) := by
    rw [List.getElem?_map, List.getElem?_eq_getElem hj, List.getD_eq_getElem?_getD, List.getElem?_eq_getElem hj]
    rfl
  rcases h with rfl | rfl
  · exact x_lst (atI_nat e) q
  · exact x_tup (atI_nat e) q
def itOf : D → List D
  | .lst ds => ds
  | .tup ds => ds
  | _ => []
theorem ok_blended (TS : BareT K mg "BadShares" CS) (TN : BareT K mg "NotDivision" CN) (TM : BareT K mg "Mismatch" CM) (Ca : Cal P w K mg base 3 "are_shares" spShares) (Cr : Cal P w K mg base 5 "are_amounts" spAreA3) (Cm : Cal P w K mg base 4 "mean" spMean) (Df : DefT K mg "blended" s_blended ["divisions", "shares"]) (m_len : mg "len" = none) (m_all : mg "all" = none) (m_any : mg "any" = none) (m_range : mg "range" = none) : Cal P w K mg base 7 "blended" (spBlend CS CN CM) := by
  refine Df.cal (k := 6) sc_blended (fun ds μ Φ Ψ ⟨its, ss, L, S, e, _⟩ => by rw [e]; rfl) (fun ds μ Φ Ψ h => ⟨fun f cd A outer s H E G0 hr hp tk => ?_⟩)
  have hnd := sc_blended.nd
  have nm0 : (cxD P w K mg base ["divisions", "shares", "players", "division", "player"] "blended" s_blended f cd A outer s H E).N[0]? = some ("divisions" : Str) ∧ (("divisions" : Str) == ("__debug__" : Str)) = false ∧ (("divisions" : Str) == ("__classdict__" : Str)) = false := ⟨rfl, by decide, by decide⟩
  have nm1 : (cxD P w K mg base ["divisions", "shares", "players", "division", "player"] "blended" s_blended f cd A outer s H E).N[1]? = some ("shares" : Str) ∧ (("shares" : Str) == ("__debug__" : Str)) = false ∧ (("shares" : Str) == ("__classdict__" : Str)) = false := ⟨rfl, by decide, by decide⟩
  have nm2 : (cxD P w K mg base ["divisions", "shares", "players", "division", "player"] "blended" s_blended f cd A outer s H E).N[2]? = some ("players" : Str) ∧ (("players" : Str) == ("__debug__" : Str)) = false ∧ (("players" : Str) == ("__classdict__" : Str)) = false := ⟨rfl, by decide, by decide⟩
  have nm3 : (cxD P w K mg base ["divisions", "shares", "players", "division", "player"] "blended" s_blended f cd A outer s H E).N[3]? = some ("division" : Str) ∧ (("division" : Str) == ("__debug__" : Str)) = false ∧ (("division" : Str) == ("__classdict__" : Str)) = false := ⟨rfl, by decide, by decide⟩
  have nm4 : (cxD P w K mg base ["divisions", "shares", "players", "division", "player"] "blended" s_blended f cd A outer s H E).N[4]? = some ("player" : Str) ∧ (("player" : Str) == ("__debug__" : Str)) = false ∧ (("player" : Str) == ("__classdict__" : Str)) = false := ⟨rfl, by decide, by decide⟩
  have bn_len : (cxD P w K mg base ["divisions", "shares", "players", "division", "player"] "blended" s_blended f cd A outer s H E).mg "len" = none := m_len
  have bn_all : (cxD P w K mg base ["divisions", "shares", "players", "division", "player"] "blended" s_blended f cd A outer s H E).mg "all" = none := m_all
  have bn_any : (cxD P w K mg base ["divisions", "shares", "players", "division", "player"] "blended" s_blended f cd A outer s H E).mg "any" = none := m_any
  have bn_range : (cxD P w K mg base ["divisions", "shares", "players", "division", "player"] "blended" s_blended f cd A outer s H E).mg "range" = none := m_range
  obtain ⟨its, ss, L, S, rfl, hL, hS, hl, hit, hsl, hs1, qs, qn, qm, q⟩ := h
  refine s_cons (s_if (t_bool (tw_or (t_not (t_val ?_)))))
  refine d_call Ca ?_
  walk_at "dd"
  refine ⟨S, ss, rfl, hS, hsl, hs1, tr_bl ?_⟩
  cases hA : shB ss with
  | false =>
    rw [hA] at qs
    exact orY rfl (yes rfl (s_one (s_raise0 TS tk (qs rfl))))
  | true =>
    rw [hA, Bool.true_and] at qs qn qm q
    refine orN rfl (tw_or1 (t_cmp ?_))
    walk_at "dd"
    refine c_lenI hS ?_
    walk_at "dd"
    refine lists_len hL ?_
    walk_at "dd"
    by_cases hsm : ¬ ss.length = its.length
    · exact yes (by rw [decide_eq_false (show ¬ (ss.length : Int) = its.length by omega)]; rfl) (s_one (s_raise0 TS tk (qs (decide_eq_false hsm))))
    have hsm := Classical.not_not.mp hsm
    rw [decide_eq_true hsm] at qn qm q
    refine no (by rw [decide_eq_true (show (ss.length : Int) = its.length by omega)]; rfl) (s_nil ?_)
    refine s_cons (s_if (t_not (t_val ?_)))
    walk_at "dd"
    refine d_lcLists (own := [("division", 3)]) (vs := [3]) 3 (fun d => .bl (okL (itOf d))) hl ⟨L, hL, ?_⟩ (fun _ => rfl)
    walk_at "dd"
    refine ⟨rfl, fun it hi d hd p acc hp2 G1 s H0 C cl fp => ?_, ?_⟩
    · refine d_call Cr ?_
      walk_at "dd"
      exact ⟨d, it, rfl, hd, (hit it hi).1, (hit it hi).2, rfl, rfl⟩
    walk_at "dd"
    have e1 : its.map (fun it => D.bl (okL (itOf (.lst it)))) = (its.map okL).map D.bl := by
      rw [List.map_map]
      rfl
    rw [e1]
    refine c_all ?_
    rw [List.all_map]
    refine tr_bl ?_
    have e2 : its.all (id ∘ okL) = its.all okL := rfl
    rw [e2]
    cases hO : its.all okL with
    | false => exact yes rfl (s_one (s_raise0 TN tk (qn rfl hO)))
    | true =>
      refine no rfl (s_nil ?_)
      have hne : its ≠ [] := fun z => by
        rw [z] at hsm
        have : ss = [] := List.eq_nil_of_length_eq_zero hsm
        rw [this] at hA
        cases hA
      obtain ⟨it0, rest, hcons⟩ : ∃ it0 rest, its = it0 :: rest := by
        cases its with
        | nil => exact absurd rfl hne
        | cons a b => exact ⟨a, b, rfl⟩
      have h0 : its[0]? = some it0 := by rw [hcons]; rfl
      have hd0 : its.headD [] = it0 := by rw [hcons]; rfl
      refine s_cons (s_set (i := 2) ?_)
      walk_at "dd"
      refine lists_at (i := 0) hL h0 fun d0 hd0' => ?_
      walk_at "dd"
      refine c_lenI hd0' ?_
      refine s_cons (s_if (t_val ?_))
      walk_at "dd"
      refine d_lcLists (own := [("division", 3)]) (vs := [3]) 3 (fun d => .bl (!decide ((itOf d).length = it0.length))) hl ⟨L, hL, ?_⟩ (fun _ => rfl)
      walk_at "dd"
      refine ⟨rfl, fun it hi d hd p acc hp2 G1 s H0 C cl fp => ?_, ?_⟩
      · walk_at "dd"
        refine c_lenI hd ?_
        walk_at "dd"
        refine ⟨?_, rfl⟩
        show D.bl (!decide ((it.length : Int) = it0.length)) = .bl (!decide (it.length = it0.length))
        rw [decide_eq_decide.mpr (show ((it.length : Int) = it0.length) ↔ it.length = it0.length by omega)]
      walk_at "dd"
      have e3 : its.map (fun it => D.bl (!decide ((itOf (.lst it)).length = it0.length))) = (its.map fun it => !decide (it.length = it0.length)).map D.bl := by
        rw [List.map_map]
        rfl
      rw [e3]
      refine c_any ?_
      rw [List.any_map]
      refine tr_bl ?_
      have e4 : its.any (id ∘ fun it => !decide (it.length = it0.length)) = !sameL its := by
        unfold sameL
        rw [hd0, List.not_all_eq_any_not]
        rfl
      rw [e4]
      cases hS2 : sameL its with
      | false => exact yes rfl (s_one (s_raise0 TM tk (qm rfl hO hS2)))
      | true =>
        refine no rfl (s_nil ?_)
        obtain ⟨M, V, n, rows, ns, hG, rfl, rfl, q9⟩ := q rfl hO hS2
        have hrl := hG.len
        have h0n : it0.length = n := by
          obtain ⟨row, hrow, hr2⟩ : ∃ row ∈ rows, it0 = row.map dR := by
            have hm : it0 ∈ rows.map (fun row => row.map dR) := by rw [hcons]; exact List.mem_cons_self
            obtain ⟨row, hrow, e⟩ := List.mem_map.mp hm
            exact ⟨row, hrow, e.symm⟩
          rw [hr2, List.length_map]
          exact (hG.row row hrow).1
        refine s_one (s_ret ?_)
        refine d_lcR (own := [("division", 3), ("player", 4)]) (vs := [3, 4]) 4 ?_
        walk_at "dd"
        have h5 := hG.five
        refine ⟨it0.length, rfl, by omega, by omega, fun k acc μ2 => acc = (((List.range n).take k).map fun k => meanR (colR rows k) ns).map dR ∧ μ2 = μ, ⟨rfl, rfl⟩, ?_, ?_⟩
        · rintro k acc μ2 p2 hk ⟨rfl, rfl⟩ hp2
          have hkn : k < n := by omega
          refine ⟨by rw [List.length_map, List.length_map, List.length_take, List.length_range, sizeLine_eq]; omega, fun G1 s H0 C cl fp => ?_⟩
          refine d_call Cm ?_
          refine da_cons ?_ rfl
          refine d_lcLists (own := [("division", 3)]) (vs := [3]) 3 (fun d => (itOf d).getD k .non) hl ⟨L, hL, ?_⟩ (fun _ => rfl)
          walk_at "dd"
          refine ⟨rfl, fun it hi d hd p acc hp3 G2 s2 H2 C2 cl2 fp2 => ?_, ?_⟩
          · obtain ⟨row, hrow, rfl⟩ := List.mem_map.mp hi
            walk_at "dd"
            refine x_rats hd (by omega) (by rw [(hG.row row hrow).1]; omega) ⟨?_, rfl⟩
            rw [Int.toNat_natCast]
            show dR (row.getD k (0, 1)) = (row.map dR).getD k .non
            have hk2 : k < row.length := by rw [(hG.row row hrow).1]; exact hkn
            rw [List.getD_eq_getElem?_getD, List.getD_eq_getElem?_getD, List.getElem?_map, List.getElem?_eq_getElem hk2]
            rfl
          walk_at "dd"
          have e5 : (rows.map fun row => row.map dR).map (fun it => (itOf (.lst it)).getD k .non) = (colR rows k).map dR := by
            unfold colR
            rw [List.map_map, List.map_map]
            refine List.map_congr_left fun row hrow => ?_
            show (row.map dR).getD k .non = dR (row.getD k (0, 1))
            have hk2 : k < row.length := by rw [(hG.row row hrow).1]; exact hkn
            rw [List.getD_eq_getElem?_getD, List.getD_eq_getElem?_getD, List.getElem?_map, List.getElem?_eq_getElem hk2]
            rfl
          rw [e5]
          refine ⟨M, V, colR rows k, S, ns, rfl, hS, hG.mv, fun r hr => ?_, by unfold colR; rw [List.length_map]; omega, by unfold colR; rw [List.length_map]; exact hG.same, hG.sh, ?_⟩
          · obtain ⟨row, hrow, rfl⟩ := List.mem_map.mp hr
            have hk2 : k < row.length := by rw [(hG.row row hrow).1]; exact hkn
            rw [List.getD_eq_getElem?_getD, List.getElem?_eq_getElem hk2]
            exact ((hG.row row hrow).2 _ (List.getElem_mem hk2)).1
          · refine ⟨μ2, rfl, hp2, ?_, rfl⟩
            rw [List.take_add_one, List.getElem?_range hkn, List.map_append, List.map_append]
            rfl
        · rintro acc μ2 p2 ⟨rfl, rfl⟩ hp2
          have e6 : (List.range n).take (it0.length : Int).toNat = List.range n := List.take_of_length_le (by rw [List.length_range]; omega)
          rw [e6]
          exact q9 p2 hp2
end
end K35

open PySem PySem.Spec PyProof.Rows L2 DL
namespace K35
section
theorem RM.mono {M : Int} {V V' : Nat} {r : Int × Int} (h : RM M V r) (hv : V ≤ V') : RM M V' r := ⟨h.pos, h.dv, Nat.le_trans h.val (Nat.mul_le_mul_right _ hv)⟩
theorem rm_get {M : Int} {V : Nat} {rs : List (Int × Int)} (h : ∀ r ∈ rs, RM M V r) {i : Int} (h0 : 0 ≤ i) (h1 : i < rs.length) : RM M V (rs.getD i.toNat (0, 1)) := by
  obtain ⟨j, rfl⟩ : ∃ j : Nat, i = (j : Int) := ⟨i.toNat, by omega⟩
  have hj : j < rs.length := by omega
  show RM M V (rs.getD j (0, 1))
  rw [List.getD_eq_getElem?_getD, List.getElem?_eq_getElem hj]
  exact h _ (List.getElem_mem hj)
def amtR (row : List (Int × Int)) (g : List Int) : Int × Int := tot (g.map fun i => row.getD i.toNat (0, 1))
theorem amtR_RM {M : Int} {V : Nat} {row : List (Int × Int)} (h : ∀ r ∈ row, RM M V r) {g : List Int} (hl : g.length ≤ 5) (hg : ∀ i ∈ g, 0 ≤ i ∧ i < row.length) : RM M (5 * V) (amtR row g) ∧ Low (amtR row g) := by
  have h1 : ∀ r ∈ g.map fun i => row.getD i.toNat (0, 1), RM M V r := fun r hr => by
    obtain ⟨i, hi, rfl⟩ := List.mem_map.mp hr
    exact rm_get h (hg i hi).1 (hg i hi).2
  refine ⟨(tot_RM h1).mono ?_, tot_low _ fun r hr => (h1 r hr).pos⟩
  rw [List.length_map]
  exact Nat.mul_le_mul_right _ hl
end
end K35

open PySem PySem.Spec PyProof.Rows L2 DL
namespace K35
section
variable {P : Program} {w : World} {K : PySem.W.Frag} {mg : Str → Option Value} {base : Heap}
/-! ### the law's own reckoning -/
/-- bounded, the bottom above 0 -/
structure RB (r : Int × Int) : Prop where
  pos : 0 < r.2
  top : r.1.natAbs < 2 ^ 2000
  bot : r.2.natAbs < 2 ^ 2000
def spPlusR : DSp := fun ds μ Φ _ => ∃ r s : Int × Int, ds = [dR r, dR s] ∧ RB r ∧ RB s ∧ Φ (dR (ratP (r.1 * s.2 + s.1 * r.2) (r.2 * s.2))) μ
theorem ok_plusR (D : DefT K mg "_law_plus" s_law_plus ["_law_one", "_law_other"]) (Cr : Cal P w K mg base 2 "_law_ratio" spLRatio) : Cal P w K mg base 3 "_law_plus" spPlusR := by
  refine D.cal (k := 2) sc_law_plus (fun ds μ Φ Ψ ⟨r, s, e, _⟩ => by rw [e]; rfl) (fun ds μ Φ Ψ h => ⟨fun f cd A outer s H E G0 hr hp tk => ?_⟩)
  have hnd := sc_law_plus.nd
  have nm0 : (cxD P w K mg base ["_law_one", "_law_other"] "_law_plus" s_law_plus f cd A outer s H E).N[0]? = some ("_law_one" : Str) ∧ (("_law_one" : Str) == ("__debug__" : Str)) = false ∧ (("_law_one" : Str) == ("__classdict__" : Str)) = false := ⟨rfl, by decide, by decide⟩
  have nm1 : (cxD P w K mg base ["_law_one", "_law_other"] "_law_plus" s_law_plus f cd A outer s H E).N[1]? = some ("_law_other" : Str) ∧ (("_law_other" : Str) == ("__debug__" : Str)) = false ∧ (("_law_other" : Str) == ("__classdict__" : Str)) = false := ⟨rfl, by decide, by decide⟩
  obtain ⟨⟨a, b⟩, ⟨c, d⟩, rfl, h1, h2, q⟩ := h
  have p3 : 0 < b * d := Int.mul_pos h1.pos h2.pos
  unfold dR
  refine s_one (s_ret ?_)
  refine d_call Cr ?_
  walk_at "dd"
  refine o_mul ⟨mulOk h1.top h2.bot (by decide), ?_⟩
  walk_at "dd"
  refine o_mul ⟨mulOk h2.top h1.bot (by decide), ?_⟩
  walk_at "dd"
  refine o_mul ⟨mulOk h1.bot h2.bot (by decide), ?_⟩
  walk_at "dd"
  exact ⟨_, _, rfl, (Int.ne_of_lt p3).symm, na_up (na_mul h1.bot h2.bot) (by decide), q⟩
theorem RM.rb {M : Int} {V : Nat} {r : Int × Int} (h : RM M V r) (hMV : MV M (8 * V)) : RB r := by
  have h2 : RM M (8 * V) r := h.mono (by omega)
  exact ⟨h.pos, na_up (h2.topB hMV) (by decide), na_up (h2.botB hMV) (by decide)⟩
theorem tot_rb {M : Int} {V : Nat} {rs : List (Int × Int)} (hMV : MV M (8 * V)) (h : ∀ r ∈ rs, RM M V r) (hl : rs.length ≤ 8) : RB (tot rs) := by
  have h2 : RM M (8 * V) (tot rs) := (tot_RM h).mono (Nat.mul_le_mul_right _ hl)
  exact ⟨h2.pos, na_up (h2.topB hMV) (by decide), na_up (h2.botB hMV) (by decide)⟩
def spTotal : DSp := fun ds μ Φ _ => ∃ (M : Int) (V : Nat) (rs : List (Int × Int)), ds = [.lst (rs.map dR)] ∧ MV M (8 * V) ∧ (∀ r ∈ rs, RM M V r) ∧ rs.length ≤ 8 ∧ Φ (dR (tot rs)) μ
theorem ok_total (Df : DefT K mg "_law_total" s_law_total ["_law_ratios"]) (Cp : Cal P w K mg base 3 "_law_plus" spPlusR) : Cal P w K mg base 4 "_law_total" spTotal := by
  refine Df.cal (k := 3) sc_law_total (fun ds μ Φ Ψ ⟨M, V, rs, e, _⟩ => by rw [e]; rfl) (fun ds μ Φ Ψ h => ⟨fun f cd A outer s H E G0 hr hp tk => ?_⟩)
  have hnd := sc_law_total.nd
  have nm0 : (cxD P w K mg base ["_law_ratios", "_law_found", "_law_one"] "_law_total" s_law_total f cd A outer s H E).N[0]? = some ("_law_ratios" : Str) ∧ (("_law_ratios" : Str) == ("__debug__" : Str)) = false ∧ (("_law_ratios" : Str) == ("__classdict__" : Str)) = false := ⟨rfl, by decide, by decide⟩
  have nm1 : (cxD P w K mg base ["_law_ratios", "_law_found", "_law_one"] "_law_total" s_law_total f cd A outer s H E).N[1]? = some ("_law_found" : Str) ∧ (("_law_found" : Str) == ("__debug__" : Str)) = false ∧ (("_law_found" : Str) == ("__classdict__" : Str)) = false := ⟨rfl, by decide, by decide⟩
  have nm2 : (cxD P w K mg base ["_law_ratios", "_law_found", "_law_one"] "_law_total" s_law_total f cd A outer s H E).N[2]? = some ("_law_one" : Str) ∧ (("_law_one" : Str) == ("__debug__" : Str)) = false ∧ (("_law_one" : Str) == ("__classdict__" : Str)) = false := ⟨rfl, by decide, by decide⟩
  obtain ⟨M, V, rs, rfl, hMV, hok, hl, q⟩ := h
  refine s_cons (s_set (i := 1) (d_tup ?_))
  walk_at "dd"
  refine ⟨(show 2 ≤ sizeLine by decide), ?_⟩
  refine s_cut (fun δ' μ' => ∃ v, δ' = [some (.lst (rs.map dR)), some (dR (tot rs)), v] ∧ μ' = μ) ?_ ?_
  · refine s_forL (ds := rs.map dR) ?_
    walk_at "dd"
    refine ⟨rfl, fun i δ' μ' => ∃ v, δ' = [some (.lst (rs.map dR)), some (dR (tot (rs.take i))), v] ∧ μ' = μ, ⟨none, rfl, rfl⟩, ?_, ?_⟩
    · rintro i d δ' μ' hd ⟨v, rfl, rfl⟩
      obtain ⟨r, hr2, rfl⟩ := at_rats hd
      refine g_name (i := 2) fun G1 e1 => s_one (s_set (i := 1) ?_)
      refine d_call Cp ?_
      walk_at "dd"
      refine ⟨tot (rs.take i), r, rfl, tot_rb hMV (fun r hr => hok r (List.mem_of_mem_take hr)) (by rw [List.length_take]; omega), (hok r (mem_at hr2)).rb hMV, some (dR r), ?_, rfl⟩
      rw [tot_take hr2]
      rfl
    · rintro δ' μ' ⟨v, rfl, rfl⟩
      exact ⟨v, by rw [List.length_map, List.take_length], rfl⟩
  · rintro δ' μ' ⟨v, rfl, rfl⟩
    refine s_one (s_ret ?_)
    walk_at "dd"
    exact q
def spAmtL : DSp := fun ds μ Φ _ => ∃ (M : Int) (V : Nat) (rs : List (Int × Int)) (g : List Int), ds = [.lst (rs.map dR), tupI g] ∧ MV M (8 * V) ∧ (∀ r ∈ rs, RM M V r) ∧ g.length ≤ 5 ∧ (∀ i ∈ g, 0 ≤ i ∧ i < rs.length) ∧ Φ (dR (amtR rs g)) μ
theorem ok_amtL (Df : DefT K mg "_law_amount" s_law_amount ["_law_division", "_law_group"]) (Ct : Cal P w K mg base 4 "_law_total" spTotal) : Cal P w K mg base 5 "_law_amount" spAmtL := by
  refine Df.cal (k := 4) sc_law_amount (fun ds μ Φ Ψ ⟨M, V, rs, g, e, _⟩ => by rw [e]; rfl) (fun ds μ Φ Ψ h => ⟨fun f cd A outer s H E G0 hr hp tk => ?_⟩)
  have hnd := sc_law_amount.nd
  have nm0 : (cxD P w K mg base ["_law_division", "_law_group", "_law_player"] "_law_amount" s_law_amount f cd A outer s H E).N[0]? = some ("_law_division" : Str) ∧ (("_law_division" : Str) == ("__debug__" : Str)) = false ∧ (("_law_division" : Str) == ("__classdict__" : Str)) = false := ⟨rfl, by decide, by decide⟩
  have nm1 : (cxD P w K mg base ["_law_division", "_law_group", "_law_player"] "_law_amount" s_law_amount f cd A outer s H E).N[1]? = some ("_law_group" : Str) ∧ (("_law_group" : Str) == ("__debug__" : Str)) = false ∧ (("_law_group" : Str) == ("__classdict__" : Str)) = false := ⟨rfl, by decide, by decide⟩
  have nm2 : (cxD P w K mg base ["_law_division", "_law_group", "_law_player"] "_law_amount" s_law_amount f cd A outer s H E).N[2]? = some ("_law_player" : Str) ∧ (("_law_player" : Str) == ("__debug__" : Str)) = false ∧ (("_law_player" : Str) == ("__classdict__" : Str)) = false := ⟨rfl, by decide, by decide⟩
  obtain ⟨M, V, rs, g, rfl, hMV, hok, hl, hg, q⟩ := h
  refine s_one (s_ret ?_)
  refine d_call Ct ?_
  refine da_cons ?_ rfl
  refine d_lcTp (own := [("_law_player", 2)]) (vs := [2]) 2 (fun x => dR (rs.getD (dInt x).toNat (0, 1))) ?_
  walk_at "dd"
  refine ⟨g.map .int, rfl, by rw [List.length_map, sizeLine_eq]; omega, fun x hx p acc hn G1 s H0 C cl fp => ?_, ?_⟩
  · obtain ⟨i, hi, rfl⟩ := List.mem_map.mp hx
    walk_at "dd"
    exact x_rats (.inl rfl) (hg i hi).1 (hg i hi).2 ⟨rfl, rfl⟩
  · walk_at "dd"
    have e : (g.map D.int).map (fun x => dR (rs.getD (dInt x).toNat (0, 1))) = (g.map fun i => rs.getD i.toNat (0, 1)).map dR := by
      rw [List.map_map, List.map_map]
      rfl
    rw [e]
    refine ⟨M, V, _, rfl, hMV, fun r hr => ?_, by rw [List.length_map]; omega, q⟩
    obtain ⟨i, hi, rfl⟩ := List.mem_map.mp hr
    exact rm_get hok (hg i hi).1 (hg i hi).2
end
end K35

open PySem PySem.Spec PyProof.Rows L2 DL
namespace K35
section
variable {P : Program} {w : World} {K : PySem.W.Frag} {mg : Str → Option Value} {base : Heap} {CB CS CN CM : Addr}
def ratOf : D → Int × Int
  | .tup [.int a, .int b] => (a, b)
  | _ => (0, 1)
theorem isR_at {d : D} (h : isR d = true) : d = dR (ratOf d) ∧ Low (ratOf d) := by
  unfold isR at h
  split at h
  · rename_i a b
    rw [Bool.and_eq_true] at h
    refine ⟨rfl, ⟨?_, ?_⟩⟩
    · have := of_decide_eq_true h.1
      show 0 < b
      omega
    · have := of_decide_eq_true h.2
      show Int.gcd a b = 1
      omega
  · cases h
/-! ### the law's questions -/
def spNumG : DSp := fun ds μ Φ _ => ∃ d, ds = [d] ∧ Pl1 d ∧ Φ (.bl (isI d)) μ
theorem ok_numG (Df : DefT K mg "_law_is_number" s_law_is_number ["_law_thing"]) (m_isinstance : mg "isinstance" = none) (m_int : mg "int" = none) (m_bool : mg "bool" = none) : Cal P w K mg base 1 "_law_is_number" spNumG := by
  refine Df.cal (k := 0) sc_law_is_number (fun ds μ Φ Ψ ⟨i, e, _⟩ => by rw [e]; rfl) (fun ds μ Φ Ψ h => ⟨fun f cd A outer s H E G0 hr hp tk => ?_⟩)
  have hnd := sc_law_is_number.nd
  have nm0 : (cxD P w K mg base ["_law_thing"] "_law_is_number" s_law_is_number f cd A outer s H E).N[0]? = some ("_law_thing" : Str) ∧ (("_law_thing" : Str) == ("__debug__" : Str)) = false ∧ (("_law_thing" : Str) == ("__classdict__" : Str)) = false := ⟨rfl, by decide, by decide⟩
  have bn_isinstance : (cxD P w K mg base ["_law_thing"] "_law_is_number" s_law_is_number f cd A outer s H E).mg "isinstance" = none := m_isinstance
  have bn_int : (cxD P w K mg base ["_law_thing"] "_law_is_number" s_law_is_number f cd A outer s H E).mg "int" = none := m_int
  have bn_bool : (cxD P w K mg base ["_law_thing"] "_law_is_number" s_law_is_number f cd A outer s H E).mg "bool" = none := m_bool
  obtain ⟨d, rfl, ⟨t, ht⟩, q⟩ := h
  refine s_one (s_ret (d_and ?_))
  walk_at "dd"
  cases d with
  | int i =>
    refine c_isi (k := true) (bl_ex (wayT (d_one (d_not ?_))))
    walk_at "dd"
    exact c_isi (k := false) ⟨false, rfl, q⟩
  | bl b =>
    refine c_isi (k := true) (bl_ex (wayT (d_one (d_not ?_))))
    walk_at "dd"
    exact c_isi (k := true) ⟨true, rfl, q⟩
  | non => exact c_isi (k := false) (bl_ex (wayF q))
  | str x => exact c_isi (k := false) (bl_ex (wayF q))
  | lst ds => exact c_isi (k := false) (bl_ex (wayF q))
  | tup ds => exact c_isi (k := false) (bl_ex (wayF q))
  | dck ks => exact c_isi (k := false) (bl_ex (wayF q))
  | _ => cases ht
def spLIsR : DSp := fun ds μ Φ _ => ∃ d, ds = [d] ∧ Pl2 d ∧ Φ (.bl (isR d)) μ
theorem ok_lisr (Df : DefT K mg "_law_is_ratio" s_law_is_ratio ["_law_value"]) (Cn : Cal P w K mg base 1 "_law_is_number" spNumG) (Cd : Cal P w K mg base 1 "_law_divisor" spDiv) (m_isinstance : mg "isinstance" = none) (m_tuple : mg "tuple" = none) (m_len : mg "len" = none) : Cal P w K mg base 2 "_law_is_ratio" spLIsR := by
  refine Df.cal (k := 1) sc_law_is_ratio (fun ds μ Φ Ψ ⟨r, e, _⟩ => by rw [e]; rfl) (fun ds μ Φ Ψ h => ⟨fun f cd A outer s H E G0 hr hp tk => ?_⟩)
  have hnd := sc_law_is_ratio.nd
  have nm0 : (cxD P w K mg base ["_law_value"] "_law_is_ratio" s_law_is_ratio f cd A outer s H E).N[0]? = some ("_law_value" : Str) ∧ (("_law_value" : Str) == ("__debug__" : Str)) = false ∧ (("_law_value" : Str) == ("__classdict__" : Str)) = false := ⟨rfl, by decide, by decide⟩
  have bn_isinstance : (cxD P w K mg base ["_law_value"] "_law_is_ratio" s_law_is_ratio f cd A outer s H E).mg "isinstance" = none := m_isinstance
  have bn_tuple : (cxD P w K mg base ["_law_value"] "_law_is_ratio" s_law_is_ratio f cd A outer s H E).mg "tuple" = none := m_tuple
  have bn_len : (cxD P w K mg base ["_law_value"] "_law_is_ratio" s_law_is_ratio f cd A outer s H E).mg "len" = none := m_len
  obtain ⟨d, rfl, ⟨⟨t, ht⟩, hi⟩, q⟩ := h
  have fin : Φ (.bl (isR d)) μ → isR d = false → Φ (.bl false) μ := fun h z => by rw [z] at h; exact h
  refine s_cons (s_if (t_bool (tw_or (t_not (t_val ?_)))))
  walk_at "dd"
  cases d with
  | int i => exact c_isi (k := false) (tr_bl (orY rfl (yes rfl (s_one (s_ret (d_bl (fin q rfl)))))))
  | bl b => exact c_isi (k := false) (tr_bl (orY rfl (yes rfl (s_one (s_ret (d_bl (fin q rfl)))))))
  | non => exact c_isi (k := false) (tr_bl (orY rfl (yes rfl (s_one (s_ret (d_bl (fin q rfl)))))))
  | str x => exact c_isi (k := false) (tr_bl (orY rfl (yes rfl (s_one (s_ret (d_bl (fin q rfl)))))))
  | lst ds => exact c_isi (k := false) (tr_bl (orY rfl (yes rfl (s_one (s_ret (d_bl (fin q rfl)))))))
  | dck ks => exact c_isi (k := false) (tr_bl (orY rfl (yes rfl (s_one (s_ret (d_bl (fin q rfl)))))))
  | tup ds =>
    obtain ⟨hl, hp1⟩ := hi ds (.inr rfl)
    refine c_isi (k := true) (tr_bl (orN rfl (tw_or (t_cmp ?_))))
    walk_at "dd"
    have fl : ds.length ≠ 2 → isR (.tup ds) = false := fun h => by
      match ds, h with
      | [], _ => rfl
      | [a], _ => cases a <;> rfl
      | [a, b], h => exact absurd rfl h
      | a :: b :: c :: r, _ => cases a <;> first | rfl | (cases b <;> rfl)
    by_cases h2 : ds.length = 2
    · have e2 : ((ds.length : Int) = 2) := by omega
      refine orN (by simp [e2]) (tw_or (t_not (t_val ?_)))
      match ds, h2 with
      | [a, b], _ =>
        have pa : Pl1 a := hp1 a (by simp)
        have pb : Pl1 b := hp1 b (by simp)
        refine d_call Cn ?_
        walk_at "dd"
        refine ⟨a, rfl, pa, tr_bl ?_⟩
        cases hA : isI a with
        | false =>
          have hf : isR (.tup [a, b]) = false := by cases a <;> first | rfl | cases hA
          exact orY rfl (yes rfl (s_one (s_ret (d_bl (fin q hf)))))
        | true =>
          refine orN rfl (tw_or1 (t_not (t_val ?_)))
          refine d_call Cn ?_
          walk_at "dd"
          refine ⟨b, rfl, pb, tr_bl ?_⟩
          cases hB : isI b with
          | false =>
            have hf : isR (.tup [a, b]) = false := by cases a <;> first | rfl | (cases b <;> first | rfl | cases hB)
            exact yes rfl (s_one (s_ret (d_bl (fin q hf))))
          | true =>
            cases a with
            | int a =>
              cases b with
              | int b =>
                refine no rfl (s_nil (s_one (s_ret (d_and ?_))))
                walk_at "dd"
                refine way (fun h1 => d_one (d_cmp ?_)) (fun h1 => ?_)
                · refine d_call Cd ?_
                  refine da_cons (d_lst ?_) rfl
                  walk_at "dd"
                  refine ⟨(show 2 ≤ sizeLine by decide), ?_⟩
                  walk_at "dd"
                  refine ⟨[a, b], rfl, ?_⟩
                  walk_at "dd"
                  rw [gcdL_two]
                  have e : isR (.tup [.int a, .int b]) = decide ((Int.gcd a b : Int) = 1) := by
                    show (decide (1 ≤ b) && decide ((Int.gcd a b : Int) = 1)) = _
                    rw [decide_eq_true (show 1 ≤ b by omega)]
                    rfl
                  rw [e] at q
                  exact q
                · refine fin q ?_
                  show (decide (1 ≤ b) && decide ((Int.gcd a b : Int) = 1)) = _
                  rw [decide_eq_false (show ¬ 1 ≤ b by omega)]
                  rfl
              | _ => cases hB
            | _ => cases hA
    · have e2 : ¬ ((ds.length : Int) = 2) := by omega
      exact orY (by simp [e2]) (yes rfl (s_one (s_ret (d_bl (fin q (fl h2))))))
  | _ => cases ht
def spMinusR : DSp := fun ds μ Φ _ => ∃ r s : Int × Int, ds = [dR r, dR s] ∧ RB r ∧ RB s ∧ Φ (dR (ratP (r.1 * s.2 - s.1 * r.2) (r.2 * s.2))) μ
theorem ok_minusR (D : DefT K mg "_law_minus" s_law_minus ["_law_one", "_law_other"]) (Cr : Cal P w K mg base 2 "_law_ratio" spLRatio) : Cal P w K mg base 3 "_law_minus" spMinusR := by
  refine D.cal (k := 2) sc_law_minus (fun ds μ Φ Ψ ⟨r, s, e, _⟩ => by rw [e]; rfl) (fun ds μ Φ Ψ h => ⟨fun f cd A outer s H E G0 hr hp tk => ?_⟩)
  have hnd := sc_law_minus.nd
  have nm0 : (cxD P w K mg base ["_law_one", "_law_other"] "_law_minus" s_law_minus f cd A outer s H E).N[0]? = some ("_law_one" : Str) ∧ (("_law_one" : Str) == ("__debug__" : Str)) = false ∧ (("_law_one" : Str) == ("__classdict__" : Str)) = false := ⟨rfl, by decide, by decide⟩
  have nm1 : (cxD P w K mg base ["_law_one", "_law_other"] "_law_minus" s_law_minus f cd A outer s H E).N[1]? = some ("_law_other" : Str) ∧ (("_law_other" : Str) == ("__debug__" : Str)) = false ∧ (("_law_other" : Str) == ("__classdict__" : Str)) = false := ⟨rfl, by decide, by decide⟩
  obtain ⟨⟨a, b⟩, ⟨c, d⟩, rfl, h1, h2, q⟩ := h
  have p3 : 0 < b * d := Int.mul_pos h1.pos h2.pos
  unfold dR
  refine s_one (s_ret ?_)
  refine d_call Cr ?_
  walk_at "dd"
  refine o_mul ⟨mulOk h1.top h2.bot (by decide), ?_⟩
  walk_at "dd"
  refine o_mul ⟨mulOk h2.top h1.bot (by decide), ?_⟩
  walk_at "dd"
  refine o_mul ⟨mulOk h1.bot h2.bot (by decide), ?_⟩
  walk_at "dd"
  exact ⟨_, _, rfl, (Int.ne_of_lt p3).symm, na_up (na_mul h1.bot h2.bot) (by decide), q⟩
end
end K35

open PySem PySem.Spec PyProof.Rows L2 DL
namespace K35
section
/-! ### what is asked of lists and shares -/
def M35 : Int := 2520 * ((10 ^ 24 + 1) * (10 ^ 24 + 2) * (10 ^ 24 + 3) * (10 ^ 24 + 4) * (10 ^ 24 + 5) * (10 ^ 24 + 6) * (10 ^ 24 + 7) * (10 ^ 24 + 8) * (10 ^ 24 + 9))
theorem mv35 : MV M35 (60 * 60) := ⟨by decide +kernel, by decide +kernel, by decide +kernel⟩
theorem mv35' : MV M35 60 := ⟨by decide +kernel, by decide +kernel, by decide +kernel⟩
/-- plain values, all the way down -/
def HasPy (d : D) : Prop := ∃ p : PyData, (∀ μ, Py μ d p) ∧ p.canLay0 = true ∧ p.depth ≤ 10
structure Inp (its : List (List D)) (ss : List D) : Prop where
  len : its.length ≤ 40
  it : ∀ it ∈ its, it.length ≤ 60 ∧ ∀ x ∈ it, Pl2 x ∧ HasPy x ∧ (isR x = true → RM M35 60 (ratOf x))
  sl : ss.length ≤ 41
  s1 : ∀ x ∈ ss, Pl1 x ∧ HasPy x ∧ ∀ i, x = .int i → i.natAbs ≤ 1001
def rowsOf (its : List (List D)) : List (List (Int × Int)) := its.map fun it => it.map ratOf
def shOk (its : List (List D)) (ss : List D) : Bool := shB ss && decide (ss.length = its.length)
def dueL (its : List (List D)) (ss : List D) : List D := (blendR (its.headD []).length (rowsOf its) (ss.map dInt)).map dR
def dueD (its : List (List D)) (ss : List D) : D :=
  if shOk its ss = false then .str "shares" else if its.all okL = false then .str "division" else if sameL its = false then .str "mismatch" else .lst (dueL its ss)
theorem sum_nn : ∀ l : List Int, (∀ x ∈ l, 0 ≤ x) → 0 ≤ l.sum
  | [], _ => by simp
  | x :: l, h => by
    have a := sum_nn l fun y hy => h y (List.mem_cons_of_mem _ hy)
    have b := h x List.mem_cons_self
    rw [List.sum_cons]
    omega
theorem sum_pos {ns : List Int} (h0 : ∀ x ∈ ns, 0 ≤ x) : (∃ x ∈ ns, 0 < x) ↔ 0 < ns.sum := by
  induction ns with
  | nil => simp
  | cons x l ih =>
    have hl : ∀ y ∈ l, 0 ≤ y := fun y hy => h0 y (List.mem_cons_of_mem _ hy)
    have hx := h0 x List.mem_cons_self
    have hs : 0 ≤ l.sum := sum_nn l hl
    have ih := ih hl
    rw [List.sum_cons]
    constructor
    · rintro ⟨y, hy, hy0⟩
      rcases List.mem_cons.mp hy with e | e
      · rw [← e]
        omega
      · have := ih.mp ⟨y, e, hy0⟩
        omega
    · intro h
      by_cases hx0 : 0 < x
      · exact ⟨x, List.mem_cons_self, hx0⟩
      · obtain ⟨y, hy, hy0⟩ := ih.mpr (by omega)
        exact ⟨y, List.mem_cons_of_mem _ hy, hy0⟩
theorem shB_ints {ns : List Int} : shB (ns.map .int) = decide ((∀ x ∈ ns, 0 ≤ x) ∧ 0 < ns.sum) := by
  unfold shB
  have e1 : (ns.map D.int).all isI = true := List.all_eq_true.mpr fun x hx => by
    obtain ⟨i, _, rfl⟩ := List.mem_map.mp hx
    rfl
  rw [e1, Bool.true_and, Bool.eq_iff_iff, Bool.and_eq_true, decide_eq_true_eq, List.any_eq_true, List.all_eq_true]
  constructor
  · rintro ⟨⟨x, hx, hx0⟩, h⟩
    have h0 : ∀ x ∈ ns, 0 ≤ x := fun x hx => of_decide_eq_true (h _ (List.mem_map.mpr ⟨x, hx, rfl⟩))
    obtain ⟨i, hi, rfl⟩ := List.mem_map.mp hx
    exact ⟨h0, (sum_pos h0).mp ⟨i, hi, of_decide_eq_true hx0⟩⟩
  · rintro ⟨h0, hs⟩
    obtain ⟨x, hx, hx0⟩ := (sum_pos h0).mpr hs
    refine ⟨⟨_, List.mem_map.mpr ⟨x, hx, rfl⟩, decide_eq_true hx0⟩, fun y hy => ?_⟩
    obtain ⟨i, hi, rfl⟩ := List.mem_map.mp hy
    exact decide_eq_true (h0 i hi)
theorem map_dInt (ns : List Int) : (ns.map D.int).map dInt = ns := by
  rw [List.map_map]
  exact (List.map_congr_left fun i _ => rfl).trans (List.map_id ns)
theorem Inp.good {its : List (List D)} {ss : List D} (h : Inp its ss) (a : shOk its ss = true) (b : its.all okL = true) (c : sameL its = true) : Good M35 60 (its.headD []).length (rowsOf its) (ss.map dInt) ∧ its = (rowsOf its).map (fun row => row.map dR) ∧ ss = (ss.map dInt).map .int := by
  unfold shOk at a
  rw [Bool.and_eq_true] at a
  obtain ⟨a, al⟩ := a
  have al := of_decide_eq_true al
  have aI : ss.all isI = true := by
    unfold shB at a
    rw [Bool.and_eq_true] at a
    exact a.1
  obtain ⟨ns, rfl⟩ := all_ints aI
  rw [map_dInt]
  rw [shB_ints] at a
  obtain ⟨n0, nsum⟩ := of_decide_eq_true a
  rw [List.length_map] at al
  have nb : ∀ x ∈ ns, x.natAbs ≤ 1001 := fun x hx => (h.s1 _ (List.mem_map.mpr ⟨x, hx, rfl⟩)).2.2 x rfl
  have hsl := h.sl
  rw [List.length_map] at hsl
  have ok : ∀ it ∈ its, it.all isR = true ∧ 1 ≤ it.length ∧ it.length ≤ 5 := fun it hit => by
    have := List.all_eq_true.mp b it hit
    unfold okL at this
    rw [Bool.and_eq_true, Bool.and_eq_true] at this
    exact ⟨this.1, of_decide_eq_true this.2.1, of_decide_eq_true this.2.2⟩
  have hne : its ≠ [] := fun z => by
    rw [z] at al
    have : ns = [] := List.eq_nil_of_length_eq_zero al
    rw [this] at nsum
    exact absurd nsum (by decide)
  have h0 : its.headD [] ∈ its := by
    cases its with
    | nil => exact absurd rfl hne
    | cons x l => exact List.mem_cons_self
  have back : ∀ it ∈ its, (it.map ratOf).map dR = it := fun it hit => by
    rw [List.map_map]
    refine (List.map_congr_left fun x hx => ?_).trans (List.map_id it)
    exact (isR_at (List.all_eq_true.mp (ok it hit).1 x hx)).1.symm
  refine ⟨⟨mv35', by unfold rowsOf; rw [List.length_map]; have := h.len; omega, fun z => hne (List.map_eq_nil_iff.mp z), (ok _ h0).2.2, (ok _ h0).2.1, fun row hrow => ?_, ⟨fun s hs => Nat.lt_of_le_of_lt (nb s hs) (by decide), nsum, ?_⟩, by unfold rowsOf; rw [List.length_map]; exact al⟩, ?_, rfl⟩
  · obtain ⟨it, hit, rfl⟩ := List.mem_map.mp hrow
    refine ⟨by rw [List.length_map]; exact of_decide_eq_true (List.all_eq_true.mp c it hit), fun r hr => ?_⟩
    obtain ⟨x, hx, rfl⟩ := List.mem_map.mp hr
    have hR := List.all_eq_true.mp (ok it hit).1 x hx
    exact ⟨((h.it it hit).2 x hx).2.2 hR, (isR_at hR).2⟩
  · have := sum_abs nb
    refine Nat.lt_of_le_of_lt this (Nat.lt_of_le_of_lt (Nat.mul_le_mul_right _ hsl) (by decide))
  · unfold rowsOf
    rw [List.map_map]
    exact ((List.map_congr_left fun it hit => back it hit).trans (List.map_id its)).symm
/-- a list of plain values, as plain data -/
theorem py_all {ds : List D} (h : ∀ x ∈ ds, HasPy x) : ∃ ps : List PyData, (∀ μ, PyAll μ ds ps) ∧ PyData.canLayAll0 ps = true ∧ PyData.depthAll ps ≤ 11 ∧ ps.length = ds.length := by
  induction ds with
  | nil => exact ⟨[], fun μ => .nil, by rw [PyData.canLayAll0], by rw [PyData.depthAll]; omega, rfl⟩
  | cons x l ih =>
    obtain ⟨p, h1, h2, h3⟩ := h x List.mem_cons_self
    obtain ⟨ps, g1, g2, g3, g4⟩ := ih fun y hy => h y (List.mem_cons_of_mem _ hy)
    refine ⟨p :: ps, fun μ => .cons (h1 μ) (g1 μ), by rw [PyData.canLayAll0, h2, g2]; rfl, by rw [PyData.depthAll]; omega, by rw [List.length_cons, List.length_cons, g4]⟩
theorem o_neNil {X : Cx} {μ : Mu} {Φ : DK} {ds : List D} (hu : X.A.units + 64 < cLine) (h : ∀ x ∈ ds, HasPy x) (q : Φ (.bl (!ds.isEmpty)) μ) : dOp X (compareOp .NotEq) (.lst ds) (.lst []) μ Φ := by
  obtain ⟨ps, g1, g2, g3, g4⟩ := py_all h
  refine o_neD (q := .list []) hu (.lst (g1 μ)) (.lst .nil) (Bool.and_eq_true_iff.mpr ⟨by rw [PyData.canLay0]; exact g2, decide_eq_true (by rw [PyData.depth]; omega)⟩) rfl ?_
  have e : PyData.eqv (.list ps) (.list []) = ds.isEmpty := by
    rw [PyData.eqv]
    cases ds with
    | nil =>
      have : ps = [] := List.eq_nil_of_length_eq_zero g4
      rw [this, PyData.eqvAll]
      rfl
    | cons x l =>
      cases ps with
      | nil => cases g4
      | cons p ps => simp [PyData.eqvAll]
  rw [e]
  exact q
/-! ### the mean, as the law reckons it -/
theorem added_gen {L : List (Int × Int)} {U : Int} (hU : 0 < U) (hp : ∀ r ∈ L, 0 < r.2 ∧ r.2 ∣ U) : ratP (L.map fun r => r.1 * U.fdiv r.2).sum U = tot L := by
  have hp1 : ∀ r ∈ L, 0 < r.2 := fun r h => (hp r h).1
  refine ratP_uniq hU (tot_low L hp1) ?_
  have a := tops_sum U L hp
  have b := tot_val L hp1
  have d0 : (sumND L).2 ≠ 0 := by have := sumND_pos L hp1; omega
  refine Int.eq_of_mul_eq_mul_right d0 ?_
  generalize (L.map fun r => r.1 * U.fdiv r.2).sum = S at *
  generalize (sumND L).1 = n1 at *
  generalize (sumND L).2 = d1 at *
  grind
/-- what the law adds for one list -/
def partR (S : Int) (p : Int × (Int × Int)) : Int × Int := ratP (p.2.1 * p.1) (p.2.2 * S)
theorem part_eq {U S s : Int} {r : Int × Int} (hr : 0 < r.2) (hd : r.2 ∣ U) (hS : 0 < S) : 0 < (partR S (s, r)).2 ∧ (partR S (s, r)).2 ∣ U * S ∧ (partR S (s, r)).1 * (U * S).fdiv (partR S (s, r)).2 = s * (r.1 * U.fdiv r.2) := by
  have hb : 0 < r.2 * S := Int.mul_pos hr hS
  have lw := ratP_low (a := r.1 * s) hb
  have dv : (partR S (s, r)).2 ∣ U * S := Int.dvd_trans (ratP_bot_dvd _ _) (Int.mul_dvd_mul_right S hd)
  have v : (partR S (s, r)).1 * (r.2 * S) = r.1 * s * (partR S (s, r)).2 := ratP_val _ _
  have hp : 0 < (partR S (s, r)).2 := lw.pos
  refine ⟨hp, dv, ?_⟩
  have e1 : (U * S).fdiv (partR S (s, r)).2 * (partR S (s, r)).2 = U * S := by
    rw [Int.fdiv_eq_ediv_of_dvd dv]
    exact Int.ediv_mul_cancel dv
  have e2 : U.fdiv r.2 * r.2 = U := by
    rw [Int.fdiv_eq_ediv_of_dvd hd]
    exact Int.ediv_mul_cancel hd
  generalize (U * S).fdiv (partR S (s, r)).2 = k at e1 ⊢
  generalize U.fdiv r.2 = l at e2 ⊢
  generalize (partR S (s, r)).1 = a at v ⊢
  generalize (partR S (s, r)).2 = b at *
  have z : b * r.2 ≠ 0 := by have := Int.mul_pos hp hr; omega
  refine Int.eq_of_mul_eq_mul_right z ?_
  grind
theorem mean_tot {rs : List (Int × Int)} {ns : List Int} (hp : ∀ r ∈ rs, 0 < r.2) (hS : 0 < ns.sum) (hl : ns.length = rs.length) : tot ((ns.zip rs).map (partR ns.sum)) = meanR rs ns := by
  have hU := unitL_pos0 rs hp
  have key : ∀ p ∈ ns.zip rs, 0 < p.2.2 ∧ p.2.2 ∣ unitL rs := fun p h => by
    have := (List.of_mem_zip h).2
    exact ⟨hp _ this, unitL_dvd0 rs _ this⟩
  unfold meanR
  rw [← added_gen (U := unitL rs * ns.sum) (Int.mul_pos hU hS)]
  · congr 1
    unfold wsum tops
    rw [List.map_map, List.zip_map_right, List.map_map]
    congr 1
    refine List.map_congr_left fun p hp2 => ?_
    obtain ⟨k1, k2⟩ := key p hp2
    exact (part_eq (s := p.1) k1 k2 hS).2.2
  · intro r hr
    obtain ⟨p, hp2, rfl⟩ := List.mem_map.mp hr
    obtain ⟨k1, k2⟩ := key p hp2
    have := part_eq (s := p.1) k1 k2 hS
    exact ⟨this.1, this.2.1⟩
end
end K35

open PySem PySem.Spec PyProof.Rows L2 DL
namespace K35
section
variable {P : Program} {w : World} {K : PySem.W.Frag} {mg : Str → Option Value} {base : Heap} {CB CS CN CM : Addr}
structure Exs (K : PySem.W.Frag) (CS CN CM : Addr) : Prop where
  ns : PySem.W.exmOne K (.ref CN) (.ref CS) = some false
  ms : PySem.W.exmOne K (.ref CM) (.ref CS) = some false
  mn : PySem.W.exmOne K (.ref CM) (.ref CN) = some false
def spTold : DSp := fun ds μ Φ _ => ∃ (its : List (List D)) (ss : List D) (L S : D), ds = [L, S] ∧ Lists L its ∧ (S = .lst ss ∨ S = .tup ss) ∧ Inp its ss ∧ Φ (dueD its ss) μ
theorem Inp.blend {μ : Mu} {Φ : DK} {Ψ : DX} {its : List (List D)} {ss : List D} {L S : D} (h : Inp its ss) (hL : Lists L its) (hS : S = .lst ss ∨ S = .tup ss) (q1 : shOk its ss = false → Ψ CS bareG μ) (q2 : shOk its ss = true → its.all okL = false → Ψ CN bareG μ) (q3 : shOk its ss = true → its.all okL = true → sameL its = false → Ψ CM bareG μ)
    (q4 : shOk its ss = true → its.all okL = true → sameL its = true → ∀ p, μ p = none → Φ (.ref p) (updM μ p (.lst (dueL its ss)))) : spBlend CS CN CM [L, S] μ Φ Ψ := by
  refine ⟨its, ss, L, S, rfl, hL, hS, by have := h.len; omega, fun it hit => ⟨by have := (h.it it hit).1; omega, fun x hx => ((h.it it hit).2 x hx).1⟩, by have := h.sl; omega, fun x hx => (h.s1 x hx).1, q1, q2, q3, fun a b c => ?_⟩
  obtain ⟨g, e1, e2⟩ := h.good a b c
  exact ⟨M35, 60, _, _, _, g, e1, e2, q4 a b c⟩
theorem ok_told (ex : Exs K CS CN CM) (TS : BareT K mg "BadShares" CS) (TN : BareT K mg "NotDivision" CN) (TM : BareT K mg "Mismatch" CM) (Cb : Cal P w K mg base 7 "blended" (spBlend CS CN CM)) (Df : DefT K mg "_law_told" s_law_told ["_law_lists", "_law_shares_here"]) : Cal P w K mg base 9 "_law_told" spTold := by
  refine Df.cal (k := 8) sc_law_told (fun ds μ Φ Ψ ⟨its, ss, L, S, e, _⟩ => by rw [e]; rfl) (fun ds μ Φ Ψ h => ⟨fun f cd A outer s H E G0 hr hp tk => ?_⟩)
  have hnd := sc_law_told.nd
  have nm0 : (cxD P w K mg base ["_law_lists", "_law_shares_here"] "_law_told" s_law_told f cd A outer s H E).N[0]? = some ("_law_lists" : Str) ∧ (("_law_lists" : Str) == ("__debug__" : Str)) = false ∧ (("_law_lists" : Str) == ("__classdict__" : Str)) = false := ⟨rfl, by decide, by decide⟩
  have nm1 : (cxD P w K mg base ["_law_lists", "_law_shares_here"] "_law_told" s_law_told f cd A outer s H E).N[1]? = some ("_law_shares_here" : Str) ∧ (("_law_shares_here" : Str) == ("__debug__" : Str)) = false ∧ (("_law_shares_here" : Str) == ("__classdict__" : Str)) = false := ⟨rfl, by decide, by decide⟩
  obtain ⟨its, ss, L, S, rfl, hL, hS, hI, q⟩ := h
  refine s_one (s_tryC (dcl_bare TS.gC (dcl_bare TN.gC (dcl_bare TM.gC (dcl_nil tk)))) fun pn xe hp2 tk2 => s_one (s_ret (d_fz (d_callX Cb tk2 ?_))))
  walk_at "dd"
  unfold dueD at q
  refine hI.blend hL hS (fun z => ?_) (fun z1 z2 => ?_) (fun z1 z2 z3 => ?_) (fun z1 z2 z3 p hp => ?_)
  · refine ⟨true, TS.exm, fun _ x d' oe pn2 hz hv => s_one (s_ret ?_), fun z => by cases z⟩
    walk_at "dd"
    rw [if_pos z] at q
    exact q
  · refine ⟨false, ex.ns, (fun z => by cases z), fun _ => ⟨true, TN.exm, fun _ x d' oe pn2 hz hv => s_one (s_ret ?_), fun z => by cases z⟩⟩
    walk_at "dd"
    rw [if_neg (by rw [z1]; decide), if_pos z2] at q
    exact q
  · refine ⟨false, ex.ms, (fun z => by cases z), fun _ => ⟨false, ex.mn, (fun z => by cases z), fun _ => ⟨true, TM.exm, fun _ x d' oe pn2 hz hv => s_one (s_ret ?_), fun z => by cases z⟩⟩⟩
    walk_at "dd"
    rw [if_neg (by rw [z1]; decide), if_neg (by rw [z2]; decide), if_pos z3] at q
    exact q
  · rw [if_neg (by rw [z1]; decide), if_neg (by rw [z2]; decide), if_neg (by rw [z3]; decide)] at q
    exact fz_ref hp q
def spDue : DSp := fun ds μ Φ _ => ∃ (its : List (List D)) (ss : List D), ds = [.lst (its.map .lst), .lst ss] ∧ Inp its ss ∧ Φ (dueD its ss) μ
theorem okL_eq (it : List D) : okL it = (decide (1 ≤ it.length) && (decide (it.length ≤ 5) && it.all isR)) := by
  unfold okL
  rw [Bool.and_comm, Bool.and_assoc]
theorem filt_no {ds : List D} {t : D → Bool} : (ds.filter fun d => !t d).isEmpty = ds.all t := by
  rw [Bool.eq_iff_iff, List.isEmpty_iff, List.filter_eq_nil_iff, List.all_eq_true]
  constructor
  · intro h x hx
    have := h x hx
    simpa using this
  · intro h x hx
    simp [h x hx]
def HasPyL (d : D) : Prop := ∃ p : PyData, (∀ μ, Py μ d p) ∧ p.canLay0 = true ∧ p.depth ≤ 12
theorem hasPyL {it : List D} (h : ∀ x ∈ it, HasPy x) : HasPyL (.lst it) := by
  obtain ⟨ps, g1, g2, g3, _⟩ := py_all h
  exact ⟨.list ps, fun μ => .lst (g1 μ), by rw [PyData.canLay0]; exact g2, by rw [PyData.depth]; omega⟩
theorem py_allL {ds : List D} (h : ∀ x ∈ ds, HasPyL x) : ∃ ps : List PyData, (∀ μ, PyAll μ ds ps) ∧ PyData.canLayAll0 ps = true ∧ PyData.depthAll ps ≤ 13 ∧ ps.length = ds.length := by
  induction ds with
  | nil => exact ⟨[], fun μ => .nil, by rw [PyData.canLayAll0], by rw [PyData.depthAll]; omega, rfl⟩
  | cons x l ih =>
    obtain ⟨p, h1, h2, h3⟩ := h x List.mem_cons_self
    obtain ⟨ps, g1, g2, g3, g4⟩ := ih fun y hy => h y (List.mem_cons_of_mem _ hy)
    refine ⟨p :: ps, fun μ => .cons (h1 μ) (g1 μ), by rw [PyData.canLayAll0, h2, g2]; rfl, by rw [PyData.depthAll]; omega, by rw [List.length_cons, List.length_cons, g4]⟩
theorem o_neNilL {X : Cx} {μ : Mu} {Φ : DK} {ds : List D} (hu : X.A.units + 64 < cLine) (h : ∀ x ∈ ds, HasPyL x) (q : Φ (.bl (!ds.isEmpty)) μ) : dOp X (compareOp .NotEq) (.lst ds) (.lst []) μ Φ := by
  obtain ⟨ps, g1, g2, g3, g4⟩ := py_allL h
  refine o_neD (q := .list []) hu (.lst (g1 μ)) (.lst .nil) (Bool.and_eq_true_iff.mpr ⟨by rw [PyData.canLay0]; exact g2, decide_eq_true (by rw [PyData.depth]; omega)⟩) rfl ?_
  have e : PyData.eqv (.list ps) (.list []) = ds.isEmpty := by
    rw [PyData.eqv]
    cases ds with
    | nil =>
      have : ps = [] := List.eq_nil_of_length_eq_zero g4
      rw [this, PyData.eqvAll]
      rfl
    | cons x l =>
      cases ps with
      | nil => cases g4
      | cons p ps => simp [PyData.eqvAll]
  rw [e]
  exact q
theorem ratP_RM {M : Int} {V : Nat} {a b : Int} (hb : 0 < b) (hd : b ∣ M) (hv : a.natAbs ≤ V * b.natAbs) : RM M V (ratP a b) ∧ Low (ratP a b) := by
  have lw := ratP_low (a := a) hb
  refine ⟨⟨lw.pos, Int.dvd_trans (ratP_bot_dvd a b) hd, ?_⟩, lw⟩
  have v := ratP_val a b
  have va : (ratP a b).1.natAbs * b.natAbs = a.natAbs * (ratP a b).2.natAbs := by rw [← Int.natAbs_mul, v, Int.natAbs_mul]
  have h1 : (ratP a b).1.natAbs * b.natAbs ≤ V * (ratP a b).2.natAbs * b.natAbs := by
    rw [va]
    calc a.natAbs * (ratP a b).2.natAbs ≤ V * b.natAbs * (ratP a b).2.natAbs := Nat.mul_le_mul_right _ hv
      _ = V * (ratP a b).2.natAbs * b.natAbs := by rw [Nat.mul_assoc, Nat.mul_comm b.natAbs, ← Nat.mul_assoc]
  exact Nat.le_of_mul_le_mul_right h1 (by omega)
theorem rb_of {M : Int} {V : Nat} {r : Int × Int} (h : RM M V r) (hMV : MV M V) : RB r := ⟨h.pos, h.topB hMV, na_up (h.botB hMV) (by decide)⟩
theorem mem_le {ns : List Int} (h0 : ∀ x ∈ ns, 0 ≤ x) {s : Int} (hs : s ∈ ns) : s ≤ ns.sum := by
  induction ns with
  | nil => cases hs
  | cons x l ih =>
    have hl : ∀ y ∈ l, 0 ≤ y := fun y hy => h0 y (List.mem_cons_of_mem _ hy)
    have a := sum_nn l hl
    have b := h0 x List.mem_cons_self
    rw [List.sum_cons]
    rcases List.mem_cons.mp hs with e | e
    · omega
    · have := ih hl e
      omega
theorem part_rm {S s : Int} {r : Int × Int} (h : RM M35 60 r) (hS : 0 < S) (h0 : 0 ≤ s) (hs : s ≤ S) : RM (M35 * S) 60 (partR S (s, r)) := by
  refine (ratP_RM (Int.mul_pos h.pos hS) (Int.mul_dvd_mul_right S h.dv) ?_).1
  show (r.1 * s).natAbs ≤ 60 * (r.2 * S).natAbs
  rw [Int.natAbs_mul, Int.natAbs_mul, ← Nat.mul_assoc]
  exact Nat.mul_le_mul h.val (by omega)
theorem mvS {S : Int} (hS : 0 < S) (h : S.natAbs < 2 ^ 100) : MV (M35 * S) (60 * 60) := by
  have a : M35.natAbs < 2 ^ 800 := by decide +kernel
  exact ⟨Int.mul_pos (by decide +kernel) hS, na_up (na_mul a h) (by decide), by decide +kernel⟩
theorem ok_due (Cn : Cal P w K mg base 1 "_law_is_number" spNumG) (Cr : Cal P w K mg base 2 "_law_is_ratio" spLIsR) (Cl : Cal P w K mg base 2 "_law_ratio" spLRatio) (Cp : Cal P w K mg base 3 "_law_plus" spPlusR) (Df : DefT K mg "_law_due" s_law_due ["_law_lists", "_law_shares_here"]) (m_len : mg "len" = none) (m_sum : mg "sum" = none) (m_range : mg "range" = none) : Cal P w K mg base 4 "_law_due" spDue := by
  refine Df.cal (k := 3) sc_law_due (fun ds μ Φ Ψ ⟨its, ss, e, _⟩ => by rw [e]; rfl) (fun ds μ Φ Ψ h => ⟨fun f cd A outer s H E G0 hr hp tk => ?_⟩)
  have hnd := sc_law_due.nd
  have nm0 : (cxD P w K mg base ["_law_lists", "_law_shares_here", "_law_row", "_law_found", "_law_at", "_law_total_here", "_law_k", "_law_one", "_law_top", "_law_bottom"] "_law_due" s_law_due f cd A outer s H E).N[0]? = some ("_law_lists" : Str) ∧ (("_law_lists" : Str) == ("__debug__" : Str)) = false ∧ (("_law_lists" : Str) == ("__classdict__" : Str)) = false := ⟨rfl, by decide, by decide⟩
  have nm1 : (cxD P w K mg base ["_law_lists", "_law_shares_here", "_law_row", "_law_found", "_law_at", "_law_total_here", "_law_k", "_law_one", "_law_top", "_law_bottom"] "_law_due" s_law_due f cd A outer s H E).N[1]? = some ("_law_shares_here" : Str) ∧ (("_law_shares_here" : Str) == ("__debug__" : Str)) = false ∧ (("_law_shares_here" : Str) == ("__classdict__" : Str)) = false := ⟨rfl, by decide, by decide⟩
  have nm2 : (cxD P w K mg base ["_law_lists", "_law_shares_here", "_law_row", "_law_found", "_law_at", "_law_total_here", "_law_k", "_law_one", "_law_top", "_law_bottom"] "_law_due" s_law_due f cd A outer s H E).N[2]? = some ("_law_row" : Str) ∧ (("_law_row" : Str) == ("__debug__" : Str)) = false ∧ (("_law_row" : Str) == ("__classdict__" : Str)) = false := ⟨rfl, by decide, by decide⟩
  have nm3 : (cxD P w K mg base ["_law_lists", "_law_shares_here", "_law_row", "_law_found", "_law_at", "_law_total_here", "_law_k", "_law_one", "_law_top", "_law_bottom"] "_law_due" s_law_due f cd A outer s H E).N[3]? = some ("_law_found" : Str) ∧ (("_law_found" : Str) == ("__debug__" : Str)) = false ∧ (("_law_found" : Str) == ("__classdict__" : Str)) = false := ⟨rfl, by decide, by decide⟩
  have nm4 : (cxD P w K mg base ["_law_lists", "_law_shares_here", "_law_row", "_law_found", "_law_at", "_law_total_here", "_law_k", "_law_one", "_law_top", "_law_bottom"] "_law_due" s_law_due f cd A outer s H E).N[4]? = some ("_law_at" : Str) ∧ (("_law_at" : Str) == ("__debug__" : Str)) = false ∧ (("_law_at" : Str) == ("__classdict__" : Str)) = false := ⟨rfl, by decide, by decide⟩
  have nm5 : (cxD P w K mg base ["_law_lists", "_law_shares_here", "_law_row", "_law_found", "_law_at", "_law_total_here", "_law_k", "_law_one", "_law_top", "_law_bottom"] "_law_due" s_law_due f cd A outer s H E).N[5]? = some ("_law_total_here" : Str) ∧ (("_law_total_here" : Str) == ("__debug__" : Str)) = false ∧ (("_law_total_here" : Str) == ("__classdict__" : Str)) = false := ⟨rfl, by decide, by decide⟩
  have nm6 : (cxD P w K mg base ["_law_lists", "_law_shares_here", "_law_row", "_law_found", "_law_at", "_law_total_here", "_law_k", "_law_one", "_law_top", "_law_bottom"] "_law_due" s_law_due f cd A outer s H E).N[6]? = some ("_law_k" : Str) ∧ (("_law_k" : Str) == ("__debug__" : Str)) = false ∧ (("_law_k" : Str) == ("__classdict__" : Str)) = false := ⟨rfl, by decide, by decide⟩
  have nm7 : (cxD P w K mg base ["_law_lists", "_law_shares_here", "_law_row", "_law_found", "_law_at", "_law_total_here", "_law_k", "_law_one", "_law_top", "_law_bottom"] "_law_due" s_law_due f cd A outer s H E).N[7]? = some ("_law_one" : Str) ∧ (("_law_one" : Str) == ("__debug__" : Str)) = false ∧ (("_law_one" : Str) == ("__classdict__" : Str)) = false := ⟨rfl, by decide, by decide⟩
  have nm8 : (cxD P w K mg base ["_law_lists", "_law_shares_here", "_law_row", "_law_found", "_law_at", "_law_total_here", "_law_k", "_law_one", "_law_top", "_law_bottom"] "_law_due" s_law_due f cd A outer s H E).N[8]? = some ("_law_top" : Str) ∧ (("_law_top" : Str) == ("__debug__" : Str)) = false ∧ (("_law_top" : Str) == ("__classdict__" : Str)) = false := ⟨rfl, by decide, by decide⟩
  have nm9 : (cxD P w K mg base ["_law_lists", "_law_shares_here", "_law_row", "_law_found", "_law_at", "_law_total_here", "_law_k", "_law_one", "_law_top", "_law_bottom"] "_law_due" s_law_due f cd A outer s H E).N[9]? = some ("_law_bottom" : Str) ∧ (("_law_bottom" : Str) == ("__debug__" : Str)) = false ∧ (("_law_bottom" : Str) == ("__classdict__" : Str)) = false := ⟨rfl, by decide, by decide⟩
  have bn_len : (cxD P w K mg base ["_law_lists", "_law_shares_here", "_law_row", "_law_found", "_law_at", "_law_total_here", "_law_k", "_law_one", "_law_top", "_law_bottom"] "_law_due" s_law_due f cd A outer s H E).mg "len" = none := m_len
  have bn_sum : (cxD P w K mg base ["_law_lists", "_law_shares_here", "_law_row", "_law_found", "_law_at", "_law_total_here", "_law_k", "_law_one", "_law_top", "_law_bottom"] "_law_due" s_law_due f cd A outer s H E).mg "sum" = none := m_sum
  have bn_range : (cxD P w K mg base ["_law_lists", "_law_shares_here", "_law_row", "_law_found", "_law_at", "_law_total_here", "_law_k", "_law_one", "_law_top", "_law_bottom"] "_law_due" s_law_due f cd A outer s H E).mg "range" = none := m_range
  obtain ⟨its, ss, rfl, hI, q⟩ := h
  have hil := hI.len
  have hsl := hI.sl
  have sh0 : (ss.length ≠ its.length ∨ ss.all (fun d => isI d && decide (0 ≤ dInt d)) = false ∨ (ss.map dInt).sum = 0) → Φ (.str "shares") μ := fun z => by
    have e : shOk its ss = false := by
      unfold shOk
      by_cases hl : ss.length = its.length
      · cases hA : ss.all isI with
        | false =>
          unfold shB
          rw [hA]
          rfl
        | true =>
          obtain ⟨ns, rfl⟩ := all_ints hA
          rw [shB_ints, map_dInt] at *
          have : ¬ ((∀ x ∈ ns, 0 ≤ x) ∧ 0 < ns.sum) := fun ⟨h0, hs⟩ => by
            rcases z with z | z | z
            · exact z hl
            · rw [List.all_eq_false] at z
              obtain ⟨x, hx, hx2⟩ := z
              obtain ⟨i, hi, rfl⟩ := List.mem_map.mp hx
              exact hx2 (by show (true && decide (0 ≤ i)) = true; rw [decide_eq_true (h0 i hi)]; rfl)
            · omega
          rw [decide_eq_false this]
          rfl
      · rw [decide_eq_false hl, Bool.and_false]
    unfold dueD at q
    rw [if_pos e] at q
    exact q
  refine s_cons (s_if (t_bool (tw_or (t_cmp ?_))))
  walk_at "dd"
  rw [List.length_map]
  by_cases hl : ¬ ss.length = its.length
  · refine orY (by rw [decide_eq_false (show ¬ (ss.length : Int) = its.length by omega)]; rfl) (yes rfl (s_one (s_ret ?_)))
    walk_at "dd"
    exact sh0 (.inl hl)
  have hl := Classical.not_not.mp hl
  refine orN (by rw [decide_eq_true (show (ss.length : Int) = its.length by omega)]; rfl) (tw_or1 (t_cmp ?_))
  refine d_lcLg (own := [("_law_one", 7)]) (vs := [7]) 7 (fun d => !(isI d && decide (0 ≤ dInt d))) ?_
  walk_at "dd"
  refine ⟨ss, rfl, by rw [sizeLine_eq]; omega, fun x hx p acc hpn => ⟨fun G1 s H0 C cl fp => ?_, fun G1 s H0 C cl fp => ?_⟩, ?_⟩
  · refine t_bool (tw_or (t_not (t_val ?_)))
    refine d_call Cn ?_
    walk_at "dd"
    refine ⟨x, rfl, (hI.s1 x hx).1, tr_bl ?_⟩
    cases hi : isI x with
    | false => exact orY rfl ⟨rfl, rfl⟩
    | true =>
      cases x with
      | int i =>
        refine orN rfl (tw_or1 (t_cmp ?_))
        walk_at "dd"
        refine ⟨?_, rfl⟩
        show decide (i < 0) = !(true && decide (0 ≤ i))
        rw [Bool.true_and, ← decide_not]
        exact decide_eq_decide.mpr (by omega)
      | _ => cases hi
  · walk_at "dd"
    exact ⟨rfl, rfl⟩
  walk_at "dd"
  refine d_lst ?_
  walk_at "dd"
  refine ⟨(show 0 ≤ sizeLine by decide), ?_⟩
  refine o_neNil (hu64 hr) (fun x hx => (hI.s1 x (List.mem_filter.mp hx).1).2.1) ?_
  rw [filt_no]
  cases hA : ss.all (fun d => isI d && decide (0 ≤ dInt d)) with
  | false =>
    refine bl_ex (yes rfl (s_one (s_ret ?_)))
    walk_at "dd"
    exact sh0 (.inr (.inl hA))
  | true =>
    refine bl_ex (no rfl (s_nil ?_))
    obtain ⟨ns, rfl⟩ : ∃ ns : List Int, ss = ns.map .int := all_ints (List.all_eq_true.mpr fun x hx => by
      have := List.all_eq_true.mp hA x hx
      rw [Bool.and_eq_true] at this
      exact this.1)
    have n0 : ∀ x ∈ ns, 0 ≤ x := fun x hx => by
      have := List.all_eq_true.mp hA _ (List.mem_map.mpr ⟨x, hx, rfl⟩)
      rw [Bool.and_eq_true] at this
      exact of_decide_eq_true this.2
    rw [map_dInt] at sh0
    refine s_cons (s_if (t_cmp ?_))
    walk_at "dd"
    refine c_sum ?_
    walk_at "dd"
    refine ⟨fun z => s_one (s_ret ?_), fun z => s_nil ?_⟩
    · walk_at "dd"
      exact sh0 (.inr (.inr (of_decide_eq_true z)))
    have hs0 := of_decide_eq_false z
    have hsum : 0 < ns.sum := by have := sum_nn ns n0; omega
    have hsh : shOk its (ns.map .int) = true := by
      unfold shOk
      rw [shB_ints, decide_eq_true ⟨n0, hsum⟩, decide_eq_true hl]
      rfl
    unfold dueD at q
    rw [if_neg (by rw [hsh]; decide)] at q
    have hdiv : its.all okL = false → Φ (.str "division") μ := fun z => by rw [if_pos z] at q; exact q
    refine s_cut (fun δ' μ' => (∃ v2, δ' = [some (.lst (its.map .lst)), some (.lst (ns.map .int)), v2, none, none, none, none, none, none, none] ∧ μ' = μ) ∧ its.all okL = true) ?_ ?_
    · refine s_forLx ?_
      walk_at "dd"
      refine ⟨its.map .lst, rfl, fun i δ' μ' => (∃ v2, δ' = [some (.lst (its.map .lst)), some (.lst (ns.map .int)), v2, none, none, none, none, none, none, none] ∧ μ' = μ) ∧ (its.take i).all okL = true, ⟨⟨none, rfl, rfl⟩, rfl⟩, ?_, ?_⟩
      · rintro i d δ' μ' hd ⟨⟨v2, rfl, rfl⟩, hprev⟩
        obtain ⟨it, hit, rfl⟩ : ∃ it, its[i]? = some it ∧ d = .lst it := by
          rw [List.getElem?_map] at hd
          cases e : its[i]? with
          | none => rw [e] at hd; cases hd
          | some it => rw [e] at hd; cases hd; exact ⟨it, rfl, rfl⟩
        have hm := List.mem_of_getElem? hit
        obtain ⟨hitl, hitx⟩ := hI.it it hm
        have bad : okL it = false → Φ (.str "division") μ' := fun z => hdiv (List.all_eq_false.mpr ⟨it, hm, by rw [z]; decide⟩)
        have okk := okL_eq it
        refine g_name (i := 2) fun G1 e1 => s_one (s_if (t_bool (tw_or (t_not (t_chain ?_)))))
        walk_at "dd"
        refine way (fun h1 => ?_) (fun h1 => ?_)
        · walk_at "dd"
          by_cases h5 : it.length ≤ 5
          · rw [decide_eq_true (show (it.length : Int) ≤ 5 by omega)]
            refine orN rfl (tw_or1 (t_cmp ?_))
            refine d_lcLg (own := [("_law_one", 7)]) (vs := [7]) 7 (fun d => !isR d) ?_
            walk_at "dd"
            refine ⟨it, rfl, by rw [sizeLine_eq]; omega, fun x hx p acc hpn => ⟨fun G1 s H0 C cl fp => ?_, fun G1 s H0 C cl fp => ?_⟩, ?_⟩
            · refine t_not (t_val ?_)
              refine d_call Cr ?_
              walk_at "dd"
              exact ⟨x, rfl, (hitx x hx).1, tr_bl ⟨rfl, rfl⟩⟩
            · walk_at "dd"
              exact ⟨rfl, rfl⟩
            walk_at "dd"
            refine d_lst ?_
            walk_at "dd"
            refine ⟨(show 0 ≤ sizeLine by decide), ?_⟩
            refine o_neNil (hu64 hr) (fun x hx => (hitx x (List.mem_filter.mp hx).1).2.1) ?_
            rw [filt_no]
            rw [decide_eq_true (show 1 ≤ it.length by omega), decide_eq_true h5] at okk
            cases hA2 : it.all isR with
            | false =>
              refine bl_ex (yes rfl (s_one (s_ret ?_)))
              walk_at "dd"
              exact bad (by rw [okk, hA2]; rfl)
            | true =>
              refine bl_ex (no rfl (s_nil ⟨⟨_, rfl, rfl⟩, ?_⟩))
              rw [List.take_add_one, hit, List.all_append, hprev]
              show (true && (okL it && true)) = true
              rw [okk, hA2]
              rfl
          · rw [decide_eq_false (show ¬ (it.length : Int) ≤ 5 by omega)]
            refine orY rfl (yes rfl (s_one (s_ret ?_)))
            walk_at "dd"
            exact bad (by rw [okk, decide_eq_false h5, Bool.false_and, Bool.and_false])
        · refine orY rfl (yes rfl (s_one (s_ret ?_)))
          walk_at "dd"
          exact bad (by rw [okk, decide_eq_false (show ¬ 1 ≤ it.length by omega), Bool.false_and])
      · rintro δ' μ' ⟨⟨v2, rfl, rfl⟩, hprev⟩
        rw [List.length_map, List.take_length] at hprev
        exact ⟨⟨v2, rfl, rfl⟩, hprev⟩
    rintro δ' μ' ⟨⟨v2, rfl, rfl⟩, hok⟩
    rw [if_neg (by rw [hok]; decide)] at q
    have hne : its ≠ [] := fun z => by
      rw [z] at hl
      have : ns = [] := by
        rw [List.length_map] at hl
        exact List.eq_nil_of_length_eq_zero hl
      rw [this] at hsum
      exact absurd hsum (by decide)
    obtain ⟨it0, rest, hcons⟩ : ∃ it0 rest, its = it0 :: rest := by
      cases its with
      | nil => exact absurd rfl hne
      | cons a b => exact ⟨a, b, rfl⟩
    have hd0 : its.headD [] = it0 := by rw [hcons]; rfl
    have hat0 : atI (its.map D.lst) 0 = some (.lst it0) := by
      rw [hcons]
      exact atI_nat (show ((it0 :: rest).map D.lst)[0]? = some (.lst it0) from rfl)
    refine s_cons (s_if (t_cmp ?_))
    refine d_lcLg (own := [("_law_row", 2)]) (vs := [2]) 2 (fun d => !decide ((itOf d).length = it0.length)) ?_
    walk_at "dd"
    refine ⟨its.map .lst, rfl, by rw [List.length_map, sizeLine_eq]; omega, fun x hx p acc hpn => ⟨fun G1 s H0 C cl fp => ?_, fun G1 s H0 C cl fp => ?_⟩, ?_⟩
    · obtain ⟨it, hit, rfl⟩ := List.mem_map.mp hx
      refine t_cmp ?_
      walk_at "dd"
      refine x_lst hat0 ?_
      walk_at "dd"
      refine ⟨?_, rfl⟩
      show (!decide ((it.length : Int) = it0.length)) = !decide (it.length = it0.length)
      rw [decide_eq_decide.mpr (show ((it.length : Int) = it0.length) ↔ it.length = it0.length by omega)]
    · walk_at "dd"
      exact ⟨rfl, rfl⟩
    walk_at "dd"
    refine d_lst ?_
    walk_at "dd"
    refine ⟨(show 0 ≤ sizeLine by decide), ?_⟩
    have hpyL : ∀ x ∈ its.map D.lst, HasPyL x := fun x hx => by
      obtain ⟨it, hit, rfl⟩ := List.mem_map.mp hx
      exact hasPyL fun y hy => ((hI.it it hit).2 y hy).2.1
    refine o_neNilL (hu64 hr) (fun x hx => hpyL x (List.mem_filter.mp hx).1) ?_
    rw [filt_no]
    have esm : (its.map D.lst).all (fun d => decide ((itOf d).length = it0.length)) = sameL its := by
      unfold sameL
      rw [List.all_map, hd0]
      rfl
    rw [esm]
    cases hsm : sameL its with
    | false =>
      rw [if_pos hsm] at q
      refine bl_ex (yes rfl (s_one (s_ret ?_)))
      walk_at "dd"
      exact q
    | true =>
      rw [if_neg (by rw [hsm]; decide)] at q
      obtain ⟨hG, ei, _⟩ := hI.good hsh hok hsm
      rw [map_dInt] at hG
      unfold dueL at q
      rw [map_dInt] at q
      generalize hrows : rowsOf its = rows at hG ei q
      rw [hd0] at hG q
      refine bl_ex (no rfl (s_nil ?_))
      refine s_cons (s_set (i := 3) (d_lstM ?_))
      walk_at "dd"
      refine ⟨(show 0 ≤ sizeLine by decide), fun l hl0 => ?_⟩
      have hGl := hG.len
      have hnl := hG.same
      have rlen : its.length = rows.length := by rw [ei, List.length_map]
      refine s_cut (fun δ' μ1 => (∃ v2 v4 v5 v6 v7 v8 v9, δ' = [some (.lst (its.map .lst)), some (.lst (ns.map .int)), v2, some (.ref l), v4, v5, v6, v7, v8, v9]) ∧ μ1 = updM μ' l (.lst ((blendR it0.length rows ns).map dR))) ?_ ?_
      · refine s_forR ?_
        walk_at "dd"
        refine x_lst hat0 ?_
        walk_at "dd"
        have h5 := hG.five
        refine ⟨it0.length, rfl, by omega, by omega, fun i δ' μ1 => (∃ v2 v4 v5 v6 v7 v8 v9, δ' = [some (.lst (its.map .lst)), some (.lst (ns.map .int)), v2, some (.ref l), v4, v5, v6, v7, v8, v9]) ∧ μ1 = updM μ' l (.lst ((((List.range it0.length).take i).map fun k => meanR (colR rows k) ns).map dR)), ⟨⟨_, _, _, _, _, _, _, rfl⟩, rfl⟩, ?_, ?_⟩
        · rintro i δ' μ1 hi ⟨⟨v2, v4, v5, v6, v7, v8, v9, rfl⟩, rfl⟩
          have hi2 : i < it0.length := by omega
          have colok : ∀ r ∈ colR rows i, RM M35 60 r := fun r hr => by
            obtain ⟨row, hrow, rfl⟩ := List.mem_map.mp hr
            have hk2 : i < row.length := by rw [(hG.row row hrow).1]; exact hi2
            rw [List.getD_eq_getElem?_getD, List.getElem?_eq_getElem hk2]
            exact ((hG.row row hrow).2 _ (List.getElem_mem hk2)).1
          have coll : (colR rows i).length = rows.length := by unfold colR; rw [List.length_map]
          have zl : (ns.zip (colR rows i)).length = rows.length := by rw [List.length_zip, coll, hnl, Nat.min_self]
          have zok : ∀ p ∈ ns.zip (colR rows i), RM (M35 * ns.sum) 60 (partR ns.sum p) := fun p hp2 => by
            have m1 := (List.of_mem_zip hp2).1
            have m2 := (List.of_mem_zip hp2).2
            exact part_rm (colok _ m2) hsum (n0 _ m1) (mem_le n0 m1)
          have hMV := mvS hsum hG.sh.sum
          have totrb : ∀ j, RB (tot (((ns.zip (colR rows i)).take j).map (partR ns.sum))) := fun j => by
            refine rb_of (V := 60 * 60) ((tot_RM (M := M35 * ns.sum) (V := 60) fun r hr => ?_).mono ?_) hMV
            · obtain ⟨p, hp2, rfl⟩ := List.mem_map.mp hr
              exact zok p (List.mem_of_mem_take hp2)
            · rw [List.length_map, List.length_take]
              exact Nat.mul_le_mul_right _ (by omega)
          refine g_name (i := 4) fun G1 e1 => ?_
          refine s_cons (s_set (i := 5) (d_tup ?_))
          walk_at "dd"
          refine ⟨(show 2 ≤ sizeLine by decide), ?_⟩
          refine s_cut (fun δ' μ2 => (∃ v6 v7 v8 v9, δ' = [some (.lst (its.map .lst)), some (.lst (ns.map .int)), v2, some (.ref l), some (.int i), some (dR (meanR (colR rows i) ns)), v6, v7, v8, v9]) ∧ μ2 = updM μ' l (.lst ((((List.range it0.length).take i).map fun k => meanR (colR rows k) ns).map dR))) ?_ ?_
          · refine s_forR ?_
            walk_at "dd"
            rw [List.length_map, rlen]
            refine ⟨rows.length, rfl, by omega, by omega, fun j δ' μ2 => (∃ v6 v7 v8 v9, δ' = [some (.lst (its.map .lst)), some (.lst (ns.map .int)), v2, some (.ref l), some (.int i), some (dR (tot (((ns.zip (colR rows i)).take j).map (partR ns.sum)))), v6, v7, v8, v9]) ∧ μ2 = updM μ' l (.lst ((((List.range it0.length).take i).map fun k => meanR (colR rows k) ns).map dR)), ⟨⟨_, _, _, _, rfl⟩, rfl⟩, ?_, ?_⟩
            · rintro j δ' μ2 hj ⟨⟨v6, v7, v8, v9, rfl⟩, rfl⟩
              have hj2 : j < rows.length := by omega
              obtain ⟨row, hrow⟩ : ∃ row, rows[j]? = some row := ⟨_, List.getElem?_eq_getElem hj2⟩
              obtain ⟨s, hs⟩ : ∃ s, ns[j]? = some s := ⟨_, List.getElem?_eq_getElem (by omega)⟩
              have hrm := hG.row row (List.mem_of_getElem? hrow)
              have hk2 : i < row.length := by rw [hrm.1]; exact hi2
              have hcol : (colR rows i)[j]? = some (row.getD i (0, 1)) := by unfold colR; rw [List.getElem?_map, hrow]; rfl
              have hz : (ns.zip (colR rows i))[j]? = some (s, row.getD i (0, 1)) := List.getElem?_zip_eq_some.mpr ⟨hs, hcol⟩
              have hitj : atI (its.map D.lst) (j : Int) = some (.lst (row.map dR)) := atI_nat (by rw [ei, List.getElem?_map, List.getElem?_map, hrow]; rfl)
              have hsj : atI (ns.map D.int) (j : Int) = some (.int s) := atI_nat (by rw [List.getElem?_map, hs]; rfl)
              have rr := colok _ (List.mem_of_getElem? hcol)
              have sb := hG.sh.each s (List.mem_of_getElem? hs)
              generalize hr0 : row.getD i (0, 1) = r0 at hcol hz rr
              refine g_name (i := 6) fun G1 e1 => ?_
              refine s_cons (s_set (i := 7) ?_)
              walk_at "dd"
              refine x_lst hitj ?_
              refine s_cons (s_unp ?_)
              walk_at "dd"
              refine x_rats (.inl rfl) (by omega) (by omega) ?_
              rw [Int.toNat_natCast, hr0]
              refine g_pair (i := 8) (j := 9) ?_
              refine s_one (s_set (i := 5) ?_)
              refine d_call Cp ?_
              walk_at "dd"
              refine d_call Cl ?_
              walk_at "dd"
              refine x_lst hsj ?_
              walk_at "dd"
              refine o_mul ⟨mulOk (rr.topB mv35') sb (by decide), ?_⟩
              walk_at "dd"
              refine c_sum ?_
              refine o_mul ⟨mulOk (rr.botB mv35') hG.sh.sum (by decide), ?_⟩
              walk_at "dd"
              have hb : 0 < r0.2 * ns.sum := Int.mul_pos rr.pos hsum
              refine ⟨_, _, rfl, by omega, na_up (na_mul (rr.botB mv35') hG.sh.sum) (by decide), ?_⟩
              rw [rat_dR]
              walk_at "dd"
              refine ⟨_, partR ns.sum (s, r0), rfl, totrb j, rb_of (V := 60 * 60) ((zok _ (List.mem_of_getElem? hz)).mono (by decide)) hMV, ⟨some (.int j), some (.lst (row.map dR)), some (.int r0.1), some (.int r0.2), ?_⟩, rfl⟩
              rw [List.take_add_one, hz, List.map_append]
              show _ = [some (.lst (its.map .lst)), some (.lst (ns.map .int)), v2, some (.ref l), some (.int i), some (dR (tot (((ns.zip (colR rows i)).take j).map (partR ns.sum) ++ [partR ns.sum (s, r0)]))), some (.int j), some (.lst (row.map dR)), some (.int r0.1), some (.int r0.2)]
              rw [tot_snoc]
              rfl
            · rintro δ' μ2 ⟨⟨v6, v7, v8, v9, rfl⟩, rfl⟩
              refine ⟨⟨v6, v7, v8, v9, ?_⟩, rfl⟩
              rw [Int.toNat_natCast, List.take_of_length_le (by omega), mean_tot (fun r hr => (colok r hr).pos) hsum (by rw [coll, hnl])]
          · rintro δ' μ2 ⟨⟨v6, v7, v8, v9, rfl⟩, rfl⟩
            refine s_one (s_expr (d_append ?_))
            walk_at "dd"
            refine ⟨l, rfl, ⟨_, updM_same⟩, ?_⟩
            walk_at "dd"
            refine ⟨_, updM_same, by rw [List.length_map, List.length_map, List.length_take, List.length_range, sizeLine_eq]; omega, ⟨_, _, _, _, _, _, _, rfl⟩, ?_⟩
            rw [updM_upd, List.take_add_one, List.getElem?_range hi2, List.map_append, List.map_append]
            rfl
        · rintro δ' μ1 ⟨hv, rfl⟩
          refine ⟨hv, ?_⟩
          rw [Int.toNat_natCast, List.take_of_length_le (by rw [List.length_range]; omega)]
          rfl
      rintro δ' μ1 ⟨⟨v2, v4, v5, v6, v7, v8, v9, rfl⟩, rfl⟩
      refine s_frz (i := 3) rfl (by
        by_cases e : μ' l = none
        · exact e
        · exact absurd hl0 e) ?_
      refine s_one (s_ret ?_)
      walk_at "dd"
      exact q
end
end K35

open PySem PySem.Spec PyProof.Rows L2 DL
namespace K35
section
variable {P : Program} {w : World} {K : PySem.W.Frag} {mg : Str → Option Value} {base : Heap}
theorem hasPy_int (i : Int) : HasPy (.int i) := ⟨.int i, fun _ => .int i, rfl, by rw [PyData.depth]; omega⟩
theorem hasPy_bl (b : Bool) : HasPy (.bl b) := ⟨.bool b, fun _ => .bl b, rfl, by rw [PyData.depth]; omega⟩
theorem hasPy_non : HasPy .non := ⟨.none, fun _ => .non, rfl, by rw [PyData.depth]; omega⟩
theorem hasPy_str (x : Str) (h : (PyData.str x).canLay0 = true) : HasPy (.str x) := ⟨.str x, fun _ => .str x, h, by rw [PyData.depth]; omega⟩
/-- a share, or something wrong -/
def SOk (x : D) : Prop := Pl1 x ∧ HasPy x ∧ ∀ i, x = .int i → i.natAbs ≤ 1001
theorem sok_int {i : Int} (h : i.natAbs ≤ 1001) : SOk (.int i) := ⟨⟨_, rfl⟩, hasPy_int i, fun j e => by cases e; exact h⟩
theorem wrong_at {k : Int} (h0 : 0 ≤ k) (h4 : k < 4) : ∃ x, atI [D.int (-1), .bl true, .non, .str "1"] k = some x ∧ SOk x := by
  have : k = 0 ∨ k = 1 ∨ k = 2 ∨ k = 3 := by omega
  rcases this with rfl | rfl | rfl | rfl
  · exact ⟨_, rfl, sok_int (by decide)⟩
  · exact ⟨_, rfl, ⟨_, rfl⟩, hasPy_bl _, fun i e => by cases e⟩
  · exact ⟨_, rfl, ⟨_, rfl⟩, hasPy_non, fun i e => by cases e⟩
  · exact ⟨_, rfl, ⟨_, rfl⟩, hasPy_str _ (by decide +kernel), fun i e => by cases e⟩
theorem o_neNilM {X : Cx} {μ : Mu} {Φ : DK} {q : Addr} {ds : List D} (hu : X.A.units + 64 < cLine) (hq : μ q = some (.lst ds)) (h : ∀ x ∈ ds, HasPy x) (k : Φ (.bl (!ds.isEmpty)) μ) : dOp X (compareOp .NotEq) (.ref q) (.lst []) μ Φ := by
  obtain ⟨ps, g1, g2, g3, g4⟩ := py_all h
  refine o_neD (q := .list []) hu (.ref hq (g1 μ)) (.lst .nil) (Bool.and_eq_true_iff.mpr ⟨by rw [PyData.canLay0]; exact g2, decide_eq_true (by rw [PyData.depth]; omega)⟩) rfl ?_
  have e : PyData.eqv (.list ps) (.list []) = ds.isEmpty := by
    rw [PyData.eqv]
    cases ds with
    | nil =>
      have : ps = [] := List.eq_nil_of_length_eq_zero g4
      rw [this, PyData.eqvAll]
      rfl
    | cons x l =>
      cases ps with
      | nil => cases g4
      | cons p ps => simp [PyData.eqvAll]
  rw [e]
  exact k
def spLShares : DSp := fun ds μ Φ _ => ∃ (p : Addr) (c : D) (m n : Nat), ds = [.ref p, .int n] ∧ n ≤ 39 ∧ μ p = some c ∧ Pool m c ∧ m < 2 ^ 20 ∧
  ∀ (ss : List D) q c' μ', ss.length ≤ 41 → (∀ x ∈ ss, SOk x) → Pool (m + 200) c' → μ' p = some c' → μ' q = some (.lst ss) → q ≠ p → Φ (.ref q) μ'
theorem most_at {k : Int} (h0 : 0 ≤ k) (h2 : k < 2) : ∃ b : Int, atI [D.int 3, .int 1001] k = some (.int b) ∧ 1 ≤ b ∧ b ≤ 1001 := by
  have : k = 0 ∨ k = 1 := by omega
  rcases this with rfl | rfl
  · exact ⟨3, rfl, by decide, by decide⟩
  · exact ⟨1001, rfl, by decide, by decide⟩
theorem ok_lshares (Ct : Cal P w K mg base 1 "_law_take" spTake) (Df : DefT K mg "_law_shares" s_law_shares ["_law_pool_here", "_law_many"]) (m_range : mg "range" = none) : Cal P w K mg base 2 "_law_shares" spLShares := by
  refine Df.cal (k := 1) sc_law_shares (fun ds μ Φ Ψ ⟨p, c, m, n, e, _⟩ => by rw [e]; rfl) (fun ds μ Φ Ψ h => ⟨fun f cd A outer s H E G0 hr hp tk => ?_⟩)
  have hnd := sc_law_shares.nd
  have nm0 : (cxD P w K mg base ["_law_pool_here", "_law_many", "_law_shares_here", "_law_spoil", "_law_k", "_law_share"] "_law_shares" s_law_shares f cd A outer s H E).N[0]? = some ("_law_pool_here" : Str) ∧ (("_law_pool_here" : Str) == ("__debug__" : Str)) = false ∧ (("_law_pool_here" : Str) == ("__classdict__" : Str)) = false := ⟨rfl, by decide, by decide⟩
  have nm1 : (cxD P w K mg base ["_law_pool_here", "_law_many", "_law_shares_here", "_law_spoil", "_law_k", "_law_share"] "_law_shares" s_law_shares f cd A outer s H E).N[1]? = some ("_law_many" : Str) ∧ (("_law_many" : Str) == ("__debug__" : Str)) = false ∧ (("_law_many" : Str) == ("__classdict__" : Str)) = false := ⟨rfl, by decide, by decide⟩
  have nm2 : (cxD P w K mg base ["_law_pool_here", "_law_many", "_law_shares_here", "_law_spoil", "_law_k", "_law_share"] "_law_shares" s_law_shares f cd A outer s H E).N[2]? = some ("_law_shares_here" : Str) ∧ (("_law_shares_here" : Str) == ("__debug__" : Str)) = false ∧ (("_law_shares_here" : Str) == ("__classdict__" : Str)) = false := ⟨rfl, by decide, by decide⟩
  have nm3 : (cxD P w K mg base ["_law_pool_here", "_law_many", "_law_shares_here", "_law_spoil", "_law_k", "_law_share"] "_law_shares" s_law_shares f cd A outer s H E).N[3]? = some ("_law_spoil" : Str) ∧ (("_law_spoil" : Str) == ("__debug__" : Str)) = false ∧ (("_law_spoil" : Str) == ("__classdict__" : Str)) = false := ⟨rfl, by decide, by decide⟩
  have nm4 : (cxD P w K mg base ["_law_pool_here", "_law_many", "_law_shares_here", "_law_spoil", "_law_k", "_law_share"] "_law_shares" s_law_shares f cd A outer s H E).N[4]? = some ("_law_k" : Str) ∧ (("_law_k" : Str) == ("__debug__" : Str)) = false ∧ (("_law_k" : Str) == ("__classdict__" : Str)) = false := ⟨rfl, by decide, by decide⟩
  have nm5 : (cxD P w K mg base ["_law_pool_here", "_law_many", "_law_shares_here", "_law_spoil", "_law_k", "_law_share"] "_law_shares" s_law_shares f cd A outer s H E).N[5]? = some ("_law_share" : Str) ∧ (("_law_share" : Str) == ("__debug__" : Str)) = false ∧ (("_law_share" : Str) == ("__classdict__" : Str)) = false := ⟨rfl, by decide, by decide⟩
  have bn_range : (cxD P w K mg base ["_law_pool_here", "_law_many", "_law_shares_here", "_law_spoil", "_law_k", "_law_share"] "_law_shares" s_law_shares f cd A outer s H E).mg "range" = none := m_range
  obtain ⟨p, c, m, n, rfl, hn, hpc, hP, hm, q⟩ := h
  refine s_cons (s_setR (own := [("_law_k", 4)]) (vs := [4]) 2 4 ?_)
  walk_at "dd"
  refine ⟨n, rfl, by omega, by omega, fun i acc μ2 => ∃ c', acc.length = i ∧ (∀ x ∈ acc, SOk x) ∧ μ2 p = some c' ∧ Pool (m + 2 * i) c', ⟨c, rfl, (fun x hx => by cases hx), hpc, hP⟩, ?_, ?_⟩
  · rintro i acc μ2 o hi ⟨c', hl, hok, hp2, hP2⟩ ho
    have nop : p ≠ o := fun e => by rw [e, ho] at hp2; cases hp2
    refine ⟨by rw [sizeLine_eq]; omega, fun G1 s H0 C cl fp => ?_⟩
    refine d_call Ct ?_
    walk_at "dd"
    refine d_lst ?_
    walk_at "dd"
    refine ⟨(show 2 ≤ sizeLine by decide), ?_⟩
    refine d_call Ct ?_
    walk_at "dd"
    refine ⟨p, 2, c', _, rfl, by decide, by decide, by rw [updM_ne nop]; exact hp2, hP2, by omega, fun k c2 k0 k2 hP3 => ?_⟩
    obtain ⟨b, hb, b1, b2⟩ := most_at k0 k2
    refine x_lst hb ?_
    walk_at "dd"
    refine ⟨p, b, c2, _, rfl, by omega, by omega, updM_same, hP3, by omega, fun v c3 v0 v1 hP4 => ?_⟩
    rw [updM_upd, updM_comm (Ne.symm nop)]
    refine ⟨updM μ2 p c3, rfl, by rw [updM_ne (Ne.symm nop)]; exact ho, c3, by rw [List.length_append, hl]; rfl, fun x hx => ?_, updM_same, pool_up hP4 (by omega)⟩
    rcases List.mem_append.mp hx with hx | hx
    · exact hok x hx
    · rw [List.mem_singleton.mp hx]
      exact sok_int (by omega)
  rintro acc μ2 o ⟨c', hl, hok, hp2, hP2⟩ ho
  rw [Int.toNat_natCast] at hl hP2
  have nop : p ≠ o := fun e => by rw [e, ho] at hp2; cases hp2
  have hp3 : updM μ2 o (.lst acc) p = some c' := by rw [updM_ne nop]; exact hp2
  have ho3 : updM μ2 o (.lst acc) o = some (.lst acc) := updM_same
  refine .inl ?_
  generalize updM μ2 o (.lst acc) = μ3 at hp3 ho3 ⊢
  refine s_cons (s_set (i := 3) ?_)
  refine d_call Ct ?_
  walk_at "dd"
  refine ⟨p, 15, c', _, rfl, by decide, by decide, hp3, hP2, by omega, fun sp c4 s0 s15 hP4 => ?_⟩
  have hp4 : updM μ3 p c4 p = some c4 := updM_same
  have ho4 : updM μ3 p c4 o = some (.lst acc) := by rw [updM_ne (Ne.symm nop)]; exact ho3
  generalize updM μ3 p c4 = μ4 at hp4 ho4 ⊢
  have hP5 : Pool (m + 79) c4 := pool_up hP4 (by omega)
  let St : Nat → Nat → List (Option D) → Mu → Prop := fun N k δ μ => ∃ (ss : List D) (qq : Addr) (c' : D) (v4 v5 : Option D), δ = [some (.ref p), some (.int n), some (.ref qq), some (.int sp), v4, v5] ∧ ss.length ≤ n + k ∧ (k = 0 → ss.length = n) ∧ (∀ x ∈ ss, SOk x) ∧ Pool (m + N) c' ∧ μ p = some c' ∧ μ qq = some (.lst ss) ∧ qq ≠ p
  refine s_cut (St 79 0) ?_ ?_
  · refine s_if (t_cmp ?_)
    walk_at "dd"
    refine ⟨fun e => ?_, fun e => s_nil ⟨acc, o, c4, none, none, rfl, by omega, fun _ => hl, hok, hP5, hp4, ho4, Ne.symm nop⟩⟩
    refine s_frzD (i := 2) rfl ho4 ?_
    refine s_one (s_setLp (own := [("_law_share", 5)]) (vs := [5]) 2 5 (fun _ => .int 0) ?_)
    walk_at "dd"
    refine ⟨acc, rfl, by rw [sizeLine_eq]; omega, fun x hx p9 ac hn9 G1 s H0 C cl fp => ?_, fun o2 ho2 => .inl ?_⟩
    · walk_at "dd"
      exact ⟨rfl, rfl⟩
    have hp5 : delM μ4 o p = some c4 := by rw [delM_ne nop]; exact hp4
    have n2 : o2 ≠ p := fun e => by rw [e, hp5] at ho2; cases ho2
    refine ⟨_, o2, c4, none, none, rfl, by rw [List.length_map]; omega, fun _ => by rw [List.length_map]; exact hl, fun x hx => ?_, hP5, by rw [updM_ne (Ne.symm n2)]; exact hp5, updM_same, n2⟩
    obtain ⟨y, _, rfl⟩ := List.mem_map.mp hx
    exact sok_int (by decide)
  rintro δ' μ5 ⟨ss, qq, c5, v4, v5, rfl, _, hsn, hsok, hPa, hpa, hqa, nqp⟩
  have hsn := hsn rfl
  refine s_cut (St 81 0) ?_ ?_
  · refine s_if (t_bool (tw_and (t_cmp ?_)))
    walk_at "dd"
    refine ⟨fun e => tw_and1 (t_cmp ?_), fun e => no rfl (s_nil ⟨ss, qq, c5, v4, v5, rfl, by omega, fun _ => hsn, hsok, pool_up hPa (by omega), hpa, hqa, nqp⟩)⟩
    walk_at "dd"
    refine d_lst ?_
    walk_at "dd"
    refine ⟨(show 0 ≤ sizeLine by decide), ?_⟩
    refine o_neNilM (hu64 hr) hqa (fun x hx => (hsok x hx).2.1) ?_
    cases hE : ss.isEmpty with
    | true => exact bl_ex (no rfl (s_nil ⟨ss, qq, c5, v4, v5, rfl, by omega, fun _ => hsn, hsok, pool_up hPa (by omega), hpa, hqa, nqp⟩))
    | false =>
      have hpos : 0 < ss.length := by
        cases ss with
        | nil => cases hE
        | cons a b => rw [List.length_cons]; omega
      refine bl_ex (yes rfl (s_one (s_item (d_ix (d_lst ?_)))))
      walk_at "dd"
      refine ⟨(show 4 ≤ sizeLine by decide), ?_⟩
      refine d_call Ct ?_
      walk_at "dd"
      refine ⟨p, 4, c5, _, rfl, by decide, by decide, hpa, hPa, by omega, fun k c6 k0 k4 hPb => ?_⟩
      obtain ⟨x, hx, hxok⟩ := wrong_at k0 k4
      refine x_lst hx ?_
      walk_at "dd"
      refine d_call Ct ?_
      walk_at "dd"
      refine ⟨p, n, c6, _, rfl, by omega, by omega, updM_same, hPb, by omega, fun j c7 j0 jn hPc => ?_⟩
      rw [updM_upd]
      have hq7 : updM μ5 p c7 qq = some (.lst ss) := by rw [updM_ne nqp]; exact hqa
      refine ⟨qq, j, ss, j.toNat, rfl, rfl, hq7, by unfold ixN; rw [if_pos j0, if_pos (by omega)], ?_⟩
      refine ⟨ss.set j.toNat x, qq, c7, v4, v5, rfl, by rw [List.length_set]; omega, fun _ => by rw [List.length_set]; exact hsn, fun y hy => ?_, pool_up hPc (by omega), by rw [updM_ne (Ne.symm nqp)]; exact updM_same, updM_same, nqp⟩
      rcases List.mem_or_eq_of_mem_set hy with hy | rfl
      · exact hsok y hy
      · exact hxok
  clear hsn hsok hPa hpa hqa nqp
  rintro δ' μ5 ⟨ss, qq, c5, v4, v5, rfl, _, hsn, hsok, hPa, hpa, hqa, nqp⟩
  have hsn := hsn rfl
  refine s_cut (St 81 1) ?_ ?_
  · refine s_if (t_cmp ?_)
    walk_at "dd"
    refine ⟨fun e => s_one (s_expr (d_append ?_)), fun e => s_nil ⟨ss, qq, c5, v4, v5, rfl, by omega, (fun z => by cases z), hsok, hPa, hpa, hqa, nqp⟩⟩
    walk_at "dd"
    refine ⟨qq, rfl, ⟨_, hqa⟩, ?_⟩
    walk_at "dd"
    refine ⟨_, hqa, by rw [sizeLine_eq]; omega, ?_⟩
    refine ⟨ss ++ [.int 1], qq, c5, v4, v5, rfl, by rw [List.length_append]; show ss.length + 1 ≤ _; omega, (fun z => by cases z), fun x hx => ?_, hPa, by rw [updM_ne (Ne.symm nqp)]; exact hpa, updM_same, nqp⟩
    rcases List.mem_append.mp hx with hx | hx
    · exact hsok x hx
    · rw [List.mem_singleton.mp hx]
      exact sok_int (by decide)
  clear hsn hsok hPa hpa hqa nqp
  rintro δ' μ5 ⟨ss, qq, c5, v4, v5, rfl, hsl, _, hsok, hPa, hpa, hqa, nqp⟩
  refine s_cut (St 81 1) ?_ ?_
  · refine s_if (t_bool (tw_and (t_cmp ?_)))
    walk_at "dd"
    refine ⟨fun e => tw_and1 (t_cmp ?_), fun e => no rfl (s_nil ⟨ss, qq, c5, v4, v5, rfl, hsl, (fun z => by cases z), hsok, hPa, hpa, hqa, nqp⟩)⟩
    walk_at "dd"
    refine d_lst ?_
    walk_at "dd"
    refine ⟨(show 0 ≤ sizeLine by decide), ?_⟩
    refine o_neNilM (hu64 hr) hqa (fun x hx => (hsok x hx).2.1) ?_
    cases hE : ss.isEmpty with
    | true => exact bl_ex (no rfl (s_nil ⟨ss, qq, c5, v4, v5, rfl, hsl, (fun z => by cases z), hsok, hPa, hpa, hqa, nqp⟩))
    | false =>
      have hpos : 0 < ss.length := by
        cases ss with
        | nil => cases hE
        | cons a b => rw [List.length_cons]; omega
      refine bl_ex (yes rfl (s_one (s_expr (d_pop0 ?_))))
      walk_at "dd"
      refine ⟨qq, ss, ss[ss.length - 1]'(by omega), rfl, hqa, List.getElem?_eq_getElem _, ?_⟩
      refine ⟨ss.eraseIdx (ss.length - 1), qq, c5, v4, v5, rfl, by have := List.length_eraseIdx_le ss (ss.length - 1); omega, (fun z => by cases z), fun x hx => hsok x (List.mem_of_mem_eraseIdx hx), hPa, by rw [updM_ne (Ne.symm nqp)]; exact hpa, updM_same, nqp⟩
  clear hsl hsok hPa hpa hqa nqp
  rintro δ' μ5 ⟨ss, qq, c5, v4, v5, rfl, hsl, _, hsok, hPa, hpa, hqa, nqp⟩
  refine s_one (s_ret ?_)
  walk_at "dd"
  exact q ss qq c5 μ5 (by omega) hsok (pool_up hPa (by omega)) hpa hqa nqp
def spWeights : DSp := fun ds μ Φ _ => ∃ (p : Addr) (c : D) (m : Nat), ds = [.ref p] ∧ μ p = some c ∧ Pool m c ∧ m < 2 ^ 20 ∧ ∀ (a b : Int) c', 0 ≤ a → a < 9 → 1 ≤ b → b ≤ 9 → Pool (m + 2) c' → Φ (.lst [.int a, .int b]) (updM μ p c')
theorem ok_weights (Ct : Cal P w K mg base 1 "_law_take" spTake) (Df : DefT K mg "_law_weights_of" s_law_weights_of ["_law_pool_here"]) : Cal P w K mg base 2 "_law_weights_of" spWeights := by
  refine Df.cal (k := 1) sc_law_weights_of (fun ds μ Φ Ψ ⟨p, c, m, e, _⟩ => by rw [e]; rfl) (fun ds μ Φ Ψ h => ⟨fun f cd A outer s H E G0 hr hp tk => ?_⟩)
  have hnd := sc_law_weights_of.nd
  have nm0 : (cxD P w K mg base ["_law_pool_here"] "_law_weights_of" s_law_weights_of f cd A outer s H E).N[0]? = some ("_law_pool_here" : Str) ∧ (("_law_pool_here" : Str) == ("__debug__" : Str)) = false ∧ (("_law_pool_here" : Str) == ("__classdict__" : Str)) = false := ⟨rfl, by decide, by decide⟩
  obtain ⟨p, c, m, rfl, hpc, hP, hm, q⟩ := h
  refine s_one (s_ret (d_lst ?_))
  refine da_cons ?_ rfl
  refine d_call Ct ?_
  walk_at "dd"
  refine ⟨p, 9, c, m, rfl, by decide, by decide, hpc, hP, by omega, fun a c1 a0 a9 hP1 => ?_⟩
  walk_at "dd"
  refine d_call Ct ?_
  walk_at "dd"
  refine ⟨p, 9, c1, _, rfl, by decide, by decide, updM_same, hP1, by omega, fun b c2 b0 b9 hP2 => ?_⟩
  walk_at "dd"
  refine ⟨(show 2 ≤ sizeLine by decide), ?_⟩
  rw [updM_upd]
  exact q a (1 + b) c2 a0 a9 (by omega) (by omega) hP2
end
end K35

open PySem PySem.Spec PyProof.Rows L2 DL
namespace K35
section
/-! ### ratios as rationals -/
def vq (r : Int × Int) : Rat := (r.1 : Rat) / (r.2 : Rat)
def Sq (rs : List (Int × Int)) : Rat := (rs.map vq).sum
theorem q_ne {b : Int} (h : b ≠ 0) : (b : Rat) ≠ 0 := fun z => h (Rat.intCast_inj.mp (by simpa using z))
theorem vq_eq {r s : Int × Int} (hr : 0 < r.2) (hs : 0 < s.2) : vq r = vq s ↔ r.1 * s.2 = s.1 * r.2 := by
  have h1 := q_ne (b := r.2) (by omega)
  have h2 := q_ne (b := s.2) (by omega)
  have e : r.1 * s.2 = s.1 * r.2 ↔ (r.1 : Rat) * s.2 = (s.1 : Rat) * r.2 := by
    rw [← Rat.intCast_mul, ← Rat.intCast_mul, Rat.intCast_inj]
  rw [e]
  unfold vq
  constructor <;> intro h <;> grind
theorem vq_low {r s : Int × Int} (hr : Low r) (hs : Low s) : vq r = vq s ↔ r = s := ⟨fun h => low_uniq hr hs ((vq_eq hr.pos hs.pos).mp h), fun h => by rw [h]⟩
theorem vq_ratP {a b : Int} (hb : 0 < b) : vq (ratP a b) = (a : Rat) / (b : Rat) := (vq_eq (s := (a, b)) (ratP_low hb).pos hb).mpr (ratP_val a b)
theorem vq_plus {r s : Int × Int} (hr : 0 < r.2) (hs : 0 < s.2) : vq (ratP (r.1 * s.2 + s.1 * r.2) (r.2 * s.2)) = vq r + vq s := by
  rw [vq_ratP (Int.mul_pos hr hs)]
  have h1 := q_ne (b := r.2) (by omega)
  have h2 := q_ne (b := s.2) (by omega)
  unfold vq
  rw [Rat.intCast_add, Rat.intCast_mul, Rat.intCast_mul, Rat.intCast_mul]
  grind
theorem vq_minus {r s : Int × Int} (hr : 0 < r.2) (hs : 0 < s.2) : vq (ratP (r.1 * s.2 - s.1 * r.2) (r.2 * s.2)) = vq r - vq s := by
  rw [vq_ratP (Int.mul_pos hr hs)]
  have h1 := q_ne (b := r.2) (by omega)
  have h2 := q_ne (b := s.2) (by omega)
  unfold vq
  rw [Rat.intCast_sub, Rat.intCast_mul, Rat.intCast_mul, Rat.intCast_mul]
  grind
theorem Sq_app (a b : List (Int × Int)) : Sq (a ++ b) = Sq a + Sq b := by
  unfold Sq
  rw [List.map_append, List.sum_append]
theorem Sq_cons (r : Int × Int) (b : List (Int × Int)) : Sq (r :: b) = vq r + Sq b := by
  unfold Sq
  rw [List.map_cons, List.sum_cons]
theorem Sq_nil : Sq [] = 0 := rfl
theorem Sq_one (r : Int × Int) : Sq [r] = vq r := by
  rw [Sq_cons, Sq_nil]
  grind
theorem vq_tot : ∀ rs : List (Int × Int), (∀ r ∈ rs, 0 < r.2) → vq (tot rs) = Sq rs := fun rs => by
  refine snoc_ind (p := fun rs => (∀ r ∈ rs, 0 < r.2) → vq (tot rs) = Sq rs) (fun _ => by decide +kernel) (fun l x ih h => ?_) rs
  have hl : ∀ r ∈ l, 0 < r.2 := fun r hr => h r (List.mem_append_left _ hr)
  rw [tot_snoc, Sq_app, Sq_one, vq_plus (tot_low l hl).pos (h x (by simp)), ih hl]
theorem low_int (w : Int) : Low (w, 1) := ⟨by show (0 : Int) < 1; decide, by show Int.gcd w 1 = 1; exact Int.gcd_one_right ..⟩
theorem vq_int (w : Int) : vq (w, 1) = w := by
  unfold vq
  show (w : Rat) / ((1 : Int) : Rat) = w
  rw [Rat.intCast_one]
  grind
theorem tot_iff {rs : List (Int × Int)} (h : ∀ r ∈ rs, 0 < r.2) (w : Int) : tot rs = (w, 1) ↔ Sq rs = w := by
  rw [← vq_low (tot_low rs h) (low_int w), vq_tot rs h, vq_int]
theorem div_mono {a b z : Rat} (h : b ≤ a) (hz : 0 < z) : b / z ≤ a / z := by
  rw [Rat.div_def, Rat.div_def]
  exact Rat.mul_le_mul_of_nonneg_right h (Rat.le_of_lt (Rat.inv_pos.mpr hz))
theorem vq_lt' {a b c d : Int} (hb : 0 < b) (hd : 0 < d) : ((a : Rat) / b < (c : Rat) / d) ↔ a * d < c * b := by
  have b0 : (0 : Rat) < (b : Rat) := by simpa using Rat.intCast_lt_intCast.mpr hb
  have d0 : (0 : Rat) < (d : Rat) := by simpa using Rat.intCast_lt_intCast.mpr hd
  have p0 : (0 : Rat) < (b : Rat) * d := Rat.mul_pos b0 d0
  have e1 : (a : Rat) / b * ((b : Rat) * d) = ((a * d : Int) : Rat) := by rw [Rat.intCast_mul]; grind
  have e2 : (c : Rat) / d * ((b : Rat) * d) = ((c * b : Int) : Rat) := by rw [Rat.intCast_mul]; grind
  constructor
  · intro h
    have h2 := Rat.mul_lt_mul_of_pos_right h p0
    rw [e1, e2] at h2
    exact Rat.intCast_lt_intCast.mp h2
  · intro h
    refine Classical.byContradiction fun z => ?_
    have z' : (c : Rat) / d ≤ (a : Rat) / b := by grind
    have h2 := Rat.mul_le_mul_of_nonneg_right z' (Rat.le_of_lt p0)
    rw [e1, e2] at h2
    have := Rat.intCast_le_intCast.mp h2
    omega
theorem vq_lt {r s : Int × Int} (hr : 0 < r.2) (hs : 0 < s.2) : vq r < vq s ↔ r.1 * s.2 < s.1 * r.2 := vq_lt' hr hs
end
end K35

open PySem PySem.Spec PyProof.Rows L2 DL
namespace K35
section
theorem vq_le {r s : Int × Int} (hr : 0 < r.2) (hs : 0 < s.2) : vq r ≤ vq s ↔ r.1 * s.2 ≤ s.1 * r.2 := by
  have h := vq_lt hs hr
  constructor
  · intro z
    refine Classical.byContradiction fun n => ?_
    have := h.mpr (by omega)
    grind
  · intro z
    refine Classical.byContradiction fun n => ?_
    have := h.mp (by grind)
    omega
theorem vq_part {S s : Int} {r : Int × Int} (hr : 0 < r.2) (hS : 0 < S) : vq (partR S (s, r)) = vq r * (s : Rat) / (S : Rat) := by
  have e : vq (partR S (s, r)) = ((r.1 * s : Int) : Rat) / ((r.2 * S : Int) : Rat) := vq_ratP (Int.mul_pos hr hS)
  have r0 : (0 : Rat) < (r.2 : Rat) := by simpa using Rat.intCast_lt_intCast.mpr hr
  have s0 : (0 : Rat) < (S : Rat) := by simpa using Rat.intCast_lt_intCast.mpr hS
  rw [e, Rat.intCast_mul, Rat.intCast_mul]
  unfold vq
  have r1 : (r.2 : Rat) ≠ 0 := by grind
  have s1 : (S : Rat) ≠ 0 := by grind
  grind
/-- the mean of two -/
def mixR (a b : Int) (x y : Int × Int) : Int × Int := meanR [x, y] [a, b]
theorem mix_tot {a b : Int} {x y : Int × Int} (hx : 0 < x.2) (hy : 0 < y.2) (hS : 0 < a + b) : mixR a b x y = tot [partR (a + b) (a, x), partR (a + b) (b, y)] := by
  have e : [a, b].sum = a + b := by simp
  have := mean_tot (rs := [x, y]) (ns := [a, b]) (fun r hr => by
    rcases List.mem_cons.mp hr with h | h
    · rw [h]; exact hx
    · rw [List.mem_singleton.mp h]; exact hy) (by rw [e]; exact hS) rfl
  rw [e] at this
  exact this.symm
theorem vq_mix {a b : Int} {x y : Int × Int} (hx : 0 < x.2) (hy : 0 < y.2) (hS : 0 < a + b) : vq (mixR a b x y) = ((a : Rat) * vq x + (b : Rat) * vq y) / ((a + b : Int) : Rat) := by
  rw [mix_tot hx hy hS, vq_tot]
  · rw [Sq_cons, Sq_one, vq_part hx hS, vq_part hy hS]
    grind
  · intro r hr
    rcases List.mem_cons.mp hr with h | h
    · rw [h]; exact (ratP_low (Int.mul_pos hx hS)).pos
    · rw [List.mem_singleton.mp h]; exact (ratP_low (Int.mul_pos hy hS)).pos
theorem Sq_lin {a b S : Rat} {α : Type} {F X Y : α → Int × Int} : ∀ l : List α, (∀ i ∈ l, vq (F i) = (a * vq (X i) + b * vq (Y i)) / S) → Sq (l.map F) = (a * Sq (l.map X) + b * Sq (l.map Y)) / S
  | [], _ => by
    rw [List.map_nil, List.map_nil, List.map_nil, Sq_nil]
    grind
  | i :: l, h => by
    have ih := Sq_lin l fun j hj => h j (List.mem_cons_of_mem _ hj)
    rw [List.map_cons, List.map_cons, List.map_cons, Sq_cons, Sq_cons, Sq_cons, ih, h i List.mem_cons_self]
    grind
/-- a division of nine -/
structure CRow (n : Nat) (r : List (Int × Int)) : Prop where
  len : r.length = n
  row : ∀ x ∈ r, RM 3 89 x ∧ Low x
  sum : Sq r = 9
theorem getD_mem {r : List (Int × Int)} {i : Nat} (h : i < r.length) : r.getD i (0, 1) ∈ r := by
  rw [List.getD_eq_getElem?_getD, List.getElem?_eq_getElem h]
  exact List.getElem_mem h
theorem Sq_range (r : List (Int × Int)) : Sq ((List.range r.length).map fun i => r.getD i (0, 1)) = Sq r := by
  congr 1
  refine List.ext_getElem (by rw [List.length_map, List.length_range]) fun i h1 h2 => ?_
  rw [List.getElem_map, List.getElem_range, List.getD_eq_getElem?_getD, List.getElem?_eq_getElem h2]
  rfl
def blend2 (n : Nat) (a b : Int) (r1 r2 : List (Int × Int)) : List (Int × Int) := (List.range n).map fun k => mixR a b (r1.getD k (0, 1)) (r2.getD k (0, 1))
theorem blend_two (n : Nat) (a b : Int) (r1 r2 : List (Int × Int)) : blendR n [r1, r2] [a, b] = blend2 n a b r1 r2 := rfl
def floorR (r : Int × Int) : Int := r.1.fdiv r.2
def worthU (r1 r2 : List (Int × Int)) (g : List Int) : Int := if floorR (amtR r2 g) < floorR (amtR r1 g) then floorR (amtR r2 g) else floorR (amtR r1 g)
theorem floor_le {r : Int × Int} (h : 0 < r.2) : floorR r * r.2 ≤ r.1 := by
  unfold floorR
  rw [Int.fdiv_eq_ediv_of_nonneg _ (by omega)]
  exact Int.ediv_mul_le _ (by omega)
section
variable {n : Nat} {a b : Int} {r1 r2 : List (Int × Int)}
theorem blend2_len : (blend2 n a b r1 r2).length = n := by unfold blend2; rw [List.length_map, List.length_range]
theorem blend2_at (k : Nat) (hk : k < n) : (blend2 n a b r1 r2).getD k (0, 1) = mixR a b (r1.getD k (0, 1)) (r2.getD k (0, 1)) := by
  unfold blend2
  rw [List.getD_eq_getElem?_getD, List.getElem?_map, List.getElem?_range hk]
  rfl
theorem part_rmG {M : Int} {V : Nat} {S s : Int} {r : Int × Int} (h : RM M V r) (hS : 0 < S) (h0 : 0 ≤ s) (hs : s ≤ S) : RM (M * S) V (partR S (s, r)) := by
  refine (ratP_RM (Int.mul_pos h.pos hS) (Int.mul_dvd_mul_right S h.dv) ?_).1
  show (r.1 * s).natAbs ≤ V * (r.2 * S).natAbs
  rw [Int.natAbs_mul, Int.natAbs_mul, ← Nat.mul_assoc]
  exact Nat.mul_le_mul h.val (by omega)
theorem mix_rm {x y : Int × Int} (hx : RM 3 89 x) (hy : RM 3 89 y) (ha : 0 ≤ a) (hb : 0 < b) : RM (3 * (a + b)) 178 (mixR a b x y) ∧ Low (mixR a b x y) := by
  rw [mix_tot hx.pos hy.pos (by omega)]
  have hall : ∀ r ∈ [partR (a + b) (a, x), partR (a + b) (b, y)], RM (3 * (a + b)) 89 r := fun r hr => by
    rcases List.mem_cons.mp hr with h | h
    · rw [h]; exact part_rmG hx (by omega) ha (by omega)
    · rw [List.mem_singleton.mp h]; exact part_rmG hy (by omega) (by omega) (by omega)
  exact ⟨(tot_RM hall).mono (Nat.le_refl _), tot_low _ fun r hr => (hall r hr).pos⟩
theorem blend2_row (h1 : CRow n r1) (h2 : CRow n r2) (ha : 0 ≤ a) (hb : 0 < b) : ∀ r ∈ blend2 n a b r1 r2, RM (3 * (a + b)) 178 r ∧ Low r := fun r hr => by
  obtain ⟨k, hk, rfl⟩ := List.mem_map.mp hr
  have hk := List.mem_range.mp hk
  exact mix_rm (h1.row _ (getD_mem (by rw [h1.len]; exact hk))).1 (h2.row _ (getD_mem (by rw [h2.len]; exact hk))).1 ha hb
theorem blend2_sum (h1 : CRow n r1) (h2 : CRow n r2) (ha : 0 ≤ a) (hb : 0 < b) : Sq (blend2 n a b r1 r2) = 9 := by
  unfold blend2
  rw [Sq_lin (a := (a : Rat)) (b := (b : Rat)) (S := ((a + b : Int) : Rat)) (X := fun k => r1.getD k (0, 1)) (Y := fun k => r2.getD k (0, 1))]
  · have e1 := Sq_range r1
    have e2 := Sq_range r2
    rw [h1.len] at e1
    rw [h2.len] at e2
    rw [e1, e2, h1.sum, h2.sum]
    have s0 : (0 : Rat) < ((a + b : Int) : Rat) := by simpa using Rat.intCast_lt_intCast.mpr (show 0 < a + b by omega)
    rw [Rat.intCast_add] at s0 ⊢
    have : (a : Rat) + (b : Rat) ≠ 0 := by grind
    grind
  · intro k hk
    have hk := List.mem_range.mp hk
    exact vq_mix (h1.row _ (getD_mem (by rw [h1.len]; exact hk))).1.pos (h2.row _ (getD_mem (by rw [h2.len]; exact hk))).1.pos (by omega)
theorem amt_pos {M : Int} {V : Nat} {r : List (Int × Int)} (h : ∀ x ∈ r, RM M V x) {g : List Int} (hg : ∀ i ∈ g, 0 ≤ i ∧ i < r.length) : (∀ x ∈ g.map fun i => r.getD i.toNat (0, 1), 0 < x.2) := fun x hx => by
  obtain ⟨i, hi, rfl⟩ := List.mem_map.mp hx
  exact (rm_get h (hg i hi).1 (hg i hi).2).pos
/-- no group gets less than its worth -/
theorem blend_calm (h1 : CRow n r1) (h2 : CRow n r2) (ha : 0 ≤ a) (hb : 0 < b) {g : List Int} (hg : ∀ i ∈ g, 0 ≤ i ∧ i < n) : worthU r1 r2 g * (amtR (blend2 n a b r1 r2) g).2 ≤ (amtR (blend2 n a b r1 r2) g).1 := by
  have k1 : ∀ i ∈ g, 0 ≤ i ∧ i < (r1.length : Int) := fun i hi => by rw [h1.len]; exact hg i hi
  have k2 : ∀ i ∈ g, 0 ≤ i ∧ i < (r2.length : Int) := fun i hi => by rw [h2.len]; exact hg i hi
  have k3 : ∀ i ∈ g, 0 ≤ i ∧ i < ((blend2 n a b r1 r2).length : Int) := fun i hi => by rw [blend2_len]; exact hg i hi
  have p1 := amt_pos (fun x hx => (h1.row x hx).1) k1
  have p2 := amt_pos (fun x hx => (h2.row x hx).1) k2
  have p3 := amt_pos (fun x hx => (blend2_row h1 h2 ha hb x hx).1) k3
  have v1 : vq (amtR r1 g) = Sq (g.map fun i => r1.getD i.toNat (0, 1)) := vq_tot _ p1
  have v2 : vq (amtR r2 g) = Sq (g.map fun i => r2.getD i.toNat (0, 1)) := vq_tot _ p2
  have v3 : vq (amtR (blend2 n a b r1 r2) g) = Sq (g.map fun i => (blend2 n a b r1 r2).getD i.toNat (0, 1)) := vq_tot _ p3
  have lin : Sq (g.map fun i => (blend2 n a b r1 r2).getD i.toNat (0, 1)) = ((a : Rat) * Sq (g.map fun i => r1.getD i.toNat (0, 1)) + (b : Rat) * Sq (g.map fun i => r2.getD i.toNat (0, 1))) / ((a + b : Int) : Rat) := by
    refine Sq_lin g fun i hi => ?_
    have hk : i.toNat < n := by have := hg i hi; omega
    rw [blend2_at _ hk]
    exact vq_mix (h1.row _ (getD_mem (by rw [h1.len]; exact hk))).1.pos (h2.row _ (getD_mem (by rw [h2.len]; exact hk))).1.pos (by omega)
  rw [← v1, ← v2, ← v3] at lin
  have q1 : 0 < (amtR r1 g).2 := (tot_low _ p1).pos
  have q2 : 0 < (amtR r2 g).2 := (tot_low _ p2).pos
  have q3 : 0 < (amtR (blend2 n a b r1 r2) g).2 := (tot_low _ p3).pos
  have f1 : ((worthU r1 r2 g : Int) : Rat) ≤ vq (amtR r1 g) := by
    rw [← vq_int]
    refine (vq_le Int.zero_lt_one q1).mpr ?_
    have := floor_le (r := amtR r1 g) q1
    have le : worthU r1 r2 g ≤ floorR (amtR r1 g) := by unfold worthU; split <;> omega
    have := Int.mul_le_mul_of_nonneg_right le (Int.le_of_lt q1)
    show worthU r1 r2 g * (amtR r1 g).2 ≤ (amtR r1 g).1 * 1
    omega
  have f2 : ((worthU r1 r2 g : Int) : Rat) ≤ vq (amtR r2 g) := by
    rw [← vq_int]
    refine (vq_le Int.zero_lt_one q2).mpr ?_
    have := floor_le (r := amtR r2 g) q2
    have le : worthU r1 r2 g ≤ floorR (amtR r2 g) := by unfold worthU; split <;> omega
    have := Int.mul_le_mul_of_nonneg_right le (Int.le_of_lt q2)
    show worthU r1 r2 g * (amtR r2 g).2 ≤ (amtR r2 g).1 * 1
    omega
  have s0 : (0 : Rat) < ((a + b : Int) : Rat) := by simpa using Rat.intCast_lt_intCast.mpr (show 0 < a + b by omega)
  have a0 : (0 : Rat) ≤ (a : Rat) := by simpa using Rat.intCast_le_intCast.mpr ha
  have b0 : (0 : Rat) ≤ (b : Rat) := by simpa using Rat.intCast_le_intCast.mpr (show 0 ≤ b by omega)
  have f3 : ((worthU r1 r2 g : Int) : Rat) ≤ vq (amtR (blend2 n a b r1 r2) g) := by
    rw [lin]
    have m1 := Rat.mul_le_mul_of_nonneg_left f1 a0
    have m2 := Rat.mul_le_mul_of_nonneg_left f2 b0
    have m3 : ((worthU r1 r2 g : Int) : Rat) * ((a + b : Int) : Rat) ≤ (a : Rat) * vq (amtR r1 g) + (b : Rat) * vq (amtR r2 g) := by
      rw [Rat.intCast_add]
      grind
    have m4 := div_mono m3 s0
    have m5 : ((worthU r1 r2 g : Int) : Rat) * ((a + b : Int) : Rat) / ((a + b : Int) : Rat) = ((worthU r1 r2 g : Int) : Rat) := by
      have : ((a + b : Int) : Rat) ≠ 0 := by grind
      grind
    rw [m5] at m4
    exact m4
  rw [← vq_int] at f3
  have := (vq_le Int.zero_lt_one q3).mp f3
  have e : worthU r1 r2 g * (amtR (blend2 n a b r1 r2) g).2 ≤ (amtR (blend2 n a b r1 r2) g).1 * 1 := this
  omega
end
end
end K35

open PySem PySem.Spec PyProof.Rows L2 DL
namespace K35
section
variable {P : Program} {w : World} {K : PySem.W.Frag} {mg : Str → Option Value} {base : Heap}
theorem x_tab {X : Cx} {x : D} {μ : Mu} {Φ : DK} {n : Nat} {u : List Int → Int} {g : List Int} (hu : X.A.units + 64 < cLine) (hd : DAt μ x (tabD n u)) (hg : g ∈ gL n) (q : Φ (.int (u g)) μ) : dIx X x (tupI g) μ Φ := by
  rw [← keyT_I]
  exact x_dct hu hd (valD_tab hg) q
theorem o_eqR2 {X : Cx} {μ : Mu} {Φ : DK} {r t : Int × Int} (hu : X.A.units + 64 < cLine) (k : Φ (.bl (decide (r = t))) μ) : dOp X (compareOp .Eq) (dR r) (dR t) μ Φ := by
  refine o_eqD hu (py_two r.1 r.2) (py_two t.1 t.2) rfl rfl ?_
  have e : PyData.eqv (.tuple [.int r.1, .int r.2]) (.tuple [.int t.1, .int t.2]) = decide (r = t) := by
    have e1 : ∀ a b : Int, PyData.eqv (.int a) (.int b) = decide (a = b) := fun a b => by rw [PyData.eqv]; rfl
    rw [PyData.eqv, PyData.eqvAll, PyData.eqvAll, PyData.eqvAll, e1, e1]
    obtain ⟨a, b⟩ := r
    obtain ⟨c, d⟩ := t
    rw [Bool.eq_iff_iff]
    simp
  rw [e]
  exact k
theorem whole_gL : ∀ n : Fin 6, 1 ≤ n.1 → rangeI n.1 ∈ gL n.1 := by decide +kernel
theorem whole_at {n : Nat} (h1 : 1 ≤ n) (h5 : n ≤ 5) : rangeI n ∈ gL n := whole_gL ⟨n, by omega⟩ h1
def cmp35 (u : List Int → Int) (rs : List (Int × Int)) (g : List Int) : Int × Int := ratP (u g * (amtR rs g).2 - (amtR rs g).1) (amtR rs g).2
def spComplL : DSp := fun ds μ Φ _ => ∃ (M : Int) (V n : Nat) (u : List Int → Int) (rs : List (Int × Int)) (g : List Int), ds = [.dct (tabD n u), .lst (rs.map dR), tupI g] ∧ n ≤ 5 ∧ MV M (8 * V) ∧ rs.length = n ∧ (∀ r ∈ rs, RM M V r) ∧ g ∈ gL n ∧ (u g).natAbs < 2 ^ 100 ∧ Φ (dR (cmp35 u rs g)) μ
theorem ok_compL (Df : DefT K mg "_law_complaint" s_law_complaint ["_law_worths", "_law_division", "_law_group"]) (Ca : Cal P w K mg base 5 "_law_amount" spAmtL) (Cr : Cal P w K mg base 2 "_law_ratio" spLRatio) : Cal P w K mg base 6 "_law_complaint" spComplL := by
  refine Df.cal (k := 5) sc_law_complaint (fun ds μ Φ Ψ ⟨M, V, n, u, rs, g, e, _⟩ => by rw [e]; rfl) (fun ds μ Φ Ψ h => ⟨fun f cd A outer s H E G0 hr hp tk => ?_⟩)
  have hnd := sc_law_complaint.nd
  have nm0 : (cxD P w K mg base ["_law_worths", "_law_division", "_law_group", "_law_top", "_law_bottom"] "_law_complaint" s_law_complaint f cd A outer s H E).N[0]? = some ("_law_worths" : Str) ∧ (("_law_worths" : Str) == ("__debug__" : Str)) = false ∧ (("_law_worths" : Str) == ("__classdict__" : Str)) = false := ⟨rfl, by decide, by decide⟩
  have nm1 : (cxD P w K mg base ["_law_worths", "_law_division", "_law_group", "_law_top", "_law_bottom"] "_law_complaint" s_law_complaint f cd A outer s H E).N[1]? = some ("_law_division" : Str) ∧ (("_law_division" : Str) == ("__debug__" : Str)) = false ∧ (("_law_division" : Str) == ("__classdict__" : Str)) = false := ⟨rfl, by decide, by decide⟩
  have nm2 : (cxD P w K mg base ["_law_worths", "_law_division", "_law_group", "_law_top", "_law_bottom"] "_law_complaint" s_law_complaint f cd A outer s H E).N[2]? = some ("_law_group" : Str) ∧ (("_law_group" : Str) == ("__debug__" : Str)) = false ∧ (("_law_group" : Str) == ("__classdict__" : Str)) = false := ⟨rfl, by decide, by decide⟩
  have nm3 : (cxD P w K mg base ["_law_worths", "_law_division", "_law_group", "_law_top", "_law_bottom"] "_law_complaint" s_law_complaint f cd A outer s H E).N[3]? = some ("_law_top" : Str) ∧ (("_law_top" : Str) == ("__debug__" : Str)) = false ∧ (("_law_top" : Str) == ("__classdict__" : Str)) = false := ⟨rfl, by decide, by decide⟩
  have nm4 : (cxD P w K mg base ["_law_worths", "_law_division", "_law_group", "_law_top", "_law_bottom"] "_law_complaint" s_law_complaint f cd A outer s H E).N[4]? = some ("_law_bottom" : Str) ∧ (("_law_bottom" : Str) == ("__debug__" : Str)) = false ∧ (("_law_bottom" : Str) == ("__classdict__" : Str)) = false := ⟨rfl, by decide, by decide⟩
  obtain ⟨M, V, n, u, rs, g, rfl, h5, hMV, hl, hok, hg, hu, q⟩ := h
  obtain ⟨g0, g1, g2⟩ := gL_at h5 hg
  have ha := (amtR_RM hok (g := g) (by omega) fun i hi => by rw [hl]; exact g2 i hi).1
  have hb : RM M (8 * V) (amtR rs g) := ha.mono (by omega)
  have hrb := rb_of hb hMV
  refine s_cons (s_unp ?_)
  refine d_call Ca ?_
  walk_at "dd"
  refine ⟨M, V, rs, g, rfl, hMV, hok, by omega, fun i hi => by rw [hl]; exact g2 i hi, g_pair (i := 3) (j := 4) ?_⟩
  refine s_one (s_ret ?_)
  refine d_call Cr ?_
  walk_at "dd"
  refine x_tab (g := g) (hu64 hr) (.inl rfl) hg ?_
  walk_at "dd"
  refine o_mul ⟨mulOk hu hrb.bot (by decide), ?_⟩
  walk_at "dd"
  exact ⟨_, _, rfl, Int.ne_of_gt hrb.pos, na_up hrb.bot (by decide), q⟩
def spLIsD : DSp := fun ds μ Φ _ => ∃ (M : Int) (V n : Nat) (u : List Int → Int) (rs : List (Int × Int)), ds = [.dct (tabD n u), .int n, .lst (rs.map dR)] ∧ 1 ≤ n ∧ n ≤ 5 ∧ MV M (8 * V) ∧ rs.length = n ∧ (∀ r ∈ rs, RM M V r ∧ Low r) ∧ tot rs = (u (rangeI n), 1) ∧ Φ (.bl true) μ
theorem ok_lisd (Df : DefT K mg "_law_is_division" s_law_is_division ["_law_worths", "_law_players", "_law_division"]) (Cr : Cal P w K mg base 2 "_law_is_ratio" spLIsR) (Ct : Cal P w K mg base 4 "_law_total" spTotal) (m_isinstance : mg "isinstance" = none) (m_list : mg "list" = none) (m_len : mg "len" = none) (m_all : mg "all" = none) (m_tuple : mg "tuple" = none) (m_range : mg "range" = none) : Cal P w K mg base 5 "_law_is_division" spLIsD := by
  refine Df.cal (k := 4) sc_law_is_division (fun ds μ Φ Ψ ⟨M, V, n, u, rs, e, _⟩ => by rw [e]; rfl) (fun ds μ Φ Ψ h => ⟨fun f cd A outer s H E G0 hr hp tk => ?_⟩)
  have hnd := sc_law_is_division.nd
  have nm0 : (cxD P w K mg base ["_law_worths", "_law_players", "_law_division", "_law_one"] "_law_is_division" s_law_is_division f cd A outer s H E).N[0]? = some ("_law_worths" : Str) ∧ (("_law_worths" : Str) == ("__debug__" : Str)) = false ∧ (("_law_worths" : Str) == ("__classdict__" : Str)) = false := ⟨rfl, by decide, by decide⟩
  have nm1 : (cxD P w K mg base ["_law_worths", "_law_players", "_law_division", "_law_one"] "_law_is_division" s_law_is_division f cd A outer s H E).N[1]? = some ("_law_players" : Str) ∧ (("_law_players" : Str) == ("__debug__" : Str)) = false ∧ (("_law_players" : Str) == ("__classdict__" : Str)) = false := ⟨rfl, by decide, by decide⟩
  have nm2 : (cxD P w K mg base ["_law_worths", "_law_players", "_law_division", "_law_one"] "_law_is_division" s_law_is_division f cd A outer s H E).N[2]? = some ("_law_division" : Str) ∧ (("_law_division" : Str) == ("__debug__" : Str)) = false ∧ (("_law_division" : Str) == ("__classdict__" : Str)) = false := ⟨rfl, by decide, by decide⟩
  have nm3 : (cxD P w K mg base ["_law_worths", "_law_players", "_law_division", "_law_one"] "_law_is_division" s_law_is_division f cd A outer s H E).N[3]? = some ("_law_one" : Str) ∧ (("_law_one" : Str) == ("__debug__" : Str)) = false ∧ (("_law_one" : Str) == ("__classdict__" : Str)) = false := ⟨rfl, by decide, by decide⟩
  have bn_isinstance : (cxD P w K mg base ["_law_worths", "_law_players", "_law_division", "_law_one"] "_law_is_division" s_law_is_division f cd A outer s H E).mg "isinstance" = none := m_isinstance
  have bn_list : (cxD P w K mg base ["_law_worths", "_law_players", "_law_division", "_law_one"] "_law_is_division" s_law_is_division f cd A outer s H E).mg "list" = none := m_list
  have bn_len : (cxD P w K mg base ["_law_worths", "_law_players", "_law_division", "_law_one"] "_law_is_division" s_law_is_division f cd A outer s H E).mg "len" = none := m_len
  have bn_all : (cxD P w K mg base ["_law_worths", "_law_players", "_law_division", "_law_one"] "_law_is_division" s_law_is_division f cd A outer s H E).mg "all" = none := m_all
  have bn_tuple : (cxD P w K mg base ["_law_worths", "_law_players", "_law_division", "_law_one"] "_law_is_division" s_law_is_division f cd A outer s H E).mg "tuple" = none := m_tuple
  have bn_range : (cxD P w K mg base ["_law_worths", "_law_players", "_law_division", "_law_one"] "_law_is_division" s_law_is_division f cd A outer s H E).mg "range" = none := m_range
  obtain ⟨M, V, n, u, rs, rfl, h1, h5, hMV, hl, hrow, ht, q⟩ := h
  have hw := whole_at h1 h5
  refine s_cons (s_if (t_bool (tw_or (t_not (t_val ?_)))))
  walk_at "dd"
  refine c_isi (k := true) (tr_bl (orN rfl (tw_or (t_cmp ?_))))
  walk_at "dd"
  refine orN (by rw [List.length_map, hl]; simp) (tw_or1 (t_not (t_val ?_)))
  walk_at "dd"
  refine d_lcLp (own := [("_law_one", 3)]) (vs := [3]) 3 (fun _ => .bl true) ?_
  walk_at "dd"
  refine ⟨_, rfl, by rw [List.length_map, sizeLine_eq]; omega, fun x hx p acc hpn G1 s H0 C' cl fp => ?_, ?_⟩
  · obtain ⟨r, hr2, rfl⟩ := List.mem_map.mp hx
    refine d_call Cr ?_
    walk_at "dd"
    exact ⟨dR r, rfl, pl2_dR r, by rw [isR_low (hrow r hr2).2], rfl⟩
  walk_at "dd"
  rw [map_bl _ (fun _ => true)]
  refine c_all ?_
  rw [all_bls]
  have e : (rs.map dR).all (fun _ => true) = true := List.all_eq_true.mpr fun _ _ => rfl
  rw [e]
  refine tr_bl (no rfl (s_nil ?_))
  refine s_one (s_ret (d_cmp ?_))
  refine d_call Ct ?_
  walk_at "dd"
  refine ⟨M, V, rs, rfl, hMV, fun r h => (hrow r h).1, by omega, ?_⟩
  refine d_tup (da_cons (d_ix ?_) rfl)
  walk_at "dv"
  refine d_tupR ?_
  walk_at "dd"
  refine ⟨n, rfl, by omega, ?_⟩
  refine x_tab (g := rangeI n) (hu64 hr) (.inl rfl) hw ?_
  walk_at "dd"
  refine ⟨(show 2 ≤ sizeLine by decide), o_eqR2 (r := tot rs) (t := (u (rangeI n), 1)) (hu64 hr) ?_⟩
  rw [decide_eq_true ht]
  exact q
def spCalmL : DSp := fun ds μ Φ _ => ∃ (M : Int) (V n : Nat) (u : List Int → Int) (rs : List (Int × Int)), ds = [.dct (tabD n u), .int n, .lst (rs.map dR), .lst ((gL n).map tupI)] ∧ 1 ≤ n ∧ n ≤ 5 ∧ MV M (8 * V) ∧ rs.length = n ∧ (∀ r ∈ rs, RM M V r ∧ Low r) ∧ tot rs = (u (rangeI n), 1) ∧ (∀ g ∈ gL n, (u g).natAbs < 2 ^ 100 ∧ u g * (amtR rs g).2 ≤ (amtR rs g).1) ∧ Φ (.bl true) μ
theorem rat_le {a b : Int} (hb : 0 < b) (h : a ≤ 0) : (ratP a b).1 ≤ 0 := by
  have v := ratP_val a b
  have lw := ratP_low (a := a) hb
  have h2 := Int.mul_le_mul_of_nonneg_right h (Int.le_of_lt lw.pos)
  rw [← v, Int.zero_mul] at h2
  refine Classical.byContradiction fun z => ?_
  have := Int.mul_pos (show 0 < (ratP a b).1 by omega) hb
  omega
theorem ok_calmL (Df : DefT K mg "_law_calm_for" s_law_calm_for ["_law_worths", "_law_players", "_law_division", "_law_listed"]) (Cd : Cal P w K mg base 5 "_law_is_division" spLIsD) (Cc : Cal P w K mg base 6 "_law_complaint" spComplL) : Cal P w K mg base 7 "_law_calm_for" spCalmL := by
  refine Df.cal (k := 6) sc_law_calm_for (fun ds μ Φ Ψ ⟨M, V, n, u, rs, e, _⟩ => by rw [e]; rfl) (fun ds μ Φ Ψ h => ⟨fun f cd A outer s H E G0 hr hp tk => ?_⟩)
  have hnd := sc_law_calm_for.nd
  have nm0 : (cxD P w K mg base ["_law_worths", "_law_players", "_law_division", "_law_listed", "_law_group"] "_law_calm_for" s_law_calm_for f cd A outer s H E).N[0]? = some ("_law_worths" : Str) ∧ (("_law_worths" : Str) == ("__debug__" : Str)) = false ∧ (("_law_worths" : Str) == ("__classdict__" : Str)) = false := ⟨rfl, by decide, by decide⟩
  have nm1 : (cxD P w K mg base ["_law_worths", "_law_players", "_law_division", "_law_listed", "_law_group"] "_law_calm_for" s_law_calm_for f cd A outer s H E).N[1]? = some ("_law_players" : Str) ∧ (("_law_players" : Str) == ("__debug__" : Str)) = false ∧ (("_law_players" : Str) == ("__classdict__" : Str)) = false := ⟨rfl, by decide, by decide⟩
  have nm2 : (cxD P w K mg base ["_law_worths", "_law_players", "_law_division", "_law_listed", "_law_group"] "_law_calm_for" s_law_calm_for f cd A outer s H E).N[2]? = some ("_law_division" : Str) ∧ (("_law_division" : Str) == ("__debug__" : Str)) = false ∧ (("_law_division" : Str) == ("__classdict__" : Str)) = false := ⟨rfl, by decide, by decide⟩
  have nm3 : (cxD P w K mg base ["_law_worths", "_law_players", "_law_division", "_law_listed", "_law_group"] "_law_calm_for" s_law_calm_for f cd A outer s H E).N[3]? = some ("_law_listed" : Str) ∧ (("_law_listed" : Str) == ("__debug__" : Str)) = false ∧ (("_law_listed" : Str) == ("__classdict__" : Str)) = false := ⟨rfl, by decide, by decide⟩
  have nm4 : (cxD P w K mg base ["_law_worths", "_law_players", "_law_division", "_law_listed", "_law_group"] "_law_calm_for" s_law_calm_for f cd A outer s H E).N[4]? = some ("_law_group" : Str) ∧ (("_law_group" : Str) == ("__debug__" : Str)) = false ∧ (("_law_group" : Str) == ("__classdict__" : Str)) = false := ⟨rfl, by decide, by decide⟩
  obtain ⟨M, V, n, u, rs, rfl, h1, h5, hMV, hl, hrow, ht, hc, q⟩ := h
  refine s_cons (s_if (t_not (t_val ?_)))
  refine d_call Cd ?_
  walk_at "dd"
  refine ⟨M, V, n, u, rs, rfl, h1, h5, hMV, hl, hrow, ht, tr_bl (no rfl (s_nil ?_))⟩
  refine s_one (s_ret (d_cmp ?_))
  refine d_lcL0 (own := [("_law_group", 4)]) (vs := [4]) 4 ?_
  walk_at "dd"
  refine ⟨(gL n).map tupI, rfl, fun x hx p acc hpn G1 s H0 C' cl fp => ?_, ?_⟩
  · obtain ⟨g, hg, rfl⟩ := List.mem_map.mp hx
    obtain ⟨g0, g1, g2⟩ := gL_at h5 hg
    obtain ⟨hu, hle⟩ := hc g hg
    have ha := (amtR_RM (fun r h => (hrow r h).1) (g := g) (by omega) fun i hi => by rw [hl]; exact g2 i hi).1
    refine t_cmp (d_ix ?_)
    refine d_call Cc ?_
    walk_at "dd"
    refine ⟨M, V, n, u, rs, g, rfl, h5, hMV, hl, fun r h => (hrow r h).1, hg, hu, ?_⟩
    walk_at "dd"
    show dIx _ (D.tup [.int (cmp35 u rs g).1, .int (cmp35 u rs g).2]) (.int 0) _ _
    walk_at "dd"
    refine ⟨decide_eq_false ?_, rfl⟩
    have := rat_le ha.pos (show u g * (amtR rs g).2 - (amtR rs g).1 ≤ 0 by omega)
    show ¬ (cmp35 u rs g).1 > 0
    unfold cmp35
    omega
  walk_at "dd"
  refine d_lst ?_
  walk_at "dd"
  refine ⟨(show 0 ≤ sizeLine by decide), ?_⟩
  exact o_same (p := .list []) (hu64 hr) (.lst .nil) (.lst .nil) rfl (by decide) q
end
end K35

open PySem PySem.Spec PyProof.Rows L2 DL
namespace K35
section
variable {P : Program} {w : World} {K : PySem.W.Frag} {mg : Str → Option Value} {base : Heap} {C CG CO CP : Addr}
/-! ### tables that are filled -/
theorem put_new {kvs : List (List Key × D)} {k : List Key} {v : D} (h : ∀ kv ∈ kvs, kv.1 ≠ k) : putD kvs k v = kvs ++ [(k, v)] := by
  unfold putD
  rw [if_neg]
  intro z
  obtain ⟨kv, h1, h2⟩ := List.any_eq_true.mp z
  exact h kv h1 (of_decide_eq_true h2)
theorem put_over {kvs : List (List Key × D)} {k : List Key} {v v' : D} (h : ∀ kv ∈ kvs, kv.1 ≠ k) : putD (kvs ++ [(k, v)]) k v' = kvs ++ [(k, v')] := by
  unfold putD
  rw [if_pos (List.any_eq_true.mpr ⟨(k, v), by simp, by simp⟩), List.map_append]
  congr 1
  · refine (List.map_congr_left fun kv hkv => ?_).trans (List.map_id kvs)
    rw [if_neg (h kv hkv)]
    rfl
  · simp
theorem keys_no {L : List (List Int)} (hn : L.Nodup) {i : Nat} {g : List Int} (hg : L[i]? = some g) (f : List Int → D) : ∀ kv ∈ (L.take i).map (fun g => (keyI g, f g)), kv.1 ≠ keyI g := by
  intro kv hkv e
  obtain ⟨h, hh, rfl⟩ := List.mem_map.mp hkv
  obtain ⟨j, hj⟩ := List.mem_iff_getElem?.mp hh
  have hi := (List.getElem?_eq_some_iff.mp hg).1
  have hj' := (List.getElem?_eq_some_iff.mp hj).1
  rw [List.length_take] at hj'
  rw [List.getElem?_take_of_lt (by omega)] at hj
  have he : h = g := keyI_inj e
  subst he
  obtain ⟨h1, e1⟩ := List.getElem?_eq_some_iff.mp hj
  obtain ⟨h2, e2⟩ := List.getElem?_eq_some_iff.mp hg
  have := (List.getElem_inj hn).mp (e1.trans e2.symm)
  omega
theorem tab_put {L : List (List Int)} (hn : L.Nodup) {i : Nat} {g : List Int} (hg : L[i]? = some g) (f : List Int → D) : putD ((L.take i).map fun g => (keyI g, f g)) (keyI g) (f g) = (L.take (i + 1)).map fun g => (keyI g, f g) := by
  rw [put_new (keys_no hn hg f), List.take_add_one, hg, List.map_append]
  rfl
theorem tab_put2 {L : List (List Int)} (hn : L.Nodup) {i : Nat} {g : List Int} (hg : L[i]? = some g) (f : List Int → D) (v : D) : putD (putD ((L.take i).map fun g => (keyI g, f g)) (keyI g) v) (keyI g) (f g) = (L.take (i + 1)).map fun g => (keyI g, f g) := by
  rw [put_new (keys_no hn hg f), put_over (keys_no hn hg f), List.take_add_one, hg, List.map_append]
  rfl
theorem tab_take (n : Nat) (z : List Int → Int) : ((gL n).take (gL n).length).map (fun g => (keyI g, D.int (z g))) = tabD n z := by
  rw [List.take_length]
  rfl
theorem tk_len {n : Nat} (h5 : n ≤ 5) (i : Nat) (f : List Int → D) : (((gL n).take i).map fun g => (keyI g, f g)).length < sizeLine := by
  have := (gfacts n h5).len
  rw [List.length_map, List.length_take, sizeLine_eq]
  omega
theorem tab_at {n : Nat} {u : List Int → Int} {i : Nat} {kk : List Key} {r : D} (h : (tabD n u)[i]? = some (kk, r)) : ∃ g, (gL n)[i]? = some g ∧ g ∈ gL n ∧ kk = keyI g ∧ r = .int (u g) := by
  unfold tabD at h
  rw [List.getElem?_map] at h
  cases hg : (gL n)[i]? with
  | none => rw [hg] at h; cases h
  | some g =>
    rw [hg] at h
    cases h
    exact ⟨g, rfl, List.mem_of_getElem? hg, rfl, rfl⟩
end
end K35

open PySem PySem.Spec PyProof.Rows L2 DL
namespace K35
section
variable {P : Program} {w : World} {K : PySem.W.Frag} {mg : Str → Option Value} {base : Heap} {CB CS CN CM : Addr}
/-- the last of a division of nine -/
def lastR (r : List (Int × Int)) : Int × Int := ratP (9 * (tot r).2 - (tot r).1 * 1) (1 * (tot r).2)
def fullR (r : List (Int × Int)) : List (Int × Int) := r ++ [lastR r]
theorem vq_last {r : List (Int × Int)} (h : ∀ x ∈ r, 0 < x.2) : vq (lastR r) = 9 - Sq r := by
  have hp := (tot_low r h).pos
  have e : vq (lastR r) = vq (9, 1) - vq (tot r) := vq_minus (r := (9, 1)) (s := tot r) Int.zero_lt_one hp
  rw [e, vq_tot r h, vq_int]
  rfl
theorem last_rm {r : List (Int × Int)} (h : ∀ x ∈ r, RM 3 7 x) (hl : r.length ≤ 4) : RM 3 37 (lastR r) ∧ Low (lastR r) := by
  have ht := (tot_RM h).mono (V' := 28) (by omega)
  refine ratP_RM (by have := ht.pos; omega) (by rw [Int.one_mul]; exact ht.dv) ?_
  have v := ht.val
  have p := ht.pos
  omega
theorem full_row {n : Nat} {r : List (Int × Int)} (h1 : 1 ≤ n) (h5 : n ≤ 5) (hl : r.length = n - 1) (h : ∀ x ∈ r, RM 3 7 x ∧ Low x) : CRow n (fullR r) := by
  have hr : ∀ x ∈ r, RM 3 7 x := fun x hx => (h x hx).1
  have hp : ∀ x ∈ r, 0 < x.2 := fun x hx => (hr x hx).pos
  have lr := last_rm hr (by omega)
  refine ⟨by unfold fullR; rw [List.length_append, hl]; show n - 1 + 1 = n; omega, fun x hx => ?_, ?_⟩
  · rcases List.mem_append.mp hx with hx | hx
    · exact ⟨(hr x hx).mono (by decide), (h x hx).2⟩
    · rw [List.mem_singleton.mp hx]
      exact ⟨lr.1.mono (by decide), lr.2⟩
  · unfold fullR
    rw [Sq_app, Sq_one, vq_last hp]
    grind
def fullD : D → D
  | .lst ds => .lst ((fullR (ds.map ratOf)).map dR)
  | d => d
theorem map_ratOf (r : List (Int × Int)) : (r.map dR).map ratOf = r := by
  rw [List.map_map]
  exact (List.map_congr_left fun x _ => rfl).trans (List.map_id r)
theorem mv9 {a b : Int} (ha : 0 ≤ a) (ha9 : a < 9) (hb : 1 ≤ b) (hb9 : b ≤ 9) : MV (3 * (a + b)) (8 * 178) := by
  refine ⟨by omega, ?_, by decide⟩
  have : (3 * (a + b)).natAbs < 2 ^ 7 := by omega
  exact na_up this (by decide)
theorem mv3 : MV 3 (8 * 89) := ⟨by decide, by decide, by decide⟩
theorem floor_small {r : Int × Int} {V : Nat} (h : RM 3 V r) (hV : V ≤ 1000) : (floorR r).natAbs < 2 ^ 100 := by
  unfold floorR
  have hb3 := Int.le_of_dvd (by decide) h.dv
  have p := h.pos
  have v := h.val
  rw [Int.fdiv_eq_ediv_of_nonneg _ (by omega)]
  have h1 := Int.natAbs_ediv_le_natAbs r.1 r.2
  have h2 : V * r.2.natAbs ≤ 1000 * 3 := Nat.mul_le_mul hV (by omega)
  have : (r.1 / r.2).natAbs < 2 ^ 12 := by omega
  exact na_up this (by decide)
def spCalmB : DSp := fun ds μ Φ _ => ∃ (p : Addr) (c : D) (m : Nat), ds = [.ref p] ∧ μ p = some c ∧ Pool m c ∧ m < 2 ^ 19 ∧ ∀ μ', Φ (.bl true) μ'
theorem ok_calmB (Ct : Cal P w K mg base 1 "_law_take" spTake) (Cf : Cal P w K mg base 2 "_law_few" spFew) (Cl : Cal P w K mg base 2 "_law_ratio" spLRatio) (Cm : Cal P w K mg base 3 "_law_minus" spMinusR) (Ctt : Cal P w K mg base 4 "_law_total" spTotal) (Ca : Cal P w K mg base 5 "_law_amount" spAmtL) (Cg : Cal P w K mg base 1 "_law_groups" spLGroups) (Cb : Cal P w K mg base 7 "blended" (spBlend CS CN CM)) (Cw : Cal P w K mg base 2 "_law_weights_of" spWeights) (Cc : Cal P w K mg base 7 "_law_calm_for" spCalmL) (Df : DefT K mg "_law_calm_blends" s_law_calm_blends ["_law_pool_here"]) (m_range : mg "range" = none) (m_min : mg "min" = none) : Cal P w K mg base 9 "_law_calm_blends" spCalmB := by
  refine Df.cal (k := 8) sc_law_calm_blends (fun ds μ Φ Ψ ⟨p, c, m, e, _⟩ => by rw [e]; rfl) (fun ds μ Φ Ψ h => ⟨fun f cd A outer s H E G0 hr hp tk => ?_⟩)
  have hnd := sc_law_calm_blends.nd
  have nm0 : (cxD P w K mg base ["_law_pool_here", "_law_players", "_law_rows", "_law_k", "_law_worths", "_law_group", "_law_top", "_law_bottom", "_law_up", "_law_down", "_law_blend", "_law_player", "_law_row"] "_law_calm_blends" s_law_calm_blends f cd A outer s H E).N[0]? = some ("_law_pool_here" : Str) ∧ (("_law_pool_here" : Str) == ("__debug__" : Str)) = false ∧ (("_law_pool_here" : Str) == ("__classdict__" : Str)) = false := ⟨rfl, by decide, by decide⟩
  have nm1 : (cxD P w K mg base ["_law_pool_here", "_law_players", "_law_rows", "_law_k", "_law_worths", "_law_group", "_law_top", "_law_bottom", "_law_up", "_law_down", "_law_blend", "_law_player", "_law_row"] "_law_calm_blends" s_law_calm_blends f cd A outer s H E).N[1]? = some ("_law_players" : Str) ∧ (("_law_players" : Str) == ("__debug__" : Str)) = false ∧ (("_law_players" : Str) == ("__classdict__" : Str)) = false := ⟨rfl, by decide, by decide⟩
  have nm2 : (cxD P w K mg base ["_law_pool_here", "_law_players", "_law_rows", "_law_k", "_law_worths", "_law_group", "_law_top", "_law_bottom", "_law_up", "_law_down", "_law_blend", "_law_player", "_law_row"] "_law_calm_blends" s_law_calm_blends f cd A outer s H E).N[2]? = some ("_law_rows" : Str) ∧ (("_law_rows" : Str) == ("__debug__" : Str)) = false ∧ (("_law_rows" : Str) == ("__classdict__" : Str)) = false := ⟨rfl, by decide, by decide⟩
  have nm3 : (cxD P w K mg base ["_law_pool_here", "_law_players", "_law_rows", "_law_k", "_law_worths", "_law_group", "_law_top", "_law_bottom", "_law_up", "_law_down", "_law_blend", "_law_player", "_law_row"] "_law_calm_blends" s_law_calm_blends f cd A outer s H E).N[3]? = some ("_law_k" : Str) ∧ (("_law_k" : Str) == ("__debug__" : Str)) = false ∧ (("_law_k" : Str) == ("__classdict__" : Str)) = false := ⟨rfl, by decide, by decide⟩
  have nm4 : (cxD P w K mg base ["_law_pool_here", "_law_players", "_law_rows", "_law_k", "_law_worths", "_law_group", "_law_top", "_law_bottom", "_law_up", "_law_down", "_law_blend", "_law_player", "_law_row"] "_law_calm_blends" s_law_calm_blends f cd A outer s H E).N[4]? = some ("_law_worths" : Str) ∧ (("_law_worths" : Str) == ("__debug__" : Str)) = false ∧ (("_law_worths" : Str) == ("__classdict__" : Str)) = false := ⟨rfl, by decide, by decide⟩
  have nm5 : (cxD P w K mg base ["_law_pool_here", "_law_players", "_law_rows", "_law_k", "_law_worths", "_law_group", "_law_top", "_law_bottom", "_law_up", "_law_down", "_law_blend", "_law_player", "_law_row"] "_law_calm_blends" s_law_calm_blends f cd A outer s H E).N[5]? = some ("_law_group" : Str) ∧ (("_law_group" : Str) == ("__debug__" : Str)) = false ∧ (("_law_group" : Str) == ("__classdict__" : Str)) = false := ⟨rfl, by decide, by decide⟩
  have nm6 : (cxD P w K mg base ["_law_pool_here", "_law_players", "_law_rows", "_law_k", "_law_worths", "_law_group", "_law_top", "_law_bottom", "_law_up", "_law_down", "_law_blend", "_law_player", "_law_row"] "_law_calm_blends" s_law_calm_blends f cd A outer s H E).N[6]? = some ("_law_top" : Str) ∧ (("_law_top" : Str) == ("__debug__" : Str)) = false ∧ (("_law_top" : Str) == ("__classdict__" : Str)) = false := ⟨rfl, by decide, by decide⟩
  have nm7 : (cxD P w K mg base ["_law_pool_here", "_law_players", "_law_rows", "_law_k", "_law_worths", "_law_group", "_law_top", "_law_bottom", "_law_up", "_law_down", "_law_blend", "_law_player", "_law_row"] "_law_calm_blends" s_law_calm_blends f cd A outer s H E).N[7]? = some ("_law_bottom" : Str) ∧ (("_law_bottom" : Str) == ("__debug__" : Str)) = false ∧ (("_law_bottom" : Str) == ("__classdict__" : Str)) = false := ⟨rfl, by decide, by decide⟩
  have nm8 : (cxD P w K mg base ["_law_pool_here", "_law_players", "_law_rows", "_law_k", "_law_worths", "_law_group", "_law_top", "_law_bottom", "_law_up", "_law_down", "_law_blend", "_law_player", "_law_row"] "_law_calm_blends" s_law_calm_blends f cd A outer s H E).N[8]? = some ("_law_up" : Str) ∧ (("_law_up" : Str) == ("__debug__" : Str)) = false ∧ (("_law_up" : Str) == ("__classdict__" : Str)) = false := ⟨rfl, by decide, by decide⟩
  have nm9 : (cxD P w K mg base ["_law_pool_here", "_law_players", "_law_rows", "_law_k", "_law_worths", "_law_group", "_law_top", "_law_bottom", "_law_up", "_law_down", "_law_blend", "_law_player", "_law_row"] "_law_calm_blends" s_law_calm_blends f cd A outer s H E).N[9]? = some ("_law_down" : Str) ∧ (("_law_down" : Str) == ("__debug__" : Str)) = false ∧ (("_law_down" : Str) == ("__classdict__" : Str)) = false := ⟨rfl, by decide, by decide⟩
  have nm10 : (cxD P w K mg base ["_law_pool_here", "_law_players", "_law_rows", "_law_k", "_law_worths", "_law_group", "_law_top", "_law_bottom", "_law_up", "_law_down", "_law_blend", "_law_player", "_law_row"] "_law_calm_blends" s_law_calm_blends f cd A outer s H E).N[10]? = some ("_law_blend" : Str) ∧ (("_law_blend" : Str) == ("__debug__" : Str)) = false ∧ (("_law_blend" : Str) == ("__classdict__" : Str)) = false := ⟨rfl, by decide, by decide⟩
  have nm11 : (cxD P w K mg base ["_law_pool_here", "_law_players", "_law_rows", "_law_k", "_law_worths", "_law_group", "_law_top", "_law_bottom", "_law_up", "_law_down", "_law_blend", "_law_player", "_law_row"] "_law_calm_blends" s_law_calm_blends f cd A outer s H E).N[11]? = some ("_law_player" : Str) ∧ (("_law_player" : Str) == ("__debug__" : Str)) = false ∧ (("_law_player" : Str) == ("__classdict__" : Str)) = false := ⟨rfl, by decide, by decide⟩
  have nm12 : (cxD P w K mg base ["_law_pool_here", "_law_players", "_law_rows", "_law_k", "_law_worths", "_law_group", "_law_top", "_law_bottom", "_law_up", "_law_down", "_law_blend", "_law_player", "_law_row"] "_law_calm_blends" s_law_calm_blends f cd A outer s H E).N[12]? = some ("_law_row" : Str) ∧ (("_law_row" : Str) == ("__debug__" : Str)) = false ∧ (("_law_row" : Str) == ("__classdict__" : Str)) = false := ⟨rfl, by decide, by decide⟩
  have bn_range : (cxD P w K mg base ["_law_pool_here", "_law_players", "_law_rows", "_law_k", "_law_worths", "_law_group", "_law_top", "_law_bottom", "_law_up", "_law_down", "_law_blend", "_law_player", "_law_row"] "_law_calm_blends" s_law_calm_blends f cd A outer s H E).mg "range" = none := m_range
  have bn_min : (cxD P w K mg base ["_law_pool_here", "_law_players", "_law_rows", "_law_k", "_law_worths", "_law_group", "_law_top", "_law_bottom", "_law_up", "_law_down", "_law_blend", "_law_player", "_law_row"] "_law_calm_blends" s_law_calm_blends f cd A outer s H E).mg "min" = none := m_min
  obtain ⟨p, c, m, rfl, hpc, hP, hm, q⟩ := h
  refine s_cons (s_set (i := 1) ?_)
  refine d_call Cf ?_
  walk_at "dd"
  refine ⟨p, c, m, rfl, hpc, hP, by omega, fun n c1 h1 h5 hP1 => ?_⟩
  have hp1 : updM μ p c1 p = some c1 := updM_same
  generalize updM μ p c1 = μ1 at hp1 ⊢
  refine s_cons (s_set (i := 2) (d_lstM ?_))
  walk_at "dd"
  refine ⟨(show 0 ≤ sizeLine by decide), fun l hl0 => ?_⟩
  have nlp : l ≠ p := fun e => by rw [e, hp1] at hl0; cases hl0
  refine s_cut (fun δ' μ' => ∃ (r1 r2 : List (Int × Int)) (v3 : Option D) (c2 : D), δ' = [some (.ref p), some (.int n), some (.ref l), v3, none, none, none, none, none, none, none, none, none] ∧ (r1.length = n - 1 ∧ ∀ x ∈ r1, RM 3 7 x ∧ Low x) ∧ (r2.length = n - 1 ∧ ∀ x ∈ r2, RM 3 7 x ∧ Low x) ∧ μ' l = some (.lst [.lst (r1.map dR), .lst (r2.map dR)]) ∧ μ' p = some c2 ∧ Pool (m + 12) c2) ?_ ?_
  · refine s_forR ?_
    walk_at "dd"
    refine ⟨2, rfl, by decide, by decide, fun i δ' μ' => ∃ (rs : List (List (Int × Int))) (v3 : Option D) (c2 : D), δ' = [some (.ref p), some (.int n), some (.ref l), v3, none, none, none, none, none, none, none, none, none] ∧ rs.length = i ∧ (∀ r ∈ rs, r.length = n - 1 ∧ ∀ x ∈ r, RM 3 7 x ∧ Low x) ∧ μ' l = some (.lst (rs.map fun r => .lst (r.map dR))) ∧ μ' p = some c2 ∧ Pool (m + 2 + 5 * i) c2, ⟨[], none, c1, rfl, rfl, (fun r h => by cases h), updM_same, by rw [updM_ne (Ne.symm nlp)]; exact hp1, hP1⟩, ?_, ?_⟩
    · rintro i δ' μ' hi ⟨rs, v3, c2, rfl, hrl, hrs, hl2, hp2, hP2⟩
      have hi2 : i < 2 := hi
      refine g_name (i := 3) fun G1 e1 => s_one (s_expr (d_append ?_))
      walk_at "dd"
      refine ⟨l, rfl, ⟨_, hl2⟩, d_fz ?_⟩
      refine d_lcR (own := [("_law_player", 11)]) (vs := [11]) 11 ?_
      walk_at "dd"
      refine ⟨(n : Int) - 1, rfl, by omega, by omega, fun k acc μ5 => ∃ (row : List (Int × Int)) (c5 : D), acc = row.map dR ∧ row.length = k ∧ (∀ r ∈ row, RM 3 7 r ∧ Low r) ∧ μ5 l = some (.lst (rs.map fun r => .lst (r.map dR))) ∧ μ5 p = some c5 ∧ Pool (m + 2 + 5 * i + k) c5, ⟨[], c2, rfl, rfl, (fun r h => by cases h), hl2, hp2, hP2⟩, ?_, ?_⟩
      · rintro k acc μ5 o hk ⟨row, c5, rfl, hrl5, hrm, hl5, hp5, hP5⟩ ho
        have nol : l ≠ o := fun e => by rw [e, ho] at hl5; cases hl5
        have nop : p ≠ o := fun e => by rw [e, ho] at hp5; cases hp5
        refine ⟨by rw [List.length_map, sizeLine_eq]; omega, fun G1 s H0 C' cl fp => ?_⟩
        refine d_call Cl ?_
        refine da_cons (d_op ?_) rfl
        refine d_call Ct ?_
        walk_at "dd"
        refine ⟨p, 41, c5, _, rfl, by decide, by decide, by rw [updM_ne nop]; exact hp5, hP5, by omega, fun x c6 x0 x41 hP6 => ?_⟩
        walk_at "dd"
        obtain ⟨rm, lw⟩ := ratP_RM (M := 3) (V := 7) (a := x - 20) (b := 3) (by decide) (Int.dvd_refl 3) (by omega)
        refine ⟨_, _, rfl, by decide, na_up (n := 3) (by decide) (by decide), ?_⟩
        rw [rat_dR, updM_comm (Ne.symm nop)]
        refine ⟨updM μ5 p c6, rfl, by rw [updM_ne (Ne.symm nop)]; exact ho, row ++ [ratP (x - 20) 3], c6, by rw [List.map_append]; rfl, by rw [List.length_append, hrl5]; rfl, fun r hr => ?_, by rw [updM_ne nlp]; exact hl5, updM_same, pool_up hP6 (by omega)⟩
        rcases List.mem_append.mp hr with hr | hr
        · exact hrm r hr
        · rw [List.mem_singleton.mp hr]
          exact ⟨rm, lw⟩
      · rintro acc μ5 o ⟨row, c5, rfl, hrl5, hrm, hl5, hp5, hP5⟩ ho
        refine fz_ref ho ⟨_, hl5, by rw [List.length_map, sizeLine_eq]; omega, ?_⟩
        refine ⟨rs ++ [row], _, c5, rfl, by rw [List.length_append, hrl]; rfl, fun r hr => ?_, ?_, by rw [updM_ne (Ne.symm nlp)]; exact hp5, pool_up hP5 (by omega)⟩
        · rcases List.mem_append.mp hr with hr | hr
          · exact hrs r hr
          · rw [List.mem_singleton.mp hr]
            exact ⟨by omega, hrm⟩
        · rw [updM_same, List.map_append]
          rfl
    · rintro δ' μ' ⟨rs, v3, c2, rfl, hrl, hrs, hl2, hp2, hP2⟩
      have hrl2 : rs.length = 2 := hrl
      match rs, hrl2 with
      | [r1, r2], _ => exact ⟨r1, r2, v3, c2, rfl, hrs r1 (by simp), hrs r2 (by simp), hl2, hp2, pool_up hP2 (by show m + 2 + 5 * 2 ≤ _; omega)⟩
  rintro δ' μ' ⟨r1, r2, v3, c2, rfl, ⟨l1, k1⟩, ⟨l2, k2⟩, hl2, hp2, hP2⟩
  have f1 := full_row h1 h5 l1 k1
  have f2 := full_row h1 h5 l2 k2
  refine s_frzD (i := 2) rfl hl2 ?_
  have hp3 : delM μ' l p = some c2 := by rw [delM_ne (Ne.symm nlp)]; exact hp2
  generalize delM μ' l = μ3 at hp3 ⊢
  refine s_cons (s_setLp (own := [("_law_row", 12)]) (vs := [12]) 2 12 fullD ?_)
  walk_at "dd"
  refine ⟨_, rfl, (show 2 ≤ sizeLine by decide), fun x hx p9 acc hn G1 s H0 C' cl fp => ?_, fun p9 hp9 => fz_ref hp9 ?_⟩
  · obtain ⟨r, hrl, hrk, rfl⟩ : ∃ r : List (Int × Int), r.length = n - 1 ∧ (∀ x ∈ r, RM 3 7 x ∧ Low x) ∧ x = .lst (r.map dR) := by
      rcases List.mem_cons.mp hx with h | h
      · exact ⟨r1, l1, k1, h⟩
      · exact ⟨r2, l2, k2, List.mem_singleton.mp h⟩
    have hr7 : ∀ x ∈ r, RM 3 7 x := fun x hx => (hrk x hx).1
    have ht := (tot_RM hr7).mono (V' := 28) (by omega)
    refine d_op ?_
    walk_at "dd"
    refine d_lst ?_
    refine da_cons ?_ rfl
    refine d_call Cm ?_
    refine da_cons (d_tup ?_) rfl
    walk_at "dd"
    refine ⟨(show 2 ≤ sizeLine by decide), ?_⟩
    refine da_cons ?_ rfl
    refine d_call Ctt ?_
    walk_at "dd"
    refine ⟨3, 89, r, rfl, mv3, fun x hx => (hr7 x hx).mono (by decide), by omega, ?_⟩
    walk_at "dd"
    refine ⟨(9, 1), tot r, rfl, ⟨by decide, by decide +kernel, by decide +kernel⟩, rb_of (V := 8 * 89) (ht.mono (by decide)) mv3, ?_⟩
    walk_at "dd"
    refine ⟨(show 1 ≤ sizeLine by decide), ?_⟩
    refine o_cat ⟨by rw [List.length_map, sizeLine_eq]; show r.length + 1 ≤ _; omega, ?_, rfl⟩
    show D.lst (r.map dR ++ [dR (lastR r)]) = fullD (.lst (r.map dR))
    show _ = D.lst ((fullR ((r.map dR).map ratOf)).map dR)
    rw [map_ratOf]
    unfold fullR
    rw [List.map_append]
    rfl
  have er : [D.lst (r1.map dR), .lst (r2.map dR)].map fullD = [.lst ((fullR r1).map dR), .lst ((fullR r2).map dR)] := by
    show [D.lst ((fullR ((r1.map dR).map ratOf)).map dR), D.lst ((fullR ((r2.map dR).map ratOf)).map dR)] = _
    rw [map_ratOf, map_ratOf]
  rw [er]
  generalize fullR r1 = s1 at f1 ⊢
  generalize fullR r2 = s2 at f2 ⊢
  refine s_cons (s_set (i := 4) (d_newT fun qd hqd => ?_))
  have nqp : qd ≠ p := fun e => by rw [e, hp3] at hqd; cases hqd
  have gf := gfacts n h5
  have gll := gf.len
  have amt : ∀ {s : List (Int × Int)}, CRow n s → ∀ g ∈ gL n, RM 3 (5 * 89) (amtR s g) := fun {s} hs g hg => by
    obtain ⟨g0, g1, g2⟩ := gL_at h5 hg
    exact (amtR_RM (fun r h => (hs.row r h).1) (by omega) fun i hi => by rw [hs.len]; exact g2 i hi).1
  have mv5 : MV 3 (5 * 89) := ⟨by decide, by decide, by decide⟩
  refine s_cut (fun δ' μ' => (∃ v5 v6 v7 v8 v9, δ' = [some (.ref p), some (.int n), some (.lst [.lst (s1.map dR), .lst (s2.map dR)]), v3, some (.ref qd), v5, v6, v7, v8, v9, none, none, none]) ∧ μ' = updM μ3 qd (.dct (tabD n (worthU s1 s2)))) ?_ ?_
  · refine s_forLx ?_
    refine d_call Cg ?_
    walk_at "dd"
    refine ⟨n, rfl, h5, ?_⟩
    refine ⟨(gL n).map tupI, rfl, fun i δ' μ' => (∃ v5 v6 v7 v8 v9, δ' = [some (.ref p), some (.int n), some (.lst [.lst (s1.map dR), .lst (s2.map dR)]), v3, some (.ref qd), v5, v6, v7, v8, v9, none, none, none]) ∧ μ' = updM μ3 qd (.dct (((gL n).take i).map fun g => (keyI g, D.int (worthU s1 s2 g)))), ⟨⟨none, none, none, none, none, rfl⟩, rfl⟩, ?_, ?_⟩
    · rintro i d δ' μ' hd ⟨⟨v5, v6, v7, v8, v9, rfl⟩, rfl⟩
      obtain ⟨g, hgi, rfl⟩ : ∃ g, (gL n)[i]? = some g ∧ d = tupI g := by
        rw [List.getElem?_map] at hd
        cases e : (gL n)[i]? with
        | none => rw [e] at hd; cases hd
        | some g => rw [e] at hd; cases hd; exact ⟨g, rfl, rfl⟩
      have hg := List.mem_of_getElem? hgi
      obtain ⟨g0, g1, g2⟩ := gL_at h5 hg
      have a1 := amt f1 g hg
      have a2 := amt f2 g hg
      refine g_name (i := 5) fun G1 e1 => ?_
      refine s_cons (s_unp ?_)
      refine d_call Ca ?_
      walk_at "dd"
      refine ⟨3, 89, s1, g, rfl, mv3, fun r h => (f1.row r h).1, by omega, fun i hi => by rw [f1.len]; exact g2 i hi, g_pair (i := 6) (j := 7) ?_⟩
      refine s_cons (s_unp ?_)
      refine d_call Ca ?_
      walk_at "dd"
      refine ⟨3, 89, s2, g, rfl, mv3, fun r h => (f2.row r h).1, by omega, fun i hi => by rw [f2.len]; exact g2 i hi, g_pair (i := 8) (j := 9) ?_⟩
      refine s_one (s_put (hu64 hr) ?_)
      walk_at "dd"
      refine o_div ⟨divOk (by have := a1.pos; omega) (a1.botB mv5) (by decide), ?_⟩
      walk_at "dd"
      refine o_div ⟨divOk (by have := a2.pos; omega) (a2.botB mv5) (by decide), ?_⟩
      walk_at "dd"
      refine c_min2 ?_
      walk_at "dd"
      refine ⟨qd, keyI g, _, rfl, (keyT_I g).symm, updM_same, tk_len h5 i _, ?_⟩
      rw [updM_upd]
      refine ⟨⟨some (tupI g), some (.int (amtR s1 g).1), some (.int (amtR s1 g).2), some (.int (amtR s2 g).1), some (.int (amtR s2 g).2), rfl⟩, ?_⟩
      exact congrArg (fun z => updM μ3 qd (.dct z)) (tab_put gf.nodup hgi (fun g => D.int (worthU s1 s2 g)))
    · rintro δ' μ' ⟨hv, rfl⟩
      rw [List.length_map, tab_take]
      exact ⟨hv, rfl⟩
  rintro δ' μ' ⟨⟨v5, v6, v7, v8, v9, rfl⟩, rfl⟩
  refine s_frzDc (i := 4) rfl hqd ?_
  refine s_cons (s_set (i := 10) (d_fz ?_))
  refine d_call Cb ?_
  walk_at "dd"
  refine d_call Cw ?_
  walk_at "dd"
  refine ⟨p, c2, _, rfl, hp3, hP2, by omega, fun a b c3 a0 a9 b1 b9 hP3 => ?_⟩
  walk_at "dd"
  have okr : ∀ {s : List (Int × Int)}, CRow n s → okL (s.map dR) = true := fun {s} hs => by
    unfold okL
    have e1 : (s.map dR).all isR = true := List.all_eq_true.mpr fun x hx => by
      obtain ⟨r, hr2, rfl⟩ := List.mem_map.mp hx
      exact isR_low (hs.row r hr2).2
    rw [e1, List.length_map, hs.len, decide_eq_true h1, decide_eq_true h5]
    rfl
  have hsh : (shB [.int a, .int b] && decide ([D.int a, .int b].length = [s1.map dR, s2.map dR].length)) = true := by
    have e : shB ([a, b].map D.int) = true := by
      rw [shB_ints]
      refine decide_eq_true ⟨fun x hx => ?_, by simp; omega⟩
      rcases List.mem_cons.mp hx with h | h
      · omega
      · rw [List.mem_singleton.mp h]; omega
    rw [show [D.int a, .int b] = [a, b].map D.int from rfl, e]
    rfl
  have hok : [s1.map dR, s2.map dR].all okL = true := by
    rw [List.all_cons, List.all_cons, okr f1, okr f2]
    rfl
  have hsame : sameL [s1.map dR, s2.map dR] = true := by
    unfold sameL
    rw [List.all_cons, List.all_cons]
    show (decide ((s1.map dR).length = (s1.map dR).length) && (decide ((s2.map dR).length = (s1.map dR).length) && true)) = true
    rw [List.length_map, List.length_map, f1.len, f2.len]
    simp
  have hab : [a, b].sum = a + b := by simp
  have hG : Good 3 89 n [s1, s2] [a, b] := by
    refine ⟨⟨by decide, by decide, by decide⟩, (show 2 ≤ 60 by decide), by simp, h5, h1, fun row hrow => ?_, ⟨fun s hs => ?_, by rw [hab]; omega, ?_⟩, rfl⟩
    · rcases List.mem_cons.mp hrow with h | h
      · rw [h]; exact ⟨f1.len, f1.row⟩
      · rw [List.mem_singleton.mp h]; exact ⟨f2.len, f2.row⟩
    · have : s.natAbs < 2 ^ 4 := by
        rcases List.mem_cons.mp hs with h | h
        · rw [h]; omega
        · rw [List.mem_singleton.mp h]; omega
      exact na_up this (by decide)
    · have : ([a, b].sum).natAbs < 2 ^ 5 := by rw [hab]; omega
      exact na_up this (by decide)
  refine ⟨[s1.map dR, s2.map dR], [.int a, .int b], _, _, rfl, .inl rfl, .inl rfl, (show 2 ≤ 60 by decide), fun it hit => ?_, (show 2 ≤ 100 by decide), fun x hx => ?_, fun z => (by rw [hsh] at z; cases z), fun _ z => (by rw [hok] at z; cases z), fun _ _ z => (by rw [hsame] at z; cases z), fun _ _ _ => ⟨3, 89, n, [s1, s2], [a, b], hG, rfl, rfl, fun o ho => fz_ref ho ?_⟩⟩
  · have : ∃ s, CRow n s ∧ it = s.map dR := by
      rcases List.mem_cons.mp hit with h | h
      · exact ⟨s1, f1, h⟩
      · exact ⟨s2, f2, List.mem_singleton.mp h⟩
    obtain ⟨s, hs, rfl⟩ := this
    refine ⟨by rw [List.length_map, hs.len]; omega, fun x hx => ?_⟩
    obtain ⟨r, _, rfl⟩ := List.mem_map.mp hx
    exact pl2_dR r
  · rcases List.mem_cons.mp hx with h | h
    · rw [h]; exact ⟨_, rfl⟩
    · rw [List.mem_singleton.mp h]; exact ⟨_, rfl⟩
  rw [blend_two]
  have brow := blend2_row f1 f2 a0 (show 0 < b by omega)
  have bsum := blend2_sum f1 f2 a0 (show 0 < b by omega)
  have hwh := whole_at h1 h5
  have totb : tot (blend2 n a b s1 s2) = (worthU s1 s2 (rangeI n), 1) := by
    have am : ∀ {s : List (Int × Int)}, CRow n s → amtR s (rangeI n) = (9, 1) := fun {s} hs => by
      have e : (rangeI n).map (fun i => s.getD i.toNat (0, 1)) = s := by
        unfold rangeI
        rw [List.map_map]
        refine List.ext_getElem (by rw [List.length_map, List.length_range, hs.len]) fun i q1 q2 => ?_
        rw [List.getElem_map, List.getElem_range]
        show s.getD ((i : Int).toNat) (0, 1) = s[i]
        rw [Int.toNat_natCast, List.getD_eq_getElem?_getD, List.getElem?_eq_getElem q2]
        rfl
      unfold amtR
      rw [e]
      refine (tot_iff (fun r hr => (hs.row r hr).1.pos) 9).mpr ?_
      rw [hs.sum]
      rfl
    have w9 : worthU s1 s2 (rangeI n) = 9 := by
      unfold worthU
      rw [am f1, am f2]
      rfl
    rw [w9]
    refine (tot_iff (fun r hr => (brow r hr).1.pos) 9).mpr ?_
    rw [bsum]
    rfl
  refine s_one (s_ret ?_)
  refine d_call Cc ?_
  walk_at "dd"
  refine d_call Cg ?_
  walk_at "dd"
  refine ⟨n, rfl, h5, ?_⟩
  walk_at "dd"
  refine ⟨3 * (a + b), 178, n, worthU s1 s2, blend2 n a b s1 s2, rfl, h1, h5, mv9 a0 a9 b1 b9, blend2_len, brow, totb, fun g hg => ⟨?_, ?_⟩, q _⟩
  · unfold worthU
    split
    · exact floor_small (amt f2 g hg) (by decide)
    · exact floor_small (amt f1 g hg) (by decide)
  · exact blend_calm f1 f2 a0 (show 0 < b by omega) (gL_at h5 hg).2.2
end
end K35

open PySem PySem.Spec PyProof.Rows L2 DL
namespace K35
section
/-! ### a list of lists that change -/
/-- an item of a list -/
def IOk (y : D) : Prop := Pl2 y ∧ HasPy y ∧ (isR y = true → RM M35 60 (ratOf y))
def ItOk (ds : List D) : Prop := ds.length ≤ 6 ∧ ∀ y ∈ ds, IOk y
structure Nest (μ : Mu) (P p : Addr) (c : D) (L : List (Addr × List D)) : Prop where
  hP : μ P = some (.lst (L.map fun x => D.ref x.1))
  hr : ∀ x ∈ L, μ x.1 = some (.lst x.2)
  inj : ∀ (i j : Nat) (x y : Addr × List D), L[i]? = some x → L[j]? = some y → x.1 = y.1 → i = j
  nP : ∀ x ∈ L, x.1 ≠ P
  hp : μ p = some c
  np : ∀ x ∈ L, x.1 ≠ p
  npP : p ≠ P
  ok : ∀ x ∈ L, ItOk x.2
section
variable {μ : Mu} {P p : Addr} {c : D} {L : List (Addr × List D)}
theorem Nest.pool (h : Nest μ P p c L) (c' : D) : Nest (updM μ p c') P p c' L :=
  ⟨by rw [updM_ne (Ne.symm h.npP)]; exact h.hP, fun x hx => by rw [updM_ne (h.np x hx)]; exact h.hr x hx, h.inj, h.nP, updM_same, h.np, h.npP, h.ok⟩
theorem map_set_ref {L : List (Addr × List D)} {j : Nat} {a : Addr} {ds ds' : List D} (h : L[j]? = some (a, ds)) : (L.set j (a, ds')).map (fun x => D.ref x.1) = L.map fun x => D.ref x.1 := by
  refine List.ext_getElem? fun i => ?_
  rw [List.getElem?_map, List.getElem?_map]
  by_cases e : j = i
  · subst e
    rw [List.getElem?_set_self (List.getElem?_eq_some_iff.mp h).1, h]
    rfl
  · rw [List.getElem?_set_ne e]
theorem Nest.item (h : Nest μ P p c L) {j : Nat} {a : Addr} {ds ds' : List D} (hj : L[j]? = some (a, ds)) (hd : ItOk ds') : Nest (updM μ a (.lst ds')) P p c (L.set j (a, ds')) := by
  have hjl := (List.getElem?_eq_some_iff.mp hj).1
  have hm := List.mem_of_getElem? hj
  have mem : ∀ x ∈ L.set j (a, ds'), x = (a, ds') ∨ (x ∈ L ∧ x.1 ≠ a) := fun x hx => by
    obtain ⟨i, hi⟩ := List.mem_iff_getElem?.mp hx
    by_cases e : j = i
    · subst e
      rw [List.getElem?_set_self hjl] at hi
      exact .inl (Option.some.inj hi).symm
    · rw [List.getElem?_set_ne e] at hi
      exact .inr ⟨List.mem_of_getElem? hi, fun ea => e (h.inj j i _ _ hj hi ea.symm)⟩
  refine ⟨?_, fun x hx => ?_, fun i k x y hi hk e => ?_, fun x hx => ?_, ?_, fun x hx => ?_, h.npP, fun x hx => ?_⟩
  · rw [updM_ne (Ne.symm (h.nP _ hm)), map_set_ref hj]
    exact h.hP
  · rcases mem x hx with rfl | ⟨h1, h2⟩
    · exact updM_same
    · rw [updM_ne h2]
      exact h.hr x h1
  · have get : ∀ (i : Nat) (x : Addr × List D), (L.set j (a, ds'))[i]? = some x → ∃ x', L[i]? = some x' ∧ x'.1 = x.1 := fun i x hi => by
      by_cases e : j = i
      · subst e
        rw [List.getElem?_set_self hjl] at hi
        exact ⟨_, hj, by rw [← Option.some.inj hi]⟩
      · rw [List.getElem?_set_ne e] at hi
        exact ⟨x, hi, rfl⟩
    obtain ⟨x', a1, a2⟩ := get i x hi
    obtain ⟨y', b1, b2⟩ := get k y hk
    exact h.inj i k x' y' a1 b1 (by rw [a2, b2, e])
  · rcases mem x hx with rfl | ⟨h1, h2⟩
    · exact h.nP (a, ds) hm
    · exact h.nP x h1
  · rw [updM_ne (Ne.symm (h.np _ hm))]
    exact h.hp
  · rcases mem x hx with rfl | ⟨h1, h2⟩
    · exact h.np (a, ds) hm
    · exact h.np x h1
  · rcases mem x hx with rfl | ⟨h1, h2⟩
    · exact hd
    · exact h.ok x h1
theorem Nest.fresh (h : Nest μ P p c L) {b : Addr} (hb : μ b = none) : b ≠ P ∧ b ≠ p ∧ ∀ x ∈ L, x.1 ≠ b :=
  ⟨fun e => (by rw [e, h.hP] at hb; cases hb), fun e => (by rw [e, h.hp] at hb; cases hb), fun x hx e => by
    have := h.hr x hx
    rw [e, hb] at this
    cases this⟩
theorem Nest.repl (h : Nest μ P p c L) {j : Nat} {b : Addr} {ds' : List D} (hj : j < L.length) (hb : μ b = none) (hd : ItOk ds') : Nest (updM (updM μ b (.lst ds')) P (.lst ((L.map fun x => D.ref x.1).set j (.ref b)))) P p c (L.set j (b, ds')) := by
  obtain ⟨b1, b2, b3⟩ := h.fresh hb
  have mem : ∀ x ∈ L.set j (b, ds'), x = (b, ds') ∨ x ∈ L := fun x hx => by
    rcases List.mem_or_eq_of_mem_set hx with h | h
    · exact .inr h
    · exact .inl h
  refine ⟨?_, fun x hx => ?_, fun i k x y hi hk e => ?_, fun x hx => ?_, ?_, fun x hx => ?_, h.npP, fun x hx => ?_⟩
  · rw [updM_same, List.map_set]
  · rcases mem x hx with rfl | h1
    · rw [updM_ne b1]
      exact updM_same
    · rw [updM_ne (h.nP x h1), updM_ne (b3 x h1)]
      exact h.hr x h1
  · by_cases e1 : j = i
    · by_cases e2 : j = k
      · exact e1.symm.trans e2
      · subst e1
        rw [List.getElem?_set_self hj] at hi
        rw [List.getElem?_set_ne e2] at hk
        rw [← Option.some.inj hi] at e
        exact absurd e.symm (b3 y (List.mem_of_getElem? hk))
    · by_cases e2 : j = k
      · subst e2
        rw [List.getElem?_set_self hj] at hk
        rw [List.getElem?_set_ne e1] at hi
        rw [← Option.some.inj hk] at e
        exact absurd e (b3 x (List.mem_of_getElem? hi))
      · rw [List.getElem?_set_ne e1] at hi
        rw [List.getElem?_set_ne e2] at hk
        exact h.inj i k x y hi hk e
  · rcases mem x hx with rfl | h1
    · exact b1
    · exact h.nP x h1
  · rw [updM_ne h.npP, updM_ne (Ne.symm b2)]
    exact h.hp
  · rcases mem x hx with rfl | h1
    · exact b2
    · exact h.np x h1
  · rcases mem x hx with rfl | h1
    · exact hd
    · exact h.ok x h1
theorem Nest.new (h : Nest μ P p c L) {b : Addr} (hb : μ b = none) : Nest (updM (updM μ b (.lst [])) P (.lst ((L.map fun x => D.ref x.1) ++ [.ref b]))) P p c (L ++ [(b, [])]) := by
  obtain ⟨b1, b2, b3⟩ := h.fresh hb
  have mem : ∀ x ∈ L ++ [(b, ([] : List D))], x ∈ L ∨ x = (b, []) := fun x hx => by
    rcases List.mem_append.mp hx with h | h
    · exact .inl h
    · exact .inr (List.mem_singleton.mp h)
  have get : ∀ (i : Nat) (x : Addr × List D), (L ++ [(b, ([] : List D))])[i]? = some x → (i < L.length ∧ L[i]? = some x) ∨ (i = L.length ∧ x = (b, [])) := fun i x hi => by
    by_cases e : i < L.length
    · rw [List.getElem?_append_left e] at hi
      exact .inl ⟨e, hi⟩
    · rw [List.getElem?_append_right (by omega)] at hi
      have : i - L.length = 0 := by
        have := (List.getElem?_eq_some_iff.mp hi).1
        rw [List.length_singleton] at this
        omega
      rw [this] at hi
      exact .inr ⟨by omega, (Option.some.inj hi).symm⟩
  refine ⟨?_, fun x hx => ?_, fun i k x y hi hk e => ?_, fun x hx => ?_, ?_, fun x hx => ?_, h.npP, fun x hx => ?_⟩
  · rw [updM_same, List.map_append]
    rfl
  · rcases mem x hx with h1 | rfl
    · rw [updM_ne (h.nP x h1), updM_ne (b3 x h1)]
      exact h.hr x h1
    · rw [updM_ne b1]
      exact updM_same
  · rcases get i x hi with ⟨a1, a2⟩ | ⟨a1, rfl⟩
    · rcases get k y hk with ⟨c1, c2⟩ | ⟨c1, rfl⟩
      · exact h.inj i k x y a2 c2 e
      · exact absurd e (b3 x (List.mem_of_getElem? a2))
    · rcases get k y hk with ⟨c1, c2⟩ | ⟨c1, rfl⟩
      · exact absurd e.symm (b3 y (List.mem_of_getElem? c2))
      · omega
  · rcases mem x hx with h1 | rfl
    · exact h.nP x h1
    · exact b1
  · rw [updM_ne h.npP, updM_ne (Ne.symm b2)]
    exact h.hp
  · rcases mem x hx with h1 | rfl
    · exact h.np x h1
    · exact b2
  · rcases mem x hx with h1 | rfl
    · exact h.ok x h1
    · exact ⟨Nat.zero_le _, fun y hy => by cases hy⟩
end
theorem hasPy_two (a b : Int) : HasPy (.tup [.int a, .int b]) := ⟨.tuple [.int a, .int b], fun _ => py_two a b, rfl, by simp [PyData.depth, PyData.depthAll]⟩
theorem iok_rm {r : Int × Int} (h : RM M35 60 r) : IOk (dR r) := ⟨pl2_dR r, hasPy_two r.1 r.2, fun _ => h⟩
theorem iok_no {y : D} (h1 : Pl2 y) (h2 : HasPy y) (h3 : isR y = false) : IOk y := ⟨h1, h2, fun z => by rw [h3] at z; cases z⟩
theorem odd_at {k : Int} (h0 : 0 ≤ k) (h6 : k < 6) : ∃ x, atI [D.tup [.int 2, .int 4], .tup [.int 1, .int 0], .int 3, .non, .lst [.int 1, .int 1], .tup [.bl true, .int 1]] k = some x ∧ IOk x := by
  have : k = 0 ∨ k = 1 ∨ k = 2 ∨ k = 3 ∨ k = 4 ∨ k = 5 := by omega
  rcases this with rfl | rfl | rfl | rfl | rfl | rfl
  · exact ⟨_, rfl, iok_no (pl2_of2 rfl) (hasPy_two 2 4) (by decide +kernel)⟩
  · exact ⟨_, rfl, iok_no (pl2_of2 rfl) (hasPy_two 1 0) (by decide +kernel)⟩
  · exact ⟨_, rfl, iok_no (pl2_of2 rfl) (hasPy_int 3) rfl⟩
  · exact ⟨_, rfl, iok_no (pl2_of2 rfl) hasPy_non rfl⟩
  · exact ⟨_, rfl, iok_no (pl2_of2 rfl) ⟨.list [.int 1, .int 1], fun _ => .lst (.cons (.int 1) (.cons (.int 1) .nil)), rfl, by simp [PyData.depth, PyData.depthAll]⟩ rfl⟩
  · exact ⟨_, rfl, iok_no (pl2_of2 rfl) ⟨.tuple [.bool true, .int 1], fun _ => .tup (.cons (.bl true) (.cons (.int 1) .nil)), rfl, by simp [PyData.depth, PyData.depthAll]⟩ rfl⟩
theorem one_iok : IOk (.tup [.int 1, .int 1]) := iok_rm (r := (1, 1)) ⟨by decide, ⟨M35, by rw [Int.one_mul]⟩, by decide⟩
/-- the bottoms that are drawn -/
theorem bot_dvd {far y : Int} (hf : far = 0 ∨ far = 10 ^ 24) (y0 : 0 ≤ y) (y9 : y < 9) : far + 1 + y ∣ M35 := by
  have : y = 0 ∨ y = 1 ∨ y = 2 ∨ y = 3 ∨ y = 4 ∨ y = 5 ∨ y = 6 ∨ y = 7 ∨ y = 8 := by omega
  refine Int.dvd_of_emod_eq_zero ?_
  rcases hf with rfl | rfl <;> rcases this with rfl | rfl | rfl | rfl | rfl | rfl | rfl | rfl | rfl <;> decide +kernel
theorem draw_rm {far x y : Int} (hf : far = 0 ∨ far = 10 ^ 24) (x0 : 0 ≤ x) (x41 : x < 41) (y0 : 0 ≤ y) (y9 : y < 9) : RM M35 60 (ratP (far + x - 20) (far + 1 + y)) := by
  refine (ratP_RM ?_ (bot_dvd hf y0 y9) ?_).1
  · rcases hf with rfl | rfl <;> omega
  · rcases hf with rfl | rfl <;> omega
theorem inp_of {μ : Mu} {P p : Addr} {c : D} {L : List (Addr × List D)} (h : Nest μ P p c L) (hl : L.length ≤ 39) {ss : List D} (hsl : ss.length ≤ 41) (hs : ∀ x ∈ ss, SOk x) : Inp (L.map (·.2)) ss := by
  refine ⟨by rw [List.length_map]; omega, fun it hit => ?_, hsl, hs⟩
  obtain ⟨x, hx, rfl⟩ := List.mem_map.mp hit
  have := h.ok x hx
  exact ⟨by have := this.1; omega, this.2⟩
end
end K35

open PySem PySem.Spec PyProof.Rows L2 DL
namespace K35
section
variable {P : Program} {w : World} {K : PySem.W.Frag} {mg : Str → Option Value} {base : Heap} {CB CS CN CM : Addr}
def spLaw : DSp := fun ds _ Φ _ => ∃ ns : List Int, ds = [.scr ns] ∧ ns.length ≤ 63 ∧ ∀ μ', Φ (.bl true) μ'
theorem hasPy_L {d : D} (h : HasPy d) : HasPyL d := by
  obtain ⟨p, h1, h2, h3⟩ := h
  exact ⟨p, h1, h2, by omega⟩
theorem due_cases (its : List (List D)) (ss : List D) : (∃ x : Str, dueD its ss = .str x ∧ (PyData.str x).canLay0 = true) ∨ (shOk its ss = true ∧ its.all okL = true ∧ sameL its = true ∧ dueD its ss = .lst (dueL its ss)) := by
  unfold dueD
  cases h1 : shOk its ss with
  | false => exact .inl ⟨"shares", by rw [if_pos rfl], by decide +kernel⟩
  | true =>
    cases h2 : its.all okL with
    | false => exact .inl ⟨"division", by rw [if_neg (by decide), if_pos rfl], by decide +kernel⟩
    | true =>
      cases h3 : sameL its with
      | false => exact .inl ⟨"mismatch", by rw [if_neg (by decide), if_neg (by decide), if_pos rfl], by decide +kernel⟩
      | true => exact .inr ⟨rfl, rfl, rfl, by rw [if_neg (by decide), if_neg (by decide), if_neg (by decide)]⟩
theorem due_py (its : List (List D)) (ss : List D) : HasPyL (dueD its ss) := by
  rcases due_cases its ss with ⟨x, e, h⟩ | ⟨_, _, _, e⟩
  · rw [e]
    exact hasPy_L (hasPy_str x h)
  · rw [e]
    refine hasPyL fun y hy => ?_
    obtain ⟨r, _, rfl⟩ := List.mem_map.mp hy
    exact hasPy_two r.1 r.2
theorem saved_py {its : List (List D)} {ss : List D} (h : Inp its ss) : ∃ p : PyData, (∀ μ, Py μ (.lst [.lst (its.map .lst), .lst ss]) p) ∧ p.canLay0 = true ∧ p.depth ≤ 64 := by
  obtain ⟨ps, g1, g2, g3, _⟩ := py_allL (ds := its.map D.lst) fun x hx => by
    obtain ⟨it, hit, rfl⟩ := List.mem_map.mp hx
    exact hasPyL fun y hy => ((h.it it hit).2 y hy).2.1
  obtain ⟨qs, k1, k2, k3, _⟩ := py_all (ds := ss) fun x hx => (h.s1 x hx).2.1
  refine ⟨.list [.list ps, .list qs], fun μ => .lst (.cons (.lst (g1 μ)) (.cons (.lst (k1 μ)) .nil)), ?_, ?_⟩
  · simp only [PyData.canLay0, PyData.canLayAll0, g2, k2]
    rfl
  · simp only [PyData.depth, PyData.depthAll]
    omega
def tupOf : D → D
  | .lst ds => .tup ds
  | d => d
theorem set_last {α : Type} (l : List α) (x y : α) : (l ++ [x]).set l.length y = l ++ [y] := by
  rw [List.set_append_right _ _ (Nat.le_refl _), Nat.sub_self]
  rfl
def lw35 (p : Addr) (sc : List Int) (n : Nat) (many far : Int) (v5 v6 v7 v8 v9 v10 v11 v12 v13 : Option D) : List (Option D) := [some (.scr sc), some (.ref p), some (.int n), some (.int many), some (.int far), v5, v6, v7, v8, v9, v10, v11, v12, v13]
theorem law35_c (Ct : Cal P w K mg base 1 "_law_take" spTake) (Cp : Cal P w K mg base 1 "_law_pool" spPool) (Cl : Cal P w K mg base 2 "_law_ratio" spLRatio) (Csh : Cal P w K mg base 2 "_law_shares" spLShares) (Cd : Cal P w K mg base 4 "_law_due" spDue) (Cto : Cal P w K mg base 9 "_law_told" spTold) (Cb : Cal P w K mg base 7 "blended" (spBlend CS CN CM)) (Ccb : Cal P w K mg base 9 "_law_calm_blends" spCalmB) (m_int : mg "int" = none) (m_range : mg "range" = none) (m_list : mg "list" = none) (m_tuple : mg "tuple" = none) (m_isinstance : mg "isinstance" = none)  {f : Addr} {cd : Value} {A : Around} {outer : List Env} {s : Shared} {H G0 : Hp} {E : XK} {E0 : DEnds} {μ9 : Mu} {p : Addr} {sc : List Int} {n many : Nat} {far : Int} (hr : Room 9 (cxD P w K mg base ["_law_script", "_law_pool_here", "_law_players", "_law_many", "_law_far", "_law_lists", "_law_k", "_law_player", "_law_spoil", "_law_row", "_law_odd", "_law_shares_here", "_law_saved", "_law_due_here"] "law" s_law f cd A outer s H E).A) (hp : PassesOwn (model P w) (cxD P w K mg base ["_law_script", "_law_pool_here", "_law_players", "_law_many", "_law_far", "_law_lists", "_law_k", "_law_player", "_law_spoil", "_law_row", "_law_odd", "_law_shares_here", "_law_saved", "_law_due_here"] "law" s_law f cd A outer s H E).A (cxD P w K mg base ["_law_script", "_law_pool_here", "_law_players", "_law_many", "_law_far", "_law_lists", "_law_k", "_law_player", "_law_spoil", "_law_row", "_law_odd", "_law_shares_here", "_law_saved", "_law_due_here"] "law" s_law f cd A outer s H E).env (cxD P w K mg base ["_law_script", "_law_pool_here", "_law_players", "_law_many", "_law_far", "_law_lists", "_law_k", "_law_player", "_law_spoil", "_law_row", "_law_odd", "_law_shares_here", "_law_saved", "_law_due_here"] "law" s_law f cd A outer s H E).xe) (h1 : 1 ≤ n) (h5 : n ≤ 5) (hmany : many ≤ 39) (fin : ∀ μ', E0.rt (.bl true) μ') {Pa : Addr} {L : List (Addr × List D)} {sp : Int} {c9 : D} (sp0 : 0 ≤ sp) (hN9 : Nest μ9 Pa p c9 L) (hLm : L.length = many) (hP9 : Pool 530 c9) {v6 v7 v9 v10 : Option D} : dSs (cxD P w K mg base ["_law_script", "_law_pool_here", "_law_players", "_law_many", "_law_far", "_law_lists", "_law_k", "_law_player", "_law_spoil", "_law_row", "_law_odd", "_law_shares_here", "_law_saved", "_law_due_here"] "law" s_law f cd A outer s H E) G0 ((defBody s_law).drop 11) (lw35 p sc n many far (some (.ref Pa)) v6 v7 (some (.int sp)) v9 v10 none none none) μ9 E0 := by
  have hnd := sc_law.nd
  have nm0 : (cxD P w K mg base ["_law_script", "_law_pool_here", "_law_players", "_law_many", "_law_far", "_law_lists", "_law_k", "_law_player", "_law_spoil", "_law_row", "_law_odd", "_law_shares_here", "_law_saved", "_law_due_here"] "law" s_law f cd A outer s H E).N[0]? = some ("_law_script" : Str) ∧ (("_law_script" : Str) == ("__debug__" : Str)) = false ∧ (("_law_script" : Str) == ("__classdict__" : Str)) = false := ⟨rfl, by decide, by decide⟩
  have nm1 : (cxD P w K mg base ["_law_script", "_law_pool_here", "_law_players", "_law_many", "_law_far", "_law_lists", "_law_k", "_law_player", "_law_spoil", "_law_row", "_law_odd", "_law_shares_here", "_law_saved", "_law_due_here"] "law" s_law f cd A outer s H E).N[1]? = some ("_law_pool_here" : Str) ∧ (("_law_pool_here" : Str) == ("__debug__" : Str)) = false ∧ (("_law_pool_here" : Str) == ("__classdict__" : Str)) = false := ⟨rfl, by decide, by decide⟩
  have nm2 : (cxD P w K mg base ["_law_script", "_law_pool_here", "_law_players", "_law_many", "_law_far", "_law_lists", "_law_k", "_law_player", "_law_spoil", "_law_row", "_law_odd", "_law_shares_here", "_law_saved", "_law_due_here"] "law" s_law f cd A outer s H E).N[2]? = some ("_law_players" : Str) ∧ (("_law_players" : Str) == ("__debug__" : Str)) = false ∧ (("_law_players" : Str) == ("__classdict__" : Str)) = false := ⟨rfl, by decide, by decide⟩
  have nm3 : (cxD P w K mg base ["_law_script", "_law_pool_here", "_law_players", "_law_many", "_law_far", "_law_lists", "_law_k", "_law_player", "_law_spoil", "_law_row", "_law_odd", "_law_shares_here", "_law_saved", "_law_due_here"] "law" s_law f cd A outer s H E).N[3]? = some ("_law_many" : Str) ∧ (("_law_many" : Str) == ("__debug__" : Str)) = false ∧ (("_law_many" : Str) == ("__classdict__" : Str)) = false := ⟨rfl, by decide, by decide⟩
  have nm4 : (cxD P w K mg base ["_law_script", "_law_pool_here", "_law_players", "_law_many", "_law_far", "_law_lists", "_law_k", "_law_player", "_law_spoil", "_law_row", "_law_odd", "_law_shares_here", "_law_saved", "_law_due_here"] "law" s_law f cd A outer s H E).N[4]? = some ("_law_far" : Str) ∧ (("_law_far" : Str) == ("__debug__" : Str)) = false ∧ (("_law_far" : Str) == ("__classdict__" : Str)) = false := ⟨rfl, by decide, by decide⟩
  have nm5 : (cxD P w K mg base ["_law_script", "_law_pool_here", "_law_players", "_law_many", "_law_far", "_law_lists", "_law_k", "_law_player", "_law_spoil", "_law_row", "_law_odd", "_law_shares_here", "_law_saved", "_law_due_here"] "law" s_law f cd A outer s H E).N[5]? = some ("_law_lists" : Str) ∧ (("_law_lists" : Str) == ("__debug__" : Str)) = false ∧ (("_law_lists" : Str) == ("__classdict__" : Str)) = false := ⟨rfl, by decide, by decide⟩
  have nm6 : (cxD P w K mg base ["_law_script", "_law_pool_here", "_law_players", "_law_many", "_law_far", "_law_lists", "_law_k", "_law_player", "_law_spoil", "_law_row", "_law_odd", "_law_shares_here", "_law_saved", "_law_due_here"] "law" s_law f cd A outer s H E).N[6]? = some ("_law_k" : Str) ∧ (("_law_k" : Str) == ("__debug__" : Str)) = false ∧ (("_law_k" : Str) == ("__classdict__" : Str)) = false := ⟨rfl, by decide, by decide⟩
  have nm7 : (cxD P w K mg base ["_law_script", "_law_pool_here", "_law_players", "_law_many", "_law_far", "_law_lists", "_law_k", "_law_player", "_law_spoil", "_law_row", "_law_odd", "_law_shares_here", "_law_saved", "_law_due_here"] "law" s_law f cd A outer s H E).N[7]? = some ("_law_player" : Str) ∧ (("_law_player" : Str) == ("__debug__" : Str)) = false ∧ (("_law_player" : Str) == ("__classdict__" : Str)) = false := ⟨rfl, by decide, by decide⟩
  have nm8 : (cxD P w K mg base ["_law_script", "_law_pool_here", "_law_players", "_law_many", "_law_far", "_law_lists", "_law_k", "_law_player", "_law_spoil", "_law_row", "_law_odd", "_law_shares_here", "_law_saved", "_law_due_here"] "law" s_law f cd A outer s H E).N[8]? = some ("_law_spoil" : Str) ∧ (("_law_spoil" : Str) == ("__debug__" : Str)) = false ∧ (("_law_spoil" : Str) == ("__classdict__" : Str)) = false := ⟨rfl, by decide, by decide⟩
  have nm9 : (cxD P w K mg base ["_law_script", "_law_pool_here", "_law_players", "_law_many", "_law_far", "_law_lists", "_law_k", "_law_player", "_law_spoil", "_law_row", "_law_odd", "_law_shares_here", "_law_saved", "_law_due_here"] "law" s_law f cd A outer s H E).N[9]? = some ("_law_row" : Str) ∧ (("_law_row" : Str) == ("__debug__" : Str)) = false ∧ (("_law_row" : Str) == ("__classdict__" : Str)) = false := ⟨rfl, by decide, by decide⟩
  have nm10 : (cxD P w K mg base ["_law_script", "_law_pool_here", "_law_players", "_law_many", "_law_far", "_law_lists", "_law_k", "_law_player", "_law_spoil", "_law_row", "_law_odd", "_law_shares_here", "_law_saved", "_law_due_here"] "law" s_law f cd A outer s H E).N[10]? = some ("_law_odd" : Str) ∧ (("_law_odd" : Str) == ("__debug__" : Str)) = false ∧ (("_law_odd" : Str) == ("__classdict__" : Str)) = false := ⟨rfl, by decide, by decide⟩
  have nm11 : (cxD P w K mg base ["_law_script", "_law_pool_here", "_law_players", "_law_many", "_law_far", "_law_lists", "_law_k", "_law_player", "_law_spoil", "_law_row", "_law_odd", "_law_shares_here", "_law_saved", "_law_due_here"] "law" s_law f cd A outer s H E).N[11]? = some ("_law_shares_here" : Str) ∧ (("_law_shares_here" : Str) == ("__debug__" : Str)) = false ∧ (("_law_shares_here" : Str) == ("__classdict__" : Str)) = false := ⟨rfl, by decide, by decide⟩
  have nm12 : (cxD P w K mg base ["_law_script", "_law_pool_here", "_law_players", "_law_many", "_law_far", "_law_lists", "_law_k", "_law_player", "_law_spoil", "_law_row", "_law_odd", "_law_shares_here", "_law_saved", "_law_due_here"] "law" s_law f cd A outer s H E).N[12]? = some ("_law_saved" : Str) ∧ (("_law_saved" : Str) == ("__debug__" : Str)) = false ∧ (("_law_saved" : Str) == ("__classdict__" : Str)) = false := ⟨rfl, by decide, by decide⟩
  have nm13 : (cxD P w K mg base ["_law_script", "_law_pool_here", "_law_players", "_law_many", "_law_far", "_law_lists", "_law_k", "_law_player", "_law_spoil", "_law_row", "_law_odd", "_law_shares_here", "_law_saved", "_law_due_here"] "law" s_law f cd A outer s H E).N[13]? = some ("_law_due_here" : Str) ∧ (("_law_due_here" : Str) == ("__debug__" : Str)) = false ∧ (("_law_due_here" : Str) == ("__classdict__" : Str)) = false := ⟨rfl, by decide, by decide⟩
  have bn_int : (cxD P w K mg base ["_law_script", "_law_pool_here", "_law_players", "_law_many", "_law_far", "_law_lists", "_law_k", "_law_player", "_law_spoil", "_law_row", "_law_odd", "_law_shares_here", "_law_saved", "_law_due_here"] "law" s_law f cd A outer s H E).mg "int" = none := m_int
  have bn_range : (cxD P w K mg base ["_law_script", "_law_pool_here", "_law_players", "_law_many", "_law_far", "_law_lists", "_law_k", "_law_player", "_law_spoil", "_law_row", "_law_odd", "_law_shares_here", "_law_saved", "_law_due_here"] "law" s_law f cd A outer s H E).mg "range" = none := m_range
  have bn_list : (cxD P w K mg base ["_law_script", "_law_pool_here", "_law_players", "_law_many", "_law_far", "_law_lists", "_law_k", "_law_player", "_law_spoil", "_law_row", "_law_odd", "_law_shares_here", "_law_saved", "_law_due_here"] "law" s_law f cd A outer s H E).mg "list" = none := m_list
  have bn_tuple : (cxD P w K mg base ["_law_script", "_law_pool_here", "_law_players", "_law_many", "_law_far", "_law_lists", "_law_k", "_law_player", "_law_spoil", "_law_row", "_law_odd", "_law_shares_here", "_law_saved", "_law_due_here"] "law" s_law f cd A outer s H E).mg "tuple" = none := m_tuple
  have bn_isinstance : (cxD P w K mg base ["_law_script", "_law_pool_here", "_law_players", "_law_many", "_law_far", "_law_lists", "_law_k", "_law_player", "_law_spoil", "_law_row", "_law_odd", "_law_shares_here", "_law_saved", "_law_due_here"] "law" s_law f cd A outer s H E).mg "isinstance" = none := m_isinstance
  refine s_frzRows (i := 5) (L := L) rfl hN9.hP hN9.hr ?_
  have hpg : gone μ9 (Pa :: L.map (·.1)) p = some c9 := by
    rw [gone_out]
    · exact hN9.hp
    · intro z
      rcases List.mem_cons.mp z with z | z
      · exact hN9.npP z
      · obtain ⟨x, hx, e⟩ := List.mem_map.mp z
        exact hN9.np x hx e
  generalize gone μ9 (Pa :: L.map (·.1)) = μ10 at hpg ⊢
  have eL : L.map (fun x => D.lst x.2) = (L.map (·.2)).map .lst := by rw [List.map_map]; rfl
  rw [eL]
  refine s_cons (s_set (i := 11) (d_fz ?_))
  refine d_call Csh ?_
  walk_at "dd"
  refine ⟨p, c9, _, many, rfl, hmany, hpg, hP9, by decide, fun ss qs c11 μ11 hsl hsok hP11 hp11 hqs hqp => fz_at hqs ?_⟩
  have hI : Inp (L.map (·.2)) ss := inp_of hN9 (by omega) hsl hsok
  have hpz : delM μ11 qs p = some c11 := by rw [delM_ne (Ne.symm hqp)]; exact hp11
  generalize delM μ11 qs = μ12 at hpz ⊢
  generalize L.map (·.2) = its at hI ⊢
  have hil := hI.len
  refine s_cons (s_set (i := 12) (d_lst ?_))
  refine da_cons ?_ rfl
  refine d_lcLp (own := [("_law_row", 9)]) (vs := [9]) 9 (fun d => d) ?_
  walk_at "dd"
  refine ⟨its.map .lst, rfl, by rw [List.length_map, sizeLine_eq]; omega, fun x hx p9 acc hn G1 s H0 C' cl fp => ?_, ?_⟩
  · obtain ⟨it, _, rfl⟩ := List.mem_map.mp hx
    walk_at "dd"
    exact c_listL ⟨rfl, rfl⟩
  rw [show (its.map D.lst).map (fun d => d) = its.map .lst from List.map_id _]
  walk_at "dd"
  refine c_listL ?_
  walk_at "dd"
  refine ⟨(show 2 ≤ sizeLine by decide), ?_⟩
  refine s_cons (s_set (i := 13) ?_)
  refine d_call Cd ?_
  walk_at "dd"
  refine ⟨its, ss, rfl, hI, ?_⟩
  obtain ⟨pd, pd1, pd2, pd3⟩ := due_py its ss
  obtain ⟨ps, ps1, ps2, ps3⟩ := saved_py hI
  refine s_cons (s_if (t_cmp ?_))
  refine d_call Cto ?_
  walk_at "dd"
  refine ⟨its, ss, _, _, rfl, .inl rfl, .inl rfl, hI, ?_⟩
  walk_at "dd"
  refine o_sameN (hu64 hr) (pd1 _) (pd1 _) pd2 (by omega) (bl_ex (no rfl (s_nil ?_)))
  refine s_cons (s_if (t_cmp ?_))
  refine d_call Cto ?_
  walk_at "dd"
  refine d_lcLp (own := [("_law_row", 9)]) (vs := [9]) 9 tupOf ?_
  walk_at "dd"
  refine ⟨its.map .lst, rfl, by rw [List.length_map, sizeLine_eq]; omega, fun x hx p9 acc hn G1 s H0 C' cl fp => ?_, ?_⟩
  · obtain ⟨it, _, rfl⟩ := List.mem_map.mp hx
    walk_at "dd"
    exact c_tupL ⟨rfl, rfl⟩
  rw [show (its.map D.lst).map tupOf = its.map .tup by rw [List.map_map]; rfl]
  walk_at "dd"
  refine c_tupL ?_
  walk_at "dd"
  refine c_tupL ?_
  walk_at "dd"
  refine ⟨its, ss, _, _, rfl, .inr rfl, .inr rfl, hI, ?_⟩
  walk_at "dd"
  refine o_sameN (hu64 hr) (pd1 _) (pd1 _) pd2 (by omega) (bl_ex (no rfl (s_nil ?_)))
  refine s_cons (s_if (t_cmp (d_lst ?_)))
  refine da_cons ?_ rfl
  refine d_lcLp (own := [("_law_row", 9)]) (vs := [9]) 9 (fun d => d) ?_
  walk_at "dd"
  refine ⟨its.map .lst, rfl, by rw [List.length_map, sizeLine_eq]; omega, fun x hx p9 acc hn G1 s H0 C' cl fp => ?_, ?_⟩
  · obtain ⟨it, _, rfl⟩ := List.mem_map.mp hx
    walk_at "dd"
    exact c_listL ⟨rfl, rfl⟩
  rw [show (its.map D.lst).map (fun d => d) = its.map .lst from List.map_id _]
  walk_at "dd"
  refine c_listL ?_
  walk_at "dd"
  refine ⟨(show 2 ≤ sizeLine by decide), ?_⟩
  walk_at "dd"
  refine o_sameN (hu64 hr) (ps1 _) (ps1 _) ps2 ps3 (bl_ex (no rfl (s_nil ?_)))
  refine s_cut (fun δ' μ' => δ' = lw35 p sc n many far (some (.lst (its.map .lst))) v6 v7 (some (.int sp)) v9 v10 (some (.lst ss)) (some (.lst [.lst (its.map .lst), .lst ss])) (some (dueD its ss)) ∧ μ' p = some c11) ?_ ?_
  · refine s_if (t_val ?_)
    walk_at "dd"
    rcases due_cases its ss with ⟨x, e, _⟩ | ⟨q1, q2, q3, e⟩
    · show dCall _ (.builtin "isinstance") [dueD its ss, .ty "list"] _ _
      rw [e]
      exact c_isi (k := false) (tr_bl (no rfl (s_nil ⟨rfl, hpz⟩)))
    · show dCall _ (.builtin "isinstance") [dueD its ss, .ty "list"] _ _
      rw [e]
      refine c_isi (k := true) (tr_bl (yes rfl (s_one (s_expr (d_append ?_)))))
      refine d_call Cb ?_
      walk_at "dd"
      refine hI.blend (.inl rfl) (.inl rfl) (fun z => by rw [q1] at z; cases z) (fun _ z => by rw [q2] at z; cases z) (fun _ _ z => by rw [q3] at z; cases z) fun _ _ _ o ho => ?_
      refine ⟨o, rfl, ⟨_, updM_same⟩, ?_⟩
      walk_at "dd"
      refine ⟨_, updM_same, ?_, rfl, ?_⟩
      · unfold dueL blendR
        rw [List.length_map, List.length_map, List.length_range, sizeLine_eq]
        obtain ⟨g, _, _⟩ := hI.good q1 q2 q3
        have := g.five
        omega
      · have nop : p ≠ o := fun e => by rw [e, ho] at hpz; cases hpz
        rw [updM_ne nop, updM_ne nop]
        exact hpz
  rintro δ' μ13 ⟨rfl, hp13⟩
  refine s_one (s_ret (d_and (d_cmp ?_)))
  refine d_call Cto ?_
  walk_at "dd"
  refine ⟨its, ss, _, _, rfl, .inl rfl, .inl rfl, hI, ?_⟩
  walk_at "dd"
  refine o_same (hu64 hr) (pd1 _) (pd1 _) pd2 (by omega) (bl_ex (yes rfl (d_one ?_)))
  refine d_call Ccb ?_
  walk_at "dd"
  exact ⟨p, c11, _, rfl, hp13, hP11, by decide, fin⟩
end
end K35

open PySem PySem.Spec PyProof.Rows L2 DL
namespace K35
section
variable {P : Program} {w : World} {K : PySem.W.Frag} {mg : Str → Option Value} {base : Heap} {CB CS CN CM : Addr}
theorem law35_b (Ct : Cal P w K mg base 1 "_law_take" spTake) (Cp : Cal P w K mg base 1 "_law_pool" spPool) (Cl : Cal P w K mg base 2 "_law_ratio" spLRatio) (Csh : Cal P w K mg base 2 "_law_shares" spLShares) (Cd : Cal P w K mg base 4 "_law_due" spDue) (Cto : Cal P w K mg base 9 "_law_told" spTold) (Cb : Cal P w K mg base 7 "blended" (spBlend CS CN CM)) (Ccb : Cal P w K mg base 9 "_law_calm_blends" spCalmB) (m_int : mg "int" = none) (m_range : mg "range" = none) (m_list : mg "list" = none) (m_tuple : mg "tuple" = none) (m_isinstance : mg "isinstance" = none)  {f : Addr} {cd : Value} {A : Around} {outer : List Env} {s : Shared} {H G0 : Hp} {E : XK} {E0 : DEnds} {μ9 : Mu} {p : Addr} {sc : List Int} {n many : Nat} {far : Int} (hr : Room 9 (cxD P w K mg base ["_law_script", "_law_pool_here", "_law_players", "_law_many", "_law_far", "_law_lists", "_law_k", "_law_player", "_law_spoil", "_law_row", "_law_odd", "_law_shares_here", "_law_saved", "_law_due_here"] "law" s_law f cd A outer s H E).A) (hp : PassesOwn (model P w) (cxD P w K mg base ["_law_script", "_law_pool_here", "_law_players", "_law_many", "_law_far", "_law_lists", "_law_k", "_law_player", "_law_spoil", "_law_row", "_law_odd", "_law_shares_here", "_law_saved", "_law_due_here"] "law" s_law f cd A outer s H E).A (cxD P w K mg base ["_law_script", "_law_pool_here", "_law_players", "_law_many", "_law_far", "_law_lists", "_law_k", "_law_player", "_law_spoil", "_law_row", "_law_odd", "_law_shares_here", "_law_saved", "_law_due_here"] "law" s_law f cd A outer s H E).env (cxD P w K mg base ["_law_script", "_law_pool_here", "_law_players", "_law_many", "_law_far", "_law_lists", "_law_k", "_law_player", "_law_spoil", "_law_row", "_law_odd", "_law_shares_here", "_law_saved", "_law_due_here"] "law" s_law f cd A outer s H E).xe) (h1 : 1 ≤ n) (h5 : n ≤ 5) (hmany : many ≤ 39) (fin : ∀ μ', E0.rt (.bl true) μ') {Pa : Addr} {L : List (Addr × List D)} {sp : Int} {c9 : D} (sp0 : 0 ≤ sp) (hN9 : Nest μ9 Pa p c9 L) (hLm : L.length = many) (hP9 : Pool 520 c9) {v6 v7 v9 v10 : Option D} : dSs (cxD P w K mg base ["_law_script", "_law_pool_here", "_law_players", "_law_many", "_law_far", "_law_lists", "_law_k", "_law_player", "_law_spoil", "_law_row", "_law_odd", "_law_shares_here", "_law_saved", "_law_due_here"] "law" s_law f cd A outer s H E) G0 ((defBody s_law).drop 10) (lw35 p sc n many far (some (.ref Pa)) v6 v7 (some (.int sp)) v9 v10 none none none) μ9 E0 := by
  have hnd := sc_law.nd
  have nm0 : (cxD P w K mg base ["_law_script", "_law_pool_here", "_law_players", "_law_many", "_law_far", "_law_lists", "_law_k", "_law_player", "_law_spoil", "_law_row", "_law_odd", "_law_shares_here", "_law_saved", "_law_due_here"] "law" s_law f cd A outer s H E).N[0]? = some ("_law_script" : Str) ∧ (("_law_script" : Str) == ("__debug__" : Str)) = false ∧ (("_law_script" : Str) == ("__classdict__" : Str)) = false := ⟨rfl, by decide, by decide⟩
  have nm1 : (cxD P w K mg base ["_law_script", "_law_pool_here", "_law_players", "_law_many", "_law_far", "_law_lists", "_law_k", "_law_player", "_law_spoil", "_law_row", "_law_odd", "_law_shares_here", "_law_saved", "_law_due_here"] "law" s_law f cd A outer s H E).N[1]? = some ("_law_pool_here" : Str) ∧ (("_law_pool_here" : Str) == ("__debug__" : Str)) = false ∧ (("_law_pool_here" : Str) == ("__classdict__" : Str)) = false := ⟨rfl, by decide, by decide⟩
  have nm2 : (cxD P w K mg base ["_law_script", "_law_pool_here", "_law_players", "_law_many", "_law_far", "_law_lists", "_law_k", "_law_player", "_law_spoil", "_law_row", "_law_odd", "_law_shares_here", "_law_saved", "_law_due_here"] "law" s_law f cd A outer s H E).N[2]? = some ("_law_players" : Str) ∧ (("_law_players" : Str) == ("__debug__" : Str)) = false ∧ (("_law_players" : Str) == ("__classdict__" : Str)) = false := ⟨rfl, by decide, by decide⟩
  have nm3 : (cxD P w K mg base ["_law_script", "_law_pool_here", "_law_players", "_law_many", "_law_far", "_law_lists", "_law_k", "_law_player", "_law_spoil", "_law_row", "_law_odd", "_law_shares_here", "_law_saved", "_law_due_here"] "law" s_law f cd A outer s H E).N[3]? = some ("_law_many" : Str) ∧ (("_law_many" : Str) == ("__debug__" : Str)) = false ∧ (("_law_many" : Str) == ("__classdict__" : Str)) = false := ⟨rfl, by decide, by decide⟩
  have nm4 : (cxD P w K mg base ["_law_script", "_law_pool_here", "_law_players", "_law_many", "_law_far", "_law_lists", "_law_k", "_law_player", "_law_spoil", "_law_row", "_law_odd", "_law_shares_here", "_law_saved", "_law_due_here"] "law" s_law f cd A outer s H E).N[4]? = some ("_law_far" : Str) ∧ (("_law_far" : Str) == ("__debug__" : Str)) = false ∧ (("_law_far" : Str) == ("__classdict__" : Str)) = false := ⟨rfl, by decide, by decide⟩
  have nm5 : (cxD P w K mg base ["_law_script", "_law_pool_here", "_law_players", "_law_many", "_law_far", "_law_lists", "_law_k", "_law_player", "_law_spoil", "_law_row", "_law_odd", "_law_shares_here", "_law_saved", "_law_due_here"] "law" s_law f cd A outer s H E).N[5]? = some ("_law_lists" : Str) ∧ (("_law_lists" : Str) == ("__debug__" : Str)) = false ∧ (("_law_lists" : Str) == ("__classdict__" : Str)) = false := ⟨rfl, by decide, by decide⟩
  have nm6 : (cxD P w K mg base ["_law_script", "_law_pool_here", "_law_players", "_law_many", "_law_far", "_law_lists", "_law_k", "_law_player", "_law_spoil", "_law_row", "_law_odd", "_law_shares_here", "_law_saved", "_law_due_here"] "law" s_law f cd A outer s H E).N[6]? = some ("_law_k" : Str) ∧ (("_law_k" : Str) == ("__debug__" : Str)) = false ∧ (("_law_k" : Str) == ("__classdict__" : Str)) = false := ⟨rfl, by decide, by decide⟩
  have nm7 : (cxD P w K mg base ["_law_script", "_law_pool_here", "_law_players", "_law_many", "_law_far", "_law_lists", "_law_k", "_law_player", "_law_spoil", "_law_row", "_law_odd", "_law_shares_here", "_law_saved", "_law_due_here"] "law" s_law f cd A outer s H E).N[7]? = some ("_law_player" : Str) ∧ (("_law_player" : Str) == ("__debug__" : Str)) = false ∧ (("_law_player" : Str) == ("__classdict__" : Str)) = false := ⟨rfl, by decide, by decide⟩
  have nm8 : (cxD P w K mg base ["_law_script", "_law_pool_here", "_law_players", "_law_many", "_law_far", "_law_lists", "_law_k", "_law_player", "_law_spoil", "_law_row", "_law_odd", "_law_shares_here", "_law_saved", "_law_due_here"] "law" s_law f cd A outer s H E).N[8]? = some ("_law_spoil" : Str) ∧ (("_law_spoil" : Str) == ("__debug__" : Str)) = false ∧ (("_law_spoil" : Str) == ("__classdict__" : Str)) = false := ⟨rfl, by decide, by decide⟩
  have nm9 : (cxD P w K mg base ["_law_script", "_law_pool_here", "_law_players", "_law_many", "_law_far", "_law_lists", "_law_k", "_law_player", "_law_spoil", "_law_row", "_law_odd", "_law_shares_here", "_law_saved", "_law_due_here"] "law" s_law f cd A outer s H E).N[9]? = some ("_law_row" : Str) ∧ (("_law_row" : Str) == ("__debug__" : Str)) = false ∧ (("_law_row" : Str) == ("__classdict__" : Str)) = false := ⟨rfl, by decide, by decide⟩
  have nm10 : (cxD P w K mg base ["_law_script", "_law_pool_here", "_law_players", "_law_many", "_law_far", "_law_lists", "_law_k", "_law_player", "_law_spoil", "_law_row", "_law_odd", "_law_shares_here", "_law_saved", "_law_due_here"] "law" s_law f cd A outer s H E).N[10]? = some ("_law_odd" : Str) ∧ (("_law_odd" : Str) == ("__debug__" : Str)) = false ∧ (("_law_odd" : Str) == ("__classdict__" : Str)) = false := ⟨rfl, by decide, by decide⟩
  have nm11 : (cxD P w K mg base ["_law_script", "_law_pool_here", "_law_players", "_law_many", "_law_far", "_law_lists", "_law_k", "_law_player", "_law_spoil", "_law_row", "_law_odd", "_law_shares_here", "_law_saved", "_law_due_here"] "law" s_law f cd A outer s H E).N[11]? = some ("_law_shares_here" : Str) ∧ (("_law_shares_here" : Str) == ("__debug__" : Str)) = false ∧ (("_law_shares_here" : Str) == ("__classdict__" : Str)) = false := ⟨rfl, by decide, by decide⟩
  have nm12 : (cxD P w K mg base ["_law_script", "_law_pool_here", "_law_players", "_law_many", "_law_far", "_law_lists", "_law_k", "_law_player", "_law_spoil", "_law_row", "_law_odd", "_law_shares_here", "_law_saved", "_law_due_here"] "law" s_law f cd A outer s H E).N[12]? = some ("_law_saved" : Str) ∧ (("_law_saved" : Str) == ("__debug__" : Str)) = false ∧ (("_law_saved" : Str) == ("__classdict__" : Str)) = false := ⟨rfl, by decide, by decide⟩
  have nm13 : (cxD P w K mg base ["_law_script", "_law_pool_here", "_law_players", "_law_many", "_law_far", "_law_lists", "_law_k", "_law_player", "_law_spoil", "_law_row", "_law_odd", "_law_shares_here", "_law_saved", "_law_due_here"] "law" s_law f cd A outer s H E).N[13]? = some ("_law_due_here" : Str) ∧ (("_law_due_here" : Str) == ("__debug__" : Str)) = false ∧ (("_law_due_here" : Str) == ("__classdict__" : Str)) = false := ⟨rfl, by decide, by decide⟩
  have bn_int : (cxD P w K mg base ["_law_script", "_law_pool_here", "_law_players", "_law_many", "_law_far", "_law_lists", "_law_k", "_law_player", "_law_spoil", "_law_row", "_law_odd", "_law_shares_here", "_law_saved", "_law_due_here"] "law" s_law f cd A outer s H E).mg "int" = none := m_int
  have bn_range : (cxD P w K mg base ["_law_script", "_law_pool_here", "_law_players", "_law_many", "_law_far", "_law_lists", "_law_k", "_law_player", "_law_spoil", "_law_row", "_law_odd", "_law_shares_here", "_law_saved", "_law_due_here"] "law" s_law f cd A outer s H E).mg "range" = none := m_range
  have bn_list : (cxD P w K mg base ["_law_script", "_law_pool_here", "_law_players", "_law_many", "_law_far", "_law_lists", "_law_k", "_law_player", "_law_spoil", "_law_row", "_law_odd", "_law_shares_here", "_law_saved", "_law_due_here"] "law" s_law f cd A outer s H E).mg "list" = none := m_list
  have bn_tuple : (cxD P w K mg base ["_law_script", "_law_pool_here", "_law_players", "_law_many", "_law_far", "_law_lists", "_law_k", "_law_player", "_law_spoil", "_law_row", "_law_odd", "_law_shares_here", "_law_saved", "_law_due_here"] "law" s_law f cd A outer s H E).mg "tuple" = none := m_tuple
  have bn_isinstance : (cxD P w K mg base ["_law_script", "_law_pool_here", "_law_players", "_law_many", "_law_far", "_law_lists", "_law_k", "_law_player", "_law_spoil", "_law_row", "_law_odd", "_law_shares_here", "_law_saved", "_law_due_here"] "law" s_law f cd A outer s H E).mg "isinstance" = none := m_isinstance
  refine s_cut (fun δ' μ' => (∃ v6 v7 v9 v10, δ' = lw35 p sc n many far (some (.ref Pa)) v6 v7 (some (.int sp)) v9 v10 none none none) ∧ ∃ (L : List (Addr × List D)) (c' : D), Nest μ' Pa p c' L ∧ L.length = many ∧ Pool 530 c') ?_ ?_
  · refine s_if (t_bool (tw_and (t_cmp ?_)))
    walk_at "dd"
    refine ⟨fun e => tw_and1 (t_cmp ?_), fun e => no rfl (s_nil ⟨⟨_, _, _, _, rfl⟩, L, c9, hN9, hLm, pool_up hP9 (by decide)⟩)⟩
    walk_at "dd"
    refine ⟨fun e => s_one (s_item (d_lstM ?_)), fun e => s_nil ⟨⟨_, _, _, _, rfl⟩, L, c9, hN9, hLm, pool_up hP9 (by decide)⟩⟩
    have hmp : 0 < many := by have := of_decide_eq_true e; omega
    walk_at "dd"
    refine ⟨(show 0 ≤ sizeLine by decide), fun b hb => ?_⟩
    obtain ⟨b1, b2, b3⟩ := hN9.fresh hb
    walk_at "dd"
    refine d_call Ct ?_
    walk_at "dd"
    refine ⟨p, many, c9, _, rfl, by omega, by omega, by rw [updM_ne (Ne.symm b2)]; exact hN9.hp, hP9, by decide, fun j c10 j0 jm hP10 => ?_⟩
    have hN10 := hN9.pool c10
    rw [updM_comm b2]
    have hb10 : updM μ9 p c10 b = none := by rw [updM_ne b2]; exact hb
    generalize updM μ9 p c10 = μ10 at hN10 hb10 ⊢
    have hit : ItOk [] := ⟨Nat.zero_le _, fun y hy => by cases hy⟩
    have hR := hN10.repl (j := j.toNat) (by omega) hb10 hit
    refine ⟨Pa, j, _, j.toNat, rfl, rfl, by rw [updM_ne (Ne.symm b1)]; exact hN10.hP, by unfold ixN; rw [if_pos j0, if_pos (by rw [List.length_map]; omega)], ?_⟩
    exact ⟨⟨_, _, _, _, rfl⟩, _, c10, hR, by rw [List.length_set]; exact hLm, pool_up hP10 (by decide)⟩
  clear hN9 hLm hP9
  rintro δ' μ9 ⟨⟨v6, v7, v9, v10, rfl⟩, L, c9, hN9, hLm, hP9⟩
  exact law35_c Ct Cp Cl Csh Cd Cto Cb Ccb m_int m_range m_list m_tuple m_isinstance hr hp h1 h5 hmany fin sp0 hN9 hLm hP9
end
end K35

open PySem PySem.Spec PyProof.Rows L2 DL
namespace K35
section
variable {P : Program} {w : World} {K : PySem.W.Frag} {mg : Str → Option Value} {base : Heap} {CB CS CN CM : Addr}
theorem law35_a (Ct : Cal P w K mg base 1 "_law_take" spTake) (Cp : Cal P w K mg base 1 "_law_pool" spPool) (Cl : Cal P w K mg base 2 "_law_ratio" spLRatio) (Csh : Cal P w K mg base 2 "_law_shares" spLShares) (Cd : Cal P w K mg base 4 "_law_due" spDue) (Cto : Cal P w K mg base 9 "_law_told" spTold) (Cb : Cal P w K mg base 7 "blended" (spBlend CS CN CM)) (Ccb : Cal P w K mg base 9 "_law_calm_blends" spCalmB) (m_int : mg "int" = none) (m_range : mg "range" = none) (m_list : mg "list" = none) (m_tuple : mg "tuple" = none) (m_isinstance : mg "isinstance" = none)  {f : Addr} {cd : Value} {A : Around} {outer : List Env} {s : Shared} {H G0 : Hp} {E : XK} {E0 : DEnds} {μ9 : Mu} {p : Addr} {sc : List Int} {n many : Nat} {far : Int} (hr : Room 9 (cxD P w K mg base ["_law_script", "_law_pool_here", "_law_players", "_law_many", "_law_far", "_law_lists", "_law_k", "_law_player", "_law_spoil", "_law_row", "_law_odd", "_law_shares_here", "_law_saved", "_law_due_here"] "law" s_law f cd A outer s H E).A) (hp : PassesOwn (model P w) (cxD P w K mg base ["_law_script", "_law_pool_here", "_law_players", "_law_many", "_law_far", "_law_lists", "_law_k", "_law_player", "_law_spoil", "_law_row", "_law_odd", "_law_shares_here", "_law_saved", "_law_due_here"] "law" s_law f cd A outer s H E).A (cxD P w K mg base ["_law_script", "_law_pool_here", "_law_players", "_law_many", "_law_far", "_law_lists", "_law_k", "_law_player", "_law_spoil", "_law_row", "_law_odd", "_law_shares_here", "_law_saved", "_law_due_here"] "law" s_law f cd A outer s H E).env (cxD P w K mg base ["_law_script", "_law_pool_here", "_law_players", "_law_many", "_law_far", "_law_lists", "_law_k", "_law_player", "_law_spoil", "_law_row", "_law_odd", "_law_shares_here", "_law_saved", "_law_due_here"] "law" s_law f cd A outer s H E).xe) (h1 : 1 ≤ n) (h5 : n ≤ 5) (hmany : many ≤ 39) (fin : ∀ μ', E0.rt (.bl true) μ') {Pa : Addr} {L : List (Addr × List D)} {sp : Int} {c9 : D} (sp0 : 0 ≤ sp) (hN9 : Nest μ9 Pa p c9 L) (hLm : L.length = many) (hP9 : Pool 510 c9) (hLn : sp ≠ 0 → ∀ x ∈ L, x.2.length = n) {v6 v7 v9 v10 : Option D} : dSs (cxD P w K mg base ["_law_script", "_law_pool_here", "_law_players", "_law_many", "_law_far", "_law_lists", "_law_k", "_law_player", "_law_spoil", "_law_row", "_law_odd", "_law_shares_here", "_law_saved", "_law_due_here"] "law" s_law f cd A outer s H E) G0 ((defBody s_law).drop 9) (lw35 p sc n many far (some (.ref Pa)) v6 v7 (some (.int sp)) v9 v10 none none none) μ9 E0 := by
  have hnd := sc_law.nd
  have nm0 : (cxD P w K mg base ["_law_script", "_law_pool_here", "_law_players", "_law_many", "_law_far", "_law_lists", "_law_k", "_law_player", "_law_spoil", "_law_row", "_law_odd", "_law_shares_here", "_law_saved", "_law_due_here"] "law" s_law f cd A outer s H E).N[0]? = some ("_law_script" : Str) ∧ (("_law_script" : Str) == ("__debug__" : Str)) = false ∧ (("_law_script" : Str) == ("__classdict__" : Str)) = false := ⟨rfl, by decide, by decide⟩
  have nm1 : (cxD P w K mg base ["_law_script", "_law_pool_here", "_law_players", "_law_many", "_law_far", "_law_lists", "_law_k", "_law_player", "_law_spoil", "_law_row", "_law_odd", "_law_shares_here", "_law_saved", "_law_due_here"] "law" s_law f cd A outer s H E).N[1]? = some ("_law_pool_here" : Str) ∧ (("_law_pool_here" : Str) == ("__debug__" : Str)) = false ∧ (("_law_pool_here" : Str) == ("__classdict__" : Str)) = false := ⟨rfl, by decide, by decide⟩
  have nm2 : (cxD P w K mg base ["_law_script", "_law_pool_here", "_law_players", "_law_many", "_law_far", "_law_lists", "_law_k", "_law_player", "_law_spoil", "_law_row", "_law_odd", "_law_shares_here", "_law_saved", "_law_due_here"] "law" s_law f cd A outer s H E).N[2]? = some ("_law_players" : Str) ∧ (("_law_players" : Str) == ("__debug__" : Str)) = false ∧ (("_law_players" : Str) == ("__classdict__" : Str)) = false := ⟨rfl, by decide, by decide⟩
  have nm3 : (cxD P w K mg base ["_law_script", "_law_pool_here", "_law_players", "_law_many", "_law_far", "_law_lists", "_law_k", "_law_player", "_law_spoil", "_law_row", "_law_odd", "_law_shares_here", "_law_saved", "_law_due_here"] "law" s_law f cd A outer s H E).N[3]? = some ("_law_many" : Str) ∧ (("_law_many" : Str) == ("__debug__" : Str)) = false ∧ (("_law_many" : Str) == ("__classdict__" : Str)) = false := ⟨rfl, by decide, by decide⟩
  have nm4 : (cxD P w K mg base ["_law_script", "_law_pool_here", "_law_players", "_law_many", "_law_far", "_law_lists", "_law_k", "_law_player", "_law_spoil", "_law_row", "_law_odd", "_law_shares_here", "_law_saved", "_law_due_here"] "law" s_law f cd A outer s H E).N[4]? = some ("_law_far" : Str) ∧ (("_law_far" : Str) == ("__debug__" : Str)) = false ∧ (("_law_far" : Str) == ("__classdict__" : Str)) = false := ⟨rfl, by decide, by decide⟩
  have nm5 : (cxD P w K mg base ["_law_script", "_law_pool_here", "_law_players", "_law_many", "_law_far", "_law_lists", "_law_k", "_law_player", "_law_spoil", "_law_row", "_law_odd", "_law_shares_here", "_law_saved", "_law_due_here"] "law" s_law f cd A outer s H E).N[5]? = some ("_law_lists" : Str) ∧ (("_law_lists" : Str) == ("__debug__" : Str)) = false ∧ (("_law_lists" : Str) == ("__classdict__" : Str)) = false := ⟨rfl, by decide, by decide⟩
  have nm6 : (cxD P w K mg base ["_law_script", "_law_pool_here", "_law_players", "_law_many", "_law_far", "_law_lists", "_law_k", "_law_player", "_law_spoil", "_law_row", "_law_odd", "_law_shares_here", "_law_saved", "_law_due_here"] "law" s_law f cd A outer s H E).N[6]? = some ("_law_k" : Str) ∧ (("_law_k" : Str) == ("__debug__" : Str)) = false ∧ (("_law_k" : Str) == ("__classdict__" : Str)) = false := ⟨rfl, by decide, by decide⟩
  have nm7 : (cxD P w K mg base ["_law_script", "_law_pool_here", "_law_players", "_law_many", "_law_far", "_law_lists", "_law_k", "_law_player", "_law_spoil", "_law_row", "_law_odd", "_law_shares_here", "_law_saved", "_law_due_here"] "law" s_law f cd A outer s H E).N[7]? = some ("_law_player" : Str) ∧ (("_law_player" : Str) == ("__debug__" : Str)) = false ∧ (("_law_player" : Str) == ("__classdict__" : Str)) = false := ⟨rfl, by decide, by decide⟩
  have nm8 : (cxD P w K mg base ["_law_script", "_law_pool_here", "_law_players", "_law_many", "_law_far", "_law_lists", "_law_k", "_law_player", "_law_spoil", "_law_row", "_law_odd", "_law_shares_here", "_law_saved", "_law_due_here"] "law" s_law f cd A outer s H E).N[8]? = some ("_law_spoil" : Str) ∧ (("_law_spoil" : Str) == ("__debug__" : Str)) = false ∧ (("_law_spoil" : Str) == ("__classdict__" : Str)) = false := ⟨rfl, by decide, by decide⟩
  have nm9 : (cxD P w K mg base ["_law_script", "_law_pool_here", "_law_players", "_law_many", "_law_far", "_law_lists", "_law_k", "_law_player", "_law_spoil", "_law_row", "_law_odd", "_law_shares_here", "_law_saved", "_law_due_here"] "law" s_law f cd A outer s H E).N[9]? = some ("_law_row" : Str) ∧ (("_law_row" : Str) == ("__debug__" : Str)) = false ∧ (("_law_row" : Str) == ("__classdict__" : Str)) = false := ⟨rfl, by decide, by decide⟩
  have nm10 : (cxD P w K mg base ["_law_script", "_law_pool_here", "_law_players", "_law_many", "_law_far", "_law_lists", "_law_k", "_law_player", "_law_spoil", "_law_row", "_law_odd", "_law_shares_here", "_law_saved", "_law_due_here"] "law" s_law f cd A outer s H E).N[10]? = some ("_law_odd" : Str) ∧ (("_law_odd" : Str) == ("__debug__" : Str)) = false ∧ (("_law_odd" : Str) == ("__classdict__" : Str)) = false := ⟨rfl, by decide, by decide⟩
  have nm11 : (cxD P w K mg base ["_law_script", "_law_pool_here", "_law_players", "_law_many", "_law_far", "_law_lists", "_law_k", "_law_player", "_law_spoil", "_law_row", "_law_odd", "_law_shares_here", "_law_saved", "_law_due_here"] "law" s_law f cd A outer s H E).N[11]? = some ("_law_shares_here" : Str) ∧ (("_law_shares_here" : Str) == ("__debug__" : Str)) = false ∧ (("_law_shares_here" : Str) == ("__classdict__" : Str)) = false := ⟨rfl, by decide, by decide⟩
  have nm12 : (cxD P w K mg base ["_law_script", "_law_pool_here", "_law_players", "_law_many", "_law_far", "_law_lists", "_law_k", "_law_player", "_law_spoil", "_law_row", "_law_odd", "_law_shares_here", "_law_saved", "_law_due_here"] "law" s_law f cd A outer s H E).N[12]? = some ("_law_saved" : Str) ∧ (("_law_saved" : Str) == ("__debug__" : Str)) = false ∧ (("_law_saved" : Str) == ("__classdict__" : Str)) = false := ⟨rfl, by decide, by decide⟩
  have nm13 : (cxD P w K mg base ["_law_script", "_law_pool_here", "_law_players", "_law_many", "_law_far", "_law_lists", "_law_k", "_law_player", "_law_spoil", "_law_row", "_law_odd", "_law_shares_here", "_law_saved", "_law_due_here"] "law" s_law f cd A outer s H E).N[13]? = some ("_law_due_here" : Str) ∧ (("_law_due_here" : Str) == ("__debug__" : Str)) = false ∧ (("_law_due_here" : Str) == ("__classdict__" : Str)) = false := ⟨rfl, by decide, by decide⟩
  have bn_int : (cxD P w K mg base ["_law_script", "_law_pool_here", "_law_players", "_law_many", "_law_far", "_law_lists", "_law_k", "_law_player", "_law_spoil", "_law_row", "_law_odd", "_law_shares_here", "_law_saved", "_law_due_here"] "law" s_law f cd A outer s H E).mg "int" = none := m_int
  have bn_range : (cxD P w K mg base ["_law_script", "_law_pool_here", "_law_players", "_law_many", "_law_far", "_law_lists", "_law_k", "_law_player", "_law_spoil", "_law_row", "_law_odd", "_law_shares_here", "_law_saved", "_law_due_here"] "law" s_law f cd A outer s H E).mg "range" = none := m_range
  have bn_list : (cxD P w K mg base ["_law_script", "_law_pool_here", "_law_players", "_law_many", "_law_far", "_law_lists", "_law_k", "_law_player", "_law_spoil", "_law_row", "_law_odd", "_law_shares_here", "_law_saved", "_law_due_here"] "law" s_law f cd A outer s H E).mg "list" = none := m_list
  have bn_tuple : (cxD P w K mg base ["_law_script", "_law_pool_here", "_law_players", "_law_many", "_law_far", "_law_lists", "_law_k", "_law_player", "_law_spoil", "_law_row", "_law_odd", "_law_shares_here", "_law_saved", "_law_due_here"] "law" s_law f cd A outer s H E).mg "tuple" = none := m_tuple
  have bn_isinstance : (cxD P w K mg base ["_law_script", "_law_pool_here", "_law_players", "_law_many", "_law_far", "_law_lists", "_law_k", "_law_player", "_law_spoil", "_law_row", "_law_odd", "_law_shares_here", "_law_saved", "_law_due_here"] "law" s_law f cd A outer s H E).mg "isinstance" = none := m_isinstance
  refine s_cut (fun δ' μ' => (∃ v6 v7 v9 v10, δ' = lw35 p sc n many far (some (.ref Pa)) v6 v7 (some (.int sp)) v9 v10 none none none) ∧ ∃ (L : List (Addr × List D)) (c' : D), Nest μ' Pa p c' L ∧ L.length = many ∧ Pool 520 c') ?_ ?_
  · refine s_if (t_bool (tw_and (t_cmp ?_)))
    walk_at "dd"
    refine ⟨fun e => tw_and1 (t_cmp ?_), fun e => no rfl (s_nil ⟨⟨_, _, _, _, rfl⟩, L, c9, hN9, hLm, pool_up hP9 (by decide)⟩)⟩
    have e1 := of_decide_eq_true e
    have hLn := hLn (by omega)
    walk_at "dd"
    refine ⟨fun e => ?_, fun e => s_nil ⟨⟨_, _, _, _, rfl⟩, L, c9, hN9, hLm, pool_up hP9 (by decide)⟩⟩
    have hmp : 0 < many := by have := of_decide_eq_true e; omega
    refine s_cons (s_set (i := 9) ?_)
    walk_at "dd"
    refine d_call Ct ?_
    walk_at "dd"
    refine ⟨p, many, c9, _, rfl, by omega, by omega, hN9.hp, hP9, by decide, fun j c10 j0 jm hP10 => ?_⟩
    have hN10 := hN9.pool c10
    generalize updM μ9 p c10 = μ10 at hN10 ⊢
    have hjl : j.toNat < L.length := by omega
    obtain ⟨⟨a, ds⟩, hLj⟩ : ∃ x, L[j.toNat]? = some x := ⟨_, List.getElem?_eq_getElem hjl⟩
    have hm := List.mem_of_getElem? hLj
    obtain ⟨jj, rfl⟩ : ∃ jj : Nat, j = (jj : Int) := ⟨j.toNat, by omega⟩
    rw [Int.toNat_natCast] at hLj
    refine x_mut hN10.hP (d := .ref a) (atI_nat (by rw [List.getElem?_map, hLj]; rfl)) ?_
    refine s_cons ?_
    refine s_set (i := 10) ?_
    refine d_lst ?_
    walk_at "dd"
    refine ⟨(show 2 ≤ sizeLine by decide), ?_⟩
    walk_at "dd"
    refine ⟨(show 2 ≤ sizeLine by decide), ?_⟩
    walk_at "dd"
    refine d_lst ?_
    walk_at "dd"
    refine ⟨(show 2 ≤ sizeLine by decide), ?_⟩
    walk_at "dd"
    refine ⟨(show 2 ≤ sizeLine by decide), ?_⟩
    walk_at "dd"
    refine ⟨(show 6 ≤ sizeLine by decide), ?_⟩
    refine s_one (s_item ?_)
    walk_at "dd"
    refine d_call Ct ?_
    walk_at "dd"
    refine ⟨p, 6, c10, _, rfl, by decide, by decide, hN10.hp, hP10, by decide, fun k c11 k0 k6 hP11 => ?_⟩
    have hN11 := hN10.pool c11
    generalize updM μ10 p c11 = μ11 at hN11 ⊢
    obtain ⟨y, hy, hyok⟩ := odd_at k0 k6
    refine x_lst hy ?_
    walk_at "dd"
    refine d_call Ct ?_
    walk_at "dd"
    refine ⟨p, n, c11, _, rfl, by omega, by omega, hN11.hp, hP11, by decide, fun i c12 i0 i5 hP12 => ?_⟩
    have hN12 := hN11.pool c12
    generalize updM μ11 p c12 = μ12 at hN12 ⊢
    have hdn : ds.length = n := hLn (a, ds) hm
    have hit : ItOk (ds.set i.toNat y) := by
      refine ⟨by rw [List.length_set]; exact (hN12.ok (a, ds) hm).1, fun z hz => ?_⟩
      rcases List.mem_or_eq_of_mem_set hz with h | h
      · exact (hN12.ok (a, ds) hm).2 z h
      · rw [h]; exact hyok
    refine ⟨a, i, ds, i.toNat, rfl, rfl, hN12.hr (a, ds) hm, by unfold ixN; rw [if_pos i0, if_pos (by omega)], ?_⟩
    exact ⟨⟨_, _, _, _, rfl⟩, _, c12, hN12.item hLj hit, by rw [List.length_set]; exact hLm, pool_up hP12 (by decide)⟩
  clear hN9 hLm hLn hP9
  rintro δ' μ9 ⟨⟨v6, v7, v9, v10, rfl⟩, L, c9, hN9, hLm, hP9⟩
  exact law35_b Ct Cp Cl Csh Cd Cto Cb Ccb m_int m_range m_list m_tuple m_isinstance hr hp h1 h5 hmany fin sp0 hN9 hLm hP9
end
end K35

open PySem PySem.Spec PyProof.Rows L2 DL
namespace K35
section
variable {P : Program} {w : World} {K : PySem.W.Frag} {mg : Str → Option Value} {base : Heap} {CB CS CN CM : Addr}
theorem body_law (Ct : Cal P w K mg base 1 "_law_take" spTake) (Cp : Cal P w K mg base 1 "_law_pool" spPool) (Cl : Cal P w K mg base 2 "_law_ratio" spLRatio) (Csh : Cal P w K mg base 2 "_law_shares" spLShares) (Cd : Cal P w K mg base 4 "_law_due" spDue) (Cto : Cal P w K mg base 9 "_law_told" spTold) (Cb : Cal P w K mg base 7 "blended" (spBlend CS CN CM)) (Ccb : Cal P w K mg base 9 "_law_calm_blends" spCalmB) (m_int : mg "int" = none) (m_range : mg "range" = none) (m_list : mg "list" = none) (m_tuple : mg "tuple" = none) (m_isinstance : mg "isinstance" = none) : ∀ ds μ Φ Ψ, spLaw ds μ Φ Ψ → Body P w K mg base 9 ["_law_script", "_law_pool_here", "_law_players", "_law_many", "_law_far", "_law_lists", "_law_k", "_law_player", "_law_spoil", "_law_row", "_law_odd", "_law_shares_here", "_law_saved", "_law_due_here"] "law" s_law ds μ Φ Ψ := by
  refine fun ds μ Φ Ψ h => ⟨fun f cd A outer s H E G0 hr hp tk => ?_⟩
  have hnd := sc_law.nd
  have nm0 : (cxD P w K mg base ["_law_script", "_law_pool_here", "_law_players", "_law_many", "_law_far", "_law_lists", "_law_k", "_law_player", "_law_spoil", "_law_row", "_law_odd", "_law_shares_here", "_law_saved", "_law_due_here"] "law" s_law f cd A outer s H E).N[0]? = some ("_law_script" : Str) ∧ (("_law_script" : Str) == ("__debug__" : Str)) = false ∧ (("_law_script" : Str) == ("__classdict__" : Str)) = false := ⟨rfl, by decide, by decide⟩
  have nm1 : (cxD P w K mg base ["_law_script", "_law_pool_here", "_law_players", "_law_many", "_law_far", "_law_lists", "_law_k", "_law_player", "_law_spoil", "_law_row", "_law_odd", "_law_shares_here", "_law_saved", "_law_due_here"] "law" s_law f cd A outer s H E).N[1]? = some ("_law_pool_here" : Str) ∧ (("_law_pool_here" : Str) == ("__debug__" : Str)) = false ∧ (("_law_pool_here" : Str) == ("__classdict__" : Str)) = false := ⟨rfl, by decide, by decide⟩
  have nm2 : (cxD P w K mg base ["_law_script", "_law_pool_here", "_law_players", "_law_many", "_law_far", "_law_lists", "_law_k", "_law_player", "_law_spoil", "_law_row", "_law_odd", "_law_shares_here", "_law_saved", "_law_due_here"] "law" s_law f cd A outer s H E).N[2]? = some ("_law_players" : Str) ∧ (("_law_players" : Str) == ("__debug__" : Str)) = false ∧ (("_law_players" : Str) == ("__classdict__" : Str)) = false := ⟨rfl, by decide, by decide⟩
  have nm3 : (cxD P w K mg base ["_law_script", "_law_pool_here", "_law_players", "_law_many", "_law_far", "_law_lists", "_law_k", "_law_player", "_law_spoil", "_law_row", "_law_odd", "_law_shares_here", "_law_saved", "_law_due_here"] "law" s_law f cd A outer s H E).N[3]? = some ("_law_many" : Str) ∧ (("_law_many" : Str) == ("__debug__" : Str)) = false ∧ (("_law_many" : Str) == ("__classdict__" : Str)) = false := ⟨rfl, by decide, by decide⟩
  have nm4 : (cxD P w K mg base ["_law_script", "_law_pool_here", "_law_players", "_law_many", "_law_far", "_law_lists", "_law_k", "_law_player", "_law_spoil", "_law_row", "_law_odd", "_law_shares_here", "_law_saved", "_law_due_here"] "law" s_law f cd A outer s H E).N[4]? = some ("_law_far" : Str) ∧ (("_law_far" : Str) == ("__debug__" : Str)) = false ∧ (("_law_far" : Str) == ("__classdict__" : Str)) = false := ⟨rfl, by decide, by decide⟩
  have nm5 : (cxD P w K mg base ["_law_script", "_law_pool_here", "_law_players", "_law_many", "_law_far", "_law_lists", "_law_k", "_law_player", "_law_spoil", "_law_row", "_law_odd", "_law_shares_here", "_law_saved", "_law_due_here"] "law" s_law f cd A outer s H E).N[5]? = some ("_law_lists" : Str) ∧ (("_law_lists" : Str) == ("__debug__" : Str)) = false ∧ (("_law_lists" : Str) == ("__classdict__" : Str)) = false := ⟨rfl, by decide, by decide⟩
  have nm6 : (cxD P w K mg base ["_law_script", "_law_pool_here", "_law_players", "_law_many", "_law_far", "_law_lists", "_law_k", "_law_player", "_law_spoil", "_law_row", "_law_odd", "_law_shares_here", "_law_saved", "_law_due_here"] "law" s_law f cd A outer s H E).N[6]? = some ("_law_k" : Str) ∧ (("_law_k" : Str) == ("__debug__" : Str)) = false ∧ (("_law_k" : Str) == ("__classdict__" : Str)) = false := ⟨rfl, by decide, by decide⟩
  have nm7 : (cxD P w K mg base ["_law_script", "_law_pool_here", "_law_players", "_law_many", "_law_far", "_law_lists", "_law_k", "_law_player", "_law_spoil", "_law_row", "_law_odd", "_law_shares_here", "_law_saved", "_law_due_here"] "law" s_law f cd A outer s H E).N[7]? = some ("_law_player" : Str) ∧ (("_law_player" : Str) == ("__debug__" : Str)) = false ∧ (("_law_player" : Str) == ("__classdict__" : Str)) = false := ⟨rfl, by decide, by decide⟩
  have nm8 : (cxD P w K mg base ["_law_script", "_law_pool_here", "_law_players", "_law_many", "_law_far", "_law_lists", "_law_k", "_law_player", "_law_spoil", "_law_row", "_law_odd", "_law_shares_here", "_law_saved", "_law_due_here"] "law" s_law f cd A outer s H E).N[8]? = some ("_law_spoil" : Str) ∧ (("_law_spoil" : Str) == ("__debug__" : Str)) = false ∧ (("_law_spoil" : Str) == ("__classdict__" : Str)) = false := ⟨rfl, by decide, by decide⟩
  have nm9 : (cxD P w K mg base ["_law_script", "_law_pool_here", "_law_players", "_law_many", "_law_far", "_law_lists", "_law_k", "_law_player", "_law_spoil", "_law_row", "_law_odd", "_law_shares_here", "_law_saved", "_law_due_here"] "law" s_law f cd A outer s H E).N[9]? = some ("_law_row" : Str) ∧ (("_law_row" : Str) == ("__debug__" : Str)) = false ∧ (("_law_row" : Str) == ("__classdict__" : Str)) = false := ⟨rfl, by decide, by decide⟩
  have nm10 : (cxD P w K mg base ["_law_script", "_law_pool_here", "_law_players", "_law_many", "_law_far", "_law_lists", "_law_k", "_law_player", "_law_spoil", "_law_row", "_law_odd", "_law_shares_here", "_law_saved", "_law_due_here"] "law" s_law f cd A outer s H E).N[10]? = some ("_law_odd" : Str) ∧ (("_law_odd" : Str) == ("__debug__" : Str)) = false ∧ (("_law_odd" : Str) == ("__classdict__" : Str)) = false := ⟨rfl, by decide, by decide⟩
  have nm11 : (cxD P w K mg base ["_law_script", "_law_pool_here", "_law_players", "_law_many", "_law_far", "_law_lists", "_law_k", "_law_player", "_law_spoil", "_law_row", "_law_odd", "_law_shares_here", "_law_saved", "_law_due_here"] "law" s_law f cd A outer s H E).N[11]? = some ("_law_shares_here" : Str) ∧ (("_law_shares_here" : Str) == ("__debug__" : Str)) = false ∧ (("_law_shares_here" : Str) == ("__classdict__" : Str)) = false := ⟨rfl, by decide, by decide⟩
  have nm12 : (cxD P w K mg base ["_law_script", "_law_pool_here", "_law_players", "_law_many", "_law_far", "_law_lists", "_law_k", "_law_player", "_law_spoil", "_law_row", "_law_odd", "_law_shares_here", "_law_saved", "_law_due_here"] "law" s_law f cd A outer s H E).N[12]? = some ("_law_saved" : Str) ∧ (("_law_saved" : Str) == ("__debug__" : Str)) = false ∧ (("_law_saved" : Str) == ("__classdict__" : Str)) = false := ⟨rfl, by decide, by decide⟩
  have nm13 : (cxD P w K mg base ["_law_script", "_law_pool_here", "_law_players", "_law_many", "_law_far", "_law_lists", "_law_k", "_law_player", "_law_spoil", "_law_row", "_law_odd", "_law_shares_here", "_law_saved", "_law_due_here"] "law" s_law f cd A outer s H E).N[13]? = some ("_law_due_here" : Str) ∧ (("_law_due_here" : Str) == ("__debug__" : Str)) = false ∧ (("_law_due_here" : Str) == ("__classdict__" : Str)) = false := ⟨rfl, by decide, by decide⟩
  have bn_int : (cxD P w K mg base ["_law_script", "_law_pool_here", "_law_players", "_law_many", "_law_far", "_law_lists", "_law_k", "_law_player", "_law_spoil", "_law_row", "_law_odd", "_law_shares_here", "_law_saved", "_law_due_here"] "law" s_law f cd A outer s H E).mg "int" = none := m_int
  have bn_range : (cxD P w K mg base ["_law_script", "_law_pool_here", "_law_players", "_law_many", "_law_far", "_law_lists", "_law_k", "_law_player", "_law_spoil", "_law_row", "_law_odd", "_law_shares_here", "_law_saved", "_law_due_here"] "law" s_law f cd A outer s H E).mg "range" = none := m_range
  have bn_list : (cxD P w K mg base ["_law_script", "_law_pool_here", "_law_players", "_law_many", "_law_far", "_law_lists", "_law_k", "_law_player", "_law_spoil", "_law_row", "_law_odd", "_law_shares_here", "_law_saved", "_law_due_here"] "law" s_law f cd A outer s H E).mg "list" = none := m_list
  have bn_tuple : (cxD P w K mg base ["_law_script", "_law_pool_here", "_law_players", "_law_many", "_law_far", "_law_lists", "_law_k", "_law_player", "_law_spoil", "_law_row", "_law_odd", "_law_shares_here", "_law_saved", "_law_due_here"] "law" s_law f cd A outer s H E).mg "tuple" = none := m_tuple
  have bn_isinstance : (cxD P w K mg base ["_law_script", "_law_pool_here", "_law_players", "_law_many", "_law_far", "_law_lists", "_law_k", "_law_player", "_law_spoil", "_law_row", "_law_odd", "_law_shares_here", "_law_saved", "_law_due_here"] "law" s_law f cd A outer s H E).mg "isinstance" = none := m_isinstance
  obtain ⟨sc, rfl, hns, fin⟩ := h
  refine s_cons (s_set (i := 1) ?_)
  refine d_call Cp ?_
  walk_at "dd"
  refine ⟨sc, rfl, hns, fun p c hpn hP => ?_⟩
  have hp1 : updM μ p c p = some c := updM_same
  generalize updM μ p c = μ1 at hp1 ⊢
  refine s_cons (s_set (i := 2) ?_)
  walk_at "dd"
  refine d_call Ct ?_
  walk_at "dd"
  refine ⟨p, 5, c, 0, rfl, by decide, by decide, hp1, hP, by decide, fun n0 c2 n00 n05 hP2 => ?_⟩
  walk_at "dd"
  obtain ⟨n, hn⟩ : ∃ n : Nat, 1 + n0 = (n : Int) := ⟨(1 + n0).toNat, by omega⟩
  rw [hn]
  have h1 : 1 ≤ n := by omega
  have h5 : n ≤ 5 := by omega
  have hp2 : updM μ1 p c2 p = some c2 := updM_same
  generalize updM μ1 p c2 = μ2 at hp2 ⊢
  refine s_cons (s_set (i := 3) ?_)
  refine d_call Ct ?_
  walk_at "dd"
  refine ⟨p, 5, c2, _, rfl, by decide, by decide, hp2, hP2, by decide, fun m0 c3 m00 m05 hP3 => ?_⟩
  have hp3 : updM μ2 p c3 p = some c3 := updM_same
  generalize updM μ2 p c3 = μ3 at hp3 ⊢
  refine s_cut (fun δ' μ' => ∃ (many : Nat) (c4 : D), δ' = [some (.scr sc), some (.ref p), some (.int n), some (.int many), none, none, none, none, none, none, none, none, none, none] ∧ many ≤ 39 ∧ μ' p = some c4 ∧ Pool 3 c4) ?_ ?_
  · refine s_if (t_cmp ?_)
    refine d_call Ct ?_
    walk_at "dd"
    refine ⟨p, 12, c3, _, rfl, by decide, by decide, hp3, hP3, by decide, fun k3 c4 k30 k312 hP4 => ?_⟩
    walk_at "dd"
    refine ⟨fun e => s_one (s_set (i := 3) ?_), fun e => s_nil ⟨m0.toNat, c4, ?_, by omega, updM_same, hP4⟩⟩
    · walk_at "dd"
      exact ⟨39, c4, rfl, by decide, updM_same, hP4⟩
    · rw [show ((m0.toNat : Nat) : Int) = m0 by omega]
      rfl
  rintro δ' μ4 ⟨many, c4, rfl, hmany, hp4, hP4⟩
  refine s_cons (s_set (i := 4) ?_)
  walk_at "dd"
  refine o_pow ⟨⟨by decide, by decide, by decide⟩, ?_⟩
  walk_at "dd"
  refine d_call Ct ?_
  walk_at "dd"
  refine ⟨p, 6, c4, _, rfl, by decide, by decide, hp4, hP4, by decide, fun k4 c5 k40 k46 hP5 => ?_⟩
  walk_at "dd"
  refine o_mul ⟨mulOk (a := 100) (b := 2) (by decide +kernel) (by split <;> decide) (by decide), ?_⟩
  obtain ⟨far, hfar, hf2⟩ : ∃ far : Int, (10 : Int) ^ (24 : Int).toNat * (if decide (k4 = 0) = true then (1 : Int) else 0) = far ∧ (far = 0 ∨ far = 10 ^ 24) := by
    refine ⟨_, rfl, ?_⟩
    by_cases e : k4 = 0
    · rw [decide_eq_true e, if_pos rfl, Int.mul_one]
      exact .inr rfl
    · rw [decide_eq_false e, if_neg (by decide), Int.mul_zero]
      exact .inl rfl
  rw [hfar]
  have hp5 : updM μ4 p c5 p = some c5 := updM_same
  generalize updM μ4 p c5 = μ5 at hp5 ⊢
  have fb : far.natAbs < 2 ^ 90 := by
    rcases hf2 with e | e <;> rw [e]
    · decide
    · decide +kernel
  refine s_cons (s_set (i := 5) (d_lstM ?_))
  walk_at "dd"
  refine ⟨(show 0 ≤ sizeLine by decide), fun Pa hPa => ?_⟩
  have npP : p ≠ Pa := fun e => by rw [← e, hp5] at hPa; cases hPa
  have hN0 : Nest (updM μ5 Pa (.lst [])) Pa p c5 [] := ⟨updM_same, (fun x hx => by cases hx), (fun i j x y h => by simp at h), (fun x hx => by cases hx), by rw [updM_ne npP]; exact hp5, (fun x hx => by cases hx), npP, (fun x hx => by cases hx)⟩
  generalize updM μ5 Pa (.lst []) = μ6 at hN0 ⊢
  refine s_cut (fun δ' μ' => (∃ v6 v7, δ' = lw35 p sc n many far (some (.ref Pa)) v6 v7 none none none none none none) ∧ ∃ (L : List (Addr × List D)) (c' : D), Nest μ' Pa p c' L ∧ L.length = many ∧ (∀ x ∈ L, x.2.length = n) ∧ Pool 500 c') ?_ ?_
  · refine s_forR ?_
    walk_at "dd"
    refine ⟨many, rfl, by omega, by omega, fun i δ' μ' => (∃ v6 v7, δ' = lw35 p sc n many far (some (.ref Pa)) v6 v7 none none none none none none) ∧ ∃ (L : List (Addr × List D)) (c' : D), Nest μ' Pa p c' L ∧ L.length = i ∧ (∀ x ∈ L, x.2.length = n) ∧ Pool (4 + i * (2 * n)) c', ⟨⟨none, none, rfl⟩, [], c5, hN0, rfl, (fun x hx => by cases hx), pool_up hP5 (by omega)⟩, ?_, ?_⟩
    · rintro i δ' μ' hi ⟨⟨v6, v7, rfl⟩, L, c', hN, hLi, hLn, hPi⟩
      have hi39 : i < 39 := by omega
      have i1 : i * (2 * n) ≤ 39 * 10 := Nat.mul_le_mul (by omega) (by omega)
      refine g_name (i := 6) fun G1 e1 => ?_
      refine s_cons (s_expr (d_append ?_))
      walk_at "dd"
      refine ⟨Pa, rfl, ⟨_, hN.hP⟩, d_lstM ?_⟩
      walk_at "dd"
      refine ⟨(show 0 ≤ sizeLine by decide), fun b hb => ?_⟩
      obtain ⟨b1, b2, b3⟩ := hN.fresh hb
      refine ⟨_, by rw [updM_ne (Ne.symm b1)]; exact hN.hP, by rw [List.length_map, sizeLine_eq]; omega, ?_⟩
      have hN2 := hN.new hb
      generalize updM (updM μ' b (.lst [])) Pa (.lst ((L.map fun x => D.ref x.1) ++ [.ref b])) = μ7 at hN2 ⊢
      refine s_one (s_forR ?_)
      walk_at "dd"
      refine ⟨n, rfl, by omega, by omega, fun j δ' μ' => (∃ v7, δ' = lw35 p sc n many far (some (.ref Pa)) (some (.int i)) v7 none none none none none none) ∧ ∃ (ds : List D) (c' : D), Nest μ' Pa p c' (L ++ [(b, ds)]) ∧ ds.length = j ∧ Pool (4 + i * (2 * n) + 2 * j) c', ⟨⟨v7, rfl⟩, [], c', hN2, rfl, hPi⟩, ?_, ?_⟩
      · rintro j δ' μ8 hj ⟨⟨v7, rfl⟩, ds, c8, hN8, hdl, hP8⟩
        have hj5 : j < 5 := by omega
        have lastAt : (L ++ [(b, ds)])[L.length]? = some (b, ds) := List.getElem?_concat_length
        refine g_name (i := 7) fun G1 e1 => s_one (s_expr (d_append ?_))
        walk_at "dd"
        refine x_mut hN8.hP (d := .ref b) (atI_nat (by rw [← hLi, List.getElem?_map, lastAt]; rfl)) ?_
        have hb8 : μ8 b = some (.lst ds) := hN8.hr (b, ds) (by simp)
        refine ⟨b, rfl, ⟨_, hb8⟩, ?_⟩
        refine d_call Cl ?_
        walk_at "dd"
        refine d_call Ct ?_
        walk_at "dd"
        refine ⟨p, 41, c8, _, rfl, by decide, by decide, hN8.hp, hP8, by omega, fun x c9 x0 x41 hP9 => ?_⟩
        walk_at "dd"
        refine d_call Ct ?_
        walk_at "dd"
        refine ⟨p, 9, c9, _, rfl, by decide, by decide, updM_same, hP9, by omega, fun y c10 y0 y9 hP10 => ?_⟩
        walk_at "dd"
        rw [updM_upd]
        have hN10 := hN8.pool c10
        have drm := draw_rm hf2 x0 x41 y0 y9
        refine ⟨_, _, rfl, by rcases hf2 with e | e <;> omega, ?_, ?_⟩
        · have : (far + 1 + y).natAbs < 2 ^ 91 := by rcases hf2 with e | e <;> omega
          exact na_up this (by decide)
        refine ⟨ds, hN10.hr (b, ds) (by simp), by rw [sizeLine_eq]; omega, ⟨_, rfl⟩, ds ++ [dR (ratP (far + x - 20) (far + 1 + y))], c10, ?_, by rw [List.length_append, hdl]; rfl, pool_up hP10 (by omega)⟩
        have hit : ItOk (ds ++ [dR (ratP (far + x - 20) (far + 1 + y))]) := by
          refine ⟨by rw [List.length_append]; show ds.length + 1 ≤ 6; omega, fun z hz => ?_⟩
          rcases List.mem_append.mp hz with hz | hz
          · exact (hN8.ok (b, ds) (by simp)).2 z hz
          · rw [List.mem_singleton.mp hz]
            exact iok_rm drm
        have := hN10.item lastAt hit
        rw [set_last] at this
        exact this
      · rintro δ' μ8 ⟨⟨v7, rfl⟩, ds, c8, hN8, hdl, hP8⟩
        refine ⟨⟨_, _, rfl⟩, L ++ [(b, ds)], c8, hN8, by rw [List.length_append, hLi]; rfl, fun x hx => ?_, pool_up hP8 (Nat.le_of_eq (by rw [Nat.succ_mul i (2 * n), Int.toNat_natCast]; omega))⟩
        rcases List.mem_append.mp hx with hx | hx
        · exact hLn x hx
        · rw [List.mem_singleton.mp hx]
          exact hdl
    · rintro δ' μ' ⟨hv, L, c', hN, hLi, hLn, hPi⟩
      have i1 : many * (2 * n) ≤ 39 * 10 := Nat.mul_le_mul (by omega) (by omega)
      exact ⟨hv, L, c', hN, by omega, hLn, pool_up hPi (by rw [Int.toNat_natCast]; omega)⟩
  rintro δ' μ7 ⟨⟨v6, v7, rfl⟩, L, c7, hN, hLm, hLn, hP7⟩
  refine s_cons (s_set (i := 8) ?_)
  refine d_call Ct ?_
  walk_at "dd"
  refine ⟨p, 16, c7, _, rfl, by decide, by decide, hN.hp, hP7, by decide, fun sp c8 sp0 sp16 hP8 => ?_⟩
  have hN8 := hN.pool c8
  generalize updM μ7 p c8 = μ8 at hN8 ⊢
  refine s_cut (fun δ' μ' => (∃ v6 v7 v9 v10, δ' = lw35 p sc n many far (some (.ref Pa)) v6 v7 (some (.int sp)) v9 v10 none none none) ∧ ∃ (L : List (Addr × List D)) (c' : D), Nest μ' Pa p c' L ∧ L.length = many ∧ (sp ≠ 0 → ∀ x ∈ L, x.2.length = n) ∧ Pool 510 c') ?_ ?_
  · refine s_if (t_bool (tw_and (t_cmp ?_)))
    walk_at "dd"
    refine ⟨fun e => tw_and1 (t_cmp ?_), fun e => no rfl (s_nil ⟨⟨_, _, _, _, rfl⟩, L, c8, hN8, hLm, fun _ => hLn, pool_up hP8 (by decide)⟩)⟩
    have e0 := of_decide_eq_true e
    walk_at "dd"
    refine ⟨fun e => s_one (s_item (d_op (d_lst ?_))), fun e => s_nil ⟨⟨_, _, _, _, rfl⟩, L, c8, hN8, hLm, fun _ => hLn, pool_up hP8 (by decide)⟩⟩
    have hmp : 0 < many := by have := of_decide_eq_true e; omega
    walk_at "dd"
    refine ⟨(show 2 ≤ sizeLine by decide), ?_⟩
    walk_at "dd"
    refine ⟨(show 1 ≤ sizeLine by decide), ?_⟩
    walk_at "dd"
    refine d_call Ct ?_
    walk_at "dd"
    refine ⟨p, 6, c8, _, rfl, by decide, by decide, hN8.hp, hP8, by decide, fun k c9 k0 k6 hP9 => ?_⟩
    walk_at "dd"
    have hN9 := hN8.pool c9
    generalize updM μ8 p c9 = μ9 at hN9 ⊢
    refine o_repN ⟨by omega, by omega, by rw [sizeLine_eq]; show 1 * _ ≤ _; omega, fun b hb => ?_⟩
    obtain ⟨b1, b2, b3⟩ := hN9.fresh hb
    walk_at "dd"
    refine d_call Ct ?_
    walk_at "dd"
    refine ⟨p, many, c9, _, rfl, by omega, by omega, by rw [updM_ne (Ne.symm b2)]; exact hN9.hp, hP9, by decide, fun j c10 j0 jm hP10 => ?_⟩
    have hN10 := hN9.pool c10
    rw [updM_comm b2]
    have hb10 : updM μ9 p c10 b = none := by rw [updM_ne b2]; exact hb
    generalize updM μ9 p c10 = μ10 at hN10 hb10 ⊢
    have hrep : (List.replicate (1 + k).toNat [D.tup [.int 1, .int 1]]).flatten = List.replicate (1 + k).toNat (D.tup [.int 1, .int 1]) := by
      generalize (1 + k).toNat = z
      induction z with
      | zero => rfl
      | succ z ih => rw [List.replicate_succ, List.flatten_cons, ih, List.replicate_succ]; rfl
    rw [hrep]
    have hit : ItOk (List.replicate (1 + k).toNat (D.tup [.int 1, .int 1])) := ⟨by rw [List.length_replicate]; omega, fun y hy => by rw [List.eq_of_mem_replicate hy]; exact one_iok⟩
    have hR := hN10.repl (j := j.toNat) (by omega) hb10 hit
    refine ⟨Pa, j, _, j.toNat, rfl, rfl, by rw [updM_ne (Ne.symm b1)]; exact hN10.hP, by unfold ixN; rw [if_pos j0, if_pos (by rw [List.length_map]; omega)], ?_⟩
    exact ⟨⟨_, _, _, _, rfl⟩, _, c10, hR, by rw [List.length_set]; exact hLm, fun z => absurd e0 z, pool_up hP10 (by decide)⟩
  clear hN8 hN hLm hLn hP7 hP8
  rintro δ' μ9 ⟨⟨v6, v7, v9, v10, rfl⟩, L, c9, hN9, hLm, hLn, hP9⟩
  exact law35_a Ct Cp Cl Csh Cd Cto Cb Ccb m_int m_range m_list m_tuple m_isinstance hr hp h1 h5 hmany fin sp0 hN9 hLm hP9 hLn
end
end K35

open PySem PySem.Spec PyProof.Rows L2 DL
namespace K35
section
variable {P : Program} {w : World} {K : PySem.W.Frag} {mg : Str → Option Value} {base h : Heap}
theorem ok_init_BadRatio {C fI : Addr} {oc : Value} {od an : Option Addr} {osl : Array (Option Value)} {dV kV doc pm cdv ct : Value} (oex : OexC K C) (no : PySem.W.findIn K (.ref C) "bottom" = some none)
    (lk : K.lookup fI = some ⟨oc, od, .func (PySem.W.fnOf "__init__" "BadRatio.__init__" (defArgs s_BadRatio_init) (defBody s_BadRatio_init) (defScope s_BadRatio_init) dV kV doc pm an cdv ct), osl⟩) (c : PySem.W.codeIn K cdv "BadRatio.__init__" = true) :
    FnOk P w K mg base (L2N.CX P w) 1 fI (PySem.W.fnOf "__init__" "BadRatio.__init__" (defArgs s_BadRatio_init) (defBody s_BadRatio_init) (defScope s_BadRatio_init) dV kV doc pm an cdv ct) ["self", "bottom"] (spInit K C "bottom") := by
  refine fn_of lk c sc_BadRatio_init (fun vs H Q E h => ?_) (fun A outer s H vs Q E hr h => ?_)
  · obtain ⟨a, v, rfl, _⟩ := h
    rfl
  · obtain ⟨a, v, rfl, ha, q⟩ := h
    refine ⟨_, pss_one (ps_ost (pv 0) (pv 1)), ?_⟩
    exact ⟨_, rfl, _, rfl, a, C, rfl, oex, no, .inl ⟨ha, fun dx h1 h2 => q dx h1 h2⟩⟩
theorem all_mk {fa CD fL f0 f1 f2 f3 f4 f5 f6 f7 f8 f9 f10 f11 f12 f13 f14 f15 f16 f17 f18 f19 f20 f21 f22 f23 f24 f25 f26 f27 f28 f29 f30 C_BadRatio N_BadRatio fI_BadRatio C_BadShares C_NotDivision C_Mismatch fR_ratio T_ratio : Addr} {to_ratio : Obj} {tn_ratio : Nat} {tt_ratio : Tok} {tc_MOST_PLAYERS : Tok} (KI : K.In h) (G : h.Ns mainGlobals mg) (hfa : mg "law" = some (.ref fa))
    {nm_BadRatio q_BadRatio : Str} {bs_BadRatio : List Value} {sn_BadRatio : List Str} {sub_BadRatio : List Value} {ab_BadRatio : Bool} {col_BadRatio : Option Bool} {dd_BadRatio : Option Addr} {m0_BadRatio m1_BadRatio m2_BadRatio m3_BadRatio m5_BadRatio : Option Value}
    {odI_BadRatio anI_BadRatio odR_ratio anR_ratio odL anL od0 an0 od1 an1 od2 an2 od3 an3 od4 an4 od5 an5 od6 an6 od7 an7 od8 an8 od9 an9 od10 an10 od11 an11 od12 an12 od13 an13 od14 an14 od15 an15 od16 an16 od17 an17 od18 an18 od19 an19 od20 an20 od21 an21 od22 an22 od23 an23 od24 an24 od25 an25 od26 an26 od27 an27 od28 an28 od29 an29 od30 an30 : Option Addr} {slI_BadRatio slR_ratio slL sl0 sl1 sl2 sl3 sl4 sl5 sl6 sl7 sl8 sl9 sl10 sl11 sl12 sl13 sl14 sl15 sl16 sl17 sl18 sl19 sl20 sl21 sl22 sl23 sl24 sl25 sl26 sl27 sl28 sl29 sl30 : Array (Option Value)} {ocI_BadRatio kVI_BadRatio dcI_BadRatio pmI_BadRatio cdI_BadRatio ctI_BadRatio ocR_ratio kVR_ratio dcR_ratio pmR_ratio cdR_ratio ctR_ratio ocL kVL dcL pmL cdL ctL oc0 kV0 dc0 pm0 cd0 ct0 oc1 kV1 dc1 pm1 cd1 ct1 oc2 kV2 dc2 pm2 cd2 ct2 oc3 kV3 dc3 pm3 cd3 ct3 oc4 kV4 dc4 pm4 cd4 ct4 oc5 kV5 dc5 pm5 cd5 ct5 oc6 kV6 dc6 pm6 cd6 ct6 oc7 kV7 dc7 pm7 cd7 ct7 oc8 kV8 dc8 pm8 cd8 ct8 oc9 kV9 dc9 pm9 cd9 ct9 oc10 kV10 dc10 pm10 cd10 ct10 oc11 kV11 dc11 pm11 cd11 ct11 oc12 kV12 dc12 pm12 cd12 ct12 oc13 kV13 dc13 pm13 cd13 ct13 oc14 kV14 dc14 pm14 cd14 ct14 oc15 kV15 dc15 pm15 cd15 ct15 oc16 kV16 dc16 pm16 cd16 ct16 oc17 kV17 dc17 pm17 cd17 ct17 oc18 kV18 dc18 pm18 cd18 ct18 oc19 kV19 dc19 pm19 cd19 ct19 oc20 kV20 dc20 pm20 cd20 ct20 oc21 kV21 dc21 pm21 cd21 ct21 oc22 kV22 dc22 pm22 cd22 ct22 oc23 kV23 dc23 pm23 cd23 ct23 oc24 kV24 dc24 pm24 cd24 ct24 oc25 kV25 dc25 pm25 cd25 ct25 oc26 kV26 dc26 pm26 cd26 ct26 oc27 kV27 dc27 pm27 cd27 ct27 oc28 kV28 dc28 pm28 cd28 ct28 oc29 kV29 dc29 pm29 cd29 ct29 oc30 kV30 dc30 pm30 cd30 ct30 : Value}
    (aC_BadRatio : PySem.W.nsIn K mainGlobals "BadRatio" = some (some (.ref C_BadRatio)))
    (xL_BadRatio : K.lookup C_BadRatio = some (excClassObj nm_BadRatio q_BadRatio C_BadRatio N_BadRatio bs_BadRatio [.ref CD, .type "ValueError", .type "Exception", .type "BaseException", .type "object"] true sn_BadRatio sub_BadRatio ab_BadRatio col_BadRatio dd_BadRatio m0_BadRatio m1_BadRatio m2_BadRatio m3_BadRatio m5_BadRatio "ValueError.__new__"))
    (sa_BadRatio : PySem.W.findIn K (.ref C_BadRatio) "__setattr__" = some (some (.builtin "object.__setattr__")))
    (ga_BadRatio : PySem.W.findIn K (.ref C_BadRatio) "__getattribute__" = some (some (.builtin "BaseException.__getattribute__")))
    (gg_BadRatio : PySem.W.findIn K (.ref C_BadRatio) "__getattr__" = some none)
    (nb_BadRatio : PySem.W.findIn K (.ref C_BadRatio) "bottom" = some none)
    (aI_BadRatio : PySem.W.findIn K (.ref C_BadRatio) "__init__" = some (some (.ref fI_BadRatio)))
    (tI_BadRatio : PySem.W.typeIn K (.ref fI_BadRatio) = some (.type "function"))
    (lI_BadRatio : K.lookup fI_BadRatio = some ⟨ocI_BadRatio, odI_BadRatio, .func (PySem.W.fnOf "__init__" "BadRatio.__init__" (defArgs s_BadRatio_init) (defBody s_BadRatio_init) (defScope s_BadRatio_init) .none kVI_BadRatio dcI_BadRatio pmI_BadRatio anI_BadRatio cdI_BadRatio ctI_BadRatio), slI_BadRatio⟩)
    (cI_BadRatio : PySem.W.codeIn K cdI_BadRatio "BadRatio.__init__" = true)
    (kC_BadRatio : PySem.W.keepIn K (.ref C_BadRatio) = true)
    (eC_BadRatio : PySem.W.subIn K (.ref C_BadRatio) (.type "BaseException") = some true)
    (tC_BadRatio : PySem.W.typeIn K (.ref C_BadRatio) = some (.type "type"))
    (hC_BadRatio : PySem.W.hasDictIn K C_BadRatio = true)
    (iC_BadRatio : PySem.W.isClsIn K C_BadRatio = true)
    (sC_BadRatio : PySem.W.subIn K (.ref C_BadRatio) (.ref C_BadRatio) = some true)
    (aC_BadShares : PySem.W.nsIn K mainGlobals "BadShares" = some (some (.ref C_BadShares)))
    (xB_BadShares : PySem.W.excIn K C_BadShares [.type "ValueError", .type "Exception", .type "BaseException", .type "object"] "ValueError.__new__" = true)
    (kC_BadShares : PySem.W.keepIn K (.ref C_BadShares) = true)
    (eC_BadShares : PySem.W.subIn K (.ref C_BadShares) (.type "BaseException") = some true)
    (tC_BadShares : PySem.W.typeIn K (.ref C_BadShares) = some (.type "type"))
    (iC_BadShares : PySem.W.isClsIn K C_BadShares = true)
    (sC_BadShares : PySem.W.subIn K (.ref C_BadShares) (.ref C_BadShares) = some true)
    (aC_NotDivision : PySem.W.nsIn K mainGlobals "NotDivision" = some (some (.ref C_NotDivision)))
    (xB_NotDivision : PySem.W.excIn K C_NotDivision [.type "ValueError", .type "Exception", .type "BaseException", .type "object"] "ValueError.__new__" = true)
    (kC_NotDivision : PySem.W.keepIn K (.ref C_NotDivision) = true)
    (eC_NotDivision : PySem.W.subIn K (.ref C_NotDivision) (.type "BaseException") = some true)
    (tC_NotDivision : PySem.W.typeIn K (.ref C_NotDivision) = some (.type "type"))
    (iC_NotDivision : PySem.W.isClsIn K C_NotDivision = true)
    (sC_NotDivision : PySem.W.subIn K (.ref C_NotDivision) (.ref C_NotDivision) = some true)
    (aC_Mismatch : PySem.W.nsIn K mainGlobals "Mismatch" = some (some (.ref C_Mismatch)))
    (xB_Mismatch : PySem.W.excIn K C_Mismatch [.type "ValueError", .type "Exception", .type "BaseException", .type "object"] "ValueError.__new__" = true)
    (kC_Mismatch : PySem.W.keepIn K (.ref C_Mismatch) = true)
    (eC_Mismatch : PySem.W.subIn K (.ref C_Mismatch) (.type "BaseException") = some true)
    (tC_Mismatch : PySem.W.typeIn K (.ref C_Mismatch) = some (.type "type"))
    (iC_Mismatch : PySem.W.isClsIn K C_Mismatch = true)
    (sC_Mismatch : PySem.W.subIn K (.ref C_Mismatch) (.ref C_Mismatch) = some true)
    (cc_MOST_PLAYERS : PySem.W.nsIn K mainGlobals "MOST_PLAYERS" = some (some (.int 5 tc_MOST_PLAYERS)))
    (aR_ratio : PySem.W.nsIn K mainGlobals "ratio" = some (some (.ref fR_ratio)))
    (lR_ratio : K.lookup fR_ratio = some ⟨ocR_ratio, odR_ratio, .func (PySem.W.fnOf "ratio" "ratio" (defArgs s_ratio) (defBody s_ratio) (defScope s_ratio) (.ref T_ratio) kVR_ratio dcR_ratio pmR_ratio anR_ratio cdR_ratio ctR_ratio), slR_ratio⟩)
    (cR_ratio : PySem.W.codeIn K cdR_ratio "ratio" = true)
    (kR_ratio : PySem.W.keepIn K (.ref fR_ratio) = true)
    (lT_ratio : K.lookup T_ratio = some to_ratio)
    (oT_ratio : to_ratio.data = .seq [.int 1 tt_ratio].toArray tn_ratio)
    (hx35a : PySem.W.exmOne K (.ref C_NotDivision) (.ref C_BadShares) = some false)
    (hx35b : PySem.W.exmOne K (.ref C_Mismatch) (.ref C_BadShares) = some false)
    (hx35c : PySem.W.exmOne K (.ref C_Mismatch) (.ref C_NotDivision) = some false)
    (aL : PySem.W.nsIn K mainGlobals "law" = some (some (.ref fL)))
    (lL : K.lookup fL = some ⟨ocL, odL, .func (PySem.W.fnOf "law" "law" (defArgs s_law) (defBody s_law) (defScope s_law) .none kVL dcL pmL anL cdL ctL), slL⟩)
    (cL : PySem.W.codeIn K cdL "law" = true)
    (a0 : PySem.W.nsIn K mainGlobals "common_divisor" = some (some (.ref f0)))
    (l0 : K.lookup f0 = some ⟨oc0, od0, .func (PySem.W.fnOf "common_divisor" "common_divisor" (defArgs s_common_divisor) (defBody s_common_divisor) (defScope s_common_divisor) .none kV0 dc0 pm0 an0 cd0 ct0), sl0⟩)
    (c0 : PySem.W.codeIn K cd0 "common_divisor" = true)
    (k0 : PySem.W.keepIn K (.ref f0) = true)
    (a1 : PySem.W.nsIn K mainGlobals "scaled" = some (some (.ref f1)))
    (l1 : K.lookup f1 = some ⟨oc1, od1, .func (PySem.W.fnOf "scaled" "scaled" (defArgs s_scaled) (defBody s_scaled) (defScope s_scaled) .none kV1 dc1 pm1 an1 cd1 ct1), sl1⟩)
    (c1 : PySem.W.codeIn K cd1 "scaled" = true)
    (k1 : PySem.W.keepIn K (.ref f1) = true)
    (a2 : PySem.W.nsIn K mainGlobals "together" = some (some (.ref f2)))
    (l2 : K.lookup f2 = some ⟨oc2, od2, .func (PySem.W.fnOf "together" "together" (defArgs s_together) (defBody s_together) (defScope s_together) .none kV2 dc2 pm2 an2 cd2 ct2), sl2⟩)
    (c2 : PySem.W.codeIn K cd2 "together" = true)
    (k2 : PySem.W.keepIn K (.ref f2) = true)
    (a3 : PySem.W.nsIn K mainGlobals "plain_integer" = some (some (.ref f3)))
    (l3 : K.lookup f3 = some ⟨oc3, od3, .func (PySem.W.fnOf "plain_integer" "plain_integer" (defArgs s_plain_integer) (defBody s_plain_integer) (defScope s_plain_integer) .none kV3 dc3 pm3 an3 cd3 ct3), sl3⟩)
    (c3 : PySem.W.codeIn K cd3 "plain_integer" = true)
    (k3 : PySem.W.keepIn K (.ref f3) = true)
    (a4 : PySem.W.nsIn K mainGlobals "integer_list" = some (some (.ref f4)))
    (l4 : K.lookup f4 = some ⟨oc4, od4, .func (PySem.W.fnOf "integer_list" "integer_list" (defArgs s_integer_list) (defBody s_integer_list) (defScope s_integer_list) .none kV4 dc4 pm4 an4 cd4 ct4), sl4⟩)
    (c4 : PySem.W.codeIn K cd4 "integer_list" = true)
    (k4 : PySem.W.keepIn K (.ref f4) = true)
    (a5 : PySem.W.nsIn K mainGlobals "is_ratio" = some (some (.ref f5)))
    (l5 : K.lookup f5 = some ⟨oc5, od5, .func (PySem.W.fnOf "is_ratio" "is_ratio" (defArgs s_is_ratio) (defBody s_is_ratio) (defScope s_is_ratio) .none kV5 dc5 pm5 an5 cd5 ct5), sl5⟩)
    (c5 : PySem.W.codeIn K cd5 "is_ratio" = true)
    (k5 : PySem.W.keepIn K (.ref f5) = true)
    (a6 : PySem.W.nsIn K mainGlobals "ratio_list" = some (some (.ref f6)))
    (l6 : K.lookup f6 = some ⟨oc6, od6, .func (PySem.W.fnOf "ratio_list" "ratio_list" (defArgs s_ratio_list) (defBody s_ratio_list) (defScope s_ratio_list) .none kV6 dc6 pm6 an6 cd6 ct6), sl6⟩)
    (c6 : PySem.W.codeIn K cd6 "ratio_list" = true)
    (k6 : PySem.W.keepIn K (.ref f6) = true)
    (a7 : PySem.W.nsIn K mainGlobals "are_amounts" = some (some (.ref f7)))
    (l7 : K.lookup f7 = some ⟨oc7, od7, .func (PySem.W.fnOf "are_amounts" "are_amounts" (defArgs s_are_amounts) (defBody s_are_amounts) (defScope s_are_amounts) .none kV7 dc7 pm7 an7 cd7 ct7), sl7⟩)
    (c7 : PySem.W.codeIn K cd7 "are_amounts" = true)
    (k7 : PySem.W.keepIn K (.ref f7) = true)
    (a8 : PySem.W.nsIn K mainGlobals "are_shares" = some (some (.ref f8)))
    (l8 : K.lookup f8 = some ⟨oc8, od8, .func (PySem.W.fnOf "are_shares" "are_shares" (defArgs s_are_shares) (defBody s_are_shares) (defScope s_are_shares) .none kV8 dc8 pm8 an8 cd8 ct8), sl8⟩)
    (c8 : PySem.W.codeIn K cd8 "are_shares" = true)
    (k8 : PySem.W.keepIn K (.ref f8) = true)
    (a9 : PySem.W.nsIn K mainGlobals "mean" = some (some (.ref f9)))
    (l9 : K.lookup f9 = some ⟨oc9, od9, .func (PySem.W.fnOf "mean" "mean" (defArgs s_mean) (defBody s_mean) (defScope s_mean) .none kV9 dc9 pm9 an9 cd9 ct9), sl9⟩)
    (c9 : PySem.W.codeIn K cd9 "mean" = true)
    (k9 : PySem.W.keepIn K (.ref f9) = true)
    (a10 : PySem.W.nsIn K mainGlobals "blended" = some (some (.ref f10)))
    (l10 : K.lookup f10 = some ⟨oc10, od10, .func (PySem.W.fnOf "blended" "blended" (defArgs s_blended) (defBody s_blended) (defScope s_blended) .none kV10 dc10 pm10 an10 cd10 ct10), sl10⟩)
    (c10 : PySem.W.codeIn K cd10 "blended" = true)
    (k10 : PySem.W.keepIn K (.ref f10) = true)
    (a11 : PySem.W.nsIn K mainGlobals "_law_pool" = some (some (.ref f11)))
    (l11 : K.lookup f11 = some ⟨oc11, od11, .func (PySem.W.fnOf "_law_pool" "_law_pool" (defArgs s_law_pool) (defBody s_law_pool) (defScope s_law_pool) .none kV11 dc11 pm11 an11 cd11 ct11), sl11⟩)
    (c11 : PySem.W.codeIn K cd11 "_law_pool" = true)
    (k11 : PySem.W.keepIn K (.ref f11) = true)
    (a12 : PySem.W.nsIn K mainGlobals "_law_take" = some (some (.ref f12)))
    (l12 : K.lookup f12 = some ⟨oc12, od12, .func (PySem.W.fnOf "_law_take" "_law_take" (defArgs s_law_take) (defBody s_law_take) (defScope s_law_take) .none kV12 dc12 pm12 an12 cd12 ct12), sl12⟩)
    (c12 : PySem.W.codeIn K cd12 "_law_take" = true)
    (k12 : PySem.W.keepIn K (.ref f12) = true)
    (a13 : PySem.W.nsIn K mainGlobals "_law_is_number" = some (some (.ref f13)))
    (l13 : K.lookup f13 = some ⟨oc13, od13, .func (PySem.W.fnOf "_law_is_number" "_law_is_number" (defArgs s_law_is_number) (defBody s_law_is_number) (defScope s_law_is_number) .none kV13 dc13 pm13 an13 cd13 ct13), sl13⟩)
    (c13 : PySem.W.codeIn K cd13 "_law_is_number" = true)
    (k13 : PySem.W.keepIn K (.ref f13) = true)
    (a14 : PySem.W.nsIn K mainGlobals "_law_divisor" = some (some (.ref f14)))
    (l14 : K.lookup f14 = some ⟨oc14, od14, .func (PySem.W.fnOf "_law_divisor" "_law_divisor" (defArgs s_law_divisor) (defBody s_law_divisor) (defScope s_law_divisor) .none kV14 dc14 pm14 an14 cd14 ct14), sl14⟩)
    (c14 : PySem.W.codeIn K cd14 "_law_divisor" = true)
    (k14 : PySem.W.keepIn K (.ref f14) = true)
    (a15 : PySem.W.nsIn K mainGlobals "_law_ratio" = some (some (.ref f15)))
    (l15 : K.lookup f15 = some ⟨oc15, od15, .func (PySem.W.fnOf "_law_ratio" "_law_ratio" (defArgs s_law_ratio) (defBody s_law_ratio) (defScope s_law_ratio) .none kV15 dc15 pm15 an15 cd15 ct15), sl15⟩)
    (c15 : PySem.W.codeIn K cd15 "_law_ratio" = true)
    (k15 : PySem.W.keepIn K (.ref f15) = true)
    (a16 : PySem.W.nsIn K mainGlobals "_law_groups" = some (some (.ref f16)))
    (l16 : K.lookup f16 = some ⟨oc16, od16, .func (PySem.W.fnOf "_law_groups" "_law_groups" (defArgs s_law_groups) (defBody s_law_groups) (defScope s_law_groups) .none kV16 dc16 pm16 an16 cd16 ct16), sl16⟩)
    (c16 : PySem.W.codeIn K cd16 "_law_groups" = true)
    (k16 : PySem.W.keepIn K (.ref f16) = true)
    (a17 : PySem.W.nsIn K mainGlobals "_law_few" = some (some (.ref f17)))
    (l17 : K.lookup f17 = some ⟨oc17, od17, .func (PySem.W.fnOf "_law_few" "_law_few" (defArgs s_law_few) (defBody s_law_few) (defScope s_law_few) .none kV17 dc17 pm17 an17 cd17 ct17), sl17⟩)
    (c17 : PySem.W.codeIn K cd17 "_law_few" = true)
    (k17 : PySem.W.keepIn K (.ref f17) = true)
    (a18 : PySem.W.nsIn K mainGlobals "_law_is_ratio" = some (some (.ref f18)))
    (l18 : K.lookup f18 = some ⟨oc18, od18, .func (PySem.W.fnOf "_law_is_ratio" "_law_is_ratio" (defArgs s_law_is_ratio) (defBody s_law_is_ratio) (defScope s_law_is_ratio) .none kV18 dc18 pm18 an18 cd18 ct18), sl18⟩)
    (c18 : PySem.W.codeIn K cd18 "_law_is_ratio" = true)
    (k18 : PySem.W.keepIn K (.ref f18) = true)
    (a19 : PySem.W.nsIn K mainGlobals "_law_plus" = some (some (.ref f19)))
    (l19 : K.lookup f19 = some ⟨oc19, od19, .func (PySem.W.fnOf "_law_plus" "_law_plus" (defArgs s_law_plus) (defBody s_law_plus) (defScope s_law_plus) .none kV19 dc19 pm19 an19 cd19 ct19), sl19⟩)
    (c19 : PySem.W.codeIn K cd19 "_law_plus" = true)
    (k19 : PySem.W.keepIn K (.ref f19) = true)
    (a20 : PySem.W.nsIn K mainGlobals "_law_total" = some (some (.ref f20)))
    (l20 : K.lookup f20 = some ⟨oc20, od20, .func (PySem.W.fnOf "_law_total" "_law_total" (defArgs s_law_total) (defBody s_law_total) (defScope s_law_total) .none kV20 dc20 pm20 an20 cd20 ct20), sl20⟩)
    (c20 : PySem.W.codeIn K cd20 "_law_total" = true)
    (k20 : PySem.W.keepIn K (.ref f20) = true)
    (a21 : PySem.W.nsIn K mainGlobals "_law_amount" = some (some (.ref f21)))
    (l21 : K.lookup f21 = some ⟨oc21, od21, .func (PySem.W.fnOf "_law_amount" "_law_amount" (defArgs s_law_amount) (defBody s_law_amount) (defScope s_law_amount) .none kV21 dc21 pm21 an21 cd21 ct21), sl21⟩)
    (c21 : PySem.W.codeIn K cd21 "_law_amount" = true)
    (k21 : PySem.W.keepIn K (.ref f21) = true)
    (a22 : PySem.W.nsIn K mainGlobals "_law_complaint" = some (some (.ref f22)))
    (l22 : K.lookup f22 = some ⟨oc22, od22, .func (PySem.W.fnOf "_law_complaint" "_law_complaint" (defArgs s_law_complaint) (defBody s_law_complaint) (defScope s_law_complaint) .none kV22 dc22 pm22 an22 cd22 ct22), sl22⟩)
    (c22 : PySem.W.codeIn K cd22 "_law_complaint" = true)
    (k22 : PySem.W.keepIn K (.ref f22) = true)
    (a23 : PySem.W.nsIn K mainGlobals "_law_is_division" = some (some (.ref f23)))
    (l23 : K.lookup f23 = some ⟨oc23, od23, .func (PySem.W.fnOf "_law_is_division" "_law_is_division" (defArgs s_law_is_division) (defBody s_law_is_division) (defScope s_law_is_division) .none kV23 dc23 pm23 an23 cd23 ct23), sl23⟩)
    (c23 : PySem.W.codeIn K cd23 "_law_is_division" = true)
    (k23 : PySem.W.keepIn K (.ref f23) = true)
    (a24 : PySem.W.nsIn K mainGlobals "_law_calm_for" = some (some (.ref f24)))
    (l24 : K.lookup f24 = some ⟨oc24, od24, .func (PySem.W.fnOf "_law_calm_for" "_law_calm_for" (defArgs s_law_calm_for) (defBody s_law_calm_for) (defScope s_law_calm_for) .none kV24 dc24 pm24 an24 cd24 ct24), sl24⟩)
    (c24 : PySem.W.codeIn K cd24 "_law_calm_for" = true)
    (k24 : PySem.W.keepIn K (.ref f24) = true)
    (a25 : PySem.W.nsIn K mainGlobals "_law_minus" = some (some (.ref f25)))
    (l25 : K.lookup f25 = some ⟨oc25, od25, .func (PySem.W.fnOf "_law_minus" "_law_minus" (defArgs s_law_minus) (defBody s_law_minus) (defScope s_law_minus) .none kV25 dc25 pm25 an25 cd25 ct25), sl25⟩)
    (c25 : PySem.W.codeIn K cd25 "_law_minus" = true)
    (k25 : PySem.W.keepIn K (.ref f25) = true)
    (a26 : PySem.W.nsIn K mainGlobals "_law_told" = some (some (.ref f26)))
    (l26 : K.lookup f26 = some ⟨oc26, od26, .func (PySem.W.fnOf "_law_told" "_law_told" (defArgs s_law_told) (defBody s_law_told) (defScope s_law_told) .none kV26 dc26 pm26 an26 cd26 ct26), sl26⟩)
    (c26 : PySem.W.codeIn K cd26 "_law_told" = true)
    (k26 : PySem.W.keepIn K (.ref f26) = true)
    (a27 : PySem.W.nsIn K mainGlobals "_law_due" = some (some (.ref f27)))
    (l27 : K.lookup f27 = some ⟨oc27, od27, .func (PySem.W.fnOf "_law_due" "_law_due" (defArgs s_law_due) (defBody s_law_due) (defScope s_law_due) .none kV27 dc27 pm27 an27 cd27 ct27), sl27⟩)
    (c27 : PySem.W.codeIn K cd27 "_law_due" = true)
    (k27 : PySem.W.keepIn K (.ref f27) = true)
    (a28 : PySem.W.nsIn K mainGlobals "_law_shares" = some (some (.ref f28)))
    (l28 : K.lookup f28 = some ⟨oc28, od28, .func (PySem.W.fnOf "_law_shares" "_law_shares" (defArgs s_law_shares) (defBody s_law_shares) (defScope s_law_shares) .none kV28 dc28 pm28 an28 cd28 ct28), sl28⟩)
    (c28 : PySem.W.codeIn K cd28 "_law_shares" = true)
    (k28 : PySem.W.keepIn K (.ref f28) = true)
    (a29 : PySem.W.nsIn K mainGlobals "_law_calm_blends" = some (some (.ref f29)))
    (l29 : K.lookup f29 = some ⟨oc29, od29, .func (PySem.W.fnOf "_law_calm_blends" "_law_calm_blends" (defArgs s_law_calm_blends) (defBody s_law_calm_blends) (defScope s_law_calm_blends) .none kV29 dc29 pm29 an29 cd29 ct29), sl29⟩)
    (c29 : PySem.W.codeIn K cd29 "_law_calm_blends" = true)
    (k29 : PySem.W.keepIn K (.ref f29) = true)
    (a30 : PySem.W.nsIn K mainGlobals "_law_weights_of" = some (some (.ref f30)))
    (l30 : K.lookup f30 = some ⟨oc30, od30, .func (PySem.W.fnOf "_law_weights_of" "_law_weights_of" (defArgs s_law_weights_of) (defBody s_law_weights_of) (defScope s_law_weights_of) .none kV30 dc30 pm30 an30 cd30 ct30), sl30⟩)
    (c30 : PySem.W.codeIn K cd30 "_law_weights_of" = true)
    (k30 : PySem.W.keepIn K (.ref f30) = true)
    (z_abs : PySem.W.nsIn K mainGlobals "abs" = some none)
    (z_isinstance : PySem.W.nsIn K mainGlobals "isinstance" = some none)
    (z_int : PySem.W.nsIn K mainGlobals "int" = some none)
    (z_bool : PySem.W.nsIn K mainGlobals "bool" = some none)
    (z_list : PySem.W.nsIn K mainGlobals "list" = some none)
    (z_tuple : PySem.W.nsIn K mainGlobals "tuple" = some none)
    (z_all : PySem.W.nsIn K mainGlobals "all" = some none)
    (z_any : PySem.W.nsIn K mainGlobals "any" = some none)
    (z_len : PySem.W.nsIn K mainGlobals "len" = some none)
    (z_range : PySem.W.nsIn K mainGlobals "range" = some none)
    (z_sorted : PySem.W.nsIn K mainGlobals "sorted" = some none)
    (z_sum : PySem.W.nsIn K mainGlobals "sum" = some none)
    (z_max : PySem.W.nsIn K mainGlobals "max" = some none)
    (z_min : PySem.W.nsIn K mainGlobals "min" = some none)
    (z_zip : PySem.W.nsIn K mainGlobals "zip" = some none) :
    ∃ fd : FuncData, (∀ (s : Shared) (v : Value), BindsTo s fd ⟨[v], []⟩ [("_law_script", v)]) ∧ ∀ base : Heap, K.In base → base.Ns mainGlobals mg → FnOk P w K mg base (L2N.CX P w) 10 fa fd ["_law_script"] (liftSp K spLaw) := by
  have e := hfa.symm.trans (PySem.W.mg_of KI G aL)
  cases e
  have m_abs := PySem.W.mg_none_of KI G z_abs
  have m_isinstance := PySem.W.mg_none_of KI G z_isinstance
  have m_int := PySem.W.mg_none_of KI G z_int
  have m_bool := PySem.W.mg_none_of KI G z_bool
  have m_list := PySem.W.mg_none_of KI G z_list
  have m_tuple := PySem.W.mg_none_of KI G z_tuple
  have m_all := PySem.W.mg_none_of KI G z_all
  have m_any := PySem.W.mg_none_of KI G z_any
  have m_len := PySem.W.mg_none_of KI G z_len
  have m_range := PySem.W.mg_none_of KI G z_range
  have m_sorted := PySem.W.mg_none_of KI G z_sorted
  have m_sum := PySem.W.mg_none_of KI G z_sum
  have m_max := PySem.W.mg_none_of KI G z_max
  have m_min := PySem.W.mg_none_of KI G z_min
  have m_zip := PySem.W.mg_none_of KI G z_zip
  have D_common_divisor : DefT K mg "common_divisor" s_common_divisor ["one", "other"] := deft KI G a0 l0 c0 k0 fun _ _ _ _ _ _ us hl => match us, hl with | [_, _], _ => rfl
  have D_scaled : DefT K mg "scaled" s_scaled ["ratios", "unit"] := deft KI G a1 l1 c1 k1 fun _ _ _ _ _ _ us hl => match us, hl with | [_, _], _ => rfl
  have D_together : DefT K mg "together" s_together ["ratios"] := deft KI G a2 l2 c2 k2 fun _ _ _ _ _ _ us hl => match us, hl with | [_], _ => rfl
  have D_plain_integer : DefT K mg "plain_integer" s_plain_integer ["value"] := deft KI G a3 l3 c3 k3 fun _ _ _ _ _ _ us hl => match us, hl with | [_], _ => rfl
  have D_integer_list : DefT K mg "integer_list" s_integer_list ["value"] := deft KI G a4 l4 c4 k4 fun _ _ _ _ _ _ us hl => match us, hl with | [_], _ => rfl
  have D_is_ratio : DefT K mg "is_ratio" s_is_ratio ["value"] := deft KI G a5 l5 c5 k5 fun _ _ _ _ _ _ us hl => match us, hl with | [_], _ => rfl
  have D_ratio_list : DefT K mg "ratio_list" s_ratio_list ["value"] := deft KI G a6 l6 c6 k6 fun _ _ _ _ _ _ us hl => match us, hl with | [_], _ => rfl
  have D_are_amounts : DefT K mg "are_amounts" s_are_amounts ["value"] := deft KI G a7 l7 c7 k7 fun _ _ _ _ _ _ us hl => match us, hl with | [_], _ => rfl
  have D_are_shares : DefT K mg "are_shares" s_are_shares ["value"] := deft KI G a8 l8 c8 k8 fun _ _ _ _ _ _ us hl => match us, hl with | [_], _ => rfl
  have D_mean : DefT K mg "mean" s_mean ["ratios", "shares"] := deft KI G a9 l9 c9 k9 fun _ _ _ _ _ _ us hl => match us, hl with | [_, _], _ => rfl
  have D_blended : DefT K mg "blended" s_blended ["divisions", "shares"] := deft KI G a10 l10 c10 k10 fun _ _ _ _ _ _ us hl => match us, hl with | [_, _], _ => rfl
  have D_law_pool : DefT K mg "_law_pool" s_law_pool ["_law_script"] := deft KI G a11 l11 c11 k11 fun _ _ _ _ _ _ us hl => match us, hl with | [_], _ => rfl
  have D_law_take : DefT K mg "_law_take" s_law_take ["_law_pool_here", "_law_many"] := deft KI G a12 l12 c12 k12 fun _ _ _ _ _ _ us hl => match us, hl with | [_, _], _ => rfl
  have D_law_is_number : DefT K mg "_law_is_number" s_law_is_number ["_law_thing"] := deft KI G a13 l13 c13 k13 fun _ _ _ _ _ _ us hl => match us, hl with | [_], _ => rfl
  have D_law_divisor : DefT K mg "_law_divisor" s_law_divisor ["_law_numbers"] := deft KI G a14 l14 c14 k14 fun _ _ _ _ _ _ us hl => match us, hl with | [_], _ => rfl
  have D_law_ratio : DefT K mg "_law_ratio" s_law_ratio ["_law_up", "_law_down"] := deft KI G a15 l15 c15 k15 fun _ _ _ _ _ _ us hl => match us, hl with | [_, _], _ => rfl
  have D_law_groups : DefT K mg "_law_groups" s_law_groups ["_law_players"] := deft KI G a16 l16 c16 k16 fun _ _ _ _ _ _ us hl => match us, hl with | [_], _ => rfl
  have D_law_few : DefT K mg "_law_few" s_law_few ["_law_pool_here"] := deft KI G a17 l17 c17 k17 fun _ _ _ _ _ _ us hl => match us, hl with | [_], _ => rfl
  have D_law_is_ratio : DefT K mg "_law_is_ratio" s_law_is_ratio ["_law_value"] := deft KI G a18 l18 c18 k18 fun _ _ _ _ _ _ us hl => match us, hl with | [_], _ => rfl
  have D_law_plus : DefT K mg "_law_plus" s_law_plus ["_law_one", "_law_other"] := deft KI G a19 l19 c19 k19 fun _ _ _ _ _ _ us hl => match us, hl with | [_, _], _ => rfl
  have D_law_total : DefT K mg "_law_total" s_law_total ["_law_ratios"] := deft KI G a20 l20 c20 k20 fun _ _ _ _ _ _ us hl => match us, hl with | [_], _ => rfl
  have D_law_amount : DefT K mg "_law_amount" s_law_amount ["_law_division", "_law_group"] := deft KI G a21 l21 c21 k21 fun _ _ _ _ _ _ us hl => match us, hl with | [_, _], _ => rfl
  have D_law_complaint : DefT K mg "_law_complaint" s_law_complaint ["_law_worths", "_law_division", "_law_group"] := deft KI G a22 l22 c22 k22 fun _ _ _ _ _ _ us hl => match us, hl with | [_, _, _], _ => rfl
  have D_law_is_division : DefT K mg "_law_is_division" s_law_is_division ["_law_worths", "_law_players", "_law_division"] := deft KI G a23 l23 c23 k23 fun _ _ _ _ _ _ us hl => match us, hl with | [_, _, _], _ => rfl
  have D_law_calm_for : DefT K mg "_law_calm_for" s_law_calm_for ["_law_worths", "_law_players", "_law_division", "_law_listed"] := deft KI G a24 l24 c24 k24 fun _ _ _ _ _ _ us hl => match us, hl with | [_, _, _, _], _ => rfl
  have D_law_minus : DefT K mg "_law_minus" s_law_minus ["_law_one", "_law_other"] := deft KI G a25 l25 c25 k25 fun _ _ _ _ _ _ us hl => match us, hl with | [_, _], _ => rfl
  have D_law_told : DefT K mg "_law_told" s_law_told ["_law_lists", "_law_shares_here"] := deft KI G a26 l26 c26 k26 fun _ _ _ _ _ _ us hl => match us, hl with | [_, _], _ => rfl
  have D_law_due : DefT K mg "_law_due" s_law_due ["_law_lists", "_law_shares_here"] := deft KI G a27 l27 c27 k27 fun _ _ _ _ _ _ us hl => match us, hl with | [_, _], _ => rfl
  have D_law_shares : DefT K mg "_law_shares" s_law_shares ["_law_pool_here", "_law_many"] := deft KI G a28 l28 c28 k28 fun _ _ _ _ _ _ us hl => match us, hl with | [_, _], _ => rfl
  have D_law_calm_blends : DefT K mg "_law_calm_blends" s_law_calm_blends ["_law_pool_here"] := deft KI G a29 l29 c29 k29 fun _ _ _ _ _ _ us hl => match us, hl with | [_], _ => rfl
  have D_law_weights_of : DefT K mg "_law_weights_of" s_law_weights_of ["_law_pool_here"] := deft KI G a30 l30 c30 k30 fun _ _ _ _ _ _ us hl => match us, hl with | [_], _ => rfl
  have oex_BadRatio : OexC K C_BadRatio := ⟨⟨nm_BadRatio, q_BadRatio, _, bs_BadRatio, _, sn_BadRatio, sub_BadRatio, ab_BadRatio, col_BadRatio, dd_BadRatio, m0_BadRatio, m1_BadRatio, m2_BadRatio, m3_BadRatio, m5_BadRatio, xL_BadRatio, rfl⟩, sa_BadRatio, eC_BadRatio, tC_BadRatio, kC_BadRatio⟩
  obtain ⟨fdR_ratio, FR_ratio⟩ : ∃ fd, FunD K "ratio" "ratio" (defArgs s_ratio) (defBody s_ratio) (defScope s_ratio) [.int 1] [] fR_ratio fd := ⟨_, ⟨ocR_ratio, odR_ratio, _, kVR_ratio, dcR_ratio, pmR_ratio, anR_ratio, cdR_ratio, ctR_ratio, slR_ratio, rfl, lR_ratio, cR_ratio, .inr ⟨by decide, T_ratio, to_ratio, [.int 1 tt_ratio], tn_ratio, rfl, lT_ratio, oT_ratio, .cons ⟨tt_ratio, rfl⟩ .nil⟩, .inl rfl⟩, kR_ratio⟩
  have mR_ratio := PySem.W.mg_of KI G aR_ratio
  have bR2_ratio : Binds K fdR_ratio ["top", "bottom"] [] := by
    obtain ⟨ds, v, b⟩ := FR_ratio.binds1 (ps := ["top", "bottom"]) 2 1 (by decide) rfl fun T kV doc pm an cdv ct us its h1 h2 => match us, its, h1, h2 with | [_, _], [_], _, _ => ⟨_, rfl, rfl⟩
    cases v.zero
    exact b
  have bR1_ratio : ∃ ds, Vals [V.int 1] ds ∧ Binds K fdR_ratio ["top", "bottom"] ds := FR_ratio.binds1 (ps := ["top", "bottom"]) 1 0 (by decide) rfl fun T kV doc pm an cdv ct us its h1 h2 => match us, its, h1, h2 with | [_], [_], _, _ => ⟨_, rfl, rfl⟩
  have hc_MOST_PLAYERS : ∃ u, mg "MOST_PLAYERS" = some u ∧ RelV (.int 5) u := ⟨_, PySem.W.mg_of KI G cc_MOST_PLAYERS, ⟨tc_MOST_PLAYERS, rfl⟩⟩
  refine ⟨PySem.W.fnOf "law" "law" (defArgs s_law) (defBody s_law) (defScope s_law) .none kVL dcL pmL anL cdL ctL, fun s v => .of_eq rfl, fun base _ _ => ?_⟩
  have TE_BadRatio : ExcT P w K mg base "BadRatio" "bottom" C_BadRatio := ⟨PySem.W.mg_of KI G aC_BadRatio, oex_BadRatio, nb_BadRatio, ⟨ga_BadRatio, gg_BadRatio, eC_BadRatio, hC_BadRatio⟩, exm_own eC_BadRatio iC_BadRatio tC_BadRatio sC_BadRatio, fI_BadRatio, _, aI_BadRatio, tI_BadRatio, ok_init_BadRatio oex_BadRatio nb_BadRatio lI_BadRatio cI_BadRatio, .all fun us hl => match us, hl with | [_, _], _ => rfl⟩
  have TB_BadShares : BareT K mg "BadShares" C_BadShares := ⟨PySem.W.mg_of KI G aC_BadShares, ⟨_, _, _, _, PySem.F.excBase_ValueError, xB_BadShares⟩, kC_BadShares, eC_BadShares, tC_BadShares, exm_own eC_BadShares iC_BadShares tC_BadShares sC_BadShares⟩
  have TB_NotDivision : BareT K mg "NotDivision" C_NotDivision := ⟨PySem.W.mg_of KI G aC_NotDivision, ⟨_, _, _, _, PySem.F.excBase_ValueError, xB_NotDivision⟩, kC_NotDivision, eC_NotDivision, tC_NotDivision, exm_own eC_NotDivision iC_NotDivision tC_NotDivision sC_NotDivision⟩
  have TB_Mismatch : BareT K mg "Mismatch" C_Mismatch := ⟨PySem.W.mg_of KI G aC_Mismatch, ⟨_, _, _, _, PySem.F.excBase_ValueError, xB_Mismatch⟩, kC_Mismatch, eC_Mismatch, tC_Mismatch, exm_own eC_Mismatch iC_Mismatch tC_Mismatch sC_Mismatch⟩
  have Cgcd := ok_gcd (P := P) (w := w) (base := base) D_common_divisor m_abs
  have Fr := fn_ratio (P := P) (w := w) (base := base) FR_ratio Cgcd TE_BadRatio
  have Cr : Cal P w K mg base 3 "ratio" (spRatio C_BadRatio) := ⟨fR_ratio, _, _, Fr, mR_ratio, kR_ratio, bR2_ratio⟩
  have Csc := ok_scaled (P := P) (w := w) (base := base) D_scaled
  have Ctg := ok_together D_together Cgcd Csc
  have Cpi := ok_pi (P := P) (w := w) (base := base) D_plain_integer m_isinstance m_int m_bool
  have Cil := ok_il D_integer_list Cpi m_isinstance m_list m_tuple m_all
  have Cisr := ok_isr D_is_ratio Cil Cgcd m_isinstance m_tuple m_len
  have Crl := ok_rl3 D_ratio_list Cisr m_isinstance m_list m_tuple m_all
  have Carea := ok_area3 D_are_amounts Crl hc_MOST_PLAYERS m_len
  have Csh := ok_shares D_are_shares Cil m_any m_all
  have Cme := ok_mean D_mean Ctg Cr m_sum m_zip
  have Cb := ok_blended TB_BadShares TB_NotDivision TB_Mismatch Csh Carea Cme D_blended m_len m_all m_any m_range
  have ex : Exs K C_BadShares C_NotDivision C_Mismatch := ⟨hx35a, hx35b, hx35c⟩
  have Cpo := ok_pool (P := P) (w := w) (base := base) D_law_pool m_list
  have Cta := ok_take (P := P) (w := w) (base := base) D_law_take m_int m_max m_len
  have Clg := ok_lgroups (P := P) (w := w) (base := base) D_law_groups m_range m_sorted
  have Cfe := ok_few D_law_few Cta m_int
  have Cv := ok_divisor (P := P) (w := w) (base := base) D_law_divisor m_int m_abs
  have Clr := ok_lratio D_law_ratio Cv
  have Cnu := ok_numG (P := P) (w := w) (base := base) D_law_is_number m_isinstance m_int m_bool
  have Clir := ok_lisr D_law_is_ratio Cnu Cv m_isinstance m_tuple m_len
  have Cpl := ok_plusR D_law_plus Clr
  have Cmi := ok_minusR D_law_minus Clr
  have Ctt := ok_total D_law_total Cpl
  have Caml := ok_amtL D_law_amount Ctt
  have Cco := ok_compL D_law_complaint Caml Clr
  have Cid := ok_lisd D_law_is_division Clir Ctt m_isinstance m_list m_len m_all m_tuple m_range
  have Cca := ok_calmL D_law_calm_for Cid Cco
  have Cto := ok_told ex TB_BadShares TB_NotDivision TB_Mismatch Cb D_law_told
  have Cd := ok_due Cnu Clir Clr Cpl D_law_due m_len m_sum m_range
  have Cls := ok_lshares Cta D_law_shares m_range
  have Cw := ok_weights Cta D_law_weights_of
  have Ccb := ok_calmB Cta Cfe Clr Cmi Ctt Caml Clg Cb Cw Cca D_law_calm_blends m_range m_min
  exact cal_fn lL cL sc_law (fun ds μ Φ Ψ ⟨ns, e, _⟩ => by rw [e]; rfl) (body_law Cta Cpo Clr Cls Cd Cto Cb Ccb m_int m_range m_list m_tuple m_isinstance)
end
end K35

open PySem PySem.Spec PyProof.Rows L2 DL
set_option maxHeartbeats 0 in
theorem PySem.Challenge.cw_leastcomplaint_k35_blended_divisions_holds : PySem.Challenge.rw_leastcomplaint_k35_blended_divisions.Holds := by
  w_on; o_law; k_head; (case hw => w_witness2)
  k_fill
  refine L2.walk_of (l := PySem.Challenge.rw_leastcomplaint_k35_blended_divisions) (n := 63) (k := 10) (x := "_law_script") (CX := fun w => L2N.CX (PySem.Challenge.rw_leastcomplaint_k35_blended_divisions).prog w) (sp := fun w => liftSp _ K35.spLaw) rfl (by decide) rfl ⟨rfl, by decide, by decide⟩ (fun w h Y => PySem.W.kIn_of Y) ?F (fun _ _ a ns hl _ hS => lift_law hS ⟨ns, rfl, hl, fun _ => rfl⟩) (fun w H s e s' z => cx_none H s e s' z)
  case F =>
    intro w mg fa h KI G hmg
    refine' K35.all_mk KI G hmg ?aC_BadRatio ?xL_BadRatio ?sa_BadRatio ?ga_BadRatio ?gg_BadRatio ?nb_BadRatio ?aI_BadRatio ?tI_BadRatio ?lI_BadRatio ?cI_BadRatio ?kC_BadRatio ?eC_BadRatio ?tC_BadRatio ?hC_BadRatio ?iC_BadRatio ?sC_BadRatio ?aC_BadShares ?xB_BadShares ?kC_BadShares ?eC_BadShares ?tC_BadShares ?iC_BadShares ?sC_BadShares ?aC_NotDivision ?xB_NotDivision ?kC_NotDivision ?eC_NotDivision ?tC_NotDivision ?iC_NotDivision ?sC_NotDivision ?aC_Mismatch ?xB_Mismatch ?kC_Mismatch ?eC_Mismatch ?tC_Mismatch ?iC_Mismatch ?sC_Mismatch ?cc_MOST_PLAYERS ?aR_ratio ?lR_ratio ?cR_ratio ?kR_ratio ?lT_ratio ?oT_ratio ?hx35a ?hx35b ?hx35c ?aL ?lL ?cL ?a0 ?l0 ?c0 ?k0 ?a1 ?l1 ?c1 ?k1 ?a2 ?l2 ?c2 ?k2 ?a3 ?l3 ?c3 ?k3 ?a4 ?l4 ?c4 ?k4 ?a5 ?l5 ?c5 ?k5 ?a6 ?l6 ?c6 ?k6 ?a7 ?l7 ?c7 ?k7 ?a8 ?l8 ?c8 ?k8 ?a9 ?l9 ?c9 ?k9 ?a10 ?l10 ?c10 ?k10 ?a11 ?l11 ?c11 ?k11 ?a12 ?l12 ?c12 ?k12 ?a13 ?l13 ?c13 ?k13 ?a14 ?l14 ?c14 ?k14 ?a15 ?l15 ?c15 ?k15 ?a16 ?l16 ?c16 ?k16 ?a17 ?l17 ?c17 ?k17 ?a18 ?l18 ?c18 ?k18 ?a19 ?l19 ?c19 ?k19 ?a20 ?l20 ?c20 ?k20 ?a21 ?l21 ?c21 ?k21 ?a22 ?l22 ?c22 ?k22 ?a23 ?l23 ?c23 ?k23 ?a24 ?l24 ?c24 ?k24 ?a25 ?l25 ?c25 ?k25 ?a26 ?l26 ?c26 ?k26 ?a27 ?l27 ?c27 ?k27 ?a28 ?l28 ?c28 ?k28 ?a29 ?l29 ?c29 ?k29 ?a30 ?l30 ?c30 ?k30 ?z_abs ?z_isinstance ?z_int ?z_bool ?z_list ?z_tuple ?z_all ?z_any ?z_len ?z_range ?z_sorted ?z_sum ?z_max ?z_min ?z_zip
    (case aC_BadRatio => k_is)
    (case xL_BadRatio => k_is)
    (case sa_BadRatio => k_is)
    (case ga_BadRatio => k_is)
    (case gg_BadRatio => k_is)
    (case nb_BadRatio => k_is)
    (case aI_BadRatio => k_is)
    (case tI_BadRatio => k_is)
    (case lI_BadRatio => k_is)
    (case cI_BadRatio => k_is)
    (case kC_BadRatio => k_is)
    (case eC_BadRatio => k_is)
    (case tC_BadRatio => k_is)
    (case hC_BadRatio => k_is)
    (case iC_BadRatio => k_is)
    (case sC_BadRatio => first | rfl | k_is)
    (case aC_BadShares => k_is)
    (case xB_BadShares => k_exc)
    (case kC_BadShares => k_is)
    (case eC_BadShares => k_is)
    (case tC_BadShares => k_is)
    (case iC_BadShares => k_is)
    (case sC_BadShares => first | rfl | k_is)
    (case aC_NotDivision => k_is)
    (case xB_NotDivision => k_exc)
    (case kC_NotDivision => k_is)
    (case eC_NotDivision => k_is)
    (case tC_NotDivision => k_is)
    (case iC_NotDivision => k_is)
    (case sC_NotDivision => first | rfl | k_is)
    (case aC_Mismatch => k_is)
    (case xB_Mismatch => k_exc)
    (case kC_Mismatch => k_is)
    (case eC_Mismatch => k_is)
    (case tC_Mismatch => k_is)
    (case iC_Mismatch => k_is)
    (case sC_Mismatch => first | rfl | k_is)
    (case cc_MOST_PLAYERS => k_is)
    (case aR_ratio => k_is)
    (case lR_ratio => k_is)
    (case cR_ratio => k_is)
    (case kR_ratio => k_is)
    (case lT_ratio => k_is)
    (case oT_ratio => first | rfl | k_is)
    (case hx35a => first | kit_is | kts_exm | k_is)
    (case hx35b => first | kit_is | kts_exm | k_is)
    (case hx35c => first | kit_is | kts_exm | k_is)
    (case aL => k_is)
    (case lL => k_is)
    (case cL => k_is)
    (case a0 => k_is)
    (case l0 => k_is)
    (case c0 => k_is)
    (case k0 => k_is)
    (case a1 => k_is)
    (case l1 => k_is)
    (case c1 => k_is)
    (case k1 => k_is)
    (case a2 => k_is)
    (case l2 => k_is)
    (case c2 => k_is)
    (case k2 => k_is)
    (case a3 => k_is)
    (case l3 => k_is)
    (case c3 => k_is)
    (case k3 => k_is)
    (case a4 => k_is)
    (case l4 => k_is)
    (case c4 => k_is)
    (case k4 => k_is)
    (case a5 => k_is)
    (case l5 => k_is)
    (case c5 => k_is)
    (case k5 => k_is)
    (case a6 => k_is)
    (case l6 => k_is)
    (case c6 => k_is)
    (case k6 => k_is)
    (case a7 => k_is)
    (case l7 => k_is)
    (case c7 => k_is)
    (case k7 => k_is)
    (case a8 => k_is)
    (case l8 => k_is)
    (case c8 => k_is)
    (case k8 => k_is)
    (case a9 => k_is)
    (case l9 => k_is)
    (case c9 => k_is)
    (case k9 => k_is)
    (case a10 => k_is)
    (case l10 => k_is)
    (case c10 => k_is)
    (case k10 => k_is)
    (case a11 => k_is)
    (case l11 => k_is)
    (case c11 => k_is)
    (case k11 => k_is)
    (case a12 => k_is)
    (case l12 => k_is)
    (case c12 => k_is)
    (case k12 => k_is)
    (case a13 => k_is)
    (case l13 => k_is)
    (case c13 => k_is)
    (case k13 => k_is)
    (case a14 => k_is)
    (case l14 => k_is)
    (case c14 => k_is)
    (case k14 => k_is)
    (case a15 => k_is)
    (case l15 => k_is)
    (case c15 => k_is)
    (case k15 => k_is)
    (case a16 => k_is)
    (case l16 => k_is)
    (case c16 => k_is)
    (case k16 => k_is)
    (case a17 => k_is)
    (case l17 => k_is)
    (case c17 => k_is)
    (case k17 => k_is)
    (case a18 => k_is)
    (case l18 => k_is)
    (case c18 => k_is)
    (case k18 => k_is)
    (case a19 => k_is)
    (case l19 => k_is)
    (case c19 => k_is)
    (case k19 => k_is)
    (case a20 => k_is)
    (case l20 => k_is)
    (case c20 => k_is)
    (case k20 => k_is)
    (case a21 => k_is)
    (case l21 => k_is)
    (case c21 => k_is)
    (case k21 => k_is)
    (case a22 => k_is)
    (case l22 => k_is)
    (case c22 => k_is)
    (case k22 => k_is)
    (case a23 => k_is)
    (case l23 => k_is)
    (case c23 => k_is)
    (case k23 => k_is)
    (case a24 => k_is)
    (case l24 => k_is)
    (case c24 => k_is)
    (case k24 => k_is)
    (case a25 => k_is)
    (case l25 => k_is)
    (case c25 => k_is)
    (case k25 => k_is)
    (case a26 => k_is)
    (case l26 => k_is)
    (case c26 => k_is)
    (case k26 => k_is)
    (case a27 => k_is)
    (case l27 => k_is)
    (case c27 => k_is)
    (case k27 => k_is)
    (case a28 => k_is)
    (case l28 => k_is)
    (case c28 => k_is)
    (case k28 => k_is)
    (case a29 => k_is)
    (case l29 => k_is)
    (case c29 => k_is)
    (case k29 => k_is)
    (case a30 => k_is)
    (case l30 => k_is)
    (case c30 => k_is)
    (case k30 => k_is)
    (case z_abs => k_is)
    (case z_isinstance => k_is)
    (case z_int => k_is)
    (case z_bool => k_is)
    (case z_list => k_is)
    (case z_tuple => k_is)
    (case z_all => k_is)
    (case z_any => k_is)
    (case z_len => k_is)
    (case z_range => k_is)
    (case z_sorted => k_is)
    (case z_sum => k_is)
    (case z_max => k_is)
    (case z_min => k_is)
    (case z_zip => k_is)

