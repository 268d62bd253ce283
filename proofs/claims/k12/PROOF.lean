import PyProof.Rows.All
import Wide.All
import OpenK.AllK
import Wide.FinOn
import HandS.ForMost
import HandS.IsInst
import HandS.Property
import HandS.Call
import HandS.List
import HandS.Ends
import KE.KOpsOwn
import HandS.Gcd
import HandS.Wide
import HandS.Defaults
import HandS.FStr
import HandS.Style
import HandS.TupMul
import HandS.MakeKw
import HandS.Small
import HandS.ExcInit
import HandS.TryOnly
import HandS.ExcOwn
import HandS.WordsExc
import HandS.Walk
import PySem.Challenge.RW_tracewords_k12_any_values_as_tables
set_option Elab.async false
set_option linter.all false
set_option maxRecDepth 100000
set_option maxHeartbeats 2000000
namespace TW
open PySem L2 Builtin

/-- x is written as t at every place where the frames are ours, no writing of the objects as is under way, and Room lv is left; nothing that is tracked changes -/
def Rp (X : Cx) (H : Hp) (as : List Addr) (lv : Nat) (x : V) (t : Str) : Prop :=
  ∀ (A : Around) (g : List Code) (pins : List (Addr × Obj)) (σ : L2.St) (s : Shared) (u : Value) (b : Nat) (E : Value → Shared → Prop) (Q : Str → Shared → Prop),
    A.frames = some X.stack → A.guards = some g → (∀ a ∈ as, Clear g a) → Room lv A → Inv X pins σ H s → RelV x u → b + t.length ≤ sizeLine →
    (∀ s', Inv X pins σ H s' → Q t s') → wpAny (model X.prog X.w) A (pyReprUnder b u) Q E s

section
variable {X : Cx} {H : Hp}
theorem Rp.leaf {as : List Addr} {lv : Nat} {x : V} {t : Str} (h : ∀ u, RelV x u → ReprIs X.prog X.w u t) : Rp X H as lv x t := by
  intro A g pins σ s u b E Q _ _ _ _ I r hb hQ
  exact h u r b hb A E s Q fun tk => hQ _ (I.tok tk)
theorem Rp.more {as as' : List Addr} {lv lv' : Nat} {x : V} {t : Str} (h : Rp X H as lv x t) (hs : ∀ c ∈ as, c ∈ as') (hl : lv ≤ lv') : Rp X H as' lv' x t :=
  fun A g pins σ s u b E Q hf hg hc hr I r hb hQ => h A g pins σ s u b E Q hf hg (fun c z => hc c (hs c z)) (hr.mono hl) I r hb hQ
theorem Rp.non {as : List Addr} {lv : Nat} : Rp X H as lv .non "None" := Rp.leaf fun u r => by
  cases (show u = Value.none from r)
  exact ReprIs.none
theorem Rp.bl {as : List Addr} {lv : Nat} (y : Bool) : Rp X H as lv (.bl y) (if y then "True" else "False") := Rp.leaf fun u r => by
  cases (show u = Value.bool y from r)
  exact ReprIs.bool y
theorem Rp.int {as : List Addr} {lv : Nat} {i : Int} (h : i.natAbs.log2 < 1920) : Rp X H as lv (.int i) (toString i) := Rp.leaf fun u r => by
  obtain ⟨t, q⟩ := (show ∃ t, u = Value.int i t from r)
  subst q
  exact ReprIs.int t h
theorem Rp.str {as : List Addr} {lv : Nat} {z : Str} (h : (reprText z).length ≤ sizeLine) : Rp X H as lv (.str z) (reprText z) := Rp.leaf fun u r => by
  obtain ⟨t, q⟩ := (show ∃ t, u = Value.str z t from r)
  subst q
  exact ReprIs.str z t h

theorem fr_loop {A : Around} {args : Args} : (A.under (.builtin "list.__repr__.loop" args)).frames = A.frames := by
  first | rfl | simp [Around.under, Code.envs, Code.isFrame, pushEnvs]
theorem dp_loop {A : Around} {args : Args} : (A.under (.builtin "list.__repr__.loop" args)).depth = A.depth + 1 := by
  first | rfl | simp [Around.under, Code.weight, Code.isCreation, Code.isGuard, Code.isCaller, Code.frames, Code.isFrame, guardIds]
theorem hd_loop {A : Around} {args : Args} : (A.under (.builtin "list.__repr__.loop" args)).handled = A.handled := by
  first | rfl | simp [Around.under]
theorem room_loop {A : Around} {lv : Nat} (r : Room (lv + 1) A) (args : Args) : Room lv (A.under (.builtin "list.__repr__.loop" args)) := by
  obtain ⟨h1, h2, h3⟩ := r
  refine ⟨hd_loop.trans h1, ?_, ?_⟩
  · rw [dp_loop]; omega
  · rw [units_under_list_loop]; omega

/-- the loop of a list's writing: P holds the parts written so far -/
theorem loopR {as : List Addr} {lv : Nat} {a P : Addr} {xs : List V} {ts : List Str} {b : Nat} {A : Around} {g : List Code} {R : Result → Shared → Prop} {pins : List (Addr × Obj)} {σ : L2.St}
    (hlen : ts.length = xs.length) (hT : ∀ (i : Nat) (x : V), xs[i]? = some x → ∃ t, ts[i]? = some t ∧ Rp X H as lv x t) (ha : SqL X.K H a xs) (hna : a ∉ as)
    (hf : A.frames = some X.stack) (hg : A.guards = some g) (hcl : ∀ c ∈ as, Clear g c) (hr : Room (lv + 1) A) (hsz : b + (listText ts).length ≤ sizeLine) (fp : FpOk X pins H P)
    (hR : ∀ s' u, Inv X pins σ H s' → R (.ok (.ret (.str (listText ts) u))) s') :
    ∀ (k i : Nat) (s : Shared) (acc : Array Value) (c : Nat) (done : List (Str × Tok)), xs.length - i = k → i ≤ xs.length → Inv X pins σ H s →
      s.heap.get? P = some { cls := .type "list", dict := none, data := .seq acc c, slots := #[] } → acc.toList = strValues done → done.map (·.1) = ts.take i →
      codeAny (model X.prog X.w) A (.builtin "list.__repr__.loop" ⟨[.ref a, rawInt i, .ref P, rawInt ((b + piled (ts.take i) : Nat) : Int)], []⟩) R s := by
  have eL : (listText ts).length = (textFrom 0 "[" ts).length + 1 := by
    show (textFrom 0 "[" ts ++ "]").length = _
    rw [strLen_append]
    rfl
  have tl := textFrom_len ts 0 "["
  have z1 : xs.length ≤ sizeLine := by
    have q := tl.1
    rw [if_neg (Nat.lt_irrefl 0)] at q
    omega
  have z2 : ∀ t ∈ ts, t.length ≤ sizeLine := fun t ht => by
    have q := tl.2.1 t ht
    omega
  have z3 := piled_le_listText ts
  have z5 : (listText ts).length ≤ sizeLine := by omega
  obtain ⟨f0, f1, f2, f3, f4, f5⟩ := fp
  intro k
  induction k with
  | zero =>
    intro i s acc c done hk hi I hP hacc hdone
    have ei : i = xs.length := by omega
    obtain ⟨its, rv, ⟨o, n, e1, _, _, e2⟩, _⟩ := I.list ha
    have li := rv.length
    refine codeAny_builtin F.entry_list_repr_loop ?_
    show wpAny _ _ («list.__repr__.loop» ⟨[.ref a, .int i 0, .ref P, .int ((b + piled (ts.take i) : Nat) : Int) 0], []⟩) _ _ s
    rw [repr_loop_tree]
    refine wpAny_bind (wpAny_listItems e1 e2 ?_)
    have no : its.toArray[(i : Int).toNat]? = none := by simp; omega
    simp only [no]
    unfold reprEnd
    refine wpAny_bind (wpAny_listItems hP rfl ?_)
    rw [hacc, repr_fold]
    refine wpAny_bind (wpAny_pure ?_)
    have ed : done.map (·.1) = ts := by rw [hdone, ei, ← hlen, List.take_length]
    rw [ed]
    exact wpAny_bind (wpAny_mkStr (wpAny_pure (hR _ _ (I.tok _))) z5)
  | succ k ih =>
    intro i s acc c done hk hi I hP hacc hdone
    have lt : i < xs.length := by omega
    obtain ⟨its, rv, ⟨o, n, e1, _, _, e2⟩, _⟩ := I.list ha
    obtain ⟨u, eu, ru⟩ := rv.get (i := i) (x := xs[i]) (by simp [lt])
    obtain ⟨t, et, rp⟩ := hT i xs[i] (by simp [lt])
    have p1 := piled_take_succ et
    have p2 := piled_take_le ts (i + 1)
    refine codeAny_builtin F.entry_list_repr_loop ?_
    show wpAny _ _ («list.__repr__.loop» ⟨[.ref a, .int i 0, .ref P, .int ((b + piled (ts.take i) : Nat) : Int) 0], []⟩) _ _ s
    rw [repr_loop_tree]
    refine wpAny_bind (wpAny_listItems e1 e2 ?_)
    have so : its.toArray[(i : Int).toNat]? = some u := by simpa using eu
    simp only [so]
    rw [Int.toNat_natCast]
    have I1 : Inv X (pins ++ pinsAt [P] s.heap) σ H s := I.pinned (fp := [P]) (fun c hc => by
      cases List.mem_singleton.mp hc
      exact ⟨f0, f1, f2, f3, f4, f5⟩) fun c hc => by
      cases List.mem_singleton.mp hc
      exact ⟨_, hP, fun _ q => nomatch q⟩
    refine wpAny_bind (wpAny_holding (rp _ _ (pins ++ pinsAt [P] s.heap) σ s u _ _ _ (fr_loop.trans hf) (guards_under_guard (isGuard_list_loop _) hg) (fun c hc => (hcl c hc).cons (a := a) fun e => hna (e ▸ hc)) (room_loop hr _) I1 ru (by omega) fun s' I2 => ?_))
    have hP2 : s'.heap.get? P = some { cls := .type "list", dict := none, data := .seq acc c, slots := #[] } := (I2.pin (P, _) (List.mem_append_right _ (List.mem_append_right _ (mem_pinsAt (List.mem_singleton.mpr rfl) hP)))).1
    have I3 := I2.unpinned
    refine wpAny_bind (wpAny_mkStr ?_ (z2 t (List.mem_of_getElem? et)))
    refine wpAny_bind ?_
    show wpAny _ _ (updateSeq P _) _ _ _
    have hasz : acc.size ≤ sizeLine := by
      have q1 : acc.toList.length = acc.size := by simp
      have q2 : (strValues done).length = done.length := by simp [strValues]
      have q3 : done.length = (ts.take i).length := by rw [← hdone, List.length_map]
      have q4 : (ts.take i).length ≤ i := by rw [List.length_take]; omega
      rw [hacc] at q1
      omega
    refine wpAny_updateSeq hP2 rfl (wpAny_pure ⟨F.quiet_list_repr_loop _, ?_⟩) hasz
    have q1 : ((i : Int) + 1) = ((i + 1 : Nat) : Int) := by omega
    have q2 : b + piled (ts.take i) + (t.length + 2) = b + piled (ts.take (i + 1)) := by omega
    rw [q1, q2]
    refine ih (i + 1) _ (acc.push (.str t s'.toks)) _ (done ++ [(t, s'.toks)]) (by omega) lt ?_ (Heap.get?_update_self _ hP2 rfl) (by simp [hacc, strValues]) (by simp [List.take_add_one, et, hdone])
    exact I3.turned (fun c o' hc e => (Heap.get?_update_other _ _ (fun h : P = c => hc h.symm)).trans e) f0 f1 f3 f4 f5

abbrev EndOf (X : Cx) (A : Around) (R : Result → Shared → Prop) : Fin → Shared → Prop := fun fin s' => match fin with
  | .done f => R (.ok f) s'
  | .again c' => c'.quiet = true ∧ codeAny (model X.prog X.w) A c' R s'

theorem no_same {g : List Code} {a : Addr} (h : Clear g a) : ∀ v rest kw, Code.builtin "list.__repr__.loop" ⟨v :: rest, kw⟩ ∈ g → Builtin.List.listSameRef v (.ref a) = false :=
  fun v rest kw hm => listSameRef_of_ne (h _ v rest kw hm)

theorem list_at {as : List Addr} {lv : Nat} {a : Addr} {xs : List V} {ts : List Str} {b : Nat} {A : Around} {g : List Code} {R : Result → Shared → Prop} {pins : List (Addr × Obj)} {σ : L2.St} {s : Shared}
    (hlen : ts.length = xs.length) (hT : ∀ (i : Nat) (x : V), xs[i]? = some x → ∃ t, ts[i]? = some t ∧ Rp X H as lv x t) (ha : SqL X.K H a xs) (hna : a ∉ as)
    (hf : A.frames = some X.stack) (hg : A.guards = some g) (hcl : ∀ c ∈ a :: as, Clear g c) (hr : Room (lv + 1) A) (hsz : b + (listText ts).length ≤ sizeLine) (I : Inv X pins σ H s)
    (hR : ∀ s' u, Inv X pins σ H s' → R (.ok (.ret (.str (listText ts) u))) s') :
    wpAny (model X.prog X.w) A.in1 (Builtin.listReprAt b ⟨[.ref a], []⟩) (EndOf X A R) (fun e s' => R (.error e) s') s := by
  obtain ⟨its, rv, ⟨o, n, e1, _, _, e2⟩, _⟩ := I.list ha
  have li := rv.length
  cases its with
  | nil =>
    obtain rfl : xs = [] := List.eq_nil_of_length_eq_zero li
    obtain rfl : ts = [] := List.eq_nil_of_length_eq_zero hlen
    exact wpAny_list_repr_empty e1 e2 (hR _ _ (I.tok _))
  | cons v l =>
    refine wpAny_list_repr_head (A := A.in1) hg (no_same (hcl a (List.Mem.head _))) e1 e2 ?_
    refine wpAny_bind (m := newList []) (wpAny_newObj_type ?_)
    refine wpAny_pure ⟨F.quiet_list_repr_loop _, ?_⟩
    have I1 : Inv X pins σ H { s with heap := s.heap.push { cls := .type "list", data := .seq #[] } } := I.kept (t' := s.toks) fun b u e => Heap.get?_push_of_some _ e
    exact loopR hlen hT ha hna hf hg (fun c hc => hcl c (List.Mem.tail _ hc)) hr hsz (I.fpOk (Nat.le_refl _) (I.hok.fresh (Nat.le_refl _))) hR xs.length 0 _ #[] _ [] rfl (Nat.zero_le _) I1 (Heap.get?_push_size _ rfl) rfl (by simp)

/-- the same of a whole call of the built-in repr -/
def Rc (X : Cx) (H : Hp) (as : List Addr) (lv : Nat) (x : V) (t : Str) : Prop :=
  ∀ (A : Around) (g : List Code) (pins : List (Addr × Obj)) (σ : L2.St) (s : Shared) (u : Value) (E : Value → Shared → Prop) (Q : Value → Shared → Prop),
    A.frames = some X.stack → A.guards = some g → (∀ a ∈ as, Clear g a) → Room lv A → Inv X pins σ H s → RelV x u → t.length ≤ sizeLine →
    (∀ s' tk, Inv X pins σ H s' → Q (.str t tk) s') → wpAny (model X.prog X.w) A (call (.builtin "repr") [u]) Q E s

theorem Rp.list {as : List Addr} {lv : Nat} {a : Addr} {xs : List V} {ts : List Str} (ha : SqL X.K H a xs) (hna : a ∉ as)
    (hlen : ts.length = xs.length) (hT : ∀ (i : Nat) (x : V), xs[i]? = some x → ∃ t, ts[i]? = some t ∧ Rp X H as lv x t) : Rp X H (a :: as) (lv + 1) (.ref a) (listText ts) := by
  intro A g pins σ s u b E Q hf hg hcl hr I r hb hQ
  cases (show u = Value.ref a from r)
  obtain ⟨its, rv, ⟨o, n, e1, e3, _, e2⟩, _⟩ := I.list ha
  refine wpAny_pyReprUnder_ref (by omega) (wpAny_pyReprObjUnder_twin (twin := "list.__repr__.under") ⟨o, e1, e3⟩ F.slot_list_repr.toG rfl hr.units0 ?_)
  exact call_twin_plain F.plain_list_repr_under F.entry_list_repr_under F.check_list_repr_under ⟨o, e1, e3⟩ F.slot_list_repr.toG (F.args_list_repr_1 _)
    (list_at (R := callEnd (fun v s' => (∃ x u, v = Value.str x u) ∧ ∃ x u, v = Value.str x u ∧ Q x s') E) hlen hT ha hna hf hg hcl hr hb I fun s' u I' => ⟨⟨_, _, rfl⟩, _, _, rfl, hQ s' I'⟩)

theorem Rc.list {as : List Addr} {lv : Nat} {a : Addr} {xs : List V} {ts : List Str} (ha : SqL X.K H a xs) (hna : a ∉ as)
    (hlen : ts.length = xs.length) (hT : ∀ (i : Nat) (x : V), xs[i]? = some x → ∃ t, ts[i]? = some t ∧ Rp X H as lv x t) : Rc X H (a :: as) (lv + 2) (.ref a) (listText ts) := by
  intro A g pins σ s u E Q hf hg hcl hr I r hb hQ
  cases (show u = Value.ref a from r)
  obtain ⟨its, rv, ⟨o, n, e1, e3, _, e2⟩, _⟩ := I.list ha
  refine call_repr_slot (by have := hr.un; omega) ⟨o, e1, e3⟩ F.slot_list_repr.toG ?_
  exact wpAny_call (codeAny_call_builtin F.slot_list_repr.plain F.entry_list_repr (F.slot_list_repr.check _ _ _ _ _ _ _ _ ⟨o, e1, e3⟩ (F.args_list_repr_1 _)
    (list_at (A := A.in1) (b := 0) (R := callEnd (fun v s' => ∃ x u, v = Value.str x u ∧ Q v s') E) hlen hT ha hna hf hg hcl hr.in1 (by omega) I fun s' u I' => ⟨_, _, rfl, hQ s' u I'⟩)))

/-! tuples -/
inductive RpAll (X : Cx) (H : Hp) (as : List Addr) (lv : Nat) : List V → List Str → Prop
  | nil : RpAll X H as lv [] []
  | cons {x : V} {t : Str} {l : List V} {ts : List Str} : Rp X H as lv x t → RpAll X H as lv l ts → RpAll X H as lv (x :: l) (t :: ts)
theorem RpAll.len {as : List Addr} {lv : Nat} : ∀ {l : List V} {ts : List Str}, RpAll X H as lv l ts → ts.length = l.length
  | _, _, .nil => rfl
  | _, _, .cons _ h => by simp [h.len]
theorem RpAll.at {as : List Addr} {lv : Nat} : ∀ {l : List V} {ts : List Str}, RpAll X H as lv l ts → ∀ (i : Nat) (x : V), l[i]? = some x → ∃ t, ts[i]? = some t ∧ Rp X H as lv x t
  | _, _, .nil, _, _, q => by simp at q
  | _, _, .cons h _, 0, _, q => by
    simp at q
    subst q
    exact ⟨_, rfl, h⟩
  | _, _, .cons _ h, i + 1, x, q => by
    obtain ⟨t, e, r⟩ := h.at i x (by simpa using q)
    exact ⟨t, by simpa using e, r⟩

theorem tup_fold {as : List Addr} {lv : Nat} {A : Around} {g : List Code} {E : Value → Shared → Prop} {pins : List (Addr × Obj)} {σ : L2.St} (hf : A.frames = some X.stack) (hg : A.guards = some g) (hcl : ∀ c ∈ as, Clear g c) (hr : Room lv A) :
    ∀ (xs : List V) (us : List Value) (ts : List Str) (acc : Array Str) (n : Nat) (s : Shared) (Q : (Array Str × Nat) → Shared → Prop), Vals xs us → RpAll X H as lv xs ts → n + piled ts ≤ sizeLine → Inv X pins σ H s →
      (∀ s', Inv X pins σ H s' → Q ⟨acc ++ ts.toArray, n + piled ts⟩ s') → wpAny (model X.prog X.w) A (forIn us (⟨acc, n⟩ : (Array Str × Nat)) tupBody) Q E s := by
  intro xs
  induction xs with
  | nil =>
    intro us ts acc n s Q rv hT _ I h
    cases rv
    cases hT
    simp only [List.forIn_nil]
    exact wpAny_pure (by simpa [piled] using h s I)
  | cons x l ih =>
    intro us ts acc n s Q rv hT hn I h
    cases rv with
    | cons r1 r2 =>
      cases hT with
      | cons hx hl =>
        rename_i u us' t ts'
        rw [piled_cons] at hn
        rw [List.forIn_cons]
        refine wpAny_bind (wpAny_bind (hx A g pins σ s _ (n + 1) _ _ hf hg hcl hr I r1 (by omega) fun s' I' => wpAny_pure ?_))
        refine ih us' ts' (acc.push t) (n + (t.length + 2)) _ Q r2 hl (by omega) I' fun s2 I2 => ?_
        have q := h s2 I2
        have e : n + piled (t :: ts') = n + (t.length + 2) + piled ts' := by rw [piled_cons]; omega
        rw [e] at q
        simpa using q

theorem fr_id {A : Around} {id : String} {args : Args} (h1 : id = "tuple.__repr__" ∨ id = "tuple.__repr__.under") : (A.under (.builtin id args)).frames = A.frames ∧ (A.under (.builtin id args)).handled = A.handled ∧ (A.under (.builtin id args)).depth = A.depth + 1 ∧ (A.under (.builtin id args)).units = A.units + 1 := by
  rcases h1 with rfl | rfl
  · refine ⟨?_, ?_, ?_, ?_⟩ <;> first | rfl | simp [Around.under, Code.envs, Code.isFrame, pushEnvs, Code.weight, Code.isCreation, Code.isGuard, Code.isCaller, Code.frames, guardIds, Code.cUnits]
  · refine ⟨?_, ?_, ?_, ?_⟩ <;> first | rfl | simp [Around.under, Code.envs, Code.isFrame, pushEnvs, Code.weight, Code.isCreation, Code.isGuard, Code.isCaller, Code.frames, guardIds, Code.cUnits]

theorem tup_at {as : List Addr} {lv : Nat} {a : Addr} {xs : List V} {ts : List Str} {b : Nat} {A : Around} {g : List Code} {R : Result → Shared → Prop} {pins : List (Addr × Obj)} {σ : L2.St} {s : Shared} {id : String} {rest : List Value}
    (hid : id = "tuple.__repr__" ∨ id = "tuple.__repr__.under") (hgd : (Code.builtin id ⟨.ref a :: rest, []⟩).isGuard = true)
    (hT : RpAll X H as lv xs ts) (ha : SqT X.K H a xs) (hna : a ∉ as)
    (hf : A.frames = some X.stack) (hg : A.guards = some g) (hcl : ∀ c ∈ a :: as, Clear g c) (hr : Room (lv + 1) A) (hsz : b + (tupleText ts).length ≤ sizeLine) (I : Inv X pins σ H s)
    (hR : ∀ s' u, Inv X pins σ H s' → R (.ok (.ret (.str (tupleText ts) u))) s') :
    wpOwn (model X.prog X.w) A (.builtin id ⟨.ref a :: rest, []⟩) (Builtin.tupleReprAt b ⟨[.ref a], []⟩) (EndOf X A R) (fun e s' => R (.error e) s') s := by
  obtain ⟨its, rv, ⟨o, e1, e3, n, e2⟩, _⟩ := I.tuple ha
  obtain ⟨q1, q2, q3, q4⟩ := fr_id (A := A) (args := ⟨.ref a :: rest, []⟩) hid
  have hlen : ts.length = its.toArray.size := by rw [hT.len, rv.length]; simp
  have hp := piled_le_tupleText ts
  have clr : Clear g a := hcl a (List.Mem.head _)
  rw [tuple_repr_tree, tupleReprUnderWay_eq]
  refine wpOwn_bind (wpOwn_stackTailAny hg (tupGuardF_off _) (tupGuardF_pos _) ?_)
  have no : (g.any fun c => tupGuardF (.ref a) (c, default)) = false := List.any_eq_false.mpr fun c hc => by
    rw [tupGuardF_of_clear clr c hc]
    exact Bool.false_ne_true
  rw [no]
  refine wpOwn_of_wpAny ?_
  show wpAny _ _ (tupleReprRest b (.ref a)) _ _ s
  unfold tupleReprRest Builtin.Tuple.tupleItemsOf
  refine wpAny_bind (wpAny_bind (wpAny_seqItems e1 e2 (wpAny_pure ?_)))
  rw [← Array.forIn_toList]
  have rm : Room lv (A.under (.builtin id ⟨.ref a :: rest, []⟩)) := ⟨q2.trans hr.hd, by have := hr.dp; rw [q3]; omega, by have := hr.un; rw [q4]; omega⟩
  refine wpAny_bind (tup_fold (pins := pins) (σ := σ) (q1.trans hf) (guards_under_guard hgd hg) (fun c hc => (hcl c (List.Mem.tail _ hc)).cons (a := a) fun e => hna (e ▸ hc)) rm xs its ts _ _ s _ (by simpa using rv) hT (by omega) I fun s' I' => ?_)
  refine wpAny_bind (wpAny_mkStr (wpAny_pure ?_) (by have z : (tupleText ts).length ≤ sizeLine := by omega
                                                     simpa [tupleText, hlen] using z))
  have q := hR _ s'.toks (I'.tok (s'.toks + 1))
  simpa [tupleText, hlen] using q

theorem Rp.tup {as : List Addr} {lv : Nat} {a : Addr} {xs : List V} {ts : List Str} (ha : SqT X.K H a xs) (hna : a ∉ as) (hT : RpAll X H as lv xs ts) : Rp X H (a :: as) (lv + 1) (.ref a) (tupleText ts) := by
  intro A g pins σ s u b E Q hf hg hcl hr I r hb hQ
  cases (show u = Value.ref a from r)
  obtain ⟨its, rv, ⟨o, e1, e3, n, e2⟩, _⟩ := I.tuple ha
  refine wpAny_pyReprUnder_ref (by omega) (wpAny_pyReprObjUnder_twin (twin := "tuple.__repr__.under") ⟨o, e1, e3⟩ F.slot_tuple_repr rfl hr.units0 ?_)
  exact call_twin_own (F.quiet_tuple_repr_under _) F.entry_tuple_repr_under F.check_tuple_repr_under ⟨o, e1, e3⟩ F.slot_tuple_repr (F.args_tuple_repr_1 _)
    (tup_at (R := callEnd (fun v s' => (∃ x u, v = Value.str x u) ∧ ∃ x u, v = Value.str x u ∧ Q x s') E) (.inr rfl) (isGuard_tuple_repr_under _) hT ha hna hf hg hcl hr hb I fun s' u I' => ⟨⟨_, _, rfl⟩, _, _, rfl, hQ s' I'⟩)

theorem Rc.tup {as : List Addr} {lv : Nat} {a : Addr} {xs : List V} {ts : List Str} (ha : SqT X.K H a xs) (hna : a ∉ as) (hT : RpAll X H as lv xs ts) : Rc X H (a :: as) (lv + 2) (.ref a) (tupleText ts) := by
  intro A g pins σ s u E Q hf hg hcl hr I r hb hQ
  cases (show u = Value.ref a from r)
  obtain ⟨its, rv, ⟨o, e1, e3, n, e2⟩, _⟩ := I.tuple ha
  refine call_repr_slot (by have := hr.un; omega) ⟨o, e1, e3⟩ F.slot_tuple_repr ?_
  exact wpAny_call (codeAny_call_builtin_own (Code.quiet_builtin _ (by decide +kernel)) F.entry_tuple_repr (F.slot_tuple_repr.check _ _ _ _ _ _ _ _ ⟨o, e1, e3⟩ (F.args_tuple_repr_1 _)
    (tup_at (A := A.in1) (b := 0) (R := callEnd (fun v s' => ∃ x u, v = Value.str x u ∧ Q v s') E) (.inl rfl) (isGuard_tuple_repr _) hT ha hna hf hg hcl hr.in1 (by omega) I fun s' u I' => ⟨_, _, rfl, hQ s' u I'⟩)))

/-! dicts of ints -/
def kvText : List (Key × V) → List Str
  | [] => []
  | (Sum.inl k, .int v) :: r => (toString k ++ ": " ++ toString v : Str) :: kvText r
  | _ :: r => "" :: kvText r
def KvSmall : List (Key × V) → Prop
  | [] => True
  | (Sum.inl k, .int v) :: r => k.natAbs.log2 < 1920 ∧ v.natAbs.log2 < 1920 ∧ (toString k : Str).length ≤ sizeLine ∧ KvSmall r
  | _ :: _ => False
theorem entries_of {as : List Addr} {h₀ : Heap} : ∀ (kvs : List (Key × V)) (vs : List (Key × Value)) (es : List DictEntry), KV kvs vs → Pairs (mixKind X.prog X.w) es vs → KvSmall kvs → ReprEntriesK X.prog X.w as h₀ 0 es (kvText kvs)
  | [], _, _, .nil, .nil, _ => .nil
  | (k, v) :: r, _, _, .cons ⟨e1, e2⟩ t, .cons (e := e) p1 p2 p3, z => by
    rename_i kv _ _
    obtain ⟨k', v'⟩ := kv
    simp only at e1 e2 p1 p2
    subst e1
    rcases k with k | k
    · cases v with
      | int i =>
        obtain ⟨z1, z2, z3, z4⟩ := z
        rcases keyIs_shape (show keyIs (Sum.inl k) e.key = true from p1) with ⟨j, t1, q1, q2⟩ | ⟨x, t1, q1, q2⟩
        · cases q1
          obtain ⟨t2, q3⟩ := e2
          obtain ⟨ek, ev, eh⟩ := e
          simp only at p1 p2 q2
          subst q2
          subst p2
          subst q3
          exact .cons (ReprK.of_is (ReprIs.int t1 z1) _ _ _) (ReprK.of_is (ReprIs.int t2 z2) _ _ _) (entries_of r _ _ t p3 z4)
        · cases q1
      | _ => exact z.elim
    · exact z.elim
theorem Rp.of_K {as : List Addr} {lv d : Nat} {x : V} {t : Str} (hd : d ≤ 16 * lv + 200) (h : ∀ pins σ s u, Inv X pins σ H s → RelV x u → ReprK X.prog X.w as s.heap d u t) : Rp X H as lv x t := by
  intro A g pins σ s u b E Q hf hg hcl hr I r hb hQ
  exact h pins σ s u I r b hb A g E s Q hg hcl (by have := hr.un; omega) (fun _ _ e => e) fun h' tk hk => hQ _ (I.kept hk)
theorem Rp.dct {as : List Addr} {lv : Nat} {a : Addr} {kvs : List (Key × V)} (hd : H a = some (.dK kvs)) (hna : a ∉ as) (hz : KvSmall kvs) : Rp X H (a :: as) lv (.ref a) (dictText (kvText kvs)) :=
  Rp.of_K (d := 1) (by omega) fun pins σ s u I r => by
    cases (show u = Value.ref a from r)
    obtain ⟨z, hs, vs, kv, o, es, ep, e1, ⟨e2, _, _⟩, e3, _, pr, _⟩ := (show ObjOk X.prog X.w H s.heap a (.dK kvs) from I.hok a _ hd)
    exact ReprK.dict e1 e2 e3 hs hna (entries_of kvs vs es.toList kv pr hz)
theorem Rc.dct {as : List Addr} {lv : Nat} {a : Addr} {kvs : List (Key × V)} (hd : H a = some (.dK kvs)) (hna : a ∉ as) (hz : KvSmall kvs) : Rc X H (a :: as) lv (.ref a) (dictText (kvText kvs)) := by
  intro A g pins σ s u E Q hf hg hcl hr I r hb hQ
  cases (show u = Value.ref a from r)
  obtain ⟨z, hs, vs, kv, o, es, ep, e1, ⟨e2, _, _⟩, e3, _, pr, _⟩ := (show ObjOk X.prog X.w H s.heap a (.dK kvs) from I.hok a _ hd)
  refine call_repr_slot (by have := hr.un; omega) ⟨o, e1, e2⟩ F.slot_dict_repr ?_
  exact call_dict_reprK (h₀ := s.heap) (d := 0) e1 e2 e3 hs hna (entries_of kvs vs es.toList kv pr hz) hg hcl (by have := hr.un; show A.units + 1 + 1 < cLine; omega) (fun _ _ e => e) (fun h' u tk hk => ⟨_, _, rfl, hQ _ _ (I.kept hk)⟩) hb

/-! a dict of one list of an int -/
theorem entries_dl {as : List Addr} {pins : List (Addr × Obj)} {σ : L2.St} {sh : Shared} {b : Addr} {i j : Int} {vs : List (Key × Value)} {es : List DictEntry} (I : Inv X pins σ H sh) (hb : H b = some (.lst [.int j])) (hba : b ∉ as)
    (kv : KV [((Sum.inl i : Key), V.ref b)] vs) (pr : Pairs (mixKind X.prog X.w) es vs) (hi : i.natAbs.log2 < 1920) (hj : j.natAbs.log2 < 1920) : ReprEntriesK X.prog X.w (b :: as) sh.heap 1 es [(toString i ++ ": " ++ listText [toString j] : Str)] := by
  cases kv with
  | cons e12 t =>
    rename_i kv' _
    obtain ⟨k', v'⟩ := kv'
    obtain ⟨e1, e2⟩ := e12
    cases t
    cases pr with
    | cons p1 p2 p3 =>
      rename_i e _
      cases p3
      simp only at e1 e2 p1 p2
      subst e1
      rcases keyIs_shape (show keyIs (Sum.inl i) e.key = true from p1) with ⟨m, t1, q1, q2⟩ | ⟨x, t1, q1, q2⟩
      · cases q1
        cases (show v' = Value.ref b from e2)
        obtain ⟨ek, ev, eh⟩ := e
        simp only at p1 p2 q2
        subst q2
        subst p2
        obtain ⟨z, its, n, r, hl, eb⟩ := I.lstM hb
        cases r with
        | cons r1 r2 =>
          cases r2
          obtain ⟨t2, q3⟩ := r1
          subst q3
          have one : ∀ (m : Nat) (y : Value), ([Value.int j t2]).toArray[m]? = some y → ∃ t, [(toString j : Str)][m]? = some t ∧ ReprK X.prog X.w as sh.heap 0 y t := fun m y hy => by
            match m with
            | 0 =>
              have : Value.int j t2 = y := by simpa using hy
              subst this
              exact ⟨_, rfl, ReprK.of_is (ReprIs.int t2 hj) _ _ _⟩
            | m + 1 => simp at hy
          exact .cons (ReprK.of_is (ReprIs.int t1 hi) _ _ _) (ReprK.list eb rfl rfl hba rfl one) .nil
      · cases q1
theorem Rp.dl {as : List Addr} {lv : Nat} {a b : Addr} {i j : Int} (hd : H a = some (.dK [((Sum.inl i : Key), V.ref b)])) (hb : H b = some (.lst [.int j])) (hna : a ∉ b :: as) (hba : b ∉ as) (hi : i.natAbs.log2 < 1920) (hj : j.natAbs.log2 < 1920) :
    Rp X H (a :: b :: as) lv (.ref a) (dictText [(toString i ++ ": " ++ listText [toString j] : Str)]) :=
  Rp.of_K (d := 2) (by omega) fun pins σ s u I r => by
    cases (show u = Value.ref a from r)
    obtain ⟨z, hs, vs, kv, o, es, ep, e1, ⟨e2, _, _⟩, e3, _, pr, _⟩ := (show ObjOk X.prog X.w H s.heap a (.dK [((Sum.inl i : Key), V.ref b)]) from I.hok a _ hd)
    exact ReprK.dict e1 e2 e3 hs hna (entries_dl I hb hba kv pr hi hj)
theorem Rc.dl {as : List Addr} {lv : Nat} {a b : Addr} {i j : Int} (hd : H a = some (.dK [((Sum.inl i : Key), V.ref b)])) (hb : H b = some (.lst [.int j])) (hna : a ∉ b :: as) (hba : b ∉ as) (hi : i.natAbs.log2 < 1920) (hj : j.natAbs.log2 < 1920) :
    Rc X H (a :: b :: as) lv (.ref a) (dictText [(toString i ++ ": " ++ listText [toString j] : Str)]) := by
  intro A g pins σ s u E Q hf hg hcl hr I r hz hQ
  cases (show u = Value.ref a from r)
  obtain ⟨z, hs, vs, kv, o, es, ep, e1, ⟨e2, _, _⟩, e3, _, pr, _⟩ := (show ObjOk X.prog X.w H s.heap a (.dK [((Sum.inl i : Key), V.ref b)]) from I.hok a _ hd)
  refine call_repr_slot (by have := hr.un; omega) ⟨o, e1, e2⟩ F.slot_dict_repr ?_
  exact call_dict_reprK (h₀ := s.heap) (d := 1) e1 e2 e3 hs hna (entries_dl I hb hba kv pr hi hj) hg hcl (by have := hr.un; show A.units + 1 + 1 + 1 < cLine; omega) (fun _ _ e => e) (fun h' u tk hk => ⟨_, _, rfl, hQ _ _ (I.kept hk)⟩) hz

/-! leaves -/
theorem Rc.leaf {as : List Addr} {lv : Nat} {x : V} {t : Str} (h : ∀ u, RelV x u → ∀ (A : Around) (E : Value → Shared → Prop) (s : Shared) (Q : Value → Shared → Prop), t.length ≤ sizeLine → (∀ tk tk', Q (.str t tk) { s with toks := tk' }) → wpAny (model X.prog X.w) A (call (.builtin "repr") [u]) Q E s) : Rc X H as lv x t := by
  intro A g pins σ s u E Q _ _ _ _ I r hb hQ
  exact h u r A E s Q hb fun tk tk' => hQ _ _ (I.tok _)
theorem Rc.int {as : List Addr} {lv : Nat} {i : Int} (h : i.natAbs.log2 < 1920) : Rc X H as lv (.int i) (toString i) := Rc.leaf fun u r A E s Q hb hQ => by
  obtain ⟨t, q⟩ := (show ∃ t, u = Value.int i t from r)
  subst q
  exact PySem.P.repr_of_int h (hQ _ _)

theorem Rc.bl {as : List Addr} {lv : Nat} (y : Bool) : Rc X H as lv (.bl y) (if y then "True" else "False") := Rc.leaf fun u r A E s Q hb hQ => by
  cases (show u = Value.bool y from r)
  exact PySem.P.repr_of_bool (hQ _ _)
theorem Rc.non {as : List Addr} {lv : Nat} : Rc X H as lv .non "None" := Rc.leaf fun u r A E s Q hb hQ => by
  cases (show u = Value.none from r)
  exact PySem.P.repr_of_none (hQ _ _)
theorem Rc.str {as : List Addr} {lv : Nat} {z : Str} : Rc X H as lv (.str z) (reprText z) := Rc.leaf fun u r A E s Q hb hQ => by
  obtain ⟨t, q⟩ := (show ∃ t, u = Value.str z t from r)
  subst q
  exact PySem.P.repr_of_str (hQ _ _) hb

/-! an instance with a __repr__ of its own -/
theorem own_call {a f : Addr} {k : Nat} {fd : FuncData} {sp : Sp} {t : Str} {A : Around} {pins : List (Addr × Obj)} {σ : L2.St} {s : Shared} {E : Value → Shared → Prop} {Q : Value → Shared → Prop}
    (F : FnOk X.prog X.w X.K X.mg X.base CX0 k f fd ["self"] sp) (hb : Binds X.K fd ["self"] []) (hq : ∀ (Q : VK) (E : XK), Q (.str t) H → sp [.ref a] H Q E)
    (I : Inv X pins σ H s) (hf : A.frames = some X.stack) (hr : Room k A) (hQ : ∀ s' tk, Inv X pins σ H s' → Q (.str t tk) s') : wpAny (model X.prog X.w) A (call (.ref f) [.ref a]) Q E s := by
  refine wpAny_call (codeAny_mono (F.run A X.stack s H ⟨[.ref a], []⟩ [.ref a] [.ref a] (fun v H' => v = .str t ∧ H' = H) (fun _ _ _ => False) hr { I.env0 with frames := hf } (hb s [.ref a] I.kIn rfl) (.cons rfl .nil) (hq _ _ ⟨rfl, rfl⟩)) fun r s' h => ?_)
  cases r with
  | error e => exact False.elim h
  | ok fl =>
    cases fl with
    | ret u =>
      obtain ⟨v, H', I3, rv, ev, eh⟩ := I.after h
      subst ev
      subst eh
      obtain ⟨tk, q⟩ := (show ∃ tk, u = Value.str t tk from rv)
      subst q
      exact hQ s' tk I3
    | next => exact False.elim h
    | brk => exact False.elim h
    | cont => exact False.elim h

theorem bound_by {M : Model} {A : Around} {E : Value → Shared → Prop} {s : Shared} {K : PySem.W.Frag} {x C f : Addr} {ox : Obj} {od : Option Obj} {name : Str} {last : Value → List Value → Sem Value} {Q : Option Value → Shared → Prop}
    (kin : K.In s.heap) (at_ : PySem.W.InstAt s.heap x ox C od) (hs : PySem.W.findIn K (.ref C) name = some (some (.ref f))) (fn : PySem.W.isFn K (.ref f) = true)
    (h : wpAny M A (last (.ref f) [.ref x]) (fun v => Q (some v)) E s) : wpAny M A (callSpecialIfBoundBy? last (.ref x) name) Q E s := by
  have fin : wpAny M A (last (.ref f) [.ref x] >>= fun v => pure (some v)) Q E s := wpAny_bind (wpAny_mono h (fun _ _ z => wpAny_pure z) fun _ _ z => z)
  have bnd := PySem.W.bind_fn (M := M) kin (.ref x) (beq_iff_eq.mp fn)
  simp only [callSpecialIfBoundBy?, bindSpecialIfBound?]
  refine wpAny_holding (wpAny_bind (wpAny_bind (wpAny_bind (at_.type.here ((PySem.W.looks_findIn kin hs).here ?_)))))
  refine wpAny_bind (wpAny_askSetting (wpAny_ite ?_))
  split
  · exact wpAny_bind (bnd.here (wpAny_pure (by exact fin)))
  · exact wpAny_tryCatch (wpAny_bind (bnd.here (wpAny_pure (by exact fin))))

theorem Rp.own {as : List Addr} {C a f dx : Addr} {fs : List (Str × V)} {k : Nat} {fd : FuncData} {sp : Sp} {t : Str} (ha : H a = some (.ins C dx fs)) (hs : PySem.W.findIn X.K (.ref C) "__repr__" = some (some (.ref f))) (fn : PySem.W.isFn X.K (.ref f) = true)
    (F : FnOk X.prog X.w X.K X.mg X.base CX0 k f fd ["self"] sp) (hb : Binds X.K fd ["self"] []) (hq : ∀ (Q : VK) (E : XK), Q (.str t) H → sp [.ref a] H Q E) : Rp X H as k (.ref a) t := by
  intro A g pins σ s u b E Q hf hg hcl hr I r hz hQ
  cases (show u = Value.ref a from r)
  obtain ⟨mA, O, _⟩ := ins_get I.hok ha
  obtain ⟨od, J, _⟩ := O.look
  refine wpAny_pyReprUnder_ref (by omega) ?_
  unfold pyReprObjUnder pyReprObjBy
  refine wpAny_bind (wpAny_cRoomFor hr.units0 ?_)
  refine wpAny_bind (wpAny_bind (J.type.here ((PySem.W.looks_findIn I.kIn hs).here ?_)))
  show wpAny _ _ (if (some (Value.ref f)).isNone = true then _ else _) _ _ _
  rw [if_neg (by simp)]
  refine wpAny_bind (bound_by (name := Str.ofString "__repr__") I.kIn J hs fn ?_)
  refine own_call F hb hq I hf hr fun s' tk I' => ?_
  exact wpAny_bind (wpAny_isInstance (T := "str") (b := true) rfl isSubtype_str_str (wpAny_pure ⟨_, _, rfl, hQ s' I'⟩))
theorem Rc.own {as : List Addr} {C a f dx : Addr} {fs : List (Str × V)} {k : Nat} {fd : FuncData} {sp : Sp} {t : Str} (ha : H a = some (.ins C dx fs)) (hs : PySem.W.findIn X.K (.ref C) "__repr__" = some (some (.ref f))) (fn : PySem.W.isFn X.K (.ref f) = true)
    (F : FnOk X.prog X.w X.K X.mg X.base CX0 k f fd ["self"] sp) (hb : Binds X.K fd ["self"] []) (hq : ∀ (Q : VK) (E : XK), Q (.str t) H → sp [.ref a] H Q E) : Rc X H as (k + 1) (.ref a) t := by
  intro A g pins σ s u E Q hf hg hcl hr I r hz hQ
  cases (show u = Value.ref a from r)
  obtain ⟨mA, O, _⟩ := ins_get I.hok ha
  obtain ⟨od, J, _⟩ := O.look
  obtain ⟨m, Fm⟩ := I.fr
  refine PySem.W.repr_K hr.in1.units0 Fm I.ok.mod.kin J hs fn ?_
  exact own_call F hb hq I hf hr.in1 fun s' tk I' => hQ s' tk I'
end
end TW

set_option Elab.async false
set_option linter.all false
set_option maxRecDepth 100000
set_option maxHeartbeats 2000000
namespace TW
open PySem PySem.Spec L2

/-- a def's promise, as FnOk, where it is known that no writing of an object is under way -/
structure FnG (P : Program) (w : World) (K : W.Frag) (mg : Str → Option Value) (base : Heap) (CX : CXT) (k : Nat) (f : Addr) (fd : FuncData) (ps : List Str) (sp : Sp) : Prop where
  len : ∀ vs H Q E, sp vs H Q E → vs.length = ps.length
  go : ∀ (A : Around) (outer : List Env) (s : Shared) (H : Hp) (args : Args) (us : List Value) (vs : List V) (Q : VK) (E : XK), A.guards = some [] → Room k A → Env0 P w K mg base A outer s H →
    BindsTo s fd args (ps.zip us) → Vals vs us → sp vs H Q E → codeAny (model P w) A (.call (.ref f) args) (CR CX outer P w H s Q E) s

section
variable {P : Program} {w : World} {K : W.Frag} {mg : Str → Option Value} {base : Heap}
theorem FnG.mono {CX : CXT} {j k : Nat} {f : Addr} {fd : FuncData} {ps : List Str} {sp : Sp} (F : FnG P w K mg base CX j f fd ps sp) (h : j ≤ k) : FnG P w K mg base CX k f fd ps sp :=
  ⟨F.len, fun A o s H a us vs Q E g r => F.go A o s H a us vs Q E g (r.mono h)⟩

theorem okG {x qual : Str} {st : Stmt} {f : Addr} {fd : FuncData} {N ps : List Str} {k : Nat} {sp : Sp} (F : Fun K x qual st f fd) (S : FnScope N ps (defScope st))
    (len : ∀ vs H Q E, sp vs H Q E → vs.length = ps.length)
    (body : ∀ (cdv : Value) (A : Around) (outer : List Env) (s : Shared) (H : Hp) (vs : List V) (Q : VK) (E : XK), A.guards = some [] → Room k (A.deeper (PyProof.Rows.envOfC qual (defScope st) s.heap.objs.size f cdv)) → sp vs H Q E →
      ∃ t, PSs (cxOf L2.CX0 P w K mg base N qual (defScope st) f cdv A outer s H E).nox (defBody st) t ∧ t { nx := fun _ H' => Q .non H', rt := Q } (start N vs) H) : FnG P w K mg base L2.CX0 (k + 1) f fd ps sp := by
  obtain ⟨oc, od, kV, doc, pm, an, cdv, ct, osl, rfl, lk, hcd⟩ := F.ex
  refine ⟨len, fun A outer s H args us vs Q E gd room e0 bnd rv want => ?_⟩
  have lenV := len _ _ _ _ want
  have there : K.In s.heap := e0.mod.kin.keeps fun b o e => (e0.bs b o e).1
  have nolim : s.heap.NoLimit := e0.mod.nolimit.keeps fun b o e => (e0.bs b o e).1
  have kinds : ∀ y ∈ ps.zip us, (defScope st).names.lookup y.1 = some .local ∨ ((defScope st).names.lookup y.1 = some .cell ∧ ((cellsFrom (s.heap.objs.size + 1) (defScope st).names []).lookup y.1).isSome = true) := by
    rintro ⟨n, v⟩ hy
    rcases S.par n (List.of_mem_zip hy).1 with q | q
    · exact .inl q
    · exact .inr ⟨q, W.cellsFrom_some _ _ _ (.inl q)⟩
  obtain ⟨t, ht, hq⟩ := body cdv A outer s H vs Q E gd (room.deeper _) want
  refine codeAny_call_function room.depth (there _ _ lk) rfl S.co S.gen rfl (W.codeRec_of there hcd) (bnd _ _ _ _ ?_)
  refine wpAny_newFunctionEnv_cells S.kind kinds fun env he s1 x => ?_
  subst he
  refine ⟨nolim.keeps x.toInCall.keep, codeAny_func ?_⟩
  have I := inv_start (CX := L2.CX0) (E := E) S room.hd e0 lenV rv x
  refine wpAny_mono (ht.nox.run [] s1 (start N vs) H _ I hq) (fun fl s' hs => ?_) fun e s' hs => hs
  cases fl with
  | ret u =>
    obtain ⟨v, σ', H', J, r, q⟩ := hs
    exact ⟨v, H', J.os, J.bare, J.base, J.hok, r, q⟩
  | next =>
    obtain ⟨σ', H', J, q⟩ := hs
    exact ⟨V.non, H', J.os, J.bare, J.base, J.hok, rfl, q⟩
  | brk =>
    obtain ⟨_, _, _, q⟩ := hs
    exact q.elim
  | cont =>
    obtain ⟨_, _, _, q⟩ := hs
    exact q.elim
end

section
variable {X : Cx} {CX : CXT} {k : Nat} {f : Addr} {fd : FuncData} {ps : List Str} {sp : Sp} {E : XK} {x : Str} {p pos : Pos} {e : Expr} {es : List Expr} {t : TA}
/-- a call of such a def -/
theorem pe_callG (F : FnG X.prog X.w X.K X.mg X.base CX k f fd ps sp) (gd : X.A.guards = some []) (hr : Room k X.A) (hg : Gl X x) (hm : X.mg x = some (.ref f)) (hk : W.keepIn X.K (.ref f) = true) (hb : Binds X.K fd ps []) (hx : Passes CX X E)
    (ha : PA X (e :: es) t) (hdb : (x == ("__debug__" : Str)) = false := by decide) (he : starEach (e :: es) X.env = (false, eval e X.env) :: starEach es X.env := by rfl) (hpl : (backTo pos (starEach es X.env)).any (·.1) = false := by rfl) :
    PE X (.Call (.Name x p) (e :: es) [] pos) (tCall sp [] E t) := by
  refine ⟨fun pins s σ H Q I h => ?_⟩
  refine wpAny_Call_Name_kw (ld_glob I hg hm ?_ hdb)
  refine W.callWith_K (h₀ := X.base) I.ok.mod.kin hk (thn (ha.run pos pins s σ H _ I h) fun us s1 ⟨vs, H1, I1, r, q⟩ => ⟨I1.kIn, ?_⟩) he hpl
  have q' : sp vs H1 Q E := by simpa using q
  have hl : us.length = ps.length := by rw [← r.length]; exact F.len _ _ _ _ q'
  have bd := hb s1 us I1.kIn (by simpa using hl)
  rw [List.append_nil] at bd
  refine wpAny_call (codeAny_mono (F.go X.A X.stack s1 H1 ⟨us, []⟩ us vs Q E gd hr I1.env0 bd r q') fun rs s' hq => ?_)
  cases rs with
  | error e => exact hx pins σ H1 s1 e s' I1 hq
  | ok fl =>
    cases fl with
    | ret u => exact I1.after hq
    | next => exact False.elim hq
    | brk => exact False.elim hq
    | cont => exact False.elim hq
end

/-! the law's own call, from such a promise -/
section
variable {P : Program} {w : World} {K : W.Frag} {mg mb : Str → Option Value} {CX : CXT} {k : Nat} {fa a : Addr} {fd : FuncData} {x : Str} {sp : Sp} {s₁ : Shared} {vs : List Value} {ns : List Int}
abbrev EndT (s₁ : Shared) : Result → Shared → Prop := fun r s' => r = .ok (.ret (.bool true)) ∧ OldK s₁.heap s'.heap ∧ s'.os = s₁.os ∧ PyProof.Rows.AllBare s'.gens

/-- where at most the script is tracked -/
theorem go_from (KX : K.In s₁.heap) (hns : s₁.heap.Ns mainGlobals mg) (hb : s₁.heap.Ns builtinsNs mb) (hbb : ∀ x : Str, x ≠ "__name__" → mb x = bootBuiltins x) (lim : s₁.heap.NoLimit) (hg : s₁.gens = #[])
    (ha : s₁.heap.get? a = some { cls := .type "list", data := .seq vs.toArray }) (hr : Room k callerA)
    (F : ∀ base : Heap, K.In base → base.Ns mainGlobals mg → FnG P w K mg base CX k fa fd [x] sp) (hbind : ∀ (s : Shared) (u : Value), BindsTo s fd ⟨[u], []⟩ [(x, u)])
    (hCX : ∀ H e s', CX [] H s₁ (fun _ _ _ => False) e s' → False) (H : Hp) (only : Only H) (hsp : sp [.ref a] H (fun v _ => v = .bl true) fun _ _ _ => False)
    (hok : HOk P w H s₁.heap) (sole : ∀ b u, H b = some u → b = a) (out : ∀ u, H a = some u → K.lookup a = none) :
    codeAny (model P w) callerA (.call (.ref fa) ⟨[.ref a], []⟩) (EndT s₁) s₁ := by
  have untracked : ∀ {b : Addr} {o : Obj} {es : Array DictEntry} {ep : Nat}, s₁.heap.get? b = some o → o.data = .dict es ep → H b = none := by
    intro b o es ep e d
    match q : H b with
    | none => rfl
    | some u =>
      cases sole b u q
      rw [ha] at e
      cases e
      exact nomatch d
  have carry : ∀ {b : Addr} {m : Str → Option Value}, s₁.heap.Ns b m → (hidT s₁.heap H).Ns b m := by
    rintro b m ⟨o, es, ep, e, d, r⟩
    exact ⟨o, es, ep, hidT_get e (untracked e d), d, r⟩
  have inB : K.In (hidT s₁.heap H) := by
    intro b o e
    refine hidT_get (KX b o e) ?_
    match q : H b with
    | none => rfl
    | some u =>
      cases sole b u q
      rw [out u q] at e
      cases e
  obtain ⟨mc, l1, l2⟩ := lim
  have M : L2.Mod K mg (hidT s₁.heap H) := ⟨inB, carry hns, ⟨mb, carry hb, hbb⟩, ⟨mc, carry l1, l2⟩⟩
  have e0 : Env0 P w K mg (hidT s₁.heap H) callerA [] s₁ H :=
    { frames := rfl, mod := M, bs := fun b o e => of_hidT e, bsz := Nat.le_of_eq (hidT_size _ _), funs := trivial, frf := fun b z => (by cases z), hok := hok, bare := .of_eq hg }
  refine codeAny_mono ((F _ inB (carry hns)).go callerA [] s₁ H ⟨[.ref a], []⟩ [.ref a] [.ref a] _ _ rfl hr e0 (hbind s₁ (.ref a)) (.cons rfl .nil) hsp) fun r s' h => ?_
  cases r with
  | error e => exact (hCX H e s' h).elim
  | ok fl =>
    cases fl with
    | next => exact h.elim
    | brk => exact h.elim
    | cont => exact h.elim
    | ret u =>
      obtain ⟨v, H', os, bare, un, hok', rv, q⟩ := h
      cases (show v = V.bl true from q)
      cases (show u = Value.bool true from rv)
      refine ⟨rfl, OldK.of_keep fun b o e => ?_, os, bare⟩
      match q : H b with
      | none => exact un.keep b o e q (by intro z; cases z) (by intro z; cases z)
      | some u =>
        rcases only b with z | ⟨ob, xs, z⟩
        · rw [q] at z
          cases z
        · obtain ⟨k1, _⟩ := hok b _ z
          obtain ⟨k2, _⟩ := hok' b _ (un.frzs b ob _ z)
          rw [e] at k1
          cases k1
          exact k2

theorem law_go (KX : K.In s₁.heap) (hns : s₁.heap.Ns mainGlobals mg) (hb : s₁.heap.Ns builtinsNs mb) (hbb : ∀ x : Str, x ≠ "__name__" → mb x = bootBuiltins x) (lim : s₁.heap.NoLimit) (hg : s₁.gens = #[])
    (ha : s₁.heap.get? a = some { cls := .type "list", data := .seq vs.toArray }) (hi : PyProof.Rows.IntsAre vs ns) (hl : ns.length ≤ sizeLine) (hr : Room k callerA)
    (F : ∀ base : Heap, K.In base → base.Ns mainGlobals mg → FnG P w K mg base CX k fa fd [x] sp) (hbind : ∀ (s : Shared) (u : Value), BindsTo s fd ⟨[u], []⟩ [(x, u)])
    (hsp : ∀ H : Hp, Only H → SqL K H a (ns.map V.int) → sp [.ref a] H (fun v _ => v = .bl true) fun _ _ _ => False)
    (hCX : ∀ H e s', CX [] H s₁ (fun _ _ _ => False) e s' → False) : codeAny (model P w) callerA (.call (.ref fa) ⟨[.ref a], []⟩) (EndT s₁) s₁ := by
  have rv := vals_ints hi
  match hk : K.lookup a with
  | some o =>
    have e := KX a o hk
    rw [ha] at e
    cases e
    have S : SqL K (fun _ => none) a (ns.map V.int) := .inr ⟨_, vs.toArray, _, hk, rfl, rfl, rfl, by rw [List.size_toArray, hi.length]; exact hl, by simpa using rv⟩
    have O : Only (fun _ => none) := fun _ => .inl rfl
    exact go_from KX hns hb hbb lim hg ha hr F hbind hCX _ O (hsp _ O S) (fun b u z => nomatch (show (none : Option HO) = some u from z)) (fun b u z => nomatch (show (none : Option HO) = some u from z)) fun u z => nomatch (show (none : Option HO) = some u from z)
  | none =>
    let ob : Obj := { cls := .type "list", data := .seq vs.toArray }
    let H : Hp := fun b => if b = a then some (.frz ob (.lst (ns.map V.int))) else none
    have at_ : H a = some (.frz ob (.lst (ns.map V.int))) := if_pos rfl
    have off : ∀ b, b ≠ a → H b = none := fun b z => if_neg z
    have O : Only H := fun b => by
      by_cases z : b = a
      · exact .inr ⟨ob, ns.map V.int, z ▸ at_⟩
      · exact .inl (off b z)
    have S : SqL K H a (ns.map V.int) := .inl (.inr ⟨ob, at_⟩)
    refine go_from KX hns hb hbb lim hg ha hr F hbind hCX H O (hsp H O S) (fun b u z => ?_) (fun b u z => ?_) fun _ _ => hk
    · by_cases y : b = a
      · subst y
        rw [at_] at z
        cases z
        exact ⟨ha, by rw [List.length_map]; exact hl, vs, _, rv, ha⟩
      · rw [off b y] at z
        cases z
    · by_cases y : b = a
      · exact y
      · rw [off b y] at z
        cases z
end

theorem walkG {l : W.OpenLaw} {n k : Nat} {q : Program} {loose : List Str} {XP : (Str → Option Value) → Heap → Prop} {YP : World → Heap → Prop} {d : DefRec} {K : Params → W.Frag} {sp : W.Frag → Sp} {x : Str}
    (hn : l.most = some n) (hn2 : n ≤ sizeLine) (hdf : d.params.defaults = []) (hr : Room k callerA) (hY : ∀ (w : World) (h : Heap), YP w h → (K w.params).In h)
    (F : ∀ (w : World) (mg : Str → Option Value) (fa : Addr) (h : Heap), (K w.params).In h → h.Ns mainGlobals mg → mg d.name = some (.ref fa) →
      ∃ fd : FuncData, (∀ (s : Shared) (u : Value), BindsTo s fd ⟨[u], []⟩ [(x, u)]) ∧ ∀ base : Heap, (K w.params).In base → base.Ns mainGlobals mg → FnG l.prog w (K w.params) mg base L2.CX0 k fa fd [x] (sp (K w.params)))
    (hsp : ∀ (K : W.Frag) (H : Hp) (a : Addr) (ns : List Int), ns.length ≤ n → Only H → SqL K H a (ns.map V.int) → sp K [.ref a] H (fun v _ => v = .bl true) fun _ _ _ => False) :
    W.WalkO q loose XP YP l.row.toRowW d [] (fun f vs => PySem.call f vs) := by
  refine Att.attach_call hn hdf fun w s₀ s₁ mg mb fa o pm cd doc a vs ns G Y ho hd hcd hmg hobj hints hlen hg => ?_
  have there := hY w _ Y
  obtain ⟨fd, hb, hF⟩ := F w mg fa _ there G.T.g hmg
  exact law_go there G.T.g G.T.b G.T.builtins G.T.nolimit hg hobj hints (Nat.le_trans hlen hn2) hr hF hb (fun H hO hS => hsp _ H a ns hlen hO hS) fun H e s' z => z
end TW

set_option Elab.async false
set_option linter.all false
set_option maxRecDepth 100000
set_option maxHeartbeats 2000000
namespace TW
open PySem L2

/-- what a value is, without the heap -/
inductive D where
  | non | bl (b : Bool) | int (i : Int) | str (z : Str) | rat (t b : Int) | lst (l : List D) | tup (l : List D) | dct (l : List (Int × Int)) | dl (i : Int) (l : List D)

def ratText (t b : Int) : Str := Str.empty ++ "Ratio(" ++ toString t ++ ", " ++ toString b ++ ")"
def kvs (l : List (Int × Int)) : List (Key × V) := l.map fun p => (Sum.inl p.1, V.int p.2)
mutual
def D.shown : D → Str
  | .non => "None"
  | .bl b => if b then "True" else "False"
  | .int i => toString i
  | .str z => reprText z
  | .rat t b => ratText t b
  | .lst l => listText (showns l)
  | .tup l => tupleText (showns l)
  | .dct l => dictText (kvText (kvs l))
  | .dl i l => dictText [(toString i ++ ": " ++ listText (showns l) : Str)]
def showns : List D → List Str
  | [] => []
  | d :: l => d.shown :: showns l
end
def SmallI (i : Int) : Prop := i.natAbs.log2 < 1920
mutual
/-- at most so many signs -/
def D.len : D → Nat
  | .non => 4
  | .bl _ => 5
  | .int _ => 1921
  | .str z => (reprText z).length
  | .rat _ _ => 4000
  | .lst l => 2 + lens l
  | .tup l => 3 + lens l
  | .dct l => 2 + 4000 * l.length
  | .dl _ _ => 8000
def lens : List D → Nat
  | [] => 0
  | d :: l => d.len + 2 + lens l
end
mutual
def D.ok : D → Prop
  | .int i => SmallI i
  | .rat t b => SmallI t ∧ SmallI b
  | .lst l => oks l
  | .tup l => oks l
  | .dct l => ∀ p ∈ l, SmallI p.1 ∧ SmallI p.2
  | .dl i l => SmallI i ∧ ∃ j : Int, l = [.int j] ∧ SmallI j
  | _ => True
def oks : List D → Prop
  | [] => True
  | d :: l => d.ok ∧ oks l
end
mutual
def D.deep : D → Nat
  | .lst l => deeps l + 1
  | .tup l => deeps l + 1
  | _ => 0
def deeps : List D → Nat
  | [] => 0
  | d :: l => max d.deep (deeps l)
end

mutual
inductive Dt (C : Addr) (H : Hp) : V → D → Prop
  | non : Dt C H .non .non
  | bl (b : Bool) : Dt C H (.bl b) (.bl b)
  | int (i : Int) : Dt C H (.int i) (.int i)
  | str (z : Str) : Dt C H (.str z) (.str z)
  | rat {a dx : Addr} {fs : List (Str × V)} {t b : Int} : H a = some (.ins C dx fs) → fs.lookup ("_top" : Str) = some (V.int t) → fs.lookup ("_bottom" : Str) = some (V.int b) → Dt C H (.ref a) (.rat t b)
  | lst {a : Addr} {xs : List V} {l : List D} : H a = some (.lst xs) → Dts C H xs l → Dt C H (.ref a) (.lst l)
  | tup {a : Addr} {xs : List V} {l : List D} : H a = some (.tup xs) → Dts C H xs l → Dt C H (.ref a) (.tup l)
  | dct {a : Addr} {l : List (Int × Int)} : H a = some (.dK (kvs l)) → Dt C H (.ref a) (.dct l)
  | dl {a b : Addr} {xs : List V} {i : Int} {l : List D} : H a = some (.dK [((Sum.inl i : Key), V.ref b)]) → H b = some (.lst xs) → Dts C H xs l → Dt C H (.ref a) (.dl i l)
inductive Dts (C : Addr) (H : Hp) : List V → List D → Prop
  | nil : Dts C H [] []
  | cons {v : V} {d : D} {xs : List V} {l : List D} : Dt C H v d → Dts C H xs l → Dts C H (v :: xs) (d :: l)
end
theorem Dts.length {C : Addr} {H : Hp} : ∀ {xs : List V} {l : List D}, Dts C H xs l → xs.length = l.length
  | _, _, .nil => rfl
  | _, _, .cons _ h => by simp [h.length]
theorem Dts.at {C : Addr} {H : Hp} : ∀ {xs : List V} {l : List D}, Dts C H xs l → ∀ {i : Nat} {x : V}, xs[i]? = some x → ∃ d, l[i]? = some d ∧ Dt C H x d
  | _, _, .nil, _, _, e => by simp at e
  | _, _, .cons h _, 0, _, e => by
    simp at e
    subst e
    exact ⟨_, rfl, h⟩
  | _, _, .cons _ h, i + 1, x, e => by
    obtain ⟨d, q, r⟩ := h.at (i := i) (x := x) (by simpa using e)
    exact ⟨d, by simpa using q, r⟩
mutual
theorem Dt.same {C : Addr} {H H' : Hp} (s : Same H H') : ∀ {d : D} {v : V}, Dt C H v d → Dt C H' v d
  | _, _, .non => .non
  | _, _, .bl b => .bl b
  | _, _, .int i => .int i
  | _, _, .str z => .str z
  | _, _, .rat h1 h2 h3 => .rat (s _ _ h1) h2 h3
  | _, _, .lst h1 h2 => .lst (s _ _ h1) (h2.same s)
  | _, _, .tup h1 h2 => .tup (s _ _ h1) (h2.same s)
  | _, _, .dct h1 => .dct (s _ _ h1)
  | _, _, .dl h1 h2 h3 => .dl (s _ _ h1) (s _ _ h2) (h3.same s)
theorem Dts.same {C : Addr} {H H' : Hp} (s : Same H H') : ∀ {l : List D} {xs : List V}, Dts C H xs l → Dts C H' xs l
  | _, _, .nil => .nil
  | _, _, .cons h1 h2 => .cons (h1.same s) (h2.same s)
end
theorem kvs_ref {l : List (Int × Int)} {i : Int} {b : Addr} (h : kvs l = [((Sum.inl i : Key), V.ref b)]) : False := by
  match l with
  | [] => simp [kvs] at h
  | (c, d) :: l => simp [kvs] at h
theorem kvs_inj : ∀ {l l' : List (Int × Int)}, kvs l = kvs l' → l = l'
  | [], [], _ => rfl
  | [], _ :: _, h => by simp [kvs] at h
  | _ :: _, [], h => by simp [kvs] at h
  | (a, b) :: l, (c, d) :: l', h => by
    simp only [kvs, List.map_cons, List.cons.injEq, Prod.mk.injEq, Sum.inl.injEq, V.int.injEq] at h
    obtain ⟨⟨rfl, rfl⟩, h⟩ := h
    rw [kvs_inj (l := l) (l' := l') h]
mutual
theorem Dt.uniq {C : Addr} {H : Hp} : ∀ {d d' : D} {v : V}, Dt C H v d → Dt C H v d' → d = d'
  | _, _, _, .non, h => by cases h; rfl
  | _, _, _, .bl b, h => by cases h; rfl
  | _, _, _, .int i, h => by cases h; rfl
  | _, _, _, .str z, h => by cases h; rfl
  | _, _, _, .rat h1 h2 h3, h => by
    cases h with
    | rat g1 g2 g3 =>
      rw [h1] at g1; cases g1
      rw [h2] at g2; cases g2
      rw [h3] at g3; cases g3
      rfl
    | lst g1 _ => rw [h1] at g1; cases g1
    | tup g1 _ => rw [h1] at g1; cases g1
    | dct g1 => rw [h1] at g1; cases g1
    | dl g1 g2 g3 => rw [h1] at g1; cases g1
  | _, _, _, .lst h1 h2, h => by
    cases h with
    | rat g1 g2 g3 => rw [h1] at g1; cases g1
    | lst g1 g2 =>
      rw [h1] at g1; cases g1
      rw [h2.uniq g2]
    | tup g1 _ => rw [h1] at g1; cases g1
    | dct g1 => rw [h1] at g1; cases g1
    | dl g1 g2 g3 => rw [h1] at g1; cases g1
  | _, _, _, .tup h1 h2, h => by
    cases h with
    | rat g1 g2 g3 => rw [h1] at g1; cases g1
    | tup g1 g2 =>
      rw [h1] at g1; cases g1
      rw [h2.uniq g2]
    | lst g1 _ => rw [h1] at g1; cases g1
    | dct g1 => rw [h1] at g1; cases g1
    | dl g1 g2 g3 => rw [h1] at g1; cases g1
  | _, _, _, .dct h1, h => by
    cases h with
    | rat g1 g2 g3 => rw [h1] at g1; cases g1
    | tup g1 g2 => rw [h1] at g1; cases g1
    | lst g1 _ => rw [h1] at g1; cases g1
    | dct g1 =>
      rw [h1] at g1
      have e : kvs _ = kvs _ := HO.dK.inj (Option.some.inj g1)
      rw [kvs_inj e]
    | dl g1 g2 g3 =>
      rw [h1] at g1
      exact (kvs_ref (HO.dK.inj (Option.some.inj g1))).elim
  | _, _, _, .dl h1 h2 h3, h => by
    cases h with
    | rat g1 g2 g3 => rw [h1] at g1; cases g1
    | tup g1 g2 => rw [h1] at g1; cases g1
    | lst g1 _ => rw [h1] at g1; cases g1
    | dct g1 =>
      rw [h1] at g1
      exact (kvs_ref (HO.dK.inj (Option.some.inj g1)).symm).elim
    | dl g1 g2 g3 =>
      rw [h1] at g1; cases g1
      rw [h2] at g2; cases g2
      rw [h3.uniq g3]
theorem Dts.uniq {C : Addr} {H : Hp} : ∀ {l l' : List D} {xs : List V}, Dts C H xs l → Dts C H xs l' → l = l'
  | _, _, _, .nil, h => by cases h; rfl
  | _, _, _, .cons h1 h2, h => by
    cases h with
    | cons g1 g2 => rw [h1.uniq g1, h2.uniq g2]
end

/-! lengths -/
theorem len_int {i : Int} (h : SmallI i) : (toString i : Str).length ≤ 1921 := PyProof.Rows.int_text_len_1921 h
theorem len_list (ts : List Str) : (listText ts).length ≤ 2 + piled ts := by
  cases ts with
  | nil => decide
  | cons t r =>
    have q := textFrom_length_pos r 1 (("[" : Str) ++ (if (0 : Nat) > 0 then ", " else "" : String) ++ t) (Nat.succ_pos 0)
    have e1 : (listText (t :: r)).length = (textFrom 1 (("[" : Str) ++ (if (0 : Nat) > 0 then ", " else "" : String) ++ t) r).length + 1 := by
      show (textFrom 1 (("[" : Str) ++ (if (0 : Nat) > 0 then ", " else "" : String) ++ t) r ++ "]").length = _
      rw [strLen_append]
      rfl
    have e2 : (("[" : Str) ++ (if (0 : Nat) > 0 then ", " else "" : String) ++ t).length = 1 + t.length := by
      rw [strLen_append, strLen_append]
      rfl
    rw [e1, q, e2, piled_cons]
    omega
theorem len_join (ts : List Str) : (Str.join ", " ts).length ≤ piled ts := by
  by_cases h : ts = []
  · subst h
    exact Nat.zero_le _
  · have := join_length_add ts h
    omega
theorem len_tup (ts : List Str) : (tupleText ts).length ≤ 3 + piled ts := by
  unfold tupleText
  rw [strLen_append, strLen_append]
  have q := len_join ts
  have e1 : (("(" : Str)).length = 1 := rfl
  have e3 : ((if ts.length == 1 then ",)" else ")" : String) : Str).length ≤ 2 := by split <;> decide
  rw [e1]
  omega
theorem len_dict (ts : List Str) : (dictText ts).length ≤ 2 + piled ts := by
  unfold dictText
  rw [strLen_append, strLen_append]
  have q := len_join ts
  have e1 : (("{" : Str)).length = 1 := rfl
  have e3 : (("}" : Str)).length = 1 := rfl
  rw [e1, e3]
  omega
theorem len_kv : ∀ (l : List (Int × Int)), (∀ p ∈ l, SmallI p.1 ∧ SmallI p.2) → piled (kvText (kvs l)) ≤ 4000 * l.length
  | [], _ => Nat.zero_le _
  | (a, b) :: l, h => by
    have h1 := h (a, b) (List.Mem.head _)
    have h2 := len_kv l fun p hp => h p (List.Mem.tail _ hp)
    have e : piled (kvText (kvs ((a, b) :: l))) = ((toString a ++ ": " ++ toString b : Str).length + 2) + piled (kvText (kvs l)) := piled_cons _ _
    rw [e, strLen_append, strLen_append]
    have e1 : ((": " : String) : Str).length = 2 := rfl
    have q1 : (toString a : Str).length ≤ 1921 := len_int h1.1
    have q2 : (toString b : Str).length ≤ 1921 := len_int h1.2
    rw [e1, List.length_cons]
    omega
theorem len_rat {t b : Int} (h1 : SmallI t) (h2 : SmallI b) : (ratText t b).length ≤ 4000 := by
  unfold ratText
  rw [strLen_append, strLen_append, strLen_append, strLen_append, strLen_append]
  have q1 := len_int h1
  have q2 := len_int h2
  have e0 : (Str.empty).length = 0 := rfl
  have e1 : (("Ratio(" : String) : Str).length = 6 := rfl
  have e2 : ((", " : String) : Str).length = 2 := rfl
  have e3 : ((")" : String) : Str).length = 1 := rfl
  rw [e0, e1, e2, e3]
  omega
mutual
theorem len_shown : ∀ (d : D), d.ok → d.shown.length ≤ d.len
  | .non, _ => by decide
  | .bl b, _ => by cases b <;> decide
  | .int i, h => len_int h
  | .str z, _ => Nat.le_refl _
  | .rat t b, h => len_rat h.1 h.2
  | .lst l, h => by
    have q := len_showns l h
    have z := len_list (showns l)
    simp only [D.shown, D.len]
    omega
  | .tup l, h => by
    have q := len_showns l h
    have z := len_tup (showns l)
    simp only [D.shown, D.len]
    omega
  | .dct l, h => by
    have q := len_kv l h
    have z := len_dict (kvText (kvs l))
    simp only [D.shown, D.len]
    omega
  | .dl i l, h => by
    obtain ⟨hi, j, rfl, hj⟩ := h
    show (dictText [(toString i ++ ": " ++ listText [(toString j : Str)] : Str)]).length ≤ 8000
    have z := len_dict [(toString i ++ ": " ++ listText [(toString j : Str)] : Str)]
    have z2 := len_list [(toString j : Str)]
    rw [piled_cons] at z z2
    rw [strLen_append, strLen_append] at z
    have e1 : ((": " : String) : Str).length = 2 := rfl
    have e0 : piled ([] : List Str) = 0 := rfl
    have q1 := len_int hi
    have q2 := len_int hj
    rw [e1] at z
    rw [e0] at z z2
    omega
theorem len_showns : ∀ (l : List D), oks l → piled (showns l) ≤ lens l
  | [], _ => Nat.le_refl _
  | d :: l, h => by
    have q1 := len_shown d h.1
    have q2 := len_showns l h.2
    simp only [showns, lens, piled_cons]
    omega
end

/-! writing such values -/
/-- what Ratio's __repr__ promises -/
def spRepr (C : Addr) : Sp := fun vs H Q _ => ∃ (a dx : Addr) (fs : List (Str × V)) (t b : Int), vs = [.ref a] ∧ H a = some (.ins C dx fs) ∧ fs.lookup ("_top" : Str) = some (V.int t) ∧ fs.lookup ("_bottom" : Str) = some (V.int b) ∧ SmallI t ∧ SmallI b ∧ Q (.str (ratText t b)) H
/-- that it stands there -/
structure RatR (P : Program) (w : World) (K : W.Frag) (mg : Str → Option Value) (base : Heap) (C : Addr) (k : Nat) : Prop where
  ex : ∃ (f : Addr) (fd : FuncData), W.findIn K (.ref C) "__repr__" = some (some (.ref f)) ∧ W.isFn K (.ref f) = true ∧ FnOk P w K mg base L2.CX0 k f fd ["self"] (spRepr C) ∧ Binds K fd ["self"] []

section
variable {X : Cx} {C : Addr} {H : Hp} {k : Nat}
def Within_ (C : Addr) (H : Hp) (as : List Addr) (n : Nat) : Prop := ∀ c ∈ as, ∃ d, Dt C H (.ref c) d ∧ sizeOf d ≤ n
theorem Within_.out {as : List Addr} {n : Nat} {a : Addr} {d : D} (h : Within_ C H as n) (ha : Dt C H (.ref a) d) (lt : n < sizeOf d) : a ∉ as := fun hm => by
  obtain ⟨d', h1, h2⟩ := h a hm
  rw [ha.uniq h1] at lt
  omega
theorem Within_.cons {as : List Addr} {n m : Nat} {a : Addr} {d : D} (h : Within_ C H as n) (ha : Dt C H (.ref a) d) (h1 : n ≤ m) (h2 : sizeOf d ≤ m) : Within_ C H (a :: as) m := fun c hc => by
  rcases List.mem_cons.mp hc with rfl | hc
  · exact ⟨d, ha, h2⟩
  · obtain ⟨d', q1, q2⟩ := h c hc
    exact ⟨d', q1, by omega⟩
theorem Within_.nil {n : Nat} : Within_ C H [] n := fun _ h => nomatch h
theorem Within_.append {as bs : List Addr} {n m l : Nat} (h1 : Within_ C H as n) (h2 : Within_ C H bs m) (q1 : n ≤ l) (q2 : m ≤ l) : Within_ C H (as ++ bs) l := fun c hc => by
  rcases List.mem_append.mp hc with hc | hc
  · obtain ⟨d', z1, z2⟩ := h1 c hc
    exact ⟨d', z1, by omega⟩
  · obtain ⟨d', z1, z2⟩ := h2 c hc
    exact ⟨d', z1, by omega⟩
theorem RpAll.more {as as' : List Addr} {lv lv' : Nat} : ∀ {xs : List V} {ts : List Str}, RpAll X H as lv xs ts → (∀ c ∈ as, c ∈ as') → lv ≤ lv' → RpAll X H as' lv' xs ts
  | _, _, .nil, _, _ => .nil
  | _, _, .cons h t, a, b => .cons (h.more a b) (t.more a b)
theorem kv_small : ∀ {l : List (Int × Int)}, (∀ p ∈ l, SmallI p.1 ∧ SmallI p.2) → KvSmall (kvs l)
  | [], _ => trivial
  | (a, b) :: l, h => ⟨(h (a, b) (List.Mem.head _)).1, (h (a, b) (List.Mem.head _)).2, Nat.le_trans (len_int (h (a, b) (List.Mem.head _)).1) (by decide), kv_small fun p hp => h p (List.Mem.tail _ hp)⟩
mutual
theorem rpD (R : RatR X.prog X.w X.K X.mg X.base C k) : ∀ (d : D) (v : V), Dt C H v d → d.ok → d.len ≤ sizeLine → ∃ as, Within_ C H as (sizeOf d) ∧ Rp X H as (k + d.deep) v d.shown
  | .non, _, .non, _, _ => ⟨[], Within_.nil, Rp.non⟩
  | .bl b, _, .bl _, _, _ => ⟨[], Within_.nil, Rp.bl b⟩
  | .int i, _, .int _, h, _ => ⟨[], Within_.nil, Rp.int h⟩
  | .str z, _, .str _, _, h => ⟨[], Within_.nil, Rp.str h⟩
  | .rat t b, _, .rat (a := a) h1 h2 h3, h, _ => by
    obtain ⟨f, fd, r1, r2, r3, r4⟩ := R.ex
    exact ⟨[], Within_.nil, Rp.own h1 r1 r2 r3 r4 fun Q E q => ⟨_, _, _, _, _, rfl, h1, h2, h3, h.1, h.2, q⟩⟩
  | .lst l, _, .lst (a := a) (xs := xs) h1 h2, h, hz => by
    have z : lens l ≤ sizeLine := by simp only [D.len] at hz; omega
    obtain ⟨as, w1, r⟩ := rpL R l xs h2 h z
    have me : Dt C H (.ref a) (.lst l) := .lst h1 h2
    have lt : sizeOf l < sizeOf (D.lst l) := by simp
    refine ⟨a :: as, w1.cons me (Nat.le_of_lt lt) (Nat.le_refl _), ?_⟩
    exact Rp.list (SqL.of h1) (w1.out me lt) r.len r.at
  | .tup l, _, .tup (a := a) (xs := xs) h1 h2, h, hz => by
    have z : lens l ≤ sizeLine := by simp only [D.len] at hz; omega
    obtain ⟨as, w1, r⟩ := rpL R l xs h2 h z
    have me : Dt C H (.ref a) (.tup l) := .tup h1 h2
    have lt : sizeOf l < sizeOf (D.tup l) := by simp
    refine ⟨a :: as, w1.cons me (Nat.le_of_lt lt) (Nat.le_refl _), ?_⟩
    exact Rp.tup (SqT.of h1) (w1.out me lt) r
  | .dct l, _, .dct (a := a) h1, h, _ => ⟨[a], Within_.nil.cons (n := 0) (.dct h1) (Nat.zero_le _) (Nat.le_refl _), Rp.dct h1 (fun z => nomatch z) (kv_small h)⟩
  | .dl i l, _, .dl (a := a) (b := b) h1 h2 h3, h, _ => by
    obtain ⟨hi, j, rfl, hj⟩ := h
    have me : Dt C H (.ref a) (.dl i [.int j]) := .dl h1 h2 h3
    have inn : Dt C H (.ref b) (.lst [.int j]) := .lst h2 h3
    have le : sizeOf (D.lst [.int j]) ≤ sizeOf (D.dl i [.int j]) := by simp
    have nab : a ∉ [b] := fun z => by
      rw [List.mem_singleton.1 z, h2] at h1
      cases h1
    have hx : H b = some (.lst [.int j]) := by
      cases h3 with
      | cons g t =>
        cases t
        cases g
        exact h2
    exact ⟨[a, b], (Within_.nil.cons (n := 0) (m := sizeOf (D.dl i [.int j])) inn (Nat.zero_le _) le).cons me (Nat.le_refl _) (Nat.le_refl _), Rp.dl h1 hx nab (fun z => nomatch z) hi hj⟩
theorem rpL (R : RatR X.prog X.w X.K X.mg X.base C k) : ∀ (l : List D) (xs : List V), Dts C H xs l → oks l → lens l ≤ sizeLine → ∃ as, Within_ C H as (sizeOf l) ∧ RpAll X H as (k + deeps l) xs (showns l)
  | [], _, .nil, _, _ => ⟨[], Within_.nil, .nil⟩
  | d :: l, _, .cons (v := v) (xs := xs) h1 h2, h, hz => by
    have z1 : d.len ≤ sizeLine := by simp only [lens] at hz; omega
    have z2 : lens l ≤ sizeLine := by simp only [lens] at hz; omega
    obtain ⟨as, w1, r1⟩ := rpD R d v h1 h.1 z1
    obtain ⟨bs, w2, r2⟩ := rpL R l xs h2 h.2 z2
    have q1 : sizeOf d ≤ sizeOf (d :: l) := by simp; omega
    have q2 : sizeOf l ≤ sizeOf (d :: l) := by simp
    refine ⟨as ++ bs, w1.append w2 q1 q2, .cons (r1.more (fun c hc => List.mem_append_left _ hc) ?_) (r2.more (fun c hc => List.mem_append_right _ hc) ?_)⟩
    · simp only [deeps]; omega
    · simp only [deeps]; omega
end
theorem rcD (R : RatR X.prog X.w X.K X.mg X.base C k) : ∀ (d : D) (v : V), Dt C H v d → d.ok → d.len ≤ sizeLine → ∃ as, Rc X H as (k + d.deep + 1) v d.shown
  | .non, _, .non, _, _ => ⟨[], Rc.non⟩
  | .bl b, _, .bl _, _, _ => ⟨[], Rc.bl b⟩
  | .int i, _, .int _, h, _ => ⟨[], Rc.int h⟩
  | .str z, _, .str _, _, h => ⟨[], Rc.str⟩
  | .rat t b, _, .rat (a := a) h1 h2 h3, h, _ => by
    obtain ⟨f, fd, r1, r2, r3, r4⟩ := R.ex
    exact ⟨[], Rc.own h1 r1 r2 r3 r4 fun Q E q => ⟨_, _, _, _, _, rfl, h1, h2, h3, h.1, h.2, q⟩⟩
  | .lst l, _, .lst (a := a) (xs := xs) h1 h2, h, hz => by
    have z : lens l ≤ sizeLine := by simp only [D.len] at hz; omega
    obtain ⟨as, w1, r⟩ := rpL R l xs h2 h z
    exact ⟨a :: as, Rc.list (SqL.of h1) (w1.out (.lst h1 h2) (by simp)) r.len r.at⟩
  | .tup l, _, .tup (a := a) (xs := xs) h1 h2, h, hz => by
    have z : lens l ≤ sizeLine := by simp only [D.len] at hz; omega
    obtain ⟨as, w1, r⟩ := rpL R l xs h2 h z
    exact ⟨a :: as, Rc.tup (SqT.of h1) (w1.out (.tup h1 h2) (by simp)) r⟩
  | .dct l, _, .dct (a := a) h1, h, _ => ⟨[a], Rc.dct h1 (fun z => nomatch z) (kv_small h)⟩
  | .dl i l, _, .dl (a := a) (b := b) h1 h2 h3, h, _ => by
    obtain ⟨hi, j, rfl, hj⟩ := h
    have me : Dt C H (.ref a) (.dl i [.int j]) := .dl h1 h2 h3
    have inn : Dt C H (.ref b) (.lst [.int j]) := .lst h2 h3
    have le : sizeOf (D.lst [.int j]) ≤ sizeOf (D.dl i [.int j]) := by simp
    have nab : a ∉ [b] := fun z => by
      rw [List.mem_singleton.1 z, h2] at h1
      cases h1
    have hx : H b = some (.lst [.int j]) := by
      cases h3 with
      | cons g t =>
        cases t
        cases g
        exact h2
    exact ⟨[a, b], Rc.dl h1 hx nab (fun z => nomatch z) hi hj⟩

/-- repr(x) in a body, where no writing is under way -/
def rRepr (C : Addr) (n : Nat) : List V → Hp → VK → Prop := fun xs H Q => ∃ x d, xs = [x] ∧ Dt C H x d ∧ d.ok ∧ d.len ≤ sizeLine ∧ d.deep ≤ n ∧ Q (.str d.shown) H
theorem call_repr {n : Nat} (R : RatR X.prog X.w X.K X.mg X.base C k) (gd : X.A.guards = some []) (hr : Room (k + n + 1) X.A) : CallR X (.builtin "repr") (rRepr C n) := by
  intro pins s σ H xs us Q I r h
  obtain ⟨x, d, rfl, hd, ho, hl, hn, q⟩ := h
  obtain ⟨u, rfl, ru⟩ := vals1 r
  obtain ⟨as, rc⟩ := rcD R d x hd ho hl
  exact rc X.A [] pins σ s u _ _ I.ok.frames gd (fun a _ => Clear.nil a) (hr.mono (by omega)) I ru (Nat.le_trans (len_shown d ho) hl) fun s' tk I' => ⟨.str d.shown, H, I', ⟨tk, rfl⟩, q⟩
end
end TW

set_option Elab.async false
set_option linter.all false
set_option maxRecDepth 100000
set_option maxHeartbeats 2000000
namespace TW
open PySem L2

theorem same_new {H : Hp} {p : Addr} {o : HO} (h : H p = none) : Same H (upd H p o) := fun b x e => by
  rw [upd_ne (ne_of_none e h)]
  exact e
theorem Same.tup {K : W.Frag} {H H' : Hp} {a : Addr} {xs : List V} (e : Same H H') (h : SqT K H a xs) : SqT K H' a xs := by
  rcases h with (h | ⟨o, h⟩) | h
  · exact .inl (.inl (e _ _ h))
  · exact .inl (.inr ⟨o, e _ _ h⟩)
  · exact .inr h
/-- a list or a tuple -/
def Sq (K : W.Frag) (H : Hp) (a : Addr) (xs : List V) : Prop := SqL K H a xs ∨ SqT K H a xs
theorem Sq.same {K : W.Frag} {H H' : Hp} {a : Addr} {xs : List V} (e : Same H H') (h : Sq K H a xs) : Sq K H' a xs := h.elim (fun z => .inl (e.seq z)) fun z => .inr (Same.tup e z)

/-! walking what is a list or a tuple -/
section
variable {X : Cx} {tg it : Expr} {tl : TE}
theorem PI.or {wi wi' : TI} (h : PI X tg it wi) (h' : PI X tg it wi') : PI X tg it (fun σ H R => wi σ H R ∨ wi' σ H R) :=
  ⟨fun pins s σ H R I q => q.elim (h.run pins s σ H R I) (h'.run pins s σ H R I)⟩
abbrev iSeq (K : W.Frag) (tl : TE) : TI := fun σ H R => iList K tl σ H R ∨ iTup K tl σ H R
theorem pi_seq (h : PE X it tl) : PI X tg it (iSeq X.K tl) := PI.or (pi_list h) (pi_tup h)
end


/-- the heap without D -/
def off (D : Addr) (H : Hp) : Hp := fun b => if b = D then none else H b
theorem off_ne {D b : Addr} {H : Hp} (h : b ≠ D) : off D H b = H b := if_neg h
theorem off_same {D : Addr} {H : Hp} : Same (off D H) H := fun b o e => by
  by_cases z : b = D
  · rw [show off D H b = none from if_pos z] at e
    cases e
  · rw [off_ne z] at e
    exact e
theorem off_off {D : Addr} {H1 H2 : Hp} (h : ∀ b o, H1 b = some o → b ≠ D → H2 b = some o) : Same (off D H1) (off D H2) := fun b o e => by
  by_cases z : b = D
  · rw [show off D H1 b = none from if_pos z] at e
    cases e
  · rw [off_ne z] at e
    rw [off_ne z]
    exact h b o e z

section
variable {te : TE} {i : Nat} {σ : L2.St} {H : Hp} {xs : List V} {D : Addr}
def PvC (H : Hp) (P : Nat → V → Hp → Prop) (D : Addr) (k : Nat) (H' : Hp) : Prop := Same H H' ∧ ∃ ys, H' D = some (.lst ys) ∧ ys.length = k ∧ ∀ m y, ys[m]? = some y → P m y (off D H')
theorem comp_turn (P : Nat → V → Hp → Prop) (mono : ∀ k y H1 H2, Same H1 H2 → P k y H1 → P k y H2) (hD : H D = none) (hl : xs.length ≤ sizeLine)
    (el : ∀ (k : Nat) (x : V) (H' : Hp) (R : VK), xs[k]? = some x → Same H H' → (∀ y H2, Same H' H2 → (∀ D, H D = none → H' D ≠ none → P k y (off D H2)) → R y H2) → te ((wipe σ [i]).set i (some x)) H' R) :
    ∀ k x H', xs[k]? = some x → PvC H P D k H' → gName i x (wipe σ [i]) H' fun σ2 H2 => wipe σ2 [i] = wipe σ [i] ∧ tYes σ2 H2 fun b H3 =>
      if b = true then te σ2 H3 fun y H4 => ∃ acc, H4 D = some (.lst acc) ∧ acc.length < sizeLine ∧ PvC H P D (k + 1) (upd H4 D (.lst (acc ++ [y]))) else PvC H P D (k + 1) H3 := by
  rintro k x H' hx ⟨s1, ys, e1, e2, e3⟩
  have hk : k < xs.length := by
    rcases Nat.lt_or_ge k xs.length with z | z
    · exact z
    · rw [List.getElem?_eq_none z] at hx; cases hx
  refine ⟨?_, ?_⟩
  · show (((σ.set i none).set i (some x)).set i none) = (σ.set i none)
    rw [List.set_set, List.set_set]
  · show if true = true then te ((wipe σ [i]).set i (some x)) H' (fun y H4 => ∃ acc, H4 D = some (.lst acc) ∧ acc.length < sizeLine ∧ PvC H P D (k + 1) (upd H4 D (.lst (acc ++ [y])))) else PvC H P D (k + 1) H'
    rw [if_pos rfl]
    refine el k x H' _ hx s1 fun y H2 s2 p => ?_
    refine ⟨ys, s2 _ _ e1, by omega, fun b o e => ?_, ys ++ [y], upd_same, by simp [e2], fun m z hz => ?_⟩
    · rw [upd_ne (ne_of_none e hD)]
      exact s2 _ _ (s1 _ _ e)
    · rcases Nat.lt_or_ge m ys.length with lt | ge
      · rw [List.getElem?_append_left lt] at hz
        refine mono _ _ _ _ (off_off fun b o e hb => ?_) (e3 m z hz)
        rw [upd_ne hb]
        exact s2 _ _ e
      · rw [List.getElem?_append_right ge] at hz
        have em : m - ys.length = 0 := by
          rcases Nat.eq_zero_or_pos (m - ys.length) with q | q
          · exact q
          · rw [List.getElem?_eq_none (by simp; omega)] at hz; cases hz
        rw [em] at hz
        cases (show some y = some z from hz)
        have ek : m = k := by omega
        subst ek
        refine mono _ _ _ _ (off_off fun b o e hb => ?_) (p D hD (by rw [e1]; simp))
        rw [upd_ne hb]
        exact e

/-- [e for x in l], l a list or tuple at slot j: each element by P, which stays; nothing that stood is changed -/
theorem comp_seq {K : W.Frag} {j : Nat} {Q : VK} {a : Addr} (P : Nat → V → Hp → Prop) (mono : ∀ k y H1 H2, Same H1 H2 → P k y H1 → P k y H2)
    (hj : σ[j]? = some (some (.ref a))) (hs : Sq K H a xs) (hl : xs.length ≤ sizeLine)
    (el : ∀ (k : Nat) (x : V) (H' : Hp) (R : VK), xs[k]? = some x → Same H H' → (∀ y H2, Same H' H2 → (∀ D, H D = none → H' D ≠ none → P k y (off D H2)) → R y H2) → te ((wipe σ [i]).set i (some x)) H' R)
    (fin : ∀ (D : Addr) (ys : List V) (H' : Hp), H D = none → Same H H' → H' D = some (.lst ys) → ys.length = xs.length → (∀ k y, ys[k]? = some y → P k y H') → Q (.ref D) H') :
    tLc (iSeq K (tVar j)) (gName i) tYes te [i] σ H Q := by
  have start : ∀ D, H D = none → PvC H P D 0 (upd H D (.lst [])) := fun D hD => ⟨same_new hD, [], upd_same, rfl, fun m y e => by simp at e⟩
  have done : ∀ D, H D = none → ∀ H', PvC H P D xs.length H' → Q (.ref D) H' := fun D hD H' ⟨s1, ys, e1, e2, e3⟩ => fin D ys H' hD s1 e1 e2 fun k y e => mono _ _ _ _ off_same (e3 k y e)
  rcases hs with hs | hs
  · exact .inl ⟨.ref a, hj, a, rfl, ⟨xs, hs⟩, fun D hD => lc_list (K := K) (a := a) (xs := xs) (PvC H P D) (start D hD) (fun k H' _ p => p.1.seq hs) (comp_turn P mono hD hl el) (done D hD)⟩
  · exact .inr ⟨.ref a, hj, a, rfl, ⟨xs, hs⟩, fun D hD => lc_tup (K := K) (a := a) (xs := xs) (PvC H P D) (start D hD) (fun k H' _ p => Same.tup p.1 hs) (comp_turn P mono hD hl el) (done D hD)⟩
end

/-- a comprehension whose elements are written values, by their place -/
theorem comp_vals {te : TE} {i : Nat} {σ : L2.St} {H : Hp} {xs : List V} {K : W.Frag} {j : Nat} {Q : VK} {a : Addr} (f : Nat → V)
    (hj : σ[j]? = some (some (.ref a))) (hs : Sq K H a xs) (hl : xs.length ≤ sizeLine)
    (el : ∀ (k : Nat) (x : V) (H' : Hp) (R : VK), xs[k]? = some x → Same H H' → (∀ H2, Same H' H2 → R (f k) H2) → te ((wipe σ [i]).set i (some x)) H' R)
    (fin : ∀ (D : Addr) (H' : Hp), H D = none → Same H H' → H' D = some (.lst ((List.range xs.length).map f)) → Q (.ref D) H') :
    tLc (iSeq K (tVar j)) (gName i) tYes te [i] σ H Q := by
  refine comp_seq (fun k y _ => y = f k) (fun _ _ _ _ _ h => h) hj hs hl (fun k x H' R hx s1 q => el k x H' R hx s1 fun H2 s2 => q _ H2 s2 fun _ _ _ => rfl) fun D ys H' hD s1 e1 e2 e3 => ?_
  have e : ys = (List.range xs.length).map f := by
    refine List.ext_getElem? fun k => ?_
    rcases Nat.lt_or_ge k ys.length with lt | ge
    · have q : ys[k]? = some ys[k] := List.getElem?_eq_getElem lt
      rw [q, List.getElem?_map, List.getElem?_range (by omega), e3 k _ q]
      rfl
    · rw [List.getElem?_eq_none ge, List.getElem?_eq_none (by simp; omega)]
  rw [e] at e1
  exact fin D H' hD s1 e1
end TW

set_option Elab.async false
set_option linter.all false
set_option maxRecDepth 100000
set_option maxHeartbeats 2000000
namespace TW
open PySem L2 Builtin
/-! an operator by the class's own method -/
/-- the class C does this by the def at f -/
structure Own (K : W.Frag) (C f : Addr) (name : Str) : Prop where
  at_ : W.findIn K (.ref C) name = some (some (.ref f))
  fn : W.isFn K (.ref f) = true
def rOwn (C : Addr) (sp : Sp) (E : XK) : R2 := fun x y H Q => ∃ a b dx dy fs gs, x = .ref a ∧ y = .ref b ∧ H a = some (.ins C dx fs) ∧ H b = some (.ins C dy gs) ∧ sp [x, y] H (fun v H' => (∃ p, v = .ref p) ∧ Q v H') E
def rOwnI (C : Addr) (sp : Sp) (E : XK) : R2 := fun x y H Q => ∃ a i dx fs, x = .ref a ∧ y = .int i ∧ H a = some (.ins C dx fs) ∧ sp [x, y] H (fun v H' => (∃ p, v = .ref p) ∧ Q v H') E
def rOwnU (C : Addr) (sp : Sp) (E : XK) : V → Hp → VK → Prop := fun x H Q => ∃ a dx fs, x = .ref a ∧ H a = some (.ins C dx fs) ∧ sp [x] H Q E
section
variable {X : Cx} {CX : CXT} {k : Nat} {f C : Addr} {fd : FuncData} {sp : Sp} {E : XK}
theorem op_own {op : Operator} (O : Own X.K C f (PySem.dunder op.info.2)) (hc : W.selfFirst X.K C = true) (F : FnOk X.prog X.w X.K X.mg X.base CX k f fd ["self", "other"] sp) (hr : Room k X.A) (hb : Binds X.K fd ["self", "other"] []) (hx : Passes CX X E) :
    OpR X (binaryOp op) (rOwn C sp E) := by
  intro pins s σ H x y v u Q I rx ry h
  obtain ⟨a, b, dx, dy, fs, gs, rfl, rfl, ha, hbb, q⟩ := h
  cases (show v = Value.ref a from rx)
  cases (show u = Value.ref b from ry)
  obtain ⟨mA, Oa, _⟩ := ins_get I.hok ha
  obtain ⟨od, J, _⟩ := Oa.look
  obtain ⟨mB, Ob, _⟩ := ins_get I.hok hbb
  obtain ⟨od', J', _⟩ := Ob.look
  obtain ⟨m, Fm⟩ := I.fr
  refine W.binop_K Fm I.ok.mod.kin J J'.type hc O.at_ O.fn ?_
  refine wpAny_mono (run_fn (vs := [.ref a, .ref b]) F hr hb .nil hx I (.cons rfl (.cons rfl .nil)) q) (fun r s' z => ?_) fun _ _ z => z
  obtain ⟨w, H', I', rw', ⟨p, rfl⟩, q'⟩ := z
  cases (show r = Value.ref p from rw')
  exact ⟨.ref p, H', I', rfl, q'⟩
/-- the other one an INTEGER -/
structure OwnI (K : W.Frag) (C : Addr) (nm : String) : Prop where
  r : ∃ rc, W.findIn K (.ref C) (PySem.dunderR nm) = some rc ∧ (rc = none ∨ ∃ g : Addr, rc = some (.ref g))
  i : ∃ fo, W.findIn K (.type "int") (PySem.dunder nm) = some fo
  j : ∃ ro, W.findIn K (.type "int") (PySem.dunderR nm) = some ro
  s : W.subIn K (.type "int") (.ref C) = some false
theorem op_ownI {op : Operator} (O : Own X.K C f (PySem.dunder op.info.2)) (OI : OwnI X.K C op.info.2) (hc : W.selfFirst X.K C = true) (F : FnOk X.prog X.w X.K X.mg X.base CX k f fd ["self", "other"] sp) (hr : Room k X.A) (hb : Binds X.K fd ["self", "other"] []) (hx : Passes CX X E) :
    OpR X (binaryOp op) (rOwnI C sp E) := by
  intro pins s σ H x y v u Q I rx ry h
  obtain ⟨a, i, dx, fs, rfl, rfl, ha, q⟩ := h
  cases (show v = Value.ref a from rx)
  obtain ⟨t, rfl⟩ := (show ∃ t, u = Value.int i t from ry)
  obtain ⟨mA, Oa, _⟩ := ins_get I.hok ha
  obtain ⟨od, J, _⟩ := Oa.look
  obtain ⟨m, Fm⟩ := I.fr
  obtain ⟨rc, e1, e2⟩ := OI.r
  obtain ⟨fo, e3⟩ := OI.i
  obtain ⟨ro, e4⟩ := OI.j
  refine W.ksp_binT Fm I.ok.mod.kin J rfl hc O.at_ O.fn e1 e2 e3 e4 OI.s ?_
  refine wpAny_mono (run_fn (vs := [.ref a, .int i]) F hr hb .nil hx I (.cons rfl (.cons ⟨t, rfl⟩ .nil)) q) (fun r s' z => ?_) fun _ _ z => z
  obtain ⟨w, H', I', rw', ⟨p, rfl⟩, q'⟩ := z
  cases (show r = Value.ref p from rw')
  exact ⟨.ref p, H', I', rfl, q'⟩
theorem un_ownNeg (O : Own X.K C f "__neg__") (F : FnOk X.prog X.w X.K X.mg X.base CX k f fd ["self"] sp) (hr : Room k X.A) (hb : Binds X.K fd ["self"] []) (hx : Passes CX X E) : UnR X (unaryOp .USub) (rOwnU C sp E) := by
  intro pins s σ H x v Q I rx h
  obtain ⟨a, dx, fs, rfl, ha, q⟩ := h
  cases (show v = Value.ref a from rx)
  obtain ⟨mA, Oa, _⟩ := ins_get I.hok ha
  obtain ⟨od, J, _⟩ := Oa.look
  obtain ⟨m, Fm⟩ := I.fr
  exact W.ksp_neg Fm I.ok.mod.kin J O.at_ O.fn (run_fn (vs := [.ref a]) F hr hb .nil hx I (.cons rfl .nil) q)
end
end TW

set_option Elab.async false
set_option linter.all false
set_option maxRecDepth 100000
set_option maxHeartbeats 2000000
namespace TW
open PySem L2
/-! fractions: what a division by the common part, with the bottom's sign, brings -/
def comm (t b : Int) : Int := if b < 0 then -((Nat.gcd t.natAbs b.natAbs : Nat) : Int) else ((Nat.gcd t.natAbs b.natAbs : Nat) : Int)
theorem num_comm {t b : Int} (h : b ≠ 0) : t.fdiv (comm t b) = (Rat.divInt t b).num := by
  rw [Rat.num_divInt]
  have g : Int.gcd b t = Nat.gcd t.natAbs b.natAbs := Nat.gcd_comm _ _
  rw [g]
  unfold comm
  by_cases c : b < 0
  · rw [if_pos c, Int.sign_eq_neg_one_of_neg c]
    have e := Int.neg_fdiv_neg (-t) ((Nat.gcd t.natAbs b.natAbs : Nat) : Int)
    rw [Int.neg_neg] at e
    rw [e, Int.fdiv_eq_ediv_of_nonneg _ (Int.natCast_nonneg _)]
    congr 1
    omega
  · rw [if_neg c, Int.sign_eq_one_of_pos (by omega), Int.one_mul, Int.fdiv_eq_ediv_of_nonneg _ (Int.natCast_nonneg _)]
theorem den_comm {t b : Int} (h : b ≠ 0) : b.fdiv (comm t b) = ((Rat.divInt t b).den : Int) := by
  rw [Rat.den_divInt, if_neg h]
  have g : Int.gcd b t = Nat.gcd t.natAbs b.natAbs := Nat.gcd_comm _ _
  rw [g]
  unfold comm
  by_cases c : b < 0
  · rw [if_pos c]
    have e := Int.neg_fdiv_neg (b.natAbs : Int) ((Nat.gcd t.natAbs b.natAbs : Nat) : Int)
    have e2 : -(b.natAbs : Int) = b := by omega
    rw [e2] at e
    rw [e, ← Int.ofNat_fdiv]
  · rw [if_neg c]
    have e2 : (b.natAbs : Int) = b := by omega
    rw [← e2, ← Int.ofNat_fdiv]
    rw [Int.natAbs_natCast]
theorem comm_ne {t b : Int} (h : b ≠ 0) : comm t b ≠ 0 := by
  have : 0 < Nat.gcd t.natAbs b.natAbs := Nat.gcd_pos_of_pos_right _ (by omega)
  unfold comm
  split <;> omega
theorem comm_le {t b : Int} (h : b ≠ 0) : (comm t b).natAbs ≤ b.natAbs := by
  have := Nat.gcd_le_right t.natAbs (n := b.natAbs) (by omega)
  unfold comm
  split <;> omega
theorem log2_mono {m n : Nat} (h : m ≤ n) : m.log2 ≤ n.log2 := by
  by_cases z : m = 0
  · rw [z]
    exact Nat.zero_le _
  · exact (Nat.le_log2 (by omega)).2 (Nat.le_trans (Nat.log2_self_le z) h)
theorem rat_add (p q : Rat) : p + q = Rat.divInt (p.num * q.den + q.num * p.den) (p.den * q.den) := by
  have hp : (p.den : Int) ≠ 0 := Int.natCast_ne_zero.2 p.den_nz
  have hq : (q.den : Int) ≠ 0 := Int.natCast_ne_zero.2 q.den_nz
  have e := Rat.divInt_add_divInt p.num q.num hp hq
  rw [Rat.num_divInt_den, Rat.num_divInt_den] at e
  exact e
theorem rat_mul (p q : Rat) : p * q = Rat.divInt (p.num * q.num) (p.den * q.den) := by
  have e := Rat.divInt_mul_divInt p.num q.num (d₁ := p.den) (d₂ := q.den)
  rw [Rat.num_divInt_den, Rat.num_divInt_den] at e
  exact e
/-- // by any divisor of at most 9000 bits -/
def CDivS (_ j : Int) : Prop := j ≠ 0 ∧ j.natAbs.log2 < 9000
section
variable {X : Cx}
open PySem.Spec PyProof.Rows in
theorem op_fdivS : OpR X (binaryOp .FloorDiv) (rI CDivS fun i j => .int (i.fdiv j)) := opI fun _ _ _ _ _ _ _ hc q => floordiv_int hc.1 q (.inl (PyProof.noPylong_of_log2 hc.2))
end
/-- the instance of C at a is the fraction q -/
def RatAt (C : Addr) (H : Hp) (a : Addr) (q : Rat) : Prop := ∃ dx fs, H a = some (.ins C dx fs) ∧ fs.lookup ("_top" : Str) = some (V.int q.num) ∧ fs.lookup ("_bottom" : Str) = some (V.int q.den)
theorem RatAt.same {C : Addr} {H H' : Hp} {a : Addr} {q : Rat} (s : Same H H') (h : RatAt C H a q) : RatAt C H' a q := by
  obtain ⟨dx, fs, e, t, b⟩ := h
  exact ⟨dx, fs, s _ _ e, t, b⟩
/-- a NUMBER and its worth -/
def NumAt (C : Addr) (H : Hp) (x : V) (q : Rat) : Prop := (∃ i : Int, x = .int i ∧ q = (i : Rat)) ∨ ∃ a, x = .ref a ∧ RatAt C H a q
theorem NumAt.same {C : Addr} {H H' : Hp} {x : V} {q : Rat} (s : Same H H') (h : NumAt C H x q) : NumAt C H' x q := h.elim .inl fun ⟨a, e, r⟩ => .inr ⟨a, e, r.same s⟩
/-- so many bits at most, above and below -/
def Bits (n : Nat) (q : Rat) : Prop := q.num.natAbs < 2 ^ n ∧ q.den < 2 ^ n
theorem Bits.mono {n m : Nat} {q : Rat} (h : Bits n q) (hm : n ≤ m) : Bits m q := ⟨Nat.lt_of_lt_of_le h.1 (Nat.pow_le_pow_right (by decide) hm), Nat.lt_of_lt_of_le h.2 (Nat.pow_le_pow_right (by decide) hm)⟩
theorem divInt_bits {n : Nat} {t b : Int} (h : b ≠ 0) (ht : t.natAbs < 2 ^ n) (hb : b.natAbs < 2 ^ n) : Bits n (Rat.divInt t b) := by
  refine ⟨?_, ?_⟩
  · rw [Rat.num_divInt]
    refine Nat.lt_of_le_of_lt (Int.natAbs_ediv_le_natAbs _ _) (Nat.lt_of_le_of_lt ?_ ht)
    rw [Int.natAbs_mul]
    have : b.sign.natAbs = 1 := Int.natAbs_sign_of_ne_zero h
    rw [this]
    omega
  · rw [Rat.den_divInt, if_neg h]
    exact Nat.lt_of_le_of_lt (Nat.div_le_self _ _) hb
theorem lt_log2 {x n : Nat} (h : x < 2 ^ n) (hn : 0 < n) : x.log2 < n := by
  by_cases z : x = 0
  · rw [z]
    exact hn
  · exact (Nat.log2_lt z).2 h
theorem pow_mul_lt {x y a b : Nat} (hx : x < 2 ^ a) (hy : y < 2 ^ b) : x * y < 2 ^ (a + b) := by
  rw [Nat.pow_add]
  rcases Nat.eq_zero_or_pos y with z | z
  · rw [z, Nat.mul_zero]
    exact Nat.mul_pos (Nat.pow_pos (by decide)) (Nat.pow_pos (by decide))
  · exact Nat.lt_of_lt_of_le (Nat.mul_lt_mul_of_pos_right hx z) (Nat.mul_le_mul_left _ (Nat.le_of_lt hy))
theorem bits_add {n m : Nat} {p q : Rat} (hp : Bits n p) (hq : Bits m q) : Bits (n + m + 1) (p + q) := by
  rw [rat_add]
  have d : (p.den : Int) * q.den ≠ 0 := Int.mul_ne_zero (Int.natCast_ne_zero.2 p.den_nz) (Int.natCast_ne_zero.2 q.den_nz)
  refine divInt_bits d ?_ ?_
  · have h1 : (p.num * q.den).natAbs < 2 ^ (n + m) := by
      rw [Int.natAbs_mul, Int.natAbs_natCast]
      exact pow_mul_lt hp.1 hq.2
    have h2 : (q.num * p.den).natAbs < 2 ^ (n + m) := by
      rw [Int.natAbs_mul, Int.natAbs_natCast, Nat.add_comm]
      exact pow_mul_lt hq.1 hp.2
    have h3 := Int.natAbs_add_le (p.num * q.den) (q.num * p.den)
    have h4 : 2 ^ (n + m + 1) = 2 ^ (n + m) * 2 := Nat.pow_succ ..
    omega
  · rw [Int.natAbs_mul, Int.natAbs_natCast, Int.natAbs_natCast]
    have := pow_mul_lt hp.2 hq.2
    have h4 : 2 ^ (n + m + 1) = 2 ^ (n + m) * 2 := Nat.pow_succ ..
    omega
theorem bits_mul {n m : Nat} {p q : Rat} (hp : Bits n p) (hq : Bits m q) : Bits (n + m) (p * q) := by
  rw [rat_mul]
  have d : (p.den : Int) * q.den ≠ 0 := Int.mul_ne_zero (Int.natCast_ne_zero.2 p.den_nz) (Int.natCast_ne_zero.2 q.den_nz)
  refine divInt_bits d ?_ ?_
  · rw [Int.natAbs_mul]
    exact pow_mul_lt hp.1 hq.1
  · rw [Int.natAbs_mul, Int.natAbs_natCast, Int.natAbs_natCast]
    exact pow_mul_lt hp.2 hq.2
end TW

set_option Elab.async false
set_option linter.all false
set_option maxRecDepth 100000
set_option maxHeartbeats 4000000
namespace KT
open PySem L2 TW
def top (i : Nat) : Stmt := PySem.Challenge.pw_tracewords_k12_any_values_as_tables.main.body.getD i (.Pass ⟨0, 0, 0, 0⟩)
abbrev s_is_integer : Stmt := top 3
abbrev s_is_list : Stmt := top 4
abbrev s_is_number : Stmt := top 11
abbrev s_are_numbers : Stmt := top 12
abbrev s_is_row_of : Stmt := top 16
abbrev s_are_rows_of : Stmt := top 17
abbrev s_is_table : Stmt := top 20

structure Txt (K : W.Frag) (mg : Str → Option Value) (C HC : Addr) : Prop where
  isi : mg "isinstance" = none
  int_ : mg "int" = none
  bool_ : mg "bool" = none
  list_ : mg "list" = none
  tuple_ : mg "tuple" = none
  len_ : mg "len" = none
  all_ : mg "all" = none
  gcd_ : mg "gcd" = some (.builtin "math.gcd")
  largest : ∃ t, mg "LARGEST" = some (.int 4 t)
  mgC : mg "Ratio" = some (.ref C)
  clC : Cls K C
  nTop : NoAttr K C "_top"
  nBot : NoAttr K C "_bottom"
  atC : W.findIn K (.ref C) "__class__" = some (some (.builtin "object.__class__"))
  cg : W.specialIn K (.builtin "object.__class__") "__get__" = some (some (.builtin "getset_descriptor.__get__"))
  ct : W.takesIn K (.builtin "object.__class__") = some true
  moC : W.mroIn K C (.type "object") = some true
  kCi : W.kitOne K (.ref C) (.type "int") = some false
  kCb : W.kitOne K (.ref C) (.type "bool") = some false
  kCl : W.kitOne K (.ref C) (.type "list") = some false
  kCt : W.kitOne K (.ref C) (.type "tuple") = some false
  kCC : W.kitOne K (.ref C) (.ref C) = some true
  kTC1 : W.kitOne K (.type "NoneType") (.ref C) = some false
  kTC2 : W.kitOne K (.type "bool") (.ref C) = some false
  kTC3 : W.kitOne K (.type "int") (.ref C) = some false
  kTC4 : W.kitOne K (.type "str") (.ref C) = some false
  kTC5 : W.kitOne K (.type "list") (.ref C) = some false
  kTC6 : W.kitOne K (.type "tuple") (.ref C) = some false
  kTC7 : W.kitOne K (.type "dict") (.ref C) = some false

/-- the type of such a value -/
def tyD (C : Addr) : D → Value
  | .non => .type "NoneType"
  | .bl _ => .type "bool"
  | .int _ => .type "int"
  | .str _ => .type "str"
  | .rat _ _ => .ref C
  | .lst _ => .type "list"
  | .tup _ => .type "tuple"
  | .dct _ => .type "dict"
  | .dl _ _ => .type "dict"
section
variable {K : W.Frag} {mg : Str → Option Value} {C HC : Addr} {H : Hp}
theorem tyx (T : Txt K mg C HC) : ∀ {d : D} {v : V}, Dt C H v d → TyX K H v (tyD C d)
  | _, _, .non => .base .non
  | _, _, .bl b => .base (.bl b)
  | _, _, .int i => .base (.int i)
  | _, _, .str z => .base (.str z)
  | _, _, .rat h _ _ => .base (.ins h T.clC T.atC T.cg T.ct T.moC)
  | _, _, .lst h _ => .base (.lst h)
  | _, _, .tup h _ => .base (.tup h)
  | _, _, .dct h => .base (.dK h)
  | _, _, .dl h _ _ => .base (.dK h)
end
def isIB : D → Bool
  | .int _ => true
  | .bl _ => true
  | _ => false
def isB : D → Bool
  | .bl _ => true
  | _ => false
def isI : D → Bool
  | .int _ => true
  | _ => false
def isC : D → Bool
  | .int i => decide (0 ≤ i)
  | _ => false
def isL : D → Bool
  | .lst _ => true
  | .tup _ => true
  | _ => false
def isR : D → Bool
  | .rat _ _ => true
  | _ => false
def isN : D → Bool
  | .int _ => true
  | .rat _ _ => true
  | _ => false
def itemsD : D → List D
  | .lst l => l
  | .tup l => l
  | _ => []
def areN (d : D) : Bool := isL d && (itemsD d).all isN
section
variable {K : W.Frag} {mg : Str → Option Value} {C HC : Addr} {H : Hp}
theorem kit_int (T : Txt K mg C HC) (d : D) : W.kitOne K (tyD C d) (.type "int") = some (isIB d) := by
  cases d with
  | rat _ _ => exact T.kCi
  | _ => first | exact kit_ty (show kitB _ _ = some true by decide +kernel) | exact kit_ty (show kitB _ _ = some false by decide +kernel)
theorem kit_bool (T : Txt K mg C HC) (d : D) : W.kitOne K (tyD C d) (.type "bool") = some (isB d) := by
  cases d with
  | rat _ _ => exact T.kCb
  | _ => first | exact kit_ty (show kitB _ _ = some true by decide +kernel) | exact kit_ty (show kitB _ _ = some false by decide +kernel)
theorem kit_rat (T : Txt K mg C HC) (d : D) : W.kitOne K (tyD C d) (.ref C) = some (isR d) := by
  cases d with
  | rat _ _ => exact T.kCC
  | non => exact T.kTC1
  | bl _ => exact T.kTC2
  | int _ => exact T.kTC3
  | str _ => exact T.kTC4
  | lst _ => exact T.kTC5
  | tup _ => exact T.kTC6
  | dct _ => exact T.kTC7
  | dl _ _ => exact T.kTC7
theorem kit_seq (T : Txt K mg C HC) (d : D) : W.kitAny K (tyD C d) [.type "list", .type "tuple"] = some (isL d) := by
  cases d with
  | rat _ _ => exact kitAny_cons (b := false) T.kCl (fun _ => kitAny_cons (b := false) T.kCt (fun _ => kitAny_nil) fun z => nomatch z) fun z => nomatch z
  | lst _ => exact kitAny_cons (b := true) (kit_ty (by decide +kernel)) (fun z => nomatch z) fun _ => rfl
  | tup _ => exact kitAny_cons (b := false) (kit_ty (by decide +kernel)) (fun _ => kitAny_cons (b := true) (kit_ty (by decide +kernel)) (fun z => nomatch z) fun _ => rfl) fun z => nomatch z
  | _ => exact kitAny_cons (b := false) (kit_ty (by decide +kernel)) (fun _ => kitAny_cons (b := false) (kit_ty (by decide +kernel)) (fun _ => kitAny_nil) fun z => nomatch z) fun z => nomatch z
end

/-- a judge of any value: nothing that stood is changed -/
def spB (C : Addr) (p : D → Bool) : Sp := fun vs H Q _ => ∃ x d, vs = [x] ∧ Dt C H x d ∧ d.len ≤ sizeLine ∧ ∀ H', Same H H' → Q (.bl (p d)) H'
theorem spB_len {C : Addr} {p : D → Bool} {x : Str} : ∀ vs H Q E, spB C p vs H Q E → vs.length = [x].length := by
  rintro vs H Q E ⟨x, d, rfl, _⟩
  rfl
/-- a def of the top, by its name -/
structure At (K : W.Frag) (mg : Str → Option Value) (x : Str) (st : Stmt) (ps : List Str) (f : Addr) (fd : FuncData) : Prop where
  fn : Fun K x x st f fd
  mg : mg x = some (.ref f)
  b : Binds K fd ps []

theorem sc_is_integer : FnScope ["value"] ["value"] (defScope s_is_integer) := ⟨rfl, rfl, rfl, by decide +kernel, rfl, by decide +kernel, by decide +kernel⟩
theorem sc_is_list : FnScope ["value"] ["value"] (defScope s_is_list) := ⟨rfl, rfl, rfl, by decide +kernel, rfl, by decide +kernel, by decide +kernel⟩
theorem sc_is_number : FnScope ["value"] ["value"] (defScope s_is_number) := ⟨rfl, rfl, rfl, by decide +kernel, rfl, by decide +kernel, by decide +kernel⟩
theorem sc_are_numbers : FnScope ["value", "one"] ["value"] (defScope s_are_numbers) := ⟨rfl, rfl, rfl, by decide +kernel, rfl, by decide +kernel, by decide +kernel⟩
section
variable {P : Program} {w : World} {K : W.Frag} {mg : Str → Option Value} {base : Heap} {C HC : Addr}
theorem ok_is_integer {f : Addr} {fd : FuncData} (F : At K mg "is_integer" s_is_integer ["value"] f fd) (T : Txt K mg C HC) : FnOk P w K mg base L2.CX0 1 f fd ["value"] (spB C isI) := by
  refine F.fn.ok sc_is_integer spB_len fun cdv A outer s H vs Q E hr h => ?_
  obtain ⟨x, d, rfl, hd, hl, q⟩ := h
  refine ⟨_, pss_one (ps_ret (pe_and (pe_callB call_isi (by rfl) T.isi (by decide +kernel) (pa_cons (pv 0) (pa_cons (pe_bltn (v := .ty "int") (by rfl) T.int_ (by decide +kernel) rfl) pa_nil)))
    (pe_one (pe_not (pe_callB call_isi (by rfl) T.isi (by decide +kernel) (pa_cons (pv 0) (pa_cons (pe_bltn (v := .ty "bool") (by rfl) T.bool_ (by decide +kernel) rfl) pa_nil))))))), ?_⟩
  refine ⟨x, rfl, x, .ty "int", _, _, _, rfl, .ty "int", tyx T hd, kit_int T d, _, rfl, ?_⟩
  cases e : isIB d with
  | false =>
    refine iteF ?_
    have z := q H (Same.refl H)
    cases d <;> first | exact z | cases e
  | true =>
    refine iteT ⟨x, rfl, x, .ty "bool", _, _, _, rfl, .ty "bool", tyx T hd, kit_bool T d, _, rfl, ?_⟩
    have z := q H (Same.refl H)
    cases d <;> first | exact z | cases e
theorem ok_is_list {f : Addr} {fd : FuncData} (F : At K mg "is_list" s_is_list ["value"] f fd) (T : Txt K mg C HC) : FnOk P w K mg base L2.CX0 1 f fd ["value"] (spB C isL) := by
  refine F.fn.ok sc_is_list spB_len fun cdv A outer s H vs Q E hr h => ?_
  obtain ⟨x, d, rfl, hd, hl, q⟩ := h
  refine ⟨_, pss_one (ps_ret (pe_callB call_isiT (by rfl) T.isi (by decide +kernel) (pa_cons (pv 0) (pa_cons (pe_tup (pa_cons (pe_bltn (v := .ty "list") (by rfl) T.list_ (by decide +kernel) rfl)
    (pa_cons (pe_bltn (v := .ty "tuple") (by rfl) T.tuple_ (by decide +kernel) rfl) pa_nil))) pa_nil)))), ?_⟩
  refine ⟨x, rfl, by decide, fun p hp => ?_⟩
  have s1 : Same H (upd H p (.tup [.ty "list", .ty "tuple"])) := same_new hp
  exact ⟨x, p, _, _, _, _, rfl, upd_same, .cons (.ty _) (.cons (.ty _) .nil), tyx T (hd.same s1), kit_seq T d, q _ s1⟩
theorem ok_is_number {f f1 : Addr} {fd fd1 : FuncData} (F : At K mg "is_number" s_is_number ["value"] f fd) (T : Txt K mg C HC) (F1 : At K mg "is_integer" s_is_integer ["value"] f1 fd1) : FnOk P w K mg base L2.CX0 2 f fd ["value"] (spB C isN) := by
  refine F.fn.ok sc_is_number spB_len fun cdv A outer s H vs Q E hr h => ?_
  obtain ⟨x, d, rfl, hd, hl, q⟩ := h
  refine ⟨_, pss_one (ps_ret (pe_or (pe_call (ok_is_integer F1 T) hr (by rfl) F1.mg F1.fn.kp F1.b .nil pass0 (pa_cons (pv 0) pa_nil))
    (pe_one (pe_callB call_isi (by rfl) T.isi (by decide +kernel) (pa_cons (pv 0) (pa_cons (pe_glob (v := .ref C) (by rfl) T.mgC rfl) pa_nil)))))), ?_⟩
  refine ⟨x, rfl, x, d, rfl, hd, hl, fun H' s1 => ⟨_, rfl, ?_⟩⟩
  have z := q H' s1
  cases e : isI d with
  | true =>
    refine iteT ?_
    cases d <;> first | exact z | cases e
  | false =>
    refine iteF ⟨x, rfl, x, .ref C, _, _, _, rfl, .own C, tyx T (hd.same s1), kit_rat T d, ?_⟩
    cases d <;> first | exact z | cases e

theorem all_range {p : D → Bool} : ∀ (l : List D) (f : Nat → Bool), (∀ k d, l[k]? = some d → f k = p d) → ((List.range l.length).map f).all id = l.all p
  | [], _, _ => rfl
  | d :: l, f, h => by
    have h0 : f 0 = p d := h 0 d rfl
    have h1 := all_range (p := p) l (fun k => f (k + 1)) fun k d e => h (k + 1) d (by simpa using e)
    rw [List.length_cons, List.range_succ_eq_map, List.map_cons, List.map_map, List.all_cons, List.all_cons, ← h1, h0]
    rfl
theorem seq_of {H : Hp} {x : V} {d : D} (h : Dt C H x d) (e : isL d = true) : ∃ a xs, x = .ref a ∧ Sq K H a xs ∧ Dts C H xs (itemsD d) := by
  cases h with
  | lst h1 h2 => exact ⟨_, _, rfl, .inl (SqL.of h1), h2⟩
  | tup h1 h2 => exact ⟨_, _, rfl, .inr (SqT.of h1), h2⟩
  | _ => cases e
theorem lens_len : ∀ (l : List D), l.length ≤ lens l
  | [] => Nat.le_refl _
  | d :: l => by
    have := lens_len l
    simp only [lens, List.length_cons]
    omega
theorem lens_item : ∀ {l : List D} {k : Nat} {d : D}, l[k]? = some d → d.len ≤ lens l
  | [], _, _, h => by simp at h
  | e :: l, 0, d, h => by
    simp at h
    subst h
    simp only [lens]
    omega
  | e :: l, k + 1, d, h => by
    have := lens_item (l := l) (k := k) (d := d) (by simpa using h)
    simp only [lens]
    omega
theorem items_len {d : D} (h : d.len ≤ sizeLine) : lens (itemsD d) ≤ sizeLine := by
  cases d with
  | lst l => simp only [D.len] at h; show lens l ≤ _; omega
  | tup l => simp only [D.len] at h; show lens l ≤ _; omega
  | _ => exact Nat.zero_le _
theorem ok_are_numbers {f f1 f2 f3 : Addr} {fd fd1 fd2 fd3 : FuncData} (F : At K mg "are_numbers" s_are_numbers ["value"] f fd) (T : Txt K mg C HC) (F1 : At K mg "is_integer" s_is_integer ["value"] f1 fd1)
    (F2 : At K mg "is_list" s_is_list ["value"] f2 fd2) (F3 : At K mg "is_number" s_is_number ["value"] f3 fd3) : FnOk P w K mg base L2.CX0 3 f fd ["value"] (spB C areN) := by
  refine F.fn.ok sc_are_numbers spB_len fun cdv A outer s H vs Q E hr h => ?_
  obtain ⟨x, d, rfl, hd, hl, q⟩ := h
  refine ⟨_, pss_one (ps_ret (pe_and (pe_call (ok_is_list F2 T) (hr.mono (by decide)) (by rfl) F2.mg F2.fn.kp F2.b .nil pass0 (pa_cons (pv 0) pa_nil))
    (pe_one (pe_callB (cr_all rfl) (by rfl) T.all_ (by decide +kernel) (pa_cons (pe_lc (own := [("one", 1)]) (g := gName 1) (tt := tYes) rfl sc_are_numbers.nd (pi_seq (pv 0)) (blkOk_by (N := ["value", "one"]) (sc := defScope s_are_numbers) (by decide +kernel))
      (fun _ _ _ _ _ => pg_name (i := 1) sc_are_numbers.nd rfl (Or.inl rfl)) (fun _ _ _ _ _ => pts_nil) (fun _ _ _ _ _ => pe_call (ok_is_number F3 T F1) hr (by rfl) F3.mg F3.fn.kp F3.b .nil pass0 (pa_cons (pv 1) pa_nil))) pa_nil))))), ?_⟩
  refine ⟨x, rfl, x, d, rfl, hd, hl, fun H1 s1 => ⟨_, rfl, ?_⟩⟩
  cases e : isL d with
  | false =>
    refine iteF ?_
    have z := q H1 s1
    rw [areN, e] at z
    exact z
  | true =>
    refine iteT ?_
    obtain ⟨a, xs, rfl, hs, hds⟩ := seq_of (K := K) hd e
    have hil := items_len hl
    have hll := lens_len (itemsD d)
    have hxl := hds.length
    show tLc (iSeq K (tVar 0)) (gName 1) tYes (tCall (spB C isN) [] E0 (tCons (tVar 1) tNil)) [1] [some (.ref a), none] H1 (fun z H2 => rAll K [z] H2 Q)
    refine comp_vals (xs := xs) (fun k => V.bl (((itemsD d)[k]?.map isN).getD false)) rfl (hs.same s1) (by omega) (fun k y H2 R hy s2 r => ?_) fun D H2 hD s2 e2 => ?_
    · obtain ⟨dy, e3, hdy⟩ := hds.at hy
      refine ⟨y, rfl, y, dy, rfl, (hdy.same s1).same s2, Nat.le_trans (lens_item e3) hil, fun H3 s3 => ?_⟩
      have z := r H3 s3
      rw [e3] at z
      exact z
    · refine ⟨D, (List.range xs.length).map fun k => ((itemsD d)[k]?.map isN).getD false, rfl, SqL.of ?_, ?_⟩
      · rw [e2, List.map_map]
        rfl
      · have z := q H2 (s1.trans s2)
        rw [hxl, all_range (p := isN) (itemsD d) _ fun k dy e3 => by rw [e3]; rfl]
        rw [areN, e] at z
        exact z

theorem iteB {b : Bool} {A B : Prop} (h1 : b = true → A) (h2 : b = false → B) : if b = true then A else B := by
  cases b with
  | true => exact iteT (h1 rfl)
  | false => exact iteF (h2 rfl)
/-- all([.. for one in l]) where each is a judge's answer -/
theorem all_comp {te : TE} {i j : Nat} {σ : L2.St} {H1 : Hp} {Q : VK} {a : Addr} {xs : List V} {l : List D} (p : D → Bool) (hj : σ[j]? = some (some (.ref a))) (hs : Sq K H1 a xs) (hds : Dts C H1 xs l) (hl : lens l ≤ sizeLine)
    (el : ∀ y dy H2 R, dy ∈ l → Dt C H2 y dy → dy.len ≤ sizeLine → Same H1 H2 → (∀ H3, Same H2 H3 → R (.bl (p dy)) H3) → te ((wipe σ [i]).set i (some y)) H2 R)
    (fin : ∀ H3, Same H1 H3 → Q (.bl (l.all p)) H3) : tLc (iSeq K (tVar j)) (gName i) tYes te [i] σ H1 (fun z H2 => rAll K [z] H2 Q) := by
  have hll := lens_len l
  have hxl := hds.length
  refine comp_vals (xs := xs) (fun k => V.bl ((l[k]?.map p).getD false)) hj hs (by omega) (fun k y H2 R hy s2 r => ?_) fun A H2 hD s2 e2 => ?_
  · obtain ⟨dy, e3, hdy⟩ := hds.at hy
    refine el y dy H2 R (List.mem_of_getElem? e3) (hdy.same s2) (Nat.le_trans (lens_item e3) hl) s2 fun H3 s3 => ?_
    have z := r H3 s3
    rw [e3] at z
    exact z
  · refine ⟨A, (List.range xs.length).map fun k => (l[k]?.map p).getD false, rfl, SqL.of ?_, ?_⟩
    · rw [e2, List.map_map]
      rfl
    · rw [hxl, all_range (p := p) l _ fun k dy e3 => by rw [e3]; rfl]
      exact fin H2 s2

def isRow (w : Int) (d : D) : Bool := areN d && decide (((itemsD d).length : Int) = w)
def areRows (m w : Int) (d : D) : Bool := isL d && (decide (((itemsD d).length : Int) ≤ m) && (itemsD d).all (isRow w))
def isTab (d : D) : Bool := isL d && ((decide ((1 : Int) ≤ (itemsD d).length) && decide (((itemsD d).length : Int) ≤ 4)) && areRows 4 (itemsD d).length d)
def spRow (C : Addr) : Sp := fun vs H Q _ => ∃ x d w, vs = [x, .int w] ∧ Dt C H x d ∧ d.len ≤ sizeLine ∧ ∀ H', Same H H' → Q (.bl (isRow w d)) H'
def spRows (C : Addr) : Sp := fun vs H Q _ => ∃ x d m w, vs = [x, .int m, .int w] ∧ Dt C H x d ∧ d.len ≤ sizeLine ∧ ∀ H', Same H H' → Q (.bl (areRows m w d)) H'
theorem sc_is_row_of : FnScope ["value", "wide"] ["value", "wide"] (defScope s_is_row_of) := ⟨rfl, rfl, rfl, by decide +kernel, rfl, by decide +kernel, by decide +kernel⟩
theorem sc_are_rows_of : FnScope ["value", "most", "wide", "row"] ["value", "most", "wide"] (defScope s_are_rows_of) := ⟨rfl, rfl, rfl, by decide +kernel, rfl, by decide +kernel, by decide +kernel⟩
theorem sc_is_table : FnScope ["value"] ["value"] (defScope s_is_table) := ⟨rfl, rfl, rfl, by decide +kernel, rfl, by decide +kernel, by decide +kernel⟩
theorem ok_is_row_of {f g : Addr} {fd gd : FuncData} (F : At K mg "is_row_of" s_is_row_of ["value", "wide"] f fd) (T : Txt K mg C HC) (G : At K mg "are_numbers" s_are_numbers ["value"] g gd)
    (N : FnOk P w K mg base L2.CX0 3 g gd ["value"] (spB C areN)) : FnOk P w K mg base L2.CX0 4 f fd ["value", "wide"] (spRow C) := by
  refine F.fn.ok sc_is_row_of (fun vs H Q E h => ?_) fun cdv A outer s H vs Q E hr h => ?_
  · obtain ⟨x, d, m, rfl, _⟩ := h
    rfl
  obtain ⟨x, d, m, rfl, hd, hl, q⟩ := h
  refine ⟨_, pss_one (ps_ret (pe_and (pe_call N hr (by rfl) G.mg G.fn.kp G.b .nil pass0 (pa_cons (pv 0) pa_nil)) (pe_one (pe_cmp (pc_eqI (pe_callB call_len_seq (by rfl) T.len_ PySem.boot_len (pa_cons (pv 0) pa_nil)) (pv 1)) rfl)))), ?_⟩
  refine ⟨x, rfl, x, d, rfl, hd, hl, fun H1 s1 => ⟨_, rfl, ?_⟩⟩
  have z := q H1 s1
  unfold isRow at z
  cases e : areN d with
  | false =>
    rw [e] at z
    exact iteF z
  | true =>
    rw [e] at z
    have e1 : isL d = true := (Bool.and_eq_true_iff.mp e).1
    obtain ⟨a, xs, rfl, hs, hds⟩ := seq_of (K := K) hd e1
    refine iteT ⟨.ref a, rfl, a, xs, rfl, hs.same s1, .int m, rfl, _, _, rfl, rfl, ?_⟩
    rw [hds.length]
    exact z
theorem ok_are_rows_of {f g h1 : Addr} {fd gd hd1 : FuncData} (F : At K mg "are_rows_of" s_are_rows_of ["value", "most", "wide"] f fd) (T : Txt K mg C HC) (G : At K mg "is_row_of" s_is_row_of ["value", "wide"] g gd)
    (N : FnOk P w K mg base L2.CX0 4 g gd ["value", "wide"] (spRow C)) (L : At K mg "is_list" s_is_list ["value"] h1 hd1) : FnOk P w K mg base L2.CX0 5 f fd ["value", "most", "wide"] (spRows C) := by
  refine F.fn.ok sc_are_rows_of (fun vs H Q E h => ?_) fun cdv A outer s H vs Q E hr h => ?_
  · obtain ⟨x, d, m, w, rfl, _⟩ := h
    rfl
  obtain ⟨x, d, m, n, rfl, hd, hl, q⟩ := h
  refine ⟨_, pss_one (ps_ret (pe_and (pe_call (ok_is_list L T) (hr.mono (by decide)) (by rfl) L.mg L.fn.kp L.b .nil pass0 (pa_cons (pv 0) pa_nil))
    (pe_and (pe_cmp (pc_le (pe_callB call_len_seq (by rfl) T.len_ PySem.boot_len (pa_cons (pv 0) pa_nil)) (pv 1)) rfl)
    (pe_one (pe_callB (cr_all rfl) (by rfl) T.all_ (by decide +kernel) (pa_cons (pe_lc (own := [("row", 3)]) (g := gName 3) (tt := tYes) rfl sc_are_rows_of.nd (pi_seq (pv 0)) (blkOk_by (N := ["value", "most", "wide", "row"]) (sc := defScope s_are_rows_of) (by decide +kernel))
      (fun _ _ _ _ _ => pg_name (i := 3) sc_are_rows_of.nd rfl (Or.inl rfl)) (fun _ _ _ _ _ => pts_nil) (fun _ _ _ _ _ => pe_call N hr (by rfl) G.mg G.fn.kp G.b .nil pass0 (pa_cons (pv 3) (pa_cons (pv 2) pa_nil)))) pa_nil)))))), ?_⟩
  refine ⟨x, rfl, x, d, rfl, hd, hl, fun H1 s1 => ⟨_, rfl, ?_⟩⟩
  unfold areRows at q
  cases e : isL d with
  | false =>
    rw [e] at q
    exact iteF (q H1 s1)
  | true =>
    rw [e] at q
    obtain ⟨a, xs, rfl, hs, hds⟩ := seq_of (K := K) hd e
    refine iteT ⟨.ref a, rfl, a, xs, rfl, hs.same s1, .int m, rfl, _, _, rfl, rfl, _, rfl, ?_⟩
    rw [hds.length]
    refine iteB (b := decide (((itemsD d).length : Int) ≤ m)) (fun e2 => ?_) fun e2 => ?_
    · rw [e2] at q
      show tLc (iSeq K (tVar 0)) (gName 3) tYes (tCall (spRow C) [] E0 (tCons (tVar 3) (tCons (tVar 2) tNil))) [3] [some (.ref a), some (.int m), some (.int n), none] H1 (fun z H2 => rAll K [z] H2 Q)
      refine all_comp (isRow n) rfl (hs.same s1) (hds.same s1) (items_len hl) (fun y dy H2 R _ hdy hyl s2 r => ?_) fun H3 s3 => q H3 (s1.trans s3)
      exact ⟨y, rfl, .int n, rfl, y, dy, n, rfl, hdy, hyl, r⟩
    · rw [e2] at q
      exact q H1 s1
theorem ok_is_table {f g h1 : Addr} {fd gd hd1 : FuncData} (F : At K mg "is_table" s_is_table ["value"] f fd) (T : Txt K mg C HC) (G : At K mg "are_rows_of" s_are_rows_of ["value", "most", "wide"] g gd)
    (N : FnOk P w K mg base L2.CX0 5 g gd ["value", "most", "wide"] (spRows C)) (L : At K mg "is_list" s_is_list ["value"] h1 hd1) : FnOk P w K mg base L2.CX0 6 f fd ["value"] (spB C isTab) := by
  refine F.fn.ok sc_is_table spB_len fun cdv A outer s H vs Q E hr h => ?_
  obtain ⟨x, d, rfl, hd, hl, q⟩ := h
  obtain ⟨tk, hlg⟩ := T.largest
  have glg : ∀ {X : Cx} {p : Pos}, X.mg = mg → Gl X "LARGEST" → PE X (.Name "LARGEST" p) (tC (.int 4)) := fun e hg => pe_glob hg (by rw [e]; exact hlg) ⟨_, rfl⟩
  refine ⟨_, pss_one (ps_ret (pe_and (pe_call (ok_is_list L T) (hr.mono (by decide)) (by rfl) L.mg L.fn.kp L.b .nil pass0 (pa_cons (pv 0) pa_nil))
    (pe_and (pe_chain op_le op_le pe_int (pe_callB call_len_seq (by rfl) T.len_ PySem.boot_len (pa_cons (pv 0) pa_nil)) (glg rfl (by rfl)))
    (pe_one (pe_call N hr (by rfl) G.mg G.fn.kp G.b .nil pass0 (pa_cons (pv 0) (pa_cons (glg rfl (by rfl)) (pa_cons (pe_callB call_len_seq (by rfl) T.len_ PySem.boot_len (pa_cons (pv 0) pa_nil)) pa_nil)))))))), ?_⟩
  refine ⟨x, rfl, x, d, rfl, hd, hl, fun H1 s1 => ⟨_, rfl, ?_⟩⟩
  unfold isTab at q
  cases e : isL d with
  | false =>
    rw [e] at q
    exact iteF (q H1 s1)
  | true =>
    rw [e] at q
    obtain ⟨a, xs, rfl, hs, hds⟩ := seq_of (K := K) hd e
    refine iteT ⟨.ref a, rfl, a, xs, rfl, hs.same s1, _, _, rfl, rfl, _, rfl, ?_⟩
    have lenE := hds.length
    cases e1 : decide ((1 : Int) ≤ (itemsD d).length) with
    | false =>
      rw [e1] at q
      rw [lenE, e1]
      exact iteF ⟨_, rfl, iteF (q H1 s1)⟩
    | true =>
      rw [e1] at q
      rw [lenE, e1]
      refine iteT ⟨_, _, rfl, rfl, _, rfl, ?_⟩
      cases e2 : decide (((itemsD d).length : Int) ≤ 4) with
      | false =>
        rw [e2] at q
        exact iteF (q H1 s1)
      | true =>
        rw [e2] at q
        refine iteT ⟨.ref a, rfl, .ref a, rfl, a, xs, rfl, hs.same s1, .ref a, d, 4, _, ?_, hd.same s1, hl, fun H2 s2 => q H2 (s1.trans s2)⟩
        rw [lenE]
        rfl
end
end KT

set_option Elab.async false
set_option linter.all false
set_option maxRecDepth 100000
set_option maxHeartbeats 4000000
namespace KT
open PySem L2 TW
abbrev s_init : Stmt := inClass (top 10) 0
abbrev s_repr : Stmt := inClass (top 10) 19
abbrev s_ratio_of : Stmt := top 13
abbrev s_ratio_row : Stmt := top 14
/-- a method of a class -/
structure Me (K : W.Frag) (qual x : Str) (st : Stmt) (f : Addr) (fd : FuncData) : Prop where
  fn : Fun K x qual st f fd
  b : Binds K fd ["self"] []

/-! Ratio.__init__ -/
def fsR (x y : Int) : List (Str × V) := putF "_bottom" (.int y) (putF "_top" (.int x) [])
theorem kTB : ¬ (("_top" : Str) = "_bottom") := by decide +kernel
theorem fsR_top (x y : Int) : (fsR x y).lookup ("_top" : Str) = some (V.int x) := by
  unfold fsR
  rw [lookup_putF, if_neg kTB, lookup_putF, if_pos rfl]
theorem fsR_bottom (x y : Int) : (fsR x y).lookup ("_bottom" : Str) = some (V.int y) := by
  unfold fsR
  rw [lookup_putF, if_pos rfl]
/-- the common part, with the bottom's sign -/
def cm (t b : Int) : Int := if b < 0 then -((Nat.gcd t.natAbs b.natAbs : Nat) : Int) else ((Nat.gcd t.natAbs b.natAbs : Nat) : Int)
def spInit (C : Addr) : Sp := fun vs H Q _ => ∃ (p dx : Addr) (t b : Int), vs = [.ref p, .int t, .int b] ∧ H p = some (.ins C dx []) ∧ b ≠ 0 ∧ Nat.gcd t.natAbs b.natAbs < 1073741824 ∧
  ∀ H', (∀ q o, H q = some o → q ≠ p → H' q = some o) → H' p = some (.ins C dx (fsR (t.fdiv (cm t b)) (b.fdiv (cm t b)))) → Q .non H'
theorem sc_init : FnScope ["self", "top", "bottom", "common"] ["self", "top", "bottom"] (defScope s_init) := ⟨rfl, rfl, rfl, by decide +kernel, rfl, by decide +kernel, by decide +kernel⟩
theorem sc_repr : FnScope ["self"] ["self"] (defScope s_repr) := ⟨rfl, rfl, rfl, by decide +kernel, rfl, by decide +kernel, by decide +kernel⟩
theorem sc_ratio_of : FnScope ["number"] ["number"] (defScope s_ratio_of) := ⟨rfl, rfl, rfl, by decide +kernel, rfl, by decide +kernel, by decide +kernel⟩
theorem sc_ratio_row : FnScope ["numbers", "number"] ["numbers"] (defScope s_ratio_row) := ⟨rfl, rfl, rfl, by decide +kernel, rfl, by decide +kernel, by decide +kernel⟩
section
variable {P : Program} {w : World} {K : W.Frag} {mg : Str → Option Value} {base : Heap} {C HC : Addr}
abbrev InitAt (K : W.Frag) (f : Addr) (fd : FuncData) : Prop := FunD K "__init__" "Ratio.__init__" (defArgs s_init) (defBody s_init) (defScope s_init) [.int 1] [] f fd
theorem ok_init {f f1 : Addr} {fd fd1 : FuncData} (F : InitAt K f fd) (T : Txt K mg C HC) (F1 : At K mg "is_integer" s_is_integer ["value"] f1 fd1) : FnOk P w K mg base L2.CX0 2 f fd ["self", "top", "bottom"] (spInit C) := by
  refine F.ok sc_init (fun vs H Q E h => ?_) fun cdv A outer s H vs Q E hr h => ?_
  · obtain ⟨p, dx, t, b, rfl, _⟩ := h
    rfl
  obtain ⟨p, dx, t, b, rfl, hp, hb, hz, q⟩ := h
  have G := ok_is_integer (P := P) (w := w) (base := base) F1 T
  refine ⟨_, pss_cons (ps_if (pt_not (pt_val (pe_call G hr (by rfl) F1.mg F1.fn.kp F1.b .nil pass0 (pa_cons (pv 1) pa_nil)))) (pss_one ps_never) pss_nil)
    (pss_cons (ps_if (PW.pt (pw_or (pt_not (pt_val (pe_call G hr (by rfl) F1.mg F1.fn.kp F1.b .nil pass0 (pa_cons (pv 2) pa_nil)))) (pw_or1 (pt_cmp (pc_eqI (pv 2) pe_int))))) (pss_one ps_never) pss_nil)
    (pss_cons (ps_set (i := 3) sc_init.nd rfl (.inl rfl) (pe_callBfun cr_gcd (by rfl) T.gcd_ (pa_cons (pv 1) (pa_cons (pv 2) pa_nil))))
    (pss_cons (ps_if (pt_cmp (pc_lt (pv 2) pe_int)) (pss_one (ps_set (i := 3) sc_init.nd rfl (.inl rfl) (pe_un un_neg (pv 3)))) pss_nil)
    (pss_cons (ps_fld (pv 0) (pe_op op_fdivN (pv 1) (pv 3)) rfl) (pss_one (ps_fld (pv 0) (pe_op op_fdivN (pv 2) (pv 3)) rfl)))))), ?_⟩
  have len1 : ∀ i : Int, (D.int i).len ≤ sizeLine := fun i => by show 1921 ≤ 2 ^ 24; decide
  refine ⟨.int t, rfl, .int t, .int t, rfl, .int t, len1 _, fun H1 s1 => ⟨_, rfl, iteF ?_⟩⟩
  refine ⟨.int b, rfl, .int b, .int b, rfl, .int b, len1 _, fun H2 s2 => ⟨_, rfl, iteF ⟨.int b, rfl, b, 0, rfl, rfl, _, rfl, ?_⟩⟩⟩
  refine iteB (b := decide (b = 0)) (fun e => absurd (of_decide_eq_true e) hb) fun _ => ?_
  refine ⟨.int t, rfl, .int b, rfl, t, b, rfl, .int b, rfl, b, 0, rfl, rfl, _, rfl, ?_⟩
  have s12 : Same H H2 := s1.trans s2
  -- the two stores
  have rest : ∀ c : Int, c = cm t b → c ≠ 0 → c.natAbs < 1073741824 →
      tSeq (sFld K (tVar 0) (tOp (rI CDivN fun i j => .int (i.fdiv j)) (tVar 1) (tVar 3)) "_top") (sFld K (tVar 0) (tOp (rI CDivN fun i j => .int (i.fdiv j)) (tVar 2) (tVar 3)) "_bottom") { nx := fun _ H' => Q .non H', rt := Q } [some (.ref p), some (.int t), some (.int b), some (.int c)] H2 := by
    rintro c rfl c0 cz
    refine ⟨.int t, rfl, .int _, rfl, t, _, rfl, rfl, ⟨c0, cz⟩, .ref p, rfl, p, C, dx, [], rfl, s12 _ _ hp, T.clC, T.nTop, by show 0 < 1000; decide, ?_⟩
    refine ⟨.int b, rfl, .int _, rfl, b, _, rfl, rfl, ⟨c0, cz⟩, .ref p, rfl, p, C, dx, _, rfl, upd_same, T.clC, T.nBot, by show 1 < 1000; decide, ?_⟩
    refine q _ (fun z o e hz => ?_) upd_same
    rw [upd_ne hz, upd_ne hz]
    exact s12 _ _ e
  have gpos : (0 : Int) < ((Nat.gcd t.natAbs b.natAbs : Nat) : Int) := by
    have : 0 < Nat.gcd t.natAbs b.natAbs := Nat.gcd_pos_of_pos_right _ (by omega)
    omega
  refine iteB (b := decide (b < 0)) (fun e => ?_) fun e => ?_
  · have e' : b < 0 := of_decide_eq_true e
    refine ⟨.int _, rfl, _, rfl, rest _ ?_ ?_ ?_⟩
    · unfold cm
      rw [if_pos e']
    · omega
    · omega
  · have e' : ¬ b < 0 := of_decide_eq_false e
    refine rest _ ?_ ?_ ?_
    · unfold cm
      rw [if_neg e']
    · omega
    · omega
/-! Ratio.__repr__ -/
theorem ok_repr {f : Addr} {fd : FuncData} (F : Fun K "__repr__" "Ratio.__repr__" s_repr f fd) (T : Txt K mg C HC) : FnOk P w K mg base L2.CX0 1 f fd ["self"] (spRepr C) := by
  refine F.ok sc_repr (fun vs H Q E h => ?_) fun cdv A outer s H vs Q E hr h => ?_
  · obtain ⟨a, dx, fs, t, b, rfl, _⟩ := h
    rfl
  obtain ⟨a, dx, fs, t, b, rfl, ha, ht, hb, zt, zb, q⟩ := h
  refine ⟨_, pss_one (ps_ret (pe_joined (.cons pe_str (.cons (pe_fmt (pe_fld (pv 0) rfl)) (.cons pe_str (.cons (pe_fmt (pe_fld (pv 0) rfl)) (.cons pe_str .nil))))))), ?_⟩
  have q1 := len_int zt
  have q2 := len_int zb
  have e0 : (Str.empty).length = 0 := rfl
  have e1 : (("Ratio(" : String) : Str).length = 6 := rfl
  have e2 : ((", " : String) : Str).length = 2 := rfl
  have e3 : ((")" : String) : Str).length = 1 := rfl
  have z : (6000 : Nat) ≤ sizeLine := by decide
  refine ⟨_, rfl, by rw [strLen_append, e0, e1]; omega, .ref a, rfl, a, C, dx, fs, _, rfl, ha, T.clC, T.nTop, ht, .inr ⟨t, rfl, zt, _, rfl, by rw [strLen_append, strLen_append, e0, e1]; omega, ?_⟩⟩
  refine ⟨_, rfl, by rw [strLen_append, strLen_append, strLen_append, e0, e1, e2]; omega, .ref a, rfl, a, C, dx, fs, _, rfl, ha, T.clC, T.nBot, hb, .inr ⟨b, rfl, zb, _, rfl, by rw [strLen_append, strLen_append, strLen_append, strLen_append, e0, e1, e2]; omega, ?_⟩⟩
  exact ⟨_, rfl, by rw [strLen_append, strLen_append, strLen_append, strLen_append, strLen_append, e0, e1, e2, e3]; omega, q⟩
end
end KT

set_option Elab.async false
set_option linter.all false
set_option maxRecDepth 100000
set_option maxHeartbeats 4000000
namespace KT
open PySem L2 TW
def rLen (K : W.Frag) : List V → Hp → VK → Prop := fun xs H Q => ∃ p ys, xs = [.ref p] ∧ (SqL K H p ys ∨ SqT K H p ys) ∧ Q (.int ys.length) H
/-- numbers stay, something comes -/
def spSome (C : Addr) (p : D → Bool) : Sp := fun vs H Q _ => ∃ x d, vs = [x] ∧ Dt C H x d ∧ d.len ≤ sizeLine ∧ p d = true ∧ ∀ y H', Same H H' → Q y H'
theorem spSome_len {C : Addr} {p : D → Bool} {x : Str} : ∀ vs H Q E, spSome C p vs H Q E → vs.length = [x].length := by
  rintro vs H Q E ⟨x, d, rfl, _⟩
  rfl
section
variable {P : Program} {w : World} {K : W.Frag} {mg : Str → Option Value} {base : Heap} {C HC : Addr}
theorem init_binds {f : Addr} {fd : FuncData} (F : InitAt K f fd) : ∃ ds, Vals [V.int 1] ds ∧ Binds K fd ["self", "top", "bottom"] ds :=
  F.binds1 (n := 2) (j := 0) (by simp) rfl fun T kV doc pm an cdv ct us its h1 h2 => match us, its, h1, h2 with
    | [_, _], [_], _, _ => ⟨_, rfl, rfl⟩
theorem ok_ratio_of {f f1 f2 : Addr} {fd fd1 fd2 : FuncData} (F : At K mg "ratio_of" s_ratio_of ["number"] f fd) (T : Txt K mg C HC) (F1 : At K mg "is_integer" s_is_integer ["value"] f1 fd1)
    (I : InitAt K f2 fd2) (M : Mk K C f2) : FnOk P w K mg base L2.CX0 4 f fd ["number"] (spSome C isN) := by
  refine F.fn.ok sc_ratio_of spSome_len fun cdv A outer s H vs Q E hr h => ?_
  obtain ⟨x, d, rfl, hd, hl, hn, q⟩ := h
  obtain ⟨ds, vd, bd⟩ := init_binds I
  refine ⟨_, pss_one (ps_ret (pe_ifExp (pt_val (pe_callB call_isi (by rfl) T.isi (by decide +kernel) (pa_cons (pv 0) (pa_cons (pe_glob (v := .ref C) (by rfl) T.mgC rfl) pa_nil)))) (pv 0)
    (pe_make M (ok_init I T F1) hr (by rfl) T.mgC bd vd pass0 (pa_cons (pv 0) pa_nil)))), ?_⟩
  refine ⟨x, rfl, x, .ref C, _, _, _, rfl, .own C, tyx T hd, kit_rat T d, _, rfl, ?_⟩
  cases hd with
  | rat _ _ _ => exact iteT ⟨_, rfl, q _ H (Same.refl H)⟩
  | int i =>
    refine iteF ⟨.int i, rfl, fun p dx np ndx ne => ?_⟩
    refine ⟨p, dx, i, 1, rfl, upd_same, by decide, ?_, fun H' keep _ => ⟨rfl, q _ H' fun b o e => ?_⟩⟩
    · show Nat.gcd i.natAbs 1 < _
      rw [Nat.gcd_one_right]
      decide
    · refine keep b o ?_ (ne_of_none e np)
      rw [upd_ne (ne_of_none e np), upd_ne (ne_of_none e ndx)]
      exact e
  | _ => cases hn

theorem ok_ratio_row {f g : Addr} {fd gd : FuncData} (F : At K mg "ratio_row" s_ratio_row ["numbers"] f fd) (T : Txt K mg C HC) (G : At K mg "ratio_of" s_ratio_of ["number"] g gd)
    (N : FnOk P w K mg base L2.CX0 4 g gd ["number"] (spSome C isN)) : FnOk P w K mg base L2.CX0 5 f fd ["numbers"] (spSome C areN) := by
  refine F.fn.ok sc_ratio_row spSome_len fun cdv A outer s H vs Q E hr h => ?_
  obtain ⟨x, d, rfl, hd, hl, hn, q⟩ := h
  refine ⟨_, pss_one (ps_ret (pe_lc (own := [("number", 1)]) (g := gName 1) (tt := tYes) rfl sc_ratio_row.nd (pi_seq (pv 0)) (blkOk_by (N := ["numbers", "number"]) (sc := defScope s_ratio_row) (by decide +kernel))
      (fun _ _ _ _ _ => pg_name (i := 1) sc_ratio_row.nd rfl (Or.inl rfl)) (fun _ _ _ _ _ => pts_nil) (fun _ _ _ _ _ => pe_call N hr (by rfl) G.mg G.fn.kp G.b .nil pass0 (pa_cons (pv 1) pa_nil)))), ?_⟩
  obtain ⟨e, en⟩ := Bool.and_eq_true_iff.mp hn
  obtain ⟨a, xs, rfl, hs, hds⟩ := seq_of (K := K) hd e
  have hil := items_len hl
  have hll := lens_len (itemsD d)
  have hxl := hds.length
  show tLc (iSeq K (tVar 0)) (gName 1) tYes (tCall (spSome C isN) [] E0 (tCons (tVar 1) tNil)) [1] [some (.ref a), none] H Q
  refine comp_seq (fun _ _ _ => True) (fun _ _ _ _ _ h => h) rfl hs (by omega) (fun k y H2 R hy s2 r => ?_) fun A ys H2 hA s2 e2 e3 _ => q _ H2 s2
  obtain ⟨dy, e3, hdy⟩ := hds.at hy
  exact ⟨y, rfl, y, dy, rfl, hdy.same s2, Nat.le_trans (lens_item e3) hil, List.all_eq_true.mp en dy (List.mem_of_getElem? e3), fun z H3 s3 => r z H3 s3 fun _ _ _ => trivial⟩
end
end KT

set_option Elab.async false
set_option linter.all false
set_option maxRecDepth 100000
set_option maxHeartbeats 4000000
namespace KT
open PySem L2 TW
abbrev s_pot : Stmt := top 23
abbrev s_draw : Stmt := top 24
abbrev s_pick : Stmt := top 25
structure Txt2 (mg : Str → Option Value) : Prop where
  abs_ : mg "abs" = none
  max_ : mg "max" = none
  min_ : mg "min" = none
  divmod_ : mg "divmod" = none
  str_ : mg "str" = none
  range_ : mg "range" = none
  enum_ : mg "enumerate" = none
  repr_ : mg "repr" = none
theorem sc_pot : FnScope ["_law_script", "_law_k", "_law_cell"] ["_law_script", "_law_k"] (defScope s_pot) := ⟨rfl, rfl, rfl, by decide +kernel, rfl, by decide +kernel, by decide +kernel⟩
theorem sc_draw : FnScope ["_law_pot_here", "_law_room", "_law_digit"] ["_law_pot_here", "_law_room"] (defScope s_draw) := ⟨rfl, rfl, rfl, by decide +kernel, rfl, by decide +kernel, by decide +kernel⟩
theorem sc_pick : FnScope ["_law_pot_here", "_law_some"] ["_law_pot_here", "_law_some"] (defScope s_pick) := ⟨rfl, rfl, rfl, by decide +kernel, rfl, by decide +kernel, by decide +kernel⟩
/-- a pot stands at p -/
def PotAt (H : Hp) (p : Addr) : Prop := ∃ x y : Int, 0 ≤ x ∧ 0 ≤ y ∧ H p = some (.lst [.int x, .int y])
/-- all but what stands at p is as it was -/
def But (p : Addr) (H H' : Hp) : Prop := ∀ b o, H b = some o → b ≠ p → H' b = some o
theorem give {te : TE} {σ : L2.St} {H : Hp} {S : V → Hp → Prop} {Q : VK} (h : ∀ R : VK, (∀ v H', S v H' → R v H') → te σ H R) (k : ∀ v H', S v H' → Q v H') : te σ H Q := h Q k
theorem But.refl (p : Addr) (H : Hp) : But p H H := fun _ _ e _ => e
theorem But.trans {p : Addr} {H H1 H2 : Hp} (a : But p H H1) (b : But p H1 H2) : But p H H2 := fun c o e h => b c o (a c o e h) h
theorem But.of {p : Addr} {H H' : Hp} (s : Same H H') : But p H H' := fun b o e _ => s b o e
theorem But.upd {p : Addr} {H : Hp} {o : HO} : But p H (upd H p o) := fun b o' e h => by
  rw [upd_ne h]
  exact e
def spPot (K : W.Frag) : Sp := fun vs H Q _ => ∃ (a : Addr) (ns : List Int), vs = [.ref a, .int 0] ∧ SqL K H a (ns.map V.int) ∧ ∀ p H', Same H H' → H p = none → PotAt H' p → Q (.ref p) H'
def spDraw : Sp := fun vs H Q _ => ∃ (p : Addr) (m : Int), vs = [.ref p, .int m] ∧ PotAt H p ∧ 0 < m ∧ m < 1073741824 ∧ ∀ d H', 0 ≤ d → d < m → But p H H' → PotAt H' p → Q (.int d) H'
def spPick : Sp := fun vs H Q _ => ∃ (p q : Addr) (xs : List V), vs = [.ref p, .ref q] ∧ PotAt H p ∧ q ≠ p ∧ H q = some (.lst xs) ∧ 0 < xs.length ∧ xs.length < 1073741824 ∧ ∀ v H', v ∈ xs → But p H H' → PotAt H' p → Q v H'
section
variable {P : Program} {w : World} {K : W.Frag} {mg : Str → Option Value} {base : Heap} {C HC : Addr}
theorem ok_pot {f : Addr} {fd : FuncData} (F : At K mg "_law_pot" s_pot ["_law_script", "_law_k"] f fd) (T : Txt K mg C HC) (T2 : Txt2 mg) : FnOk P w K mg base L2.CX0 1 f fd ["_law_script", "_law_k"] (spPot K) := by
  refine F.fn.ok sc_pot (fun vs H Q E h => ?_) fun cdv A outer s H vs Q E hr h => ?_
  · obtain ⟨a, ns, rfl, _⟩ := h
    rfl
  obtain ⟨a, ns, rfl, hs, q⟩ := h
  refine ⟨_, (pss_cons (ps_set (i := 2) sc_pot.nd rfl (.inl rfl) (pe_op op_add (pe_op op_mul pe_int (pv 1)) pe_int)) (pss_cons (ps_if (pt_cmp (pc_lt (pv 1) (pe_callB call_len_seq (by rfl) T.len_ PySem.boot_len (pa_cons (pv 0) pa_nil)))) (pss_one (ps_set (i := 2) sc_pot.nd rfl (.inl rfl) (pe_callB call_abs (by rfl) T2.abs_ (by decide +kernel) (pa_cons (pe_ix ix_list (pv 0) (pv 1) (fun _ _ => rfl)) pa_nil)))) pss_nil) (pss_one (ps_ret (pe_lst (pa_cons (pe_callB (call_max2 rfl) (by rfl) T2.max_ (by decide +kernel) (pa_cons pe_int (pa_cons (pe_op op_sub (pv 2) (pe_op op_pow pe_int pe_int)) pa_nil))) (pa_cons (pe_op op_add (pe_op op_mod (pe_op op_mul (pe_callTy call_int1 (by rfl) T.int_ (by decide +kernel) (pa_cons (pe_op op_add (pe_op op_mod (pe_callTy call_int1 (by rfl) T.int_ (by decide +kernel) (pa_cons (pv 2) pa_nil)) pe_int) pe_int) pa_nil)) (pe_op op_pow (pe_op op_add (pe_op op_mul pe_int (pv 1)) pe_int) pe_int)) pe_int) pe_int) pa_nil))))))), ?_⟩
  refine ⟨.int 0, rfl, 131, 0, rfl, rfl, .inr ⟨by decide, by decide⟩, _, 61, rfl, rfl, ?_⟩
  refine ⟨.int 0, rfl, .ref a, rfl, a, _, rfl, .inl hs, _, _, rfl, rfl, _, rfl, iteB (b := decide ((0 : Int) < ((ns.map V.int).length : Int))) (fun e => ?_) fun e => ?_⟩
  · have e' := of_decide_eq_true e
    rw [List.length_map] at e'
    have lt : 0 < ns.length := by omega
    have x0 : (ns.map V.int)[0]? = some (V.int ns[0]) := by rw [List.getElem?_map, List.getElem?_eq_getElem lt]; rfl
    refine ⟨.ref a, rfl, .int 0, rfl, a, _, 0, _, rfl, rfl, hs, atI_nat x0, _, rfl, ?_⟩
    refine ⟨.int _, rfl, 10, 18, rfl, rfl, ⟨by decide, by decide, by decide⟩, _, _, rfl, rfl, _, _, rfl, ?_⟩
    refine ⟨.int _, rfl, .inl ⟨_, rfl, _, _, rfl, rfl, (by show (0 : Int) < 2147483549; decide), _, _, rfl, rfl, .inl ⟨_, rfl, ?_⟩⟩⟩
    refine ⟨.int 0, rfl, 2, 0, rfl, rfl, .inr ⟨by decide, by decide⟩, _, _, rfl, rfl, 3, 3, rfl, rfl, ⟨by decide, by decide, by decide⟩, _, _, rfl, rfl, .inr ⟨by decide, by decide⟩, _, _, rfl, rfl, (by show (0 : Int) < 2147483477; decide), _, _, rfl, rfl, ?_⟩
    refine ⟨by show 2 ≤ 2 ^ 24; decide, fun p hp => q p _ (same_new hp) hp ⟨_, _, ?_, ?_, upd_same⟩⟩
    · split <;> omega
    · refine Int.add_nonneg (Int.emod_nonneg _ (by decide)) (by decide)
  · refine ⟨.int _, rfl, 10, 18, rfl, rfl, ⟨by decide, by decide, by decide⟩, _, _, rfl, rfl, _, _, rfl, ?_⟩
    refine ⟨.int _, rfl, .inl ⟨_, rfl, _, _, rfl, rfl, (by show (0 : Int) < 2147483549; decide), _, _, rfl, rfl, .inl ⟨_, rfl, ?_⟩⟩⟩
    refine ⟨.int 0, rfl, 2, 0, rfl, rfl, .inr ⟨by decide, by decide⟩, _, _, rfl, rfl, 3, 3, rfl, rfl, ⟨by decide, by decide, by decide⟩, _, _, rfl, rfl, .inr ⟨by decide, by decide⟩, _, _, rfl, rfl, (by show (0 : Int) < 2147483477; decide), _, _, rfl, rfl, ?_⟩
    refine ⟨by show 2 ≤ 2 ^ 24; decide, fun p hp => q p _ (same_new hp) hp ⟨_, _, ?_, ?_, upd_same⟩⟩
    · split <;> omega
    · refine Int.add_nonneg (Int.emod_nonneg _ (by decide)) (by decide)
theorem ok_draw {f : Addr} {fd : FuncData} (F : At K mg "_law_draw" s_draw ["_law_pot_here", "_law_room"] f fd) (T : Txt K mg C HC) (T2 : Txt2 mg) : FnOk P w K mg base L2.CX0 1 f fd ["_law_pot_here", "_law_room"] spDraw := by
  refine F.fn.ok sc_draw (fun vs H Q E h => ?_) fun cdv A outer s H vs Q E hr h => ?_
  · obtain ⟨p, m, rfl, _⟩ := h
    rfl
  obtain ⟨p, m, rfl, ⟨x, y, hx, hy, hp⟩, m0, m1, q⟩ := h
  refine ⟨_, pss_cons (ps_if (pt_cmp (pc_gt (pe_ix ix_list (pv 0) pe_int (fun _ _ => rfl)) pe_int))
      (pss_cons (ps_asg (pe_callB call_divmod (by rfl) T2.divmod_ (by decide +kernel) (pa_cons (pe_ix ix_list (pv 0) pe_int (fun _ _ => rfl)) (pa_cons (pv 1) pa_nil)))
          (pg_tup rfl (pgs_cons (pg_sub (pv 0) pe_int set_list) (pgs_cons (pg_name (i := 2) sc_draw.nd rfl (.inl rfl)) pgs_nil))))
        (pss_one (ps_ret (pv 2)))) pss_nil)
    (pss_cons (ps_asg (pe_op op_mod (pe_callTy call_int1 (by rfl) T.int_ (by decide +kernel) (pa_cons (pe_op op_add (pe_op op_mul (pe_ix ix_list (pv 0) pe_int (fun _ _ => rfl)) pe_int) pe_int) pa_nil)) pe_int) (pg_sub (pv 0) pe_int set_list))
    (pss_one (ps_ret (pe_op op_mod (pe_callTy call_int1 (by rfl) T.int_ (by decide +kernel) (pa_cons (pe_op op_fdiv (pe_op op_mod (pe_callTy call_int1 (by rfl) T.int_ (by decide +kernel) (pa_cons (pe_op op_mul (pe_ix ix_list (pv 0) pe_int (fun _ _ => rfl)) (pe_ix ix_list (pv 0) pe_int (fun _ _ => rfl))) pa_nil)) pe_int) pe_int) pa_nil)) (pv 1))))), ?_⟩
  have S0 : SqL K H p [.int x, .int y] := SqL.of hp
  have i0 : ∀ a b : V, atI [a, b] 0 = some a := fun a b => atI_nat (j := 0) rfl
  have i1 : ∀ a b : V, atI [a, b] 1 = some b := fun a b => atI_nat (j := 1) rfl
  refine ⟨.ref p, rfl, p, _, 0, _, rfl, rfl, S0, i0 _ _, _, _, rfl, rfl, _, rfl, ?_⟩
  refine iteB (b := decide (0 < x)) (fun e => ?_) fun e => ?_
  · refine ⟨.ref p, rfl, p, _, 0, _, rfl, rfl, S0, i0 _ _, .int m, rfl, x, m, rfl, ⟨m0, m1⟩, fun t ht => ?_⟩
    have np : p ≠ t := ne_of_none hp ht
    refine ⟨t, [.int (x / m), .int (x % m)], rfl, SqT.of upd_same, rfl, _, _, rfl, ⟨.ref p, rfl, p, [.int x, .int y], 0, 0, rfl, rfl, by rw [upd_ne np]; exact hp, rfl, ?_⟩⟩
    refine ⟨.int (x % m), [], rfl, rfl, .int (x % m), rfl, ?_⟩
    refine q _ _ (Int.emod_nonneg _ (by omega)) (Int.emod_lt_of_pos _ m0) (fun b o e hb => ?_) ⟨x / m, y, Int.ediv_nonneg hx (by omega), hy, upd_same⟩
    rw [upd_ne hb, upd_ne (ne_of_none e ht)]
    exact e
  · refine ⟨.ref p, rfl, p, _, 1, _, rfl, rfl, S0, i1 _ _, _, _, rfl, rfl, .inr ⟨by decide, by decide⟩, _, _, rfl, rfl, .inl ⟨_, rfl, _, _, rfl, rfl, (by show (0 : Int) < 2147483587; decide), ?_⟩⟩
    have y0 := Int.emod_nonneg (y * 48271 + 18144) (by decide : (2147483587 : Int) ≠ 0)
    have y1 := Int.emod_lt_of_pos (y * 48271 + 18144) (by decide : (0 : Int) < 2147483587)
    refine ⟨.ref p, rfl, p, [.int x, .int y], 1, 1, rfl, rfl, hp, rfl, ?_⟩
    have key : ∀ z : Int, 0 ≤ z → z < 2147483587 → tRet (tOp (rI (fun _ j => 0 < j) fun i j => .int (i % j)) (tCB (fun xs H Q => (∃ i, xs = [V.int i] ∧ Q (.int i) H) ∨ ∃ k, xs = [V.bl k] ∧ Q (.int (if k then 1 else 0)) H) (tCons (tOp (rI CDiv fun i j => .int (i / j)) (tOp (rI (fun _ j => 0 < j) fun i j => .int (i % j)) (tCB (fun xs H Q => (∃ i, xs = [V.int i] ∧ Q (.int i) H) ∨ ∃ k, xs = [V.bl k] ∧ Q (.int (if k then 1 else 0)) H) (tCons (tOp (rI CMul fun i j => .int (i * j)) (tOp (rIxL K) (tVar 0) (tC (.int 1))) (tOp (rIxL K) (tVar 0) (tC (.int 1)))) tNil)) (tC (.int 2147483549))) (tC (.int 43))) tNil)) (tVar 1)) { nx := fun _ H' => Q .non H', rt := Q } [some (.ref p), some (.int m), none] (upd H p (.lst [.int x, .int z])) := by
      intro z y0 y1
      have S1 : SqL K (upd H p (.lst [.int x, .int z])) p [.int x, .int z] := SqL.of upd_same
      refine ⟨.ref p, rfl, p, _, 1, _, rfl, rfl, S1, i1 _ _, .ref p, rfl, p, _, 1, _, rfl, rfl, S1, i1 _ _, z, z, rfl, rfl, .inl ⟨by omega, by omega⟩, ?_⟩
      refine .inl ⟨_, rfl, _, _, rfl, rfl, (by show (0 : Int) < 2147483549; decide), _, _, rfl, rfl, ⟨by decide, by decide⟩, .inl ⟨_, rfl, .int m, rfl, _, m, rfl, rfl, m0, ?_⟩⟩
      exact q _ _ (Int.emod_nonneg _ (by omega)) (Int.emod_lt_of_pos _ m0) But.upd ⟨x, z, hx, y0, upd_same⟩
    exact key _ y0 y1
theorem ok_pick {f g : Addr} {fd gd : FuncData} (F : At K mg "_law_pick" s_pick ["_law_pot_here", "_law_some"] f fd) (T : Txt K mg C HC) (G : At K mg "_law_draw" s_draw ["_law_pot_here", "_law_room"] g gd)
    (N : FnOk P w K mg base L2.CX0 1 g gd ["_law_pot_here", "_law_room"] spDraw) : FnOk P w K mg base L2.CX0 2 f fd ["_law_pot_here", "_law_some"] spPick := by
  refine F.fn.ok sc_pick (fun vs H Q E h => ?_) fun cdv A outer s H vs Q E hr h => ?_
  · obtain ⟨p, t, xs, rfl, _⟩ := h
    rfl
  obtain ⟨p, t, xs, rfl, hp, ne, ht, l0, l1, q⟩ := h
  refine ⟨_, pss_one (ps_ret (pe_ix ix_list (pv 1) (pe_call N hr (by rfl) G.mg G.fn.kp G.b .nil pass0 (pa_cons (pv 0) (pa_cons (pe_callB call_len_seq (by rfl) T.len_ PySem.boot_len (pa_cons (pv 1) pa_nil)) pa_nil))) (fun _ _ => rfl))), ?_⟩
  refine ⟨.ref t, rfl, .ref p, rfl, .ref t, rfl, t, xs, rfl, .inl (SqL.of ht), p, _, rfl, hp, by omega, by omega, fun d H' d0 d1 bt pt => ?_⟩
  obtain ⟨n, rfl⟩ := Int.eq_ofNat_of_zero_le d0
  have lt : n < xs.length := by omega
  have xn : xs[n]? = some xs[n] := List.getElem?_eq_getElem lt
  exact ⟨t, xs, n, _, rfl, rfl, SqL.of (bt _ _ ht ne), atI_nat xn, q _ _ (List.getElem_mem lt) bt pt⟩
end
end KT

set_option Elab.async false
set_option linter.all false
set_option maxRecDepth 100000
set_option maxHeartbeats 4000000
namespace KT
open PySem L2 TW
abbrev s_low : Stmt := top 26
abbrev s_by : Stmt := top 27
theorem sc_low : FnScope ["_law_top", "_law_bottom", "_law_one", "_law_other"] ["_law_top", "_law_bottom"] (defScope s_low) := ⟨rfl, rfl, rfl, by decide +kernel, rfl, by decide +kernel, by decide +kernel⟩
theorem sc_by : FnScope ["_law_one", "_law_other"] ["_law_one", "_law_other"] (defScope s_by) := ⟨rfl, rfl, rfl, by decide +kernel, rfl, by decide +kernel, by decide +kernel⟩
/-- a fraction as a tuple -/
def pD (q : Rat) : D := .tup [.int q.num, .int q.den]
def spLow (C : Addr) : Sp := fun vs H Q _ => ∃ t b : Int, vs = [.int t, .int b] ∧ b ≠ 0 ∧ b.natAbs < 2 ^ 9000 ∧ ∀ p, H p = none → Q (.ref p) (upd H p (.tup [.int (Rat.divInt t b).num, .int (Rat.divInt t b).den]))
section
variable {P : Program} {w : World} {K : W.Frag} {mg : Str → Option Value} {base : Heap} {C HC : Addr}
theorem ok_low {f : Addr} {fd : FuncData} (F : At K mg "_law_low" s_low ["_law_top", "_law_bottom"] f fd) (T : Txt K mg C HC) (T2 : Txt2 mg) : FnOk P w K mg base L2.CX0 1 f fd ["_law_top", "_law_bottom"] (spLow C) := by
  refine F.fn.ok sc_low (fun vs H Q E h => ?_) fun cdv A outer s H vs Q E hr h => ?_
  · obtain ⟨t, b, rfl, _⟩ := h
    rfl
  obtain ⟨t, b, rfl, hb, hz, q⟩ := h
  have nd := sc_low.nd
  refine ⟨_, (pss_cons (ps_par rfl sc_low.nd (i := 2) (j := 3) rfl rfl (by decide) rfl rfl (pa_cons (pe_callB call_abs (by rfl) T2.abs_ (by decide +kernel) (pa_cons (pv 0) pa_nil)) (pa_cons (pe_callB call_abs (by rfl) T2.abs_ (by decide +kernel) (pa_cons (pv 1) pa_nil)) pa_nil)) (by rfl)) (pss_cons (ps_while PassesOwn.never (pt_cmp (pc_gt (pv 3) pe_int)) (pss_one (ps_par rfl sc_low.nd (i := 2) (j := 3) rfl rfl (by decide) rfl rfl (pa_cons (pv 3) (pa_cons (pe_op op_mod (pe_callTy call_int1 (by rfl) T.int_ (by decide +kernel) (pa_cons (pv 2) pa_nil)) (pv 3)) pa_nil)) (by rfl)))) (pss_cons (ps_set (i := 2) sc_low.nd rfl (.inl rfl) (pe_ifExp (pt_cmp (pc_gt (pv 1) pe_int)) (pv 2) (pe_op op_sub pe_int (pv 2)))) (pss_one (ps_ret (pe_tup (pa_cons (pe_op op_fdivS (pv 0) (pv 2)) (pa_cons (pe_op op_fdivS (pv 1) (pv 2)) pa_nil)))))))), ?_⟩
  have g0 : 0 < Nat.gcd t.natAbs b.natAbs := Nat.gcd_pos_of_pos_right _ (by omega)
  have ab : ∀ z : Int, (if z < 0 then -z else z) = (z.natAbs : Int) := fun z => by
    split <;> omega
  refine ⟨.int t, rfl, t, rfl, .int b, rfl, b, rfl, _, _, rfl, ?_⟩
  refine while_by (fun (σ : L2.St) (H' : Hp) => H' = H ∧ ∃ x y : Nat, σ = [some (.int t), some (.int b), some (.int x), some (.int y)] ∧ Nat.gcd x y = Nat.gcd t.natAbs b.natAbs) (fun (σ : L2.St) _ => match σ[3]? with
      | some (some (V.int y)) => y.toNat
      | _ => 0) ⟨rfl, t.natAbs, b.natAbs, by rw [← ab, ← ab]; rfl, rfl⟩ ?_ ?_
  · rintro σ H' ⟨rfl, x, y, rfl, hg⟩
    refine ⟨.int y, rfl, y, 0, rfl, rfl, _, rfl, ?_⟩
    refine iteB (b := decide ((0 : Int) < y)) (fun e => ?_) fun e => ?_
    · have e' := of_decide_eq_true e
      refine ⟨.int y, rfl, .int x, rfl, .inl ⟨x, rfl, .int y, rfl, x, y, rfl, rfl, e', _, _, rfl, ⟨rfl, y, x % y, ?_, ?_⟩, ?_⟩⟩
      · show [some (V.int t), some (.int b), some (.int y), some (.int ((x : Int) % y))] = _
        rw [← Int.natCast_emod]
      · rw [Nat.gcd_comm, ← Nat.gcd_rec, Nat.gcd_comm]
        exact hg
      · show ((x : Int) % y).toNat < (y : Int).toNat
        have := Int.emod_lt_of_pos (x : Int) e'
        have := Int.emod_nonneg (x : Int) (Int.ne_of_gt e')
        omega
    · have e' := of_decide_eq_false e
      have y0 : y = 0 := by omega
      subst y0
      rw [Nat.gcd_zero_right] at hg
      subst hg
      have c0 := comm_ne (t := t) hb
      have cz : (comm t b).natAbs.log2 < 9000 := lt_log2 (Nat.lt_of_le_of_lt (comm_le hb) hz) (by decide)
      have rest : ∀ c : Int, c = comm t b → tRet (tTup (tCons (tOp (rI CDivS fun i j => .int (i.fdiv j)) (tVar 0) (tVar 2)) (tCons (tOp (rI CDivS fun i j => .int (i.fdiv j)) (tVar 1) (tVar 2)) tNil))) { nx := fun _ H' => Q .non H', rt := Q } [some (.int t), some (.int b), some (.int c), some (.int ((0 : Nat) : Int))] H' := by
        rintro c rfl
        refine ⟨.int t, rfl, .int _, rfl, t, _, rfl, rfl, ⟨c0, cz⟩, .int b, rfl, .int _, rfl, b, _, rfl, rfl, ⟨c0, cz⟩, by show 2 ≤ 2 ^ 24; decide, fun p hp => ?_⟩
        have z := q p hp
        rw [← num_comm hb, ← den_comm (t := t) hb] at z
        exact z
      refine ⟨.int b, rfl, b, 0, rfl, rfl, _, rfl, ?_⟩
      refine iteB (b := decide ((0 : Int) < b)) (fun e => ?_) fun e => ?_
      · have eb : ¬ b < 0 := by have := of_decide_eq_true e; omega
        refine ⟨.int _, rfl, rest _ ?_⟩
        unfold comm
        rw [if_neg eb]
      · have eb : b < 0 := by have := of_decide_eq_false e; omega
        refine ⟨.int _, rfl, 0, _, rfl, rfl, rest _ ?_⟩
        unfold comm
        rw [if_pos eb]
        omega
  · intro σ H' Q1 Q2 h ⟨v, e, i, j, e1, e2, c, e3, z⟩
    exact ⟨v, e, i, j, e1, e2, c, e3, h _ _ z⟩
theorem pair_at {C : Addr} {H : Hp} {x : V} {q : Rat} (h : Dt C H x (pD q)) : ∃ a, x = .ref a ∧ H a = some (.tup [.int q.num, .int q.den]) := by
  unfold pD at h
  cases h with
  | tup e d =>
    cases d with
    | cons h1 t =>
      cases t with
      | cons h2 t =>
        cases t
        cases h1
        cases h2
        exact ⟨_, rfl, e⟩
theorem ok_by {f g : Addr} {fd gd : FuncData} (F : At K mg "_law_by" s_by ["_law_one", "_law_other"] f fd) (T : Txt K mg C HC) (G : At K mg "_law_low" s_low ["_law_top", "_law_bottom"] g gd) (N : FnOk P w K mg base L2.CX0 1 g gd ["_law_top", "_law_bottom"] (spLow C)) :
    FnOk P w K mg base L2.CX0 2 f fd ["_law_one", "_law_other"] (fun vs H Q _ => ∃ x y p r, vs = [x, y] ∧ Dt C H x (pD p) ∧ Dt C H y (pD r) ∧ Bits 4000 p ∧ Bits 4000 r ∧ ∀ c, H c = none → Q (.ref c) (upd H c (.tup [.int (p * r).num, .int (p * r).den]))) := by
  refine F.fn.ok sc_by (fun vs H Q E h => ?_) fun cdv A outer s H vs Q E hr h => ?_
  · obtain ⟨x, y, p, r, rfl, _⟩ := h
    rfl
  obtain ⟨x, y, p, r, rfl, hx, hy, bp, br, q⟩ := h
  refine ⟨_, (pss_one (ps_ret (pe_call N hr (by rfl) G.mg G.fn.kp G.b .nil pass0 (pa_cons (pe_op op_mulW (pe_ix (r := rIxT K) ix_tup (pv 0) pe_int (fun _ _ => rfl)) (pe_ix (r := rIxT K) ix_tup (pv 1) pe_int (fun _ _ => rfl))) (pa_cons (pe_op op_mulW (pe_ix (r := rIxT K) ix_tup (pv 0) pe_int (fun _ _ => rfl)) (pe_ix (r := rIxT K) ix_tup (pv 1) pe_int (fun _ _ => rfl))) pa_nil))))), ?_⟩
  obtain ⟨a, rfl, ha⟩ := pair_at hx
  obtain ⟨b, rfl, hb⟩ := pair_at hy
  have i0 : ∀ x y : V, atI [x, y] 0 = some x := fun x y => atI_nat (j := 0) rfl
  have i1 : ∀ x y : V, atI [x, y] 1 = some y := fun x y => atI_nat (j := 1) rfl
  have m1 : CMulW p.num r.num := wide_mul bp.1 br.1 (by decide) (by decide) (by decide)
  have m3 : CMulW (p.den : Int) r.den := wide_mul (by rw [Int.natAbs_natCast]; exact bp.2) (by rw [Int.natAbs_natCast]; exact br.2) (by decide) (by decide) (by decide)
  have nz : (p.den : Int) * r.den ≠ 0 := Int.mul_ne_zero (Int.natCast_ne_zero.2 p.den_nz) (Int.natCast_ne_zero.2 r.den_nz)
  refine ⟨.ref a, rfl, a, _, 0, _, rfl, rfl, SqT.of ha, i0 _ _, .ref b, rfl, b, _, 0, _, rfl, rfl, SqT.of hb, i0 _ _, _, _, rfl, rfl, m1, ?_⟩
  refine ⟨.ref a, rfl, a, _, 1, _, rfl, rfl, SqT.of ha, i1 _ _, .ref b, rfl, b, _, 1, _, rfl, rfl, SqT.of hb, i1 _ _, _, _, rfl, rfl, m3, _, _, rfl, nz, ?_, fun c hc => ?_⟩
  · rw [Int.natAbs_mul, Int.natAbs_natCast, Int.natAbs_natCast]
    exact Nat.lt_of_lt_of_le (pow_mul_lt bp.2 br.2) (Nat.pow_le_pow_right (by decide) (by decide))
  · rw [← rat_mul]
    exact q c hc
end
end KT

set_option Elab.async false
set_option linter.all false
set_option maxRecDepth 100000
set_option maxHeartbeats 4000000
namespace KT
open PySem L2 TW
def offL (S : List Addr) (H : Hp) : Hp := fun b => if b ∈ S then none else H b
theorem offL_at {S : List Addr} {H : Hp} {b : Addr} (h : b ∉ S) : offL S H b = H b := if_neg h
theorem offL_in {S : List Addr} {H : Hp} {b : Addr} (h : b ∈ S) : offL S H b = none := if_pos h
/-- what stands without S stands on without S' -/
theorem offL_same {S S' : List Addr} {H H' : Hp} (h : ∀ b o, H b = some o → b ∉ S → b ∉ S' ∧ H' b = some o) : Same (offL S H) (offL S' H') := fun b o e => by
  by_cases z : b ∈ S
  · rw [offL_in z] at e
    cases e
  · rw [offL_at z] at e
    obtain ⟨h1, h2⟩ := h b o e z
    rw [offL_at h1]
    exact h2
theorem dts_ints {C : Addr} {H : Hp} : ∀ ns : List Int, Dts C H (ns.map V.int) (ns.map D.int)
  | [] => .nil
  | i :: ns => .cons (.int i) (dts_ints ns)
theorem dts_app {C : Addr} {H : Hp} : ∀ {xs ys : List V} {l m : List D}, Dts C H xs l → Dts C H ys m → Dts C H (xs ++ ys) (l ++ m)
  | _, _, _, _, .nil, h => h
  | _, _, _, _, .cons a b, h => .cons a (dts_app b h)
theorem But.free {p a : Addr} {H H' : Hp} (b : But p H H') (e : H' a = none) (ne : a ≠ p) : H a = none := by
  cases z : H a with
  | none => rfl
  | some o =>
    rw [b a o z ne] at e
    cases e
theorem PotAt.upd {p a : Addr} {H : Hp} {o : HO} (h : PotAt H p) (ne : p ≠ a) : PotAt (upd H a o) p := by
  obtain ⟨x, y, hx, hy, e⟩ := h
  exact ⟨x, y, hx, hy, by rw [upd_ne ne]; exact e⟩
theorem mem_app {α : Type} {P : α → Prop} {l : List α} {x : α} (h : ∀ y ∈ l, P y) (hx : P x) : ∀ y ∈ l ++ [x], P y := fun y hy => by
  rcases List.mem_append.mp hy with z | z
  · exact h y z
  · rw [List.mem_singleton.mp z]
    exact hx

theorem offL_mono {S : List Addr} {H H' : Hp} (s : Same H H') : Same (offL S H) (offL S H') := offL_same fun b o e hb => ⟨hb, s b o e⟩
theorem offL_less {p q : Addr} {S : List Addr} {H : Hp} : Same (offL (p :: q :: S) H) (offL (p :: S) H) := offL_same fun b o e hb => by
  simp only [List.mem_cons, not_or] at hb ⊢
  exact ⟨⟨hb.1, hb.2.2⟩, e⟩
/-- x is d, all of it new behind H, but for what is kept of old; p is the pot -/
def Nw (C p : Addr) (H : Hp) (x : V) (d : D) (H' : Hp) : Prop := ∀ S : List Addr, (∀ a ∈ S, H a ≠ none) → Dt C (offL (p :: S) H') x d
def Nws (C p : Addr) (H : Hp) (xs : List V) (l : List D) (H' : Hp) : Prop := ∀ S : List Addr, (∀ a ∈ S, H a ≠ none) → Dts C (offL (p :: S) H') xs l
theorem but_live {p a : Addr} {H H' : Hp} (b : But p H H') (h : PotAt H' p) (ha : H a ≠ none) : H' a ≠ none := fun e => by
  by_cases z : a = p
  · obtain ⟨x, y, _, _, q⟩ := h
    rw [z, q] at e
    cases e
  · cases q : H a with
    | none => exact ha q
    | some o =>
      rw [b a o q z] at e
      cases e
theorem but_off {p : Addr} {S : List Addr} {H H' : Hp} (b : But p H H') : Same (offL (p :: S) H) (offL (p :: S) H') := offL_same fun c o e hc => ⟨hc, b c o e fun z => hc (by rw [z]; exact List.mem_cons_self)⟩
theorem Nw.now {C p : Addr} {H H' : Hp} {x : V} {d : D} (h : Nw C p H x d H') : Dt C (offL [p] H') x d := h [] fun _ z => nomatch z
/-- a comprehension whose turns draw from the pot: what it keeps -/
def PvP (C p : Addr) (H : Hp) (G : D → Prop) (A : Addr) (k : Nat) (H' : Hp) : Prop := But p H H' ∧ PotAt H' p ∧ ∃ ys l, H' A = some (.lst ys) ∧ (∀ S : List Addr, (∀ a ∈ S, H a ≠ none) → Dts C (offL (p :: A :: S) H') ys l) ∧ l.length = k ∧ ∀ d ∈ l, G d
theorem pot_turn {C p A : Addr} {te : TE} {i : Nat} {σ : L2.St} {H : Hp} {G : D → Prop} {n : Nat} (hA : H A = none) (hp : PotAt H p) (hn : n ≤ 1000) (x : V) (k : Nat) (hk : k < n) (H' : Hp)
    (el : ∀ (R : VK), But p H H' → PotAt H' p → (∀ y d H2, But p H' H2 → PotAt H2 p → G d → Nw C p H' y d H2 → R y H2) → te ((wipe σ [i]).set i (some x)) H' R) (pv : PvP C p H G A k H') :
    gName i x (wipe σ [i]) H' fun σ2 H2 => wipe σ2 [i] = wipe σ [i] ∧ tYes σ2 H2 fun b H3 =>
      if b = true then te σ2 H3 fun y H4 => ∃ acc, H4 A = some (.lst acc) ∧ acc.length < sizeLine ∧ PvP C p H G A (k + 1) (upd H4 A (.lst (acc ++ [y]))) else PvP C p H G A (k + 1) H3 := by
  obtain ⟨b1, p1, ys, l, e1, d1, el1, g1⟩ := pv
  have nAp : A ≠ p := fun z => by
    obtain ⟨_, _, _, _, e⟩ := hp
    rw [← z, hA] at e
    cases e
  refine ⟨?_, ?_⟩
  · show (((σ.set i none).set i (some x)).set i none) = (σ.set i none)
    rw [List.set_set, List.set_set]
  · show if true = true then te ((wipe σ [i]).set i (some x)) H' (fun y H4 => ∃ acc, H4 A = some (.lst acc) ∧ acc.length < sizeLine ∧ PvP C p H G A (k + 1) (upd H4 A (.lst (acc ++ [y])))) else PvP C p H G A (k + 1) H'
    rw [if_pos rfl]
    refine el _ b1 p1 fun y d H2 b2 p2 gd nw => ?_
    have e2 := b2 _ _ e1 nAp
    have ly : ys.length = k := by rw [(d1 [] fun _ z => nomatch z).length]; exact el1
    refine ⟨ys, e2, small1000 (by omega), fun c o e hc => ?_, p2.upd nAp.symm, ys ++ [y], l ++ [d], upd_same, fun S hS => ?_, by rw [List.length_append, el1]; rfl, mem_app g1 gd⟩
    · rw [upd_ne (ne_of_none e hA)]
      exact b2 _ _ (b1 _ _ e hc) hc
    · have up : Same (offL (p :: A :: S) H2) (offL (p :: A :: S) (upd H2 A (.lst (ys ++ [y])))) := offL_same fun c o e hc => by
        refine ⟨hc, ?_⟩
        simp only [List.mem_cons, not_or] at hc
        rw [upd_ne hc.2.1]
        exact e
      refine dts_app (((d1 S hS).same (but_off b2)).same up) (.cons ((nw (A :: S) fun c hc => ?_).same up) .nil)
      rcases List.mem_cons.1 hc with rfl | hc
      · rw [e1]
        exact fun z => nomatch z
      · exact but_live b1 p1 (hS c hc)
theorem pot_end {C p A : Addr} {H H' : Hp} {G : D → Prop} {n : Nat} (hA : H A = none) (hp : PotAt H p) (pv : PvP C p H G A n H') : But p H H' ∧ PotAt H' p ∧ ∃ l, Nw C p H (.ref A) (.lst l) H' ∧ l.length = n ∧ ∀ d ∈ l, G d := by
  obtain ⟨b1, p1, ys, l, e1, d1, el1, g1⟩ := pv
  refine ⟨b1, p1, l, fun S hS => ?_, el1, g1⟩
  have nAp : A ≠ p := fun z => by
    obtain ⟨_, _, _, _, e⟩ := hp
    rw [← z, hA] at e
    cases e
  have nAS : A ∉ p :: S := fun z => by
    rcases List.mem_cons.1 z with z | z
    · exact nAp z
    · exact hS A z hA
  exact .lst (by rw [offL_at nAS]; exact e1) ((d1 S hS).same offL_less)
end KT

set_option Elab.async false
set_option linter.all false
set_option maxRecDepth 100000
set_option maxHeartbeats 4000000
namespace KT
open PySem L2 TW
/-! expressions that make data out of a list of ints at w, without a change of what stood -/
/-- x stands in H' as d, without the places S of H -/
def Std (C : Addr) (H : Hp) (B : Addr → Prop) (x : V) (d : D) (H' : Hp) : Prop := ∀ S : List Addr, (∀ a ∈ S, H a ≠ none) → (∀ a ∈ S, ¬ B a) → Dt C (offL S H') x d
def Stds (C : Addr) (H : Hp) (B : Addr → Prop) (xs : List V) (l : List D) (H' : Hp) : Prop := ∀ S : List Addr, (∀ a ∈ S, H a ≠ none) → (∀ a ∈ S, ¬ B a) → Dts C (offL S H') xs l
/-- what is kept while objects are made -/
class Kp (J : Hp → Prop) : Prop where
  m : ∀ {H H' : Hp}, Same H H' → J H → J H'
def El (C : Addr) (J : Hp → Prop) (B : Addr → Prop) (σ : L2.St) (te : TE) (d : D) : Prop := ∀ (H : Hp) (R : VK), J H → (∀ x H', Same H H' → Std C H B x d H' → R x H') → te σ H R
def Els (C : Addr) (J : Hp → Prop) (B : Addr → Prop) (σ : L2.St) (ta : TA) (l : List D) : Prop := ∀ (H : Hp) (R : List V → Hp → Prop), J H → (∀ xs H', Same H H' → Stds C H B xs l H' → R xs H') → ta σ H R
section
variable {C : Addr} {J : Hp → Prop} {B : Addr → Prop} [Kp J] {σ : L2.St}
theorem offL_nil {H : Hp} : offL [] H = H := by
  funext b
  exact offL_at (by simp)
theorem live {S : List Addr} {H H' : Hp} (s : Same H H') (h : ∀ a ∈ S, H a ≠ none) : ∀ a ∈ S, H' a ≠ none := fun a ha e => by
  cases z : H a with
  | none => exact h a ha z
  | some o =>
    rw [s a o z] at e
    cases e
theorem out_of {S : List Addr} {H : Hp} {p : Addr} (h : ∀ a ∈ S, H a ≠ none) (hp : H p = none) : p ∉ S := fun z => h p z hp
theorem Std.here {H H' : Hp} {x : V} {d : D} (h : Std C H B x d H') : Dt C H' x d := by
  have z := h [] (fun _ z => nomatch z) (fun _ z => nomatch z)
  rwa [offL_nil] at z
theorem Stds.here {H H' : Hp} {xs : List V} {l : List D} (h : Stds C H B xs l H') : Dts C H' xs l := by
  have z := h [] (fun _ z => nomatch z) (fun _ z => nomatch z)
  rwa [offL_nil] at z
/-- an object laid over such parts -/
theorem std_new {H H1 : Hp} {p : Addr} {o : HO} {d : D} (s : Same H H1) (hp : H1 p = none) (h : ∀ S, (∀ a ∈ S, H a ≠ none) → (∀ a ∈ S, ¬ B a) → p ∉ S → offL S (upd H1 p o) p = some o → Dt C (offL S (upd H1 p o)) (.ref p) d) : Std C H B (.ref p) d (upd H1 p o) := fun S hS hw => by
  have np : p ∉ S := out_of (live s hS) hp
  exact h S hS hw np (by rw [offL_at np]; exact upd_same)
theorem el_flat {v : V} {d : D} (h : ∀ H, Dt C H v d) : El C J B σ (tC v) d := fun H R hw k => k v H (Same.refl H) fun S _ _ => h _
theorem el_int {i : Int} : El C J B σ (tC (.int i)) (.int i) := el_flat fun _ => .int i
theorem el_neg {i : Int} : El C J B σ (tUn (rU fun i => .int (-i)) (tC (.int i))) (.int (-i)) := fun H R hw k => ⟨i, rfl, k _ H (Same.refl H) fun S _ _ => .int _⟩
theorem el_int_at {j : Nat} {i : Int} (hj : σ[j]? = some (some (.int i))) : El C J B σ (tVar j) (.int i) := fun H R hw k => ⟨.int i, hj, k _ H (Same.refl H) fun S _ _ => .int i⟩
theorem els_nil : Els C J B σ tNil [] := fun H R hw k => k [] H (Same.refl H) fun S _ _ => .nil
theorem els_cons {te : TE} {ta : TA} {d : D} {l : List D} (h : El C J B σ te d) (hs : Els C J B σ ta l) : Els C J B σ (tCons te ta) (d :: l) := fun H R hw k =>
  h H _ hw fun x H1 s1 st => hs H1 _ (Kp.m s1 hw) fun xs H2 s2 sts => k (x :: xs) H2 (s1.trans s2) fun S hS hwS => .cons ((st S hS hwS).same (offL_mono s2)) (sts S (live s1 hS) hwS)
theorem el_lst {ta : TA} {l : List D} (h : Els C J B σ ta l) (hl : l.length ≤ 1000) : El C J B σ (tLst ta) (.lst l) := fun H R hw k =>
  h H _ hw fun xs H1 s1 sts => ⟨Nat.le_trans (by rw [(sts.here).length]; exact hl) (by decide : (1000 : Nat) ≤ sizeLine), fun p hp => k _ _ (s1.trans (same_new hp)) (std_new s1 hp fun S hS hwS np e => .lst e ((sts S hS hwS).same (offL_mono (same_new hp))))⟩
theorem el_tup {ta : TA} {l : List D} (h : Els C J B σ ta l) (hl : l.length ≤ 1000) : El C J B σ (tTup ta) (.tup l) := fun H R hw k =>
  h H _ hw fun xs H1 s1 sts => ⟨Nat.le_trans (by rw [(sts.here).length]; exact hl) (by decide : (1000 : Nat) ≤ sizeLine), fun p hp => k _ _ (s1.trans (same_new hp)) (std_new s1 hp fun S hS hwS np e => .tup e ((sts S hS hwS).same (offL_mono (same_new hp))))⟩
theorem lst_inv {H : Hp} {x : V} {l : List D} (h : Dt C H x (.lst l)) : ∃ a xs, x = .ref a ∧ H a = some (.lst xs) ∧ Dts C H xs l := by
  cases h with
  | lst h1 h2 => exact ⟨_, _, rfl, h1, h2⟩
theorem tup_inv {H : Hp} {x : V} {l : List D} (h : Dt C H x (.tup l)) : ∃ a xs, x = .ref a ∧ H a = some (.tup xs) ∧ Dts C H xs l := by
  cases h with
  | tup h1 h2 => exact ⟨_, _, rfl, h1, h2⟩
theorem int_inv {H : Hp} {x : V} {i : Int} (h : Dt C H x (.int i)) : x = .int i := by
  cases h
  rfl
/-- where S leaves it out, the same list stands at the same place -/
theorem std_lst {H H' : Hp} {x : V} {l : List D} (h : Std C H B x (.lst l) H') : ∃ a xs, x = .ref a ∧ H' a = some (.lst xs) ∧ ∀ S : List Addr, (∀ a ∈ S, H a ≠ none) → (∀ a ∈ S, ¬ B a) → Dts C (offL S H') xs l := by
  obtain ⟨a, xs, rfl, h1, h2⟩ := lst_inv h.here
  refine ⟨a, xs, rfl, h1, fun S hS hw => ?_⟩
  obtain ⟨b, ys, e, g1, g2⟩ := lst_inv (h S hS hw)
  cases e
  have q := offL_same (S := S) (S' := []) (H := H') (H' := H') (fun b o e _ => ⟨List.not_mem_nil, e⟩) _ _ g1
  rw [offL_nil, h1] at q
  cases q
  exact g2
theorem std_tup {H H' : Hp} {x : V} {l : List D} (h : Std C H B x (.tup l) H') : ∃ a xs, x = .ref a ∧ H' a = some (.tup xs) ∧ ∀ S : List Addr, (∀ a ∈ S, H a ≠ none) → (∀ a ∈ S, ¬ B a) → Dts C (offL S H') xs l := by
  obtain ⟨a, xs, rfl, h1, h2⟩ := tup_inv h.here
  refine ⟨a, xs, rfl, h1, fun S hS hw => ?_⟩
  obtain ⟨b, ys, e, g1, g2⟩ := tup_inv (h S hS hw)
  cases e
  have q := offL_same (S := S) (S' := []) (H := H') (H' := H') (fun b o e _ => ⟨List.not_mem_nil, e⟩) _ _ g1
  rw [offL_nil, h1] at q
  cases q
  exact g2
theorem el_cat {ta tb : TE} {l m : List D} (h : El C J B σ ta (.lst l)) (h' : El C J B σ tb (.lst m)) (hz : l.length + m.length ≤ 1000) : El C J B σ (tOp rCat ta tb) (.lst (l ++ m)) := fun H R hw k =>
  h H _ hw fun x H1 s1 st => h' H1 _ (Kp.m s1 hw) fun y H2 s2 st2 => by
    obtain ⟨a, xs, rfl, e1, f1⟩ := std_lst st
    obtain ⟨b, ys, rfl, e2, f2⟩ := std_lst st2
    have z1 := (f1 [] (fun _ z => nomatch z) (fun _ z => nomatch z)).length
    have z2 := (f2 [] (fun _ z => nomatch z) (fun _ z => nomatch z)).length
    refine ⟨a, b, xs, ys, rfl, rfl, s2 _ _ e1, e2, Nat.le_trans (by omega) (by decide : (1000 : Nat) ≤ sizeLine), fun p hp => k _ _ ((s1.trans s2).trans (same_new hp)) (std_new (s1.trans s2) hp fun S hS hwS np e => .lst e ?_)⟩
    exact dts_app ((f1 S hS hwS).same (offL_mono (s2.trans (same_new hp)))) ((f2 S (live s1 hS) hwS).same (offL_mono (same_new hp)))
theorem dts_rep {H : Hp} {xs : List V} {l : List D} (h : Dts C H xs l) : ∀ k : Nat, Dts C H (List.replicate k xs).flatten (List.replicate k l).flatten
  | 0 => .nil
  | k + 1 => by
    rw [List.replicate_succ, List.replicate_succ, List.flatten_cons, List.flatten_cons]
    exact dts_app h (dts_rep h k)
theorem el_rep {ta : TE} {l : List D} {k : Nat} (h : El C J B σ ta (.lst l)) (hk : k ≤ 1000) (hz : l.length * k ≤ 1000) : El C J B σ (tOp rRep ta (tC (.int k))) (.lst (List.replicate k l).flatten) := fun H R hw q =>
  h H _ hw fun x H1 s1 st => by
    obtain ⟨a, xs, rfl, e1, f1⟩ := std_lst st
    have z1 := (f1 [] (fun _ z => nomatch z) (fun _ z => nomatch z)).length
    refine ⟨a, k, xs, rfl, rfl, e1, by omega, by omega, Nat.le_trans (by rw [Int.toNat_natCast, z1]; exact hz) (by decide : (1000 : Nat) ≤ sizeLine), fun p hp => q _ _ (s1.trans (same_new hp)) (std_new s1 hp fun S hS hwS np e => .lst e ?_)⟩
    rw [Int.toNat_natCast]
    exact (dts_rep (f1 S hS hwS) k).same (offL_mono (same_new hp))
theorem el_repT {K : W.Frag} {ta : TE} {l : List D} {k : Nat} (h : El C J B σ ta (.tup l)) (h2 : 2 ≤ k) (hk : k ≤ 1000) (hl : l ≠ []) (hl2 : l.length ≤ 1000) : El C J B σ (tOp (rRepT K) ta (tC (.int k))) (.tup (List.replicate k l).flatten) := fun H R hw q =>
  h H _ hw fun x H1 s1 st => by
    obtain ⟨a, xs, rfl, e1, f1⟩ := std_tup st
    have z1 := (f1 [] (fun _ z => nomatch z) (fun _ z => nomatch z)).length
    refine ⟨a, k, xs, rfl, rfl, SqT.of e1, fun z => hl (List.eq_nil_of_length_eq_zero (by rw [← z1, z]; rfl)), by omega, by omega, by omega, fun p hp => q _ _ (s1.trans (same_new hp)) (std_new s1 hp fun S hS hwS np e => .tup e ?_)⟩
    rw [Int.toNat_natCast]
    exact (dts_rep (f1 S hS hwS) k).same (offL_mono (same_new hp))
theorem cut_to (xs : List V) (k : Nat) (h : k ≤ xs.length) : cutV xs none (some (k : Int)) = xs.take k := by
  unfold cutV
  rw [HT.sIx_none, HT.sIx_nat, List.drop_zero, Nat.min_eq_left h, Nat.sub_zero]
theorem cut_from (xs : List V) (k : Nat) (h : k ≤ xs.length) : cutV xs (some (k : Int)) none = xs.drop k := by
  unfold cutV
  rw [HT.sIx_none, HT.sIx_nat, Nat.min_eq_left h]
  exact List.take_of_length_le (by rw [List.length_drop]; omega)
theorem el_op {f : Int → Int → V} {g : Int → Int → Int} {ta tb : TE} {i j : Int} (hf : ∀ i j, f i j = .int (g i j)) (h : El C J B σ ta (.int i)) (h' : El C J B σ tb (.int j)) : El C J B σ (tOp (rI0 f) ta tb) (.int (g i j)) := fun H R hw q =>
  h H _ hw fun x H1 s1 st => h' H1 _ (Kp.m s1 hw) fun y H2 s2 st2 => by
    cases int_inv st.here
    cases int_inv st2.here
    refine ⟨i, j, rfl, rfl, ?_⟩
    rw [hf]
    exact q _ _ (s1.trans s2) fun S _ _ => .int _
theorem el_pow {ta tb : TE} {i j : Int} (hc : CPow i j) (h : El C J B σ ta (.int i)) (h' : El C J B σ tb (.int j)) : El C J B σ (tOp (rI CPow fun i j => .int (i ^ j.toNat)) ta tb) (.int (i ^ j.toNat)) := fun H R hw q =>
  h H _ hw fun x H1 s1 st => h' H1 _ (Kp.m s1 hw) fun y H2 s2 st2 => by
    cases int_inv st.here
    cases int_inv st2.here
    exact ⟨i, j, rfl, rfl, hc, q _ _ (s1.trans s2) fun S _ _ => .int _⟩
theorem el_str {ti : TE} {z : Int} (hz : SmallI z) (h : El C J B σ ti (.int z)) : El C J B σ (tCB (fun xs H Q => ∃ i, xs = [.int i] ∧ i.natAbs.log2 < 1920 ∧ Q (.str (toString i)) H) (tCons ti tNil)) (.str (toString z)) := fun H R hw q =>
  h H _ hw fun x H1 s1 st => by
    cases int_inv st.here
    exact ⟨z, rfl, hz, q _ _ s1 fun S _ _ => .str _⟩
theorem el_ratio {ti : TE} {z : Int} (h : El C J B σ ti (.int z)) : El C J B σ (tMake C (spInit C) [.int 1] E0 (tCons ti tNil)) (.rat z 1) := fun H R hw q =>
  h H _ hw fun x H1 s1 st => by
    cases int_inv st.here
    intro p dx np ndx ne
    refine ⟨p, dx, z, 1, rfl, upd_same, by decide, ?_, fun H' keep hp => ⟨rfl, q _ H' (s1.trans fun b o e => ?_) fun S hS hwS => ?_⟩⟩
    · show Nat.gcd z.natAbs 1 < _
      rw [Nat.gcd_one_right]
      decide
    · refine keep b o ?_ (ne_of_none e np)
      rw [upd_ne (ne_of_none e np), upd_ne (ne_of_none e ndx)]
      exact e
    · have e1 : cm z 1 = 1 := by
        unfold cm
        rw [if_neg (by decide)]
        show ((Nat.gcd z.natAbs 1 : Nat) : Int) = 1
        rw [Nat.gcd_one_right]
        rfl
      rw [e1] at hp
      have nS : p ∉ S := out_of (live s1 hS) np
      have e2 : z.fdiv 1 = z := by rw [Int.fdiv_eq_ediv_of_nonneg _ (by decide)]; exact Int.ediv_one z
      refine .rat (by rw [offL_at nS]; exact hp) ?_ ?_
      · rw [fsR_top, e2]
      · rw [fsR_bottom]
        rfl
theorem el_tupleOf {K : W.Frag} {ti : TE} {l : List D} (h : El C J B σ ti (.lst l)) : El C J B σ (tCB (fun xs H Q => ∃ p ys, xs = [.ref p] ∧ ((SqL K H p ys ∧ ∀ l, H l = none → Q (.ref l) (upd H l (.tup ys))) ∨ (SqT K H p ys ∧ Q (.ref p) H))) (tCons ti tNil)) (.tup l) := fun H R hw q =>
  h H _ hw fun x H1 s1 st => by
    obtain ⟨a, xs, rfl, e1, f1⟩ := std_lst st
    exact ⟨a, xs, rfl, .inl ⟨SqL.of e1, fun p hp => q _ _ (s1.trans (same_new hp)) (std_new s1 hp fun S hS hwS np e => .tup e ((f1 S hS hwS).same (offL_mono (same_new hp))))⟩⟩
theorem el_dict0 : El C J B σ tDNewK (.dct []) := fun H R hw q p hp => q _ _ (same_new hp) (std_new (Same.refl H) hp fun S hS hwS np e => .dct e)
theorem el_dict1 {a b : Int} : El C J B σ (tDisp [(tC (.int a), tC (.int b))]) (.dct [(a, b)]) := fun H R hw q p hp => by
  refine ⟨upd_same, [(Sum.inl a, .int b)], rfl, (by show 1 ≤ 15; decide), ?_⟩
  have e : upd (upd H p (.dK [])) p (.dK (mergeK [] [(Sum.inl a, V.int b)])) = upd H p (.dK (kvs [(a, b)])) := upd_upd
  rw [e]
  exact q _ _ (same_new hp) (std_new (Same.refl H) hp fun S hS hwS np e => .dct e)
theorem el_var {j : Nat} {x : V} {d : D} (hj : σ[j]? = some (some x)) (hx : ∀ H, J H → ∀ S : List Addr, (∀ a ∈ S, ¬ B a) → Dt C (offL S H) x d) : El C J B σ (tVar j) d := fun H R hw q => ⟨x, hj, q x H (Same.refl H) fun S _ hS => hx H hw S hS⟩
theorem std_mem {H H' : Hp} {xs : List V} {l : List D} {k : Nat} {d : D} (hd : l[k]? = some d) (h : ∀ S : List Addr, (∀ a ∈ S, H a ≠ none) → (∀ a ∈ S, ¬ B a) → Dts C (offL S H') xs l) : ∃ x, xs[k]? = some x ∧ ∀ S : List Addr, (∀ a ∈ S, H a ≠ none) → (∀ a ∈ S, ¬ B a) → Dt C (offL S H') x d := by
  have l0 := (h [] (fun _ z => nomatch z) (fun _ z => nomatch z)).length
  have hk : k < xs.length := by
    rcases Nat.lt_or_ge k l.length with z | z
    · omega
    · rw [List.getElem?_eq_none z] at hd
      cases hd
  refine ⟨xs[k], List.getElem?_eq_getElem hk, fun S hS hB => ?_⟩
  obtain ⟨d', e, q⟩ := (h S hS hB).at (List.getElem?_eq_getElem hk)
  rw [hd] at e
  cases e
  exact q
theorem dts_take {H : Hp} : ∀ {xs : List V} {l : List D} (k : Nat), Dts C H xs l → Dts C H (xs.take k) (l.take k)
  | _, _, 0, _ => .nil
  | _, _, _ + 1, .nil => .nil
  | _, _, k + 1, .cons a b => .cons a (dts_take k b)
theorem dts_drop {H : Hp} : ∀ {xs : List V} {l : List D} (k : Nat), Dts C H xs l → Dts C H (xs.drop k) (l.drop k)
  | _, _, 0, h => h
  | _, _, _ + 1, .nil => .nil
  | _, _, k + 1, .cons a b => dts_drop k b
theorem el_item {K : W.Frag} {tl ti : TE} {l : List D} {k : Nat} {d : D} (hd : l[k]? = some d) (h : El C J B σ tl (.lst l)) (h' : El C J B σ ti (.int k)) : El C J B σ (tOp (rIxL K) tl ti) d := fun H R hw q =>
  h H _ hw fun x H1 s1 st => h' H1 _ (Kp.m s1 hw) fun y H2 s2 st2 => by
    obtain ⟨a, xs, rfl, e1, f1⟩ := std_lst st
    cases int_inv st2.here
    obtain ⟨z, hz, fz⟩ := std_mem hd f1
    exact ⟨a, xs, k, z, rfl, rfl, SqL.of (s2 _ _ e1), atI_nat hz, q _ _ (s1.trans s2) fun S hS hB => (fz S hS hB).same (offL_mono s2)⟩
theorem el_to {K : W.Frag} {tl th : TE} {l : List D} {k : Nat} (hk : k ≤ l.length) (h : El C J B σ tl (.lst l)) (h' : El C J B σ th (.int k)) : El C J B σ (tSl (rSlL K) tl tNoPart (tPart th)) (.lst (l.take k)) := fun H R hw q =>
  h H _ hw fun x H1 s1 st => h' H1 _ (Kp.m s1 hw) fun y H2 s2 st2 => by
    obtain ⟨a, xs, rfl, e1, f1⟩ := std_lst st
    cases int_inv st2.here
    have lx := (f1 [] (fun _ z => nomatch z) (fun _ z => nomatch z)).length
    refine ⟨k, rfl, a, _, rfl, SqL.of (s2 _ _ e1), fun p hp => ?_⟩
    rw [cut_to _ _ (by omega)]
    exact q _ _ ((s1.trans s2).trans (same_new hp)) (std_new (s1.trans s2) hp fun S hS hwS np e => .lst e (dts_take k ((f1 S hS hwS).same (offL_mono (s2.trans (same_new hp))))))
theorem el_from {K : W.Frag} {tl th : TE} {l : List D} {k : Nat} (hk : k ≤ l.length) (h : El C J B σ tl (.lst l)) (h' : El C J B σ th (.int k)) : El C J B σ (tSl (rSlL K) tl (tPart th) tNoPart) (.lst (l.drop k)) := fun H R hw q =>
  h H _ hw fun x H1 s1 st => h' H1 _ (Kp.m s1 hw) fun y H2 s2 st2 => by
    obtain ⟨a, xs, rfl, e1, f1⟩ := std_lst st
    cases int_inv st2.here
    have lx := (f1 [] (fun _ z => nomatch z) (fun _ z => nomatch z)).length
    refine ⟨k, rfl, a, _, rfl, SqL.of (s2 _ _ e1), fun p hp => ?_⟩
    rw [cut_from _ _ (by omega)]
    exact q _ _ ((s1.trans s2).trans (same_new hp)) (std_new (s1.trans s2) hp fun S hS hwS np e => .lst e (dts_drop k ((f1 S hS hwS).same (offL_mono (s2.trans (same_new hp))))))
end
end KT

set_option Elab.async false
set_option linter.all false
set_option maxRecDepth 100000
set_option maxHeartbeats 4000000
namespace KT
open PySem L2 TW
abbrev r_init : Stmt := inClass (top 10) 0
abbrev r_top : Stmt := inClass (top 10) 1
abbrev r_bottom : Stmt := inClass (top 10) 2
abbrev r_add : Stmt := inClass (top 10) 5
abbrev r_sub : Stmt := inClass (top 10) 7
abbrev r_mul : Stmt := inClass (top 10) 9
abbrev r_neg : Stmt := inClass (top 10) 11
abbrev r_of : Stmt := top 13
theorem sr_init : FnScope ["self", "top", "bottom", "common"] ["self", "top", "bottom"] (defScope r_init) := ⟨rfl, rfl, rfl, by decide +kernel, rfl, by decide +kernel, by decide +kernel⟩
theorem sr_top : FnScope ["self"] ["self"] (defScope r_top) := ⟨rfl, rfl, rfl, by decide +kernel, rfl, by decide +kernel, by decide +kernel⟩
theorem sr_bottom : FnScope ["self"] ["self"] (defScope r_bottom) := ⟨rfl, rfl, rfl, by decide +kernel, rfl, by decide +kernel, by decide +kernel⟩
theorem sr_add : FnScope ["self", "other", "right"] ["self", "other"] (defScope r_add) := ⟨rfl, rfl, rfl, by decide +kernel, rfl, by decide +kernel, by decide +kernel⟩
theorem sr_mul : FnScope ["self", "other", "right"] ["self", "other"] (defScope r_mul) := ⟨rfl, rfl, rfl, by decide +kernel, rfl, by decide +kernel, by decide +kernel⟩
theorem sr_sub : FnScope ["self", "other"] ["self", "other"] (defScope r_sub) := ⟨rfl, rfl, rfl, by decide +kernel, rfl, by decide +kernel, by decide +kernel⟩
theorem sr_neg : FnScope ["self"] ["self"] (defScope r_neg) := ⟨rfl, rfl, rfl, by decide +kernel, rfl, by decide +kernel, by decide +kernel⟩
theorem sr_of : FnScope ["number"] ["number"] (defScope r_of) := ⟨rfl, rfl, rfl, by decide +kernel, rfl, by decide +kernel, by decide +kernel⟩
/-- a new one is t / b -/
def spMk (C : Addr) : Sp := fun vs H Q _ => ∃ (p dx : Addr) (t b : Int), vs = [.ref p, .int t, .int b] ∧ H p = some (.ins C dx []) ∧ b ≠ 0 ∧ b.natAbs < 2 ^ 9000 ∧
  ∀ H', (∀ q o, H q = some o → q ≠ p → H' q = some o) → RatAt C H' p (Rat.divInt t b) → Q .non H'
def spOf (C : Addr) : Sp := fun vs H Q _ => ∃ x q, vs = [x] ∧ NumAt C H x q ∧ ∀ p H', Same H H' → RatAt C H' p q → Q (.ref p) H'
def spNum (C : Addr) : Sp := fun vs H Q _ => ∃ a q, vs = [.ref a] ∧ RatAt C H a q ∧ Q (.int q.num) H
def spDen (C : Addr) : Sp := fun vs H Q _ => ∃ a q, vs = [.ref a] ∧ RatAt C H a q ∧ Q (.int q.den) H
def spOp2 (C : Addr) (g : Rat → Rat → Rat) : Sp := fun vs H Q _ => ∃ a y p r, vs = [.ref a, y] ∧ RatAt C H a p ∧ NumAt C H y r ∧ Bits 4000 p ∧ Bits 4000 r ∧ ∀ c H', Same H H' → RatAt C H' c (g p r) → Q (.ref c) H'
def spOp1 (C : Addr) (g : Rat → Rat) : Sp := fun vs H Q _ => ∃ a p, vs = [.ref a] ∧ RatAt C H a p ∧ Bits 4000 p ∧ ∀ c H', Same H H' → RatAt C H' c (g p) → Q (.ref c) H'
section
variable {P : Program} {w : World} {K : W.Frag} {mg : Str → Option Value} {base : Heap} {C HC : Addr}
abbrev InitR (K : W.Frag) (f : Addr) (fd : FuncData) : Prop := FunD K "__init__" "Ratio.__init__" (defArgs r_init) (defBody r_init) (defScope r_init) [.int 1] [] f fd
theorem initR_binds {f : Addr} {fd : FuncData} (F : InitR K f fd) : ∃ ds, Vals [V.int 1] ds ∧ Binds K fd ["self", "top", "bottom"] ds :=
  F.binds1 (n := 2) (j := 0) (by simp) rfl fun T kV doc pm an cdv ct us its h1 h2 => match us, its, h1, h2 with
    | [_, _], [_], _, _ => ⟨_, rfl, rfl⟩
theorem ok_mk {f f1 : Addr} {fd fd1 : FuncData} (F : InitR K f fd) (T : Txt K mg C HC) (F1 : At K mg "is_integer" s_is_integer ["value"] f1 fd1) : FnOk P w K mg base L2.CX0 2 f fd ["self", "top", "bottom"] (spMk C) := by
  refine F.ok sr_init (fun vs H Q E h => ?_) fun cdv A outer s H vs Q E hr h => ?_
  · obtain ⟨p, dx, t, b, rfl, _⟩ := h
    rfl
  obtain ⟨p, dx, t, b, rfl, hp, hb, hz, q⟩ := h
  have G := ok_is_integer (P := P) (w := w) (base := base) F1 T
  refine ⟨_, pss_cons (ps_if (pt_not (pt_val (pe_call G hr (by rfl) F1.mg F1.fn.kp F1.b .nil pass0 (pa_cons (pv 1) pa_nil)))) (pss_one ps_never) pss_nil)
    (pss_cons (ps_if (PW.pt (pw_or (pt_not (pt_val (pe_call G hr (by rfl) F1.mg F1.fn.kp F1.b .nil pass0 (pa_cons (pv 2) pa_nil)))) (pw_or1 (pt_cmp (pc_eqI (pv 2) pe_int))))) (pss_one ps_never) pss_nil)
    (pss_cons (ps_set (i := 3) sr_init.nd rfl (.inl rfl) (pe_callBfun cr_gcd (by rfl) T.gcd_ (pa_cons (pv 1) (pa_cons (pv 2) pa_nil))))
    (pss_cons (ps_if (pt_cmp (pc_lt (pv 2) pe_int)) (pss_one (ps_set (i := 3) sr_init.nd rfl (.inl rfl) (pe_un un_neg (pv 3)))) pss_nil)
    (pss_cons (ps_fld (pv 0) (pe_op op_fdivS (pv 1) (pv 3)) rfl) (pss_one (ps_fld (pv 0) (pe_op op_fdivS (pv 2) (pv 3)) rfl)))))), ?_⟩
  have len1 : ∀ i : Int, (D.int i).len ≤ sizeLine := fun i => by show 1921 ≤ 2 ^ 24; decide
  refine ⟨.int t, rfl, .int t, .int t, rfl, .int t, len1 _, fun H1 s1 => ⟨_, rfl, iteF ?_⟩⟩
  refine ⟨.int b, rfl, .int b, .int b, rfl, .int b, len1 _, fun H2 s2 => ⟨_, rfl, iteF ⟨.int b, rfl, b, 0, rfl, rfl, _, rfl, ?_⟩⟩⟩
  refine iteB (b := decide (b = 0)) (fun e => absurd (of_decide_eq_true e) hb) fun _ => ?_
  refine ⟨.int t, rfl, .int b, rfl, t, b, rfl, .int b, rfl, b, 0, rfl, rfl, _, rfl, ?_⟩
  have s12 : Same H H2 := s1.trans s2
  have c0 := comm_ne (t := t) hb
  have cz : (comm t b).natAbs.log2 < 9000 := lt_log2 (Nat.lt_of_le_of_lt (comm_le hb) hz) (by decide)
  -- the two stores
  have rest : ∀ c : Int, c = comm t b →
      tSeq (sFld K (tVar 0) (tOp (rI CDivS fun i j => .int (i.fdiv j)) (tVar 1) (tVar 3)) "_top") (sFld K (tVar 0) (tOp (rI CDivS fun i j => .int (i.fdiv j)) (tVar 2) (tVar 3)) "_bottom") { nx := fun _ H' => Q .non H', rt := Q } [some (.ref p), some (.int t), some (.int b), some (.int c)] H2 := by
    rintro c rfl
    refine ⟨.int t, rfl, .int _, rfl, t, _, rfl, rfl, ⟨c0, cz⟩, .ref p, rfl, p, C, dx, [], rfl, s12 _ _ hp, T.clC, T.nTop, by show 0 < 1000; decide, ?_⟩
    refine ⟨.int b, rfl, .int _, rfl, b, _, rfl, rfl, ⟨c0, cz⟩, .ref p, rfl, p, C, dx, _, rfl, upd_same, T.clC, T.nBot, by show 1 < 1000; decide, ?_⟩
    refine q _ (fun z o e hz => ?_) ⟨dx, _, upd_same, ?_, ?_⟩
    · rw [upd_ne hz, upd_ne hz]
      exact s12 _ _ e
    · rw [lookup_putF, if_neg (by decide +kernel), lookup_putF, if_pos rfl]
      exact congrArg (fun z => some (V.int z)) (num_comm hb)
    · rw [lookup_putF, if_pos rfl]
      exact congrArg (fun z => some (V.int z)) (den_comm hb)
  refine iteB (b := decide (b < 0)) (fun e => ?_) fun e => ?_
  · have e' : b < 0 := of_decide_eq_true e
    refine ⟨.int _, rfl, _, rfl, rest _ ?_⟩
    unfold comm
    rw [if_pos e']
  · have e' : ¬ b < 0 := of_decide_eq_false e
    refine rest _ ?_
    unfold comm
    rw [if_neg e']
theorem num_dt {C : Addr} {H : Hp} {x : V} {q : Rat} (h : NumAt C H x q) : ∃ d : D, Dt C H x d ∧ isN d = true ∧ ∀ i : Int, x = .int i → d = .int i := by
  rcases h with ⟨i, rfl, _⟩ | ⟨a, rfl, dx, fs, e, t, b⟩
  · exact ⟨.int i, .int i, rfl, fun j e => by cases e; rfl⟩
  · exact ⟨_, .rat e t b, rfl, fun j e => by cases e⟩
theorem divInt_one (i : Int) : Rat.divInt i 1 = (i : Rat) := by
  refine Rat.ext ?_ ?_
  · rw [Rat.num_divInt, Rat.num_intCast]
    have e : Int.gcd 1 i = 1 := Int.gcd_one_left _
    rw [e]
    show 1 * i / 1 = i
    rw [Int.one_mul]
    exact Int.ediv_one i
  · rw [Rat.den_divInt, if_neg (by decide), Rat.den_intCast]
    have e : Int.gcd 1 i = 1 := Int.gcd_one_left _
    rw [e]
    rfl
theorem initR_all {f : Addr} {fd : FuncData} (F : InitR K f fd) : ∃ ds, Vals [] ds ∧ Binds K fd ["self", "top", "bottom"] ds :=
  F.binds1 (n := 3) (j := 1) (by simp) rfl fun T kV doc pm an cdv ct us its h1 h2 => match us, its, h1, h2 with
    | [_, _, _], [_], _, _ => ⟨_, rfl, rfl⟩
theorem ok_of {f f1 f2 : Addr} {fd fd1 fd2 : FuncData} (F : At K mg "ratio_of" r_of ["number"] f fd) (T : Txt K mg C HC) (F1 : At K mg "is_integer" s_is_integer ["value"] f1 fd1)
    (I : InitR K f2 fd2) (M : Mk K C f2) : FnOk P w K mg base L2.CX0 4 f fd ["number"] (spOf C) := by
  refine F.fn.ok sr_of (fun vs H Q E h => ?_) fun cdv A outer s H vs Q E hr h => ?_
  · obtain ⟨x, q, rfl, _⟩ := h
    rfl
  obtain ⟨x, p, rfl, hx, q⟩ := h
  obtain ⟨ds, vd, bd⟩ := initR_binds I
  obtain ⟨d, hd, hn, hi⟩ := num_dt hx
  refine ⟨_, pss_one (ps_ret (pe_ifExp (pt_val (pe_callB call_isi (by rfl) T.isi (by decide +kernel) (pa_cons (pv 0) (pa_cons (pe_glob (v := .ref C) (by rfl) T.mgC rfl) pa_nil)))) (pv 0)
    (pe_make M (ok_mk I T F1) hr (by rfl) T.mgC bd vd pass0 (pa_cons (pv 0) pa_nil)))), ?_⟩
  refine ⟨x, rfl, x, .ref C, _, _, _, rfl, .own C, tyx T hd, kit_rat T d, _, rfl, ?_⟩
  rcases hx with ⟨i, rfl, rfl⟩ | ⟨a, rfl, ha⟩
  · obtain rfl := hi i rfl
    refine iteF ⟨.int i, rfl, fun p dx np ndx ne => ?_⟩
    refine ⟨p, dx, i, 1, rfl, upd_same, by decide, by decide, fun H' keep hp => ⟨rfl, q p H' (fun b o e => ?_) ?_⟩⟩
    · refine keep b o ?_ (ne_of_none e np)
      rw [upd_ne (ne_of_none e np), upd_ne (ne_of_none e ndx)]
      exact e
    · rw [← divInt_one]
      exact hp
  · have e : isR d = true := by
      cases hd with
      | rat _ _ _ => rfl
      | _ => cases hn
    rw [e]
    exact iteT ⟨.ref a, rfl, q a H (Same.refl H) ha⟩
/-- a property of it -/
structure PrAt (K : W.Frag) (C : Addr) (x qual : Str) (st : Stmt) (p g : Addr) (gd : FuncData) : Prop where
  pr : PropOf K C x p g
  fn : Fun K x qual st g gd
  b : Binds K gd ["self"] []
theorem ok_top {f : Addr} {fd : FuncData} (F : Fun K "top" "Ratio.top" r_top f fd) (T : Txt K mg C HC) : FnOk P w K mg base L2.CX0 1 f fd ["self"] (spNum C) := by
  refine F.ok sr_top (fun vs H Q E h => ?_) fun cdv A outer s H vs Q E hr h => ?_
  · obtain ⟨a, q, rfl, _⟩ := h
    rfl
  obtain ⟨a, p, rfl, ⟨dx, fs, e, t, b⟩, q⟩ := h
  exact ⟨_, pss_one (ps_ret (pe_fld (pv 0) rfl)), ⟨.ref a, rfl, a, C, dx, fs, _, rfl, e, T.clC, T.nTop, t, q⟩⟩
theorem ok_bottom {f : Addr} {fd : FuncData} (F : Fun K "bottom" "Ratio.bottom" r_bottom f fd) (T : Txt K mg C HC) : FnOk P w K mg base L2.CX0 1 f fd ["self"] (spDen C) := by
  refine F.ok sr_bottom (fun vs H Q E h => ?_) fun cdv A outer s H vs Q E hr h => ?_
  · obtain ⟨a, q, rfl, _⟩ := h
    rfl
  obtain ⟨a, p, rfl, ⟨dx, fs, e, t, b⟩, q⟩ := h
  exact ⟨_, pss_one (ps_ret (pe_fld (pv 0) rfl)), ⟨.ref a, rfl, a, C, dx, fs, _, rfl, e, T.clC, T.nBot, b, q⟩⟩
/-- what the operators lean on -/
structure Ops (P : Program) (w : World) (K : W.Frag) (mg : Str → Option Value) (base : Heap) (C : Addr) : Prop where
  of : ∃ f fd, At K mg "ratio_of" r_of ["number"] f fd ∧ FnOk P w K mg base L2.CX0 4 f fd ["number"] (spOf C)
  mk_ : ∃ f fd ds, Mk K C f ∧ FnOk P w K mg base L2.CX0 2 f fd ["self", "top", "bottom"] (spMk C) ∧ Vals [] ds ∧ Binds K fd ["self", "top", "bottom"] ds
  top_ : ∃ p g gd, PrAt K C "top" "Ratio.top" r_top p g gd
  bot_ : ∃ p g gd, PrAt K C "bottom" "Ratio.bottom" r_bottom p g gd
theorem ok_add {f : Addr} {fd : FuncData} (F : Fun K "__add__" "Ratio.__add__" r_add f fd) (T : Txt K mg C HC) (O : Ops P w K mg base C) : FnOk P w K mg base L2.CX0 5 f fd ["self", "other"] (spOp2 C (· + ·)) := by
  refine F.ok sr_add (fun vs H Q E h => ?_) fun cdv A outer s H vs Q E hr h => ?_
  · obtain ⟨a, y, p, r, rfl, _⟩ := h
    rfl
  obtain ⟨a, y, p, r, rfl, ha, hy, bp, br, q⟩ := h
  obtain ⟨fo, fdo, Ao, No⟩ := O.of
  obtain ⟨fm, fdm, ds, M, Nm, vd, bd⟩ := O.mk_
  obtain ⟨pt, gt, gdt, Pt⟩ := O.top_
  obtain ⟨pb, gb, gdb, Pb⟩ := O.bot_
  have hr2 : Room 2 _ := hr.mono (by decide)
  have hr3 : Room 3 _ := hr.mono (by decide)
  refine ⟨_, (pss_cons (ps_set (i := 2) sr_add.nd rfl (.inl rfl) (pe_call No hr (by rfl) Ao.mg Ao.fn.kp Ao.b .nil pass0 (pa_cons (pv 1) pa_nil))) (pss_one (ps_ret (pe_make M Nm hr3 (by rfl) T.mgC bd vd pass0 (pa_cons (pe_op op_add (pe_op op_mulW (pe_fld (pv 0) rfl) (pe_prop (pv 2) T.clC Pb.pr (ok_bottom Pb.fn T) hr2 Pb.b .nil pass0 rfl)) (pe_op op_mulW (pe_prop (pv 2) T.clC Pt.pr (ok_top Pt.fn T) hr2 Pt.b .nil pass0 rfl) (pe_fld (pv 0) rfl))) (pa_cons (pe_op op_mulW (pe_fld (pv 0) rfl) (pe_prop (pv 2) T.clC Pb.pr (ok_bottom Pb.fn T) hr2 Pb.b .nil pass0 rfl)) pa_nil)))))), ?_⟩
  refine ⟨y, rfl, y, r, rfl, hy, fun c H1 s1 hc => ?_⟩
  obtain ⟨dx, fs, e, t, b⟩ := ha.same s1
  obtain ⟨dx2, fs2, e2, t2, b2⟩ := id hc
  have m1 : CMulW p.num r.den := wide_mul bp.1 (by rw [Int.natAbs_natCast]; exact br.2) (by decide) (by decide) (by decide)
  have m2 : CMulW r.num p.den := wide_mul br.1 (by rw [Int.natAbs_natCast]; exact bp.2) (by decide) (by decide) (by decide)
  have m3 : CMulW (p.den : Int) r.den := wide_mul (by rw [Int.natAbs_natCast]; exact bp.2) (by rw [Int.natAbs_natCast]; exact br.2) (by decide) (by decide) (by decide)
  refine ⟨.ref a, rfl, a, C, dx, fs, _, rfl, e, T.clC, T.nTop, t, .ref c, rfl, c, dx2, fs2, rfl, e2, c, r, rfl, hc, _, _, rfl, rfl, m1, ?_⟩
  refine ⟨.ref c, rfl, c, dx2, fs2, rfl, e2, c, r, rfl, hc, .ref a, rfl, a, C, dx, fs, _, rfl, e, T.clC, T.nBot, b, _, _, rfl, rfl, m2, _, _, rfl, rfl, ?_⟩
  refine ⟨.ref a, rfl, a, C, dx, fs, _, rfl, e, T.clC, T.nBot, b, .ref c, rfl, c, dx2, fs2, rfl, e2, c, r, rfl, hc, _, _, rfl, rfl, m3, fun x dz nx ndz ne => ?_⟩
  have nz : (p.den : Int) * r.den ≠ 0 := Int.mul_ne_zero (Int.natCast_ne_zero.2 p.den_nz) (Int.natCast_ne_zero.2 r.den_nz)
  refine ⟨x, dz, _, _, rfl, upd_same, nz, ?_, fun H' keep hx => ⟨rfl, q x H' (fun b o e => ?_) ?_⟩⟩
  · rw [Int.natAbs_mul, Int.natAbs_natCast, Int.natAbs_natCast]
    exact Nat.lt_of_lt_of_le (pow_mul_lt bp.2 br.2) (Nat.pow_le_pow_right (by decide) (by decide))
  · have e1 := s1 _ _ e
    refine keep b o ?_ (ne_of_none e1 nx)
    rw [upd_ne (ne_of_none e1 nx), upd_ne (ne_of_none e1 ndz)]
    exact e1
  · rw [show (fun x1 x2 : Rat => x1 + x2) p r = p + r from rfl, rat_add]
    exact hx
theorem ok_mul {f : Addr} {fd : FuncData} (F : Fun K "__mul__" "Ratio.__mul__" r_mul f fd) (T : Txt K mg C HC) (O : Ops P w K mg base C) : FnOk P w K mg base L2.CX0 5 f fd ["self", "other"] (spOp2 C (· * ·)) := by
  refine F.ok sr_mul (fun vs H Q E h => ?_) fun cdv A outer s H vs Q E hr h => ?_
  · obtain ⟨a, y, p, r, rfl, _⟩ := h
    rfl
  obtain ⟨a, y, p, r, rfl, ha, hy, bp, br, q⟩ := h
  obtain ⟨fo, fdo, Ao, No⟩ := O.of
  obtain ⟨fm, fdm, ds, M, Nm, vd, bd⟩ := O.mk_
  obtain ⟨pt, gt, gdt, Pt⟩ := O.top_
  obtain ⟨pb, gb, gdb, Pb⟩ := O.bot_
  have hr2 : Room 2 _ := hr.mono (by decide)
  have hr3 : Room 3 _ := hr.mono (by decide)
  refine ⟨_, (pss_cons (ps_set (i := 2) sr_mul.nd rfl (.inl rfl) (pe_call No hr (by rfl) Ao.mg Ao.fn.kp Ao.b .nil pass0 (pa_cons (pv 1) pa_nil))) (pss_one (ps_ret (pe_make M Nm hr3 (by rfl) T.mgC bd vd pass0 (pa_cons (pe_op op_mulW (pe_fld (pv 0) rfl) (pe_prop (pv 2) T.clC Pt.pr (ok_top Pt.fn T) hr2 Pt.b .nil pass0 rfl)) (pa_cons (pe_op op_mulW (pe_fld (pv 0) rfl) (pe_prop (pv 2) T.clC Pb.pr (ok_bottom Pb.fn T) hr2 Pb.b .nil pass0 rfl)) pa_nil)))))), ?_⟩
  refine ⟨y, rfl, y, r, rfl, hy, fun c H1 s1 hc => ?_⟩
  obtain ⟨dx, fs, e, t, b⟩ := ha.same s1
  obtain ⟨dx2, fs2, e2, t2, b2⟩ := id hc
  have m1 : CMulW p.num r.num := wide_mul bp.1 br.1 (by decide) (by decide) (by decide)
  have m3 : CMulW (p.den : Int) r.den := wide_mul (by rw [Int.natAbs_natCast]; exact bp.2) (by rw [Int.natAbs_natCast]; exact br.2) (by decide) (by decide) (by decide)
  refine ⟨.ref a, rfl, a, C, dx, fs, _, rfl, e, T.clC, T.nTop, t, .ref c, rfl, c, dx2, fs2, rfl, e2, c, r, rfl, hc, _, _, rfl, rfl, m1, ?_⟩
  refine ⟨.ref a, rfl, a, C, dx, fs, _, rfl, e, T.clC, T.nBot, b, .ref c, rfl, c, dx2, fs2, rfl, e2, c, r, rfl, hc, _, _, rfl, rfl, m3, fun x dz nx ndz ne => ?_⟩
  have nz : (p.den : Int) * r.den ≠ 0 := Int.mul_ne_zero (Int.natCast_ne_zero.2 p.den_nz) (Int.natCast_ne_zero.2 r.den_nz)
  refine ⟨x, dz, _, _, rfl, upd_same, nz, ?_, fun H' keep hx => ⟨rfl, q x H' (fun b o e => ?_) ?_⟩⟩
  · rw [Int.natAbs_mul, Int.natAbs_natCast, Int.natAbs_natCast]
    exact Nat.lt_of_lt_of_le (pow_mul_lt bp.2 br.2) (Nat.pow_le_pow_right (by decide) (by decide))
  · have e1 := s1 _ _ e
    refine keep b o ?_ (ne_of_none e1 nx)
    rw [upd_ne (ne_of_none e1 nx), upd_ne (ne_of_none e1 ndz)]
    exact e1
  · rw [show (fun x1 x2 : Rat => x1 * x2) p r = p * r from rfl, rat_mul]
    exact hx
theorem ok_neg {f : Addr} {fd : FuncData} (F : Fun K "__neg__" "Ratio.__neg__" r_neg f fd) (T : Txt K mg C HC) (O : Ops P w K mg base C) : FnOk P w K mg base L2.CX0 5 f fd ["self"] (spOp1 C (fun p => -p)) := by
  refine F.ok sr_neg (fun vs H Q E h => ?_) fun cdv A outer s H vs Q E hr h => ?_
  · obtain ⟨a, p, rfl, _⟩ := h
    rfl
  obtain ⟨a, p, rfl, ha, bp, q⟩ := h
  obtain ⟨fm, fdm, ds, M, Nm, vd, bd⟩ := O.mk_
  have hr3 : Room 3 _ := hr.mono (by decide)
  refine ⟨_, (pss_one (ps_ret (pe_make M Nm hr3 (by rfl) T.mgC bd vd pass0 (pa_cons (pe_un un_neg (pe_fld (pv 0) rfl)) (pa_cons (pe_fld (pv 0) rfl) pa_nil))))), ?_⟩
  obtain ⟨dx, fs, e, t, b⟩ := ha
  refine ⟨.ref a, rfl, a, C, dx, fs, _, rfl, e, T.clC, T.nTop, t, _, rfl, .ref a, rfl, a, C, dx, fs, _, rfl, e, T.clC, T.nBot, b, fun x dz nx ndz ne => ?_⟩
  have nz : (p.den : Int) ≠ 0 := Int.natCast_ne_zero.2 p.den_nz
  refine ⟨x, dz, _, _, rfl, upd_same, nz, ?_, fun H' keep hx => ⟨rfl, q x H' (fun b o e1 => ?_) ?_⟩⟩
  · rw [Int.natAbs_natCast]
    exact Nat.lt_of_lt_of_le bp.2 (Nat.pow_le_pow_right (by decide) (by decide))
  · refine keep b o ?_ (ne_of_none e1 nx)
    rw [upd_ne (ne_of_none e1 nx), upd_ne (ne_of_none e1 ndz)]
    exact e1
  · have e2 := Rat.neg_divInt p.num p.den
    rw [Rat.num_divInt_den] at e2
    rw [show (fun p : Rat => -p) p = -p from rfl, e2]
    exact hx
theorem bits_neg {n : Nat} {p : Rat} (h : Bits n p) : Bits n (-p) := ⟨by rw [Rat.neg_num, Int.natAbs_neg]; exact h.1, by rw [Rat.neg_den]; exact h.2⟩
/-- an operator of the class stands -/
structure OpAt (P : Program) (w : World) (K : W.Frag) (mg : Str → Option Value) (base : Heap) (C : Addr) (name : Str) (ps : List Str) (sp : Sp) : Prop where
  ex : ∃ f fd, Own K C f name ∧ FnOk P w K mg base L2.CX0 5 f fd ps sp ∧ Binds K fd ps []
theorem ok_sub {f : Addr} {fd : FuncData} (F : Fun K "__sub__" "Ratio.__sub__" r_sub f fd) (T : Txt K mg C HC) (O : Ops P w K mg base C) (sf : W.selfFirst K C = true)
    (Ad : OpAt P w K mg base C "__add__" ["self", "other"] (spOp2 C (· + ·))) (Ne : OpAt P w K mg base C "__neg__" ["self"] (spOp1 C fun p => -p)) : FnOk P w K mg base L2.CX0 6 f fd ["self", "other"] (spOp2 C (· - ·)) := by
  refine F.ok sr_sub (fun vs H Q E h => ?_) fun cdv A outer s H vs Q E hr h => ?_
  · obtain ⟨a, y, p, r, rfl, _⟩ := h
    rfl
  obtain ⟨a, y, p, r, rfl, ha, hy, bp, br, q⟩ := h
  obtain ⟨fo, fdo, Ao, No⟩ := O.of
  obtain ⟨fa, fda, Oa, Na, Ba⟩ := Ad.ex
  obtain ⟨fn, fdn, On, Nn, Bn⟩ := Ne.ex
  have hr4 : Room 4 _ := hr.mono (by decide)
  refine ⟨_, pss_one (ps_ret (pe_op (op_own (op := .Add) Oa sf Na hr Ba pass0) (pv 0) (pe_un (un_ownNeg On Nn hr Bn pass0) (pe_call No hr4 (by rfl) Ao.mg Ao.fn.kp Ao.b .nil pass0 (pa_cons (pv 1) pa_nil))))), ?_⟩
  refine ⟨.ref a, rfl, y, rfl, y, r, rfl, hy, fun c H1 s1 hc => ?_⟩
  obtain ⟨dx2, fs2, e2, t2, b2⟩ := id hc
  refine ⟨c, dx2, fs2, rfl, e2, c, r, rfl, hc, br, fun d H2 s2 hd => ?_⟩
  have ha2 := (ha.same s1).same s2
  obtain ⟨dx, fs, e, t, b⟩ := id ha2
  obtain ⟨dx3, fs3, e3, t3, b3⟩ := id hd
  refine ⟨a, d, dx, dx3, fs, fs3, rfl, rfl, e, e3, a, .ref d, p, -r, rfl, ha2, .inr ⟨d, rfl, hd⟩, bp, bits_neg br, fun x H3 s3 hx => ⟨⟨x, rfl⟩, q x H3 ((s1.trans s2).trans s3) ?_⟩⟩
  rw [show (fun x1 x2 : Rat => x1 - x2) p r = p - r from rfl, Rat.sub_eq_add_neg]
  exact hx
end
end KT

set_option Elab.async false
set_option linter.all false
set_option maxRecDepth 100000
set_option maxHeartbeats 4000000
namespace KT
open PySem L2 TW
abbrev s_passed : Stmt := top 28
abbrev s_given_row : Stmt := top 29
abbrev s_given : Stmt := top 30
abbrev s_entry : Stmt := top 31
abbrev s_lrow : Stmt := top 32
theorem sc_passed : FnScope ["_law_pot_here", "_law_pair", "_law_is_small"] ["_law_pot_here", "_law_pair"] (defScope s_passed) := ⟨rfl, rfl, rfl, by decide +kernel, rfl, by decide +kernel, by decide +kernel⟩
theorem sc_given_row : FnScope ["_law_pot_here", "_law_row_here", "_law_found", "_law_pair"] ["_law_pot_here", "_law_row_here"] (defScope s_given_row) := ⟨rfl, rfl, rfl, by decide +kernel, rfl, by decide +kernel, by decide +kernel⟩
theorem sc_given : FnScope ["_law_pot_here", "_law_rows", "_law_found", "_law_row_here"] ["_law_pot_here", "_law_rows"] (defScope s_given) := ⟨rfl, rfl, rfl, by decide +kernel, rfl, by decide +kernel, by decide +kernel⟩
theorem sc_entry : FnScope ["_law_pot_here"] ["_law_pot_here"] (defScope s_entry) := ⟨rfl, rfl, rfl, by decide +kernel, rfl, by decide +kernel, by decide +kernel⟩
theorem sc_lrow : FnScope ["_law_pot_here", "_law_wide", "_law_place"] ["_law_pot_here", "_law_wide"] (defScope s_lrow) := ⟨rfl, rfl, rfl, by decide +kernel, rfl, by decide +kernel, by decide +kernel⟩
/-- a fraction of few bits, as a tuple -/
def GP (n : Nat) (d : D) : Prop := ∃ q : Rat, d = pD q ∧ Bits n q
instance : Kp (fun _ => True) := ⟨fun _ _ => trivial⟩
def spEntry (C : Addr) : Sp := fun vs H Q _ => ∃ p, vs = [.ref p] ∧ PotAt H p ∧ ∀ x d H', But p H H' → PotAt H' p → GP 4 d → Nw C p H x d H' → Q x H'
def spLrow (C : Addr) : Sp := fun vs H Q _ => ∃ (p : Addr) (n : Nat), vs = [.ref p, .int n] ∧ PotAt H p ∧ n ≤ 20 ∧ ∀ x l H', But p H H' → PotAt H' p → Nw C p H x (.lst l) H' → l.length = n → (∀ d ∈ l, GP 4 d) → Q x H'
section
variable {P : Program} {w : World} {K : W.Frag} {mg : Str → Option Value} {base : Heap} {C HC : Addr}
theorem el_pair {J : Hp → Prop} {B : Addr → Prop} [Kp J] {σ : L2.St} {ta tb : TE} {i j : Int} (h : El C J B σ ta (.int i)) (h' : El C J B σ tb (.int j)) : El C J B σ (tTup (tCons ta (tCons tb tNil))) (.tup [.int i, .int j]) := el_tup (els_cons h (els_cons h' els_nil)) (by show 2 ≤ 1000; decide)
theorem gp4 (t : Int) (b : Nat) (h : b ≠ 0 := by decide) (r : t.natAbs.Coprime b := by decide) (h1 : t.natAbs < 2 ^ 4 := by decide) (h2 : b < 2 ^ 4 := by decide) : GP 4 (.tup [.int t, .int b]) := ⟨⟨t, b, h, r⟩, rfl, h1, h2⟩
theorem ok_entry {f g : Addr} {fd gd : FuncData} (F : At K mg "_law_entry" s_entry ["_law_pot_here"] f fd) (T : Txt K mg C HC) (G : At K mg "_law_pick" s_pick ["_law_pot_here", "_law_some"] g gd)
    (N : FnOk P w K mg base L2.CX0 2 g gd ["_law_pot_here", "_law_some"] spPick) : FnOk P w K mg base L2.CX0 3 f fd ["_law_pot_here"] (spEntry C) := by
  refine F.fn.ok sc_entry (fun vs H Q E h => ?_) fun cdv A outer s H vs Q E hr h => ?_
  · obtain ⟨p, rfl, _⟩ := h
    rfl
  obtain ⟨p, rfl, hp, q⟩ := h
  refine ⟨_, (pss_one (ps_ret (pe_call N hr (by rfl) G.mg G.fn.kp G.b .nil pass0 (pa_cons (pv 0) (pa_cons (pe_lst (pa_cons (pe_tup (pa_cons pe_int (pa_cons pe_int pa_nil))) (pa_cons (pe_tup (pa_cons pe_int (pa_cons pe_int pa_nil))) (pa_cons (pe_tup (pa_cons pe_int (pa_cons pe_int pa_nil))) (pa_cons (pe_tup (pa_cons (pe_un un_neg pe_int) (pa_cons pe_int pa_nil))) (pa_cons (pe_tup (pa_cons pe_int (pa_cons pe_int pa_nil))) (pa_cons (pe_tup (pa_cons pe_int (pa_cons pe_int pa_nil))) (pa_cons (pe_tup (pa_cons (pe_un un_neg pe_int) (pa_cons pe_int pa_nil))) (pa_cons (pe_tup (pa_cons pe_int (pa_cons pe_int pa_nil))) (pa_cons (pe_tup (pa_cons (pe_un un_neg pe_int) (pa_cons pe_int pa_nil))) (pa_cons (pe_tup (pa_cons pe_int (pa_cons pe_int pa_nil))) pa_nil))))))))))) pa_nil))))), ?_⟩
  have e0 := (els_cons (el_pair (el_int (i := 0)) (el_int (i := 1))) (els_cons (el_pair (el_int (i := 0)) (el_int (i := 1))) (els_cons (el_pair (el_int (i := 1)) (el_int (i := 1))) (els_cons (el_pair (el_neg (i := 1)) (el_int (i := 1))) (els_cons (el_pair (el_int (i := 2)) (el_int (i := 1))) (els_cons (el_pair (el_int (i := 3)) (el_int (i := 1))) (els_cons (el_pair (el_neg (i := 2)) (el_int (i := 1))) (els_cons (el_pair (el_int (i := 1)) (el_int (i := 2))) (els_cons (el_pair (el_neg (i := 5)) (el_int (i := 3))) (els_cons (el_pair (el_int (i := 0)) (el_int (i := 1))) els_nil)))))))))
    : Els C (fun _ => True) (fun _ => False) [some (V.ref p)] _ _)
  refine ⟨.ref p, rfl, el_lst e0 (by show 10 ≤ 1000; decide) H _ trivial fun x H1 s1 st => ?_⟩
  obtain ⟨a, xs, rfl, e1, f1⟩ := std_lst st
  have lx := (f1 [] (fun _ z => nomatch z) (fun _ z => nomatch z)).length
  have hp1 : PotAt H1 p := by
    obtain ⟨x, y, hx, hy, e⟩ := hp
    exact ⟨x, y, hx, hy, s1 _ _ e⟩
  have nap : a ≠ p := fun z => by
    have e := st [p] (fun c hc => by
      rw [List.mem_singleton.1 hc]
      obtain ⟨_, _, _, _, e⟩ := hp
      rw [e]
      exact fun z => nomatch z) (fun _ _ z => z)
    cases e with
    | lst e _ =>
      rw [offL_in (by rw [z]; exact List.mem_singleton.2 rfl)] at e
      cases e
  refine ⟨p, a, xs, rfl, hp1, nap, e1, by rw [lx]; decide, by rw [lx]; decide, fun v H2 hv b2 p2 => ?_⟩
  obtain ⟨k, hk⟩ := List.getElem?_of_mem hv
  obtain ⟨d, hd, _⟩ := (f1 [] (fun _ z => nomatch z) (fun _ z => nomatch z)).at hk
  refine q v d H2 ((But.of s1).trans b2) p2 ?_ fun S hS => ?_
  · have m := List.mem_of_getElem? hd
    simp only [List.mem_cons, List.not_mem_nil, or_false] at m
    rcases m with rfl | rfl | rfl | rfl | rfl | rfl | rfl | rfl | rfl | rfl
    · exact gp4 0 1
    · exact gp4 0 1
    · exact gp4 1 1
    · exact gp4 (-1) 1
    · exact gp4 2 1
    · exact gp4 3 1
    · exact gp4 (-2) 1
    · exact gp4 1 2
    · exact gp4 (-5) 3
    · exact gp4 0 1
  · have z := f1 (p :: S) (fun c hc => by
      rcases List.mem_cons.1 hc with rfl | hc
      · obtain ⟨_, _, _, _, e⟩ := hp
        rw [e]
        exact fun z => nomatch z
      · exact hS c hc) (fun _ _ z => z)
    obtain ⟨d', hd', z2⟩ := z.at hk
    rw [hd] at hd'
    cases hd'
    exact z2.same (but_off b2)
theorem ok_lrow {f g : Addr} {fd gd : FuncData} (F : At K mg "_law_row" s_lrow ["_law_pot_here", "_law_wide"] f fd) (T : Txt K mg C HC) (T2 : Txt2 mg) (G : At K mg "_law_entry" s_entry ["_law_pot_here"] g gd)
    (N : FnOk P w K mg base L2.CX0 3 g gd ["_law_pot_here"] (spEntry C)) : FnOk P w K mg base L2.CX0 4 f fd ["_law_pot_here", "_law_wide"] (spLrow C) := by
  refine F.fn.ok sc_lrow (fun vs H Q E h => ?_) fun cdv A outer s H vs Q E hr h => ?_
  · obtain ⟨p, n, rfl, _⟩ := h
    rfl
  obtain ⟨p, n, rfl, hp, hn, q⟩ := h
  refine ⟨_, (pss_one (ps_ret (pe_lc (own := [("_law_place", 2)]) (g := gName 2) (tt := tYes) rfl sc_lrow.nd (pi_range1 (by rfl) T2.range_ (pa_cons (pv 1) pa_nil)) (blkOk_by (N := ["_law_pot_here", "_law_wide", "_law_place"]) (sc := defScope s_lrow) (by decide +kernel)) (fun _ _ _ _ _ => pg_name (i := 2) sc_lrow.nd rfl (Or.inl rfl)) (fun _ _ _ _ _ => pts_nil) (fun _ _ _ _ _ => (pe_call N hr (by rfl) G.mg G.fn.kp G.b .nil pass0 (pa_cons (pv 0) pa_nil)))))), ?_⟩
  refine ⟨.int n, rfl, n, rfl, by omega, by omega, fun A nA => ?_⟩
  have tn : (n : Int).toNat = n := Int.toNat_natCast n
  rw [tn]
  refine lc_range (PvP C p H (GP 4) A) ⟨But.of (same_new nA), hp.upd (fun z => by
    obtain ⟨_, _, _, _, e⟩ := hp
    rw [z, nA] at e
    cases e), [], [], upd_same, fun _ _ => .nil, rfl, fun _ z => nomatch z⟩ (fun k H' hk pv => pot_turn (n := n) nA hp (by omega) _ k hk H' (fun R b1 p1 r => ⟨.ref p, rfl, p, rfl, p1, fun x d H2 b2 p2 gd nw => r x d H2 b2 p2 gd nw⟩) pv) fun H' pv => ?_
  obtain ⟨b1, p1, l, nw, el, gl⟩ := pot_end nA hp pv
  exact q _ l H' b1 p1 nw el gl
end
end KT

set_option Elab.async false
set_option linter.all false
set_option maxRecDepth 100000
set_option maxHeartbeats 4000000
namespace KT
open PySem L2 TW
/-- a NUMBER of few bits as data -/
def GN (d : D) : Prop := (∃ i : Int, d = .int i ∧ i.natAbs < 2 ^ 8) ∨ ∃ q : Rat, d = .rat q.num q.den ∧ Bits 8 q
def spPassed (C : Addr) : Sp := fun vs H Q _ => ∃ p y q, vs = [.ref p, y] ∧ PotAt H p ∧ Dt C (offL [p] H) y (pD q) ∧ Bits 8 q ∧ ∀ x d H', But p H H' → PotAt H' p → GN d → Nw C p H x d H' → Q x H'
section
variable {P : Program} {w : World} {K : W.Frag} {mg : Str → Option Value} {base : Heap} {C HC : Addr}
theorem pot_ne {p a : Addr} {H : Hp} (hp : PotAt H p) (h : H a = none) : p ≠ a := fun z => by
  obtain ⟨_, _, _, _, e⟩ := hp
  rw [z, h] at e
  cases e
theorem pot_live {p : Addr} {H : Hp} (hp : PotAt H p) : H p ≠ none := fun z => by
  obtain ⟨_, _, _, _, e⟩ := hp
  rw [z] at e
  cases e
theorem ok_passed {f g f1 fi : Addr} {fd gd fd1 fid : FuncData} (F : At K mg "_law_passed" s_passed ["_law_pot_here", "_law_pair"] f fd) (T : Txt K mg C HC) (T2 : Txt2 mg) (G : At K mg "_law_draw" s_draw ["_law_pot_here", "_law_room"] g gd)
    (N : FnOk P w K mg base L2.CX0 1 g gd ["_law_pot_here", "_law_room"] spDraw) (F1 : At K mg "is_integer" s_is_integer ["value"] f1 fd1) (I : InitR K fi fid) (M : Mk K C fi) : FnOk P w K mg base L2.CX0 4 f fd ["_law_pot_here", "_law_pair"] (spPassed C) := by
  refine F.fn.ok sc_passed (fun vs H Q E h => ?_) fun cdv A outer s H vs Q E hr h => ?_
  · obtain ⟨p, y, q, rfl, _⟩ := h
    rfl
  obtain ⟨p, y, r, rfl, hp, hy, br, q⟩ := h
  obtain ⟨ds, vd, bd⟩ := initR_all I
  have hr1 : Room 1 _ := hr.mono (by decide)
  obtain ⟨a, rfl, ha0⟩ := pair_at hy
  have nap : a ≠ p := fun z => by
    rw [offL_in (by rw [z]; exact List.mem_singleton.2 rfl)] at ha0
    cases ha0
  have ha : H a = some (.tup [.int r.num, .int r.den]) := by
    rw [offL_at (fun z => nap (List.mem_singleton.1 z))] at ha0
    exact ha0
  refine ⟨_, (pss_cons (ps_set (i := 2) sc_passed.nd rfl (.inl rfl) (pe_and (pe_cmp (pc_eqI (pe_ix (r := rIxT K) ix_tup (pv 1) pe_int (fun _ _ => rfl)) pe_int) rfl) (pe_one (pe_cmp (pc_lt (pe_callB call_abs (by rfl) T2.abs_ (by decide +kernel) (pa_cons (pe_ix (r := rIxT K) ix_tup (pv 1) pe_int (fun _ _ => rfl)) pa_nil)) (pe_op op_pow pe_int pe_int)) rfl)))) (pss_one (ps_ret (pe_ifExp (PW.pt (pw_and (pt_val (pv 2)) (pw_and1 (pt_cmp (pc_eqI (pe_call N hr1 (by rfl) G.mg G.fn.kp G.b .nil pass0 (pa_cons (pv 0) (pa_cons pe_int pa_nil))) pe_int))))) (pe_ix (r := rIxT K) ix_tup (pv 1) pe_int (fun _ _ => rfl)) (pe_make M (ok_mk I T F1) hr (by rfl) T.mgC bd vd pass0 (pa_cons (pe_ix (r := rIxT K) ix_tup (pv 1) pe_int (fun _ _ => rfl)) (pa_cons (pe_ix (r := rIxT K) ix_tup (pv 1) pe_int (fun _ _ => rfl)) pa_nil))))))), ?_⟩
  have i0 : ∀ x y : V, atI [x, y] 0 = some x := fun x y => atI_nat (j := 0) rfl
  have i1 : ∀ x y : V, atI [x, y] 1 = some y := fun x y => atI_nat (j := 1) rfl
  have nz : (r.den : Int) ≠ 0 := Int.natCast_ne_zero.2 r.den_nz
  -- both ways out
  have one : ∀ (c : Bool) (H1 : Hp), But p H H1 → PotAt H1 p → tOp (rIxT K) (tVar 1) (tC (.int 0)) [some (.ref p), some (.ref a), some (.bl c)] H1 Q := fun c H1 b1 p1 =>
    ⟨.ref a, rfl, a, _, 0, _, rfl, rfl, SqT.of (b1 _ _ ha nap), i0 _ _, q _ _ H1 b1 p1 (.inl ⟨_, rfl, br.1⟩) fun S _ => .int _⟩
  have two : ∀ (c : Bool) (H1 : Hp), But p H H1 → PotAt H1 p → tMake C (spMk C) [] E0 (tCons (tOp (rIxT K) (tVar 1) (tC (.int 0))) (tCons (tOp (rIxT K) (tVar 1) (tC (.int 1))) tNil)) [some (.ref p), some (.ref a), some (.bl c)] H1 Q := fun c H1 b1 p1 => by
    refine ⟨.ref a, rfl, a, _, 0, _, rfl, rfl, SqT.of (b1 _ _ ha nap), i0 _ _, .ref a, rfl, a, _, 1, _, rfl, rfl, SqT.of (b1 _ _ ha nap), i1 _ _, fun x dx nx ndx ne => ?_⟩
    refine ⟨x, dx, r.num, r.den, rfl, upd_same, nz, ?_, fun H' keep hx => ⟨rfl, ?_⟩⟩
    · rw [Int.natAbs_natCast]
      exact Nat.lt_of_lt_of_le br.2 (Nat.pow_le_pow_right (by decide) (by decide))
    · have st : ∀ b o, H1 b = some o → H' b = some o := fun b o e => keep b o (by rw [upd_ne (ne_of_none e nx), upd_ne (ne_of_none e ndx)]; exact e) (ne_of_none e nx)
      rw [Rat.num_divInt_den] at hx
      obtain ⟨dz, fs, e1, t, b⟩ := hx
      refine q (.ref x) (.rat r.num r.den) H' (fun b o e hb => st b o (b1 _ _ e hb)) ?_ (.inr ⟨r, rfl, br⟩) fun S hS => ?_
      · obtain ⟨x', y', h1, h2, e⟩ := p1
        exact ⟨x', y', h1, h2, st _ _ e⟩
      · have nS : x ∉ p :: S := fun z => by
          rcases List.mem_cons.1 z with z | z
          · exact pot_ne p1 nx z.symm
          · exact but_live b1 p1 (hS x z) nx
        exact .rat (by rw [offL_at nS]; exact e1) t b
  dsimp only [tSeq, tAsg]
  refine give (S := fun v H' => H' = H ∧ ∃ c, v = .bl c) (fun R g => ?_) fun v H' hv => ?_
  · refine ⟨.ref a, rfl, a, _, 1, _, rfl, rfl, SqT.of ha, i1 _ _, _, _, rfl, rfl, _, rfl, iteB (b := decide ((r.den : Int) = 1)) (fun e => ?_) fun e => g _ _ ⟨rfl, _, rfl⟩⟩
    exact ⟨.ref a, rfl, a, _, 0, _, rfl, rfl, SqT.of ha, i0 _ _, _, rfl, 10, 6, rfl, rfl, ⟨by decide, by decide, by decide⟩, _, _, rfl, rfl, g _ _ ⟨rfl, _, rfl⟩⟩
  · obtain ⟨rfl, c, rfl⟩ := hv
    refine ⟨.bl c, rfl, c, rfl, ?_⟩
    cases c with
    | false => exact iteF (iteF (two false _ (But.refl p _) hp))
    | true =>
      refine iteT ⟨.ref p, rfl, p, 2, rfl, hp, by decide, by decide, fun z H1 z0 z1 b1 p1 => ⟨z, 0, rfl, rfl, _, rfl, ?_⟩⟩
      exact iteB (b := decide (z = 0)) (fun _ => one true H1 b1 p1) fun _ => two true H1 b1 p1
/-- a row of NUMBERS, a list or a tuple -/
def GRow (G : D → Prop) (n : Nat) (d : D) : Prop := ∃ l, (d = .lst l ∨ d = .tup l) ∧ l.length = n ∧ ∀ e ∈ l, G e
def spGiv (C : Addr) (G G' : D → Prop) : Sp := fun vs H Q _ => ∃ p y ps, vs = [.ref p, y] ∧ PotAt H p ∧ Dt C (offL [p] H) y (.lst ps) ∧ (∀ d ∈ ps, G d) ∧ ps.length ≤ 20 ∧ ∀ x d H', But p H H' → PotAt H' p → GRow G' ps.length d → Nw C p H x d H' → Q x H'
theorem ok_given_row {f g h1 : Addr} {fd gd hd1 : FuncData} (F : At K mg "_law_given_row" s_given_row ["_law_pot_here", "_law_row_here"] f fd) (T : Txt K mg C HC) (T2 : Txt2 mg) (G : At K mg "_law_draw" s_draw ["_law_pot_here", "_law_room"] g gd)
    (N : FnOk P w K mg base L2.CX0 1 g gd ["_law_pot_here", "_law_room"] spDraw) (G2 : At K mg "_law_passed" s_passed ["_law_pot_here", "_law_pair"] h1 hd1) (N2 : FnOk P w K mg base L2.CX0 4 h1 hd1 ["_law_pot_here", "_law_pair"] (spPassed C)) :
    FnOk P w K mg base L2.CX0 5 f fd ["_law_pot_here", "_law_row_here"] (spGiv C (GP 8) GN) := by
  refine F.fn.ok sc_given_row (fun vs H Q E h => ?_) fun cdv A outer s H vs Q E hr h => ?_
  · obtain ⟨p, y, ps, rfl, _⟩ := h
    rfl
  obtain ⟨p, y, ps, rfl, hp, hy, gps, lps, q⟩ := h
  have hr1 : Room 1 _ := hr.mono (by decide)
  obtain ⟨a, xs, rfl, ha0, dxs⟩ := lst_inv hy
  have nap : a ≠ p := fun z => by
    rw [offL_in (by rw [z]; exact List.mem_singleton.2 rfl)] at ha0
    cases ha0
  have ha : H a = some (.lst xs) := by
    rw [offL_at (fun z => nap (List.mem_singleton.1 z))] at ha0
    exact ha0
  have lxs := dxs.length
  refine ⟨_, (pss_cons (ps_setLc (i := 2) (own := [("_law_pair", 3)]) (g := gName 3) (tt := tYes) rfl sc_given_row.nd rfl rfl (sw_true rfl rfl rfl (by decide +kernel)) (pi_list (pv 1)) (blkOk_by (N := ["_law_pot_here", "_law_row_here", "_law_found", "_law_pair"]) (sc := defScope s_given_row) (by decide +kernel)) (fun _ _ _ _ _ => pg_name (i := 3) sc_given_row.nd rfl (Or.inl rfl)) (fun _ _ _ _ _ => pts_nil) (fun _ _ _ _ _ => (pe_call N2 hr (by rfl) G2.mg G2.fn.kp G2.b .nil pass0 (pa_cons (pv 0) (pa_cons (pv 3) pa_nil))))) (pss_one (ps_ret (pe_ifExp (pt_cmp (pc_eqI (pe_call N hr1 (by rfl) G.mg G.fn.kp G.b .nil pass0 (pa_cons (pv 0) (pa_cons pe_int pa_nil))) pe_int)) (pe_callTy call_tuple_of (by rfl) T.tuple_ (by decide +kernel) (pa_cons (pv 2) pa_nil)) (pv 2))))), ?_⟩
  refine ⟨.ref a, rfl, a, rfl, ⟨xs, SqL.of ha⟩, fun A nA => ?_⟩
  refine lc_list (K := K) (a := a) (xs := xs) (PvP C p H GN A) ⟨But.of (same_new nA), hp.upd (pot_ne hp nA), [], [], upd_same, fun _ _ => .nil, rfl, fun _ z => nomatch z⟩ (fun k H' _ pv => SqL.of (pv.1 _ _ ha nap))
    (fun k x H' hx pv => pot_turn (n := xs.length) nA hp (by omega) x k (by
      rcases Nat.lt_or_ge k xs.length with z | z
      · exact z
      · rw [List.getElem?_eq_none z] at hx; cases hx) H' (fun R b1 p1 r => ?_) pv) fun H' pv => ?_
  · obtain ⟨d, hd, dd⟩ := dxs.at hx
    obtain ⟨qd, rfl, bq⟩ := gps d (List.mem_of_getElem? hd)
    exact ⟨.ref p, rfl, x, rfl, p, x, qd, rfl, p1, dd.same (but_off b1), bq, r⟩
  · obtain ⟨b1, p1, ys, l, e1, d1, el, gl⟩ := pv
    have ly : ys.length = l.length := (d1 [] fun _ z => nomatch z).length
    have nAp := pot_ne hp nA
    refine ⟨.ref p, rfl, p, 3, rfl, p1, by decide, by decide, fun z H2 z0 z1 b2 p2 => ⟨z, 0, rfl, rfl, _, rfl, ?_⟩⟩
    have e2 := b2 _ _ e1 nAp.symm
    have nAS : ∀ S : List Addr, (∀ c ∈ S, H c ≠ none) → A ∉ p :: S := fun S hS z => by
      rcases List.mem_cons.1 z with z | z
      · exact nAp z.symm
      · exact hS A z nA
    refine iteB (b := decide (z = 0)) (fun _ => ?_) fun _ => ?_
    · refine ⟨.ref A, rfl, A, ys, rfl, .inl ⟨SqL.of e2, fun t nt => ?_⟩⟩
      have st : Same H2 (upd H2 t (.tup ys)) := same_new nt
      refine q _ (.tup l) _ ((b1.trans b2).trans (But.of st)) (p2.upd (pot_ne p2 nt)) ⟨l, .inr rfl, by omega, gl⟩ fun S hS => ?_
      have tS : t ∉ p :: S := fun z => by
        rcases List.mem_cons.1 z with z | z
        · exact pot_ne p2 nt z.symm
        · exact but_live (b1.trans b2) p2 (hS t z) nt
      exact .tup (by rw [offL_at tS]; exact upd_same) ((((d1 S hS).same offL_less).same (but_off b2)).same (offL_mono st))
    · refine ⟨.ref A, rfl, q _ (.lst l) _ (b1.trans b2) p2 ⟨l, .inl rfl, by omega, gl⟩ fun S hS => ?_⟩
      exact .lst (by rw [offL_at (nAS S hS)]; exact e2) (((d1 S hS).same offL_less).same (but_off b2))
/-- a list of so many pairs -/
def GL (n : Nat) (d : D) : Prop := ∃ ps, d = .lst ps ∧ ps.length = n ∧ ∀ e ∈ ps, GP 8 e
theorem ok_given {f g h1 : Addr} {fd gd hd1 : FuncData} (F : At K mg "_law_given" s_given ["_law_pot_here", "_law_rows"] f fd) (T : Txt K mg C HC) (T2 : Txt2 mg) (G : At K mg "_law_draw" s_draw ["_law_pot_here", "_law_room"] g gd)
    (N : FnOk P w K mg base L2.CX0 1 g gd ["_law_pot_here", "_law_room"] spDraw) (G2 : At K mg "_law_given_row" s_given_row ["_law_pot_here", "_law_row_here"] h1 hd1) (N2 : FnOk P w K mg base L2.CX0 5 h1 hd1 ["_law_pot_here", "_law_row_here"] (spGiv C (GP 8) GN)) :
    FnOk P w K mg base L2.CX0 6 f fd ["_law_pot_here", "_law_rows"] (fun vs H Q E => ∃ n : Nat, n ≤ 20 ∧ spGiv C (GL n) (GRow GN n) vs H Q E) := by
  refine F.fn.ok sc_given (fun vs H Q E h => ?_) fun cdv A outer s H vs Q E hr h => ?_
  · obtain ⟨n, _, p, y, ps, rfl, _⟩ := h
    rfl
  obtain ⟨n, hn, p, y, ps, rfl, hp, hy, gps, lps, q⟩ := h
  have hr1 : Room 1 _ := hr.mono (by decide)
  obtain ⟨a, xs, rfl, ha0, dxs⟩ := lst_inv hy
  have nap : a ≠ p := fun z => by
    rw [offL_in (by rw [z]; exact List.mem_singleton.2 rfl)] at ha0
    cases ha0
  have ha : H a = some (.lst xs) := by
    rw [offL_at (fun z => nap (List.mem_singleton.1 z))] at ha0
    exact ha0
  have lxs := dxs.length
  refine ⟨_, (pss_cons (ps_setLc (i := 2) (own := [("_law_row_here", 3)]) (g := gName 3) (tt := tYes) rfl sc_given.nd rfl rfl (sw_true rfl rfl rfl (by decide +kernel)) (pi_list (pv 1)) (blkOk_by (N := ["_law_pot_here", "_law_rows", "_law_found", "_law_row_here"]) (sc := defScope s_given) (by decide +kernel)) (fun _ _ _ _ _ => pg_name (i := 3) sc_given.nd rfl (Or.inl rfl)) (fun _ _ _ _ _ => pts_nil) (fun _ _ _ _ _ => (pe_call N2 hr (by rfl) G2.mg G2.fn.kp G2.b .nil pass0 (pa_cons (pv 0) (pa_cons (pv 3) pa_nil))))) (pss_one (ps_ret (pe_ifExp (pt_cmp (pc_eqI (pe_call N hr1 (by rfl) G.mg G.fn.kp G.b .nil pass0 (pa_cons (pv 0) (pa_cons pe_int pa_nil))) pe_int)) (pe_callTy call_tuple_of (by rfl) T.tuple_ (by decide +kernel) (pa_cons (pv 2) pa_nil)) (pv 2))))), ?_⟩
  refine ⟨.ref a, rfl, a, rfl, ⟨xs, SqL.of ha⟩, fun A nA => ?_⟩
  refine lc_list (K := K) (a := a) (xs := xs) (PvP C p H (GRow GN n) A) ⟨But.of (same_new nA), hp.upd (pot_ne hp nA), [], [], upd_same, fun _ _ => .nil, rfl, fun _ z => nomatch z⟩ (fun k H' _ pv => SqL.of (pv.1 _ _ ha nap))
    (fun k x H' hx pv => pot_turn (n := xs.length) nA hp (by omega) x k (by
      rcases Nat.lt_or_ge k xs.length with z | z
      · exact z
      · rw [List.getElem?_eq_none z] at hx; cases hx) H' (fun R b1 p1 r => ?_) pv) fun H' pv => ?_
  · obtain ⟨d, hd, dd⟩ := dxs.at hx
    obtain ⟨qs, rfl, lq, bq⟩ := gps d (List.mem_of_getElem? hd)
    exact ⟨.ref p, rfl, x, rfl, p, x, qs, rfl, p1, dd.same (but_off b1), bq, by omega, fun y e H2 b2 p2 ge nw => r y e H2 b2 p2 (by rw [lq] at ge; exact ge) nw⟩
  · obtain ⟨b1, p1, ys, l, e1, d1, el, gl⟩ := pv
    have ly : ys.length = l.length := (d1 [] fun _ z => nomatch z).length
    have nAp := pot_ne hp nA
    refine ⟨.ref p, rfl, p, 3, rfl, p1, by decide, by decide, fun z H2 z0 z1 b2 p2 => ⟨z, 0, rfl, rfl, _, rfl, ?_⟩⟩
    have e2 := b2 _ _ e1 nAp.symm
    have nAS : ∀ S : List Addr, (∀ c ∈ S, H c ≠ none) → A ∉ p :: S := fun S hS z => by
      rcases List.mem_cons.1 z with z | z
      · exact nAp z.symm
      · exact hS A z nA
    refine iteB (b := decide (z = 0)) (fun _ => ?_) fun _ => ?_
    · refine ⟨.ref A, rfl, A, ys, rfl, .inl ⟨SqL.of e2, fun t nt => ?_⟩⟩
      have st : Same H2 (upd H2 t (.tup ys)) := same_new nt
      refine q _ (.tup l) _ ((b1.trans b2).trans (But.of st)) (p2.upd (pot_ne p2 nt)) ⟨l, .inr rfl, by omega, gl⟩ fun S hS => ?_
      have tS : t ∉ p :: S := fun z => by
        rcases List.mem_cons.1 z with z | z
        · exact pot_ne p2 nt z.symm
        · exact but_live (b1.trans b2) p2 (hS t z) nt
      exact .tup (by rw [offL_at tS]; exact upd_same) ((((d1 S hS).same offL_less).same (but_off b2)).same (offL_mono st))
    · refine ⟨.ref A, rfl, q _ (.lst l) _ (b1.trans b2) p2 ⟨l, .inl rfl, by omega, gl⟩ fun S hS => ?_⟩
      exact .lst (by rw [offL_at (nAS S hS)]; exact e2) (((d1 S hS).same offL_less).same (but_off b2))
end
end KT

set_option Elab.async false
set_option linter.all false
set_option maxRecDepth 100000
set_option maxHeartbeats 4000000
namespace KT
open PySem L2 TW
abbrev s_list : Stmt := top 33
abbrev s_table : Stmt := top 34
theorem sc_list : FnScope ["_law_pot_here", "_law_wide", "_law_many", "_law_found", "_law_turn"] ["_law_pot_here", "_law_wide", "_law_many"] (defScope s_list) := ⟨rfl, rfl, rfl, by decide +kernel, rfl, by decide +kernel, by decide +kernel⟩
/-- one more item behind a list that is built while the pot is drawn from -/
theorem pot_push {C p A : Addr} {H H' H2 : Hp} {G : D → Prop} {k : Nat} {y : V} {d : D} (hA : H A = none) (hp : PotAt H p) (pv : PvP C p H G A k H') (b2 : But p H' H2) (p2 : PotAt H2 p) (gd : G d) (nw : Nw C p H' y d H2) :
    ∃ ys, H2 A = some (.lst ys) ∧ ys.length = k ∧ PvP C p H G A (k + 1) (upd H2 A (.lst (ys ++ [y]))) := by
  obtain ⟨b1, p1, ys, l, e1, d1, el1, g1⟩ := pv
  have nAp : A ≠ p := (pot_ne hp hA).symm
  have e2 := b2 _ _ e1 nAp
  have ly : ys.length = k := by rw [(d1 [] fun _ z => nomatch z).length]; exact el1
  refine ⟨ys, e2, ly, fun c o e hc => ?_, p2.upd nAp.symm, ys ++ [y], l ++ [d], upd_same, fun S hS => ?_, by rw [List.length_append, el1]; rfl, mem_app g1 gd⟩
  · rw [upd_ne (ne_of_none e hA)]
    exact b2 _ _ (b1 _ _ e hc) hc
  · have up : Same (offL (p :: A :: S) H2) (offL (p :: A :: S) (upd H2 A (.lst (ys ++ [y])))) := offL_same fun c o e hc => by
      refine ⟨hc, ?_⟩
      simp only [List.mem_cons, not_or] at hc
      rw [upd_ne hc.2.1]
      exact e
    refine dts_app (((d1 S hS).same (but_off b2)).same up) (.cons ((nw (A :: S) fun c hc => ?_).same up) .nil)
    rcases List.mem_cons.1 hc with rfl | hc
    · rw [e1]
      exact fun z => nomatch z
    · exact but_live b1 p1 (hS c hc)
/-- a list of so many pairs of few bits -/
def GL4 (n : Nat) (d : D) : Prop := ∃ ps, d = .lst ps ∧ ps.length = n ∧ ∀ e ∈ ps, GP 4 e
theorem dts_set {C : Addr} {H : Hp} {y : V} {d : D} : ∀ {xs : List V} {l : List D}, Dts C H xs l → Dt C H y d → ∀ j : Nat, Dts C H (xs.set j y) (l.set j d)
  | _, _, .nil, _, _ => .nil
  | _, _, .cons a b, h, 0 => .cons h b
  | _, _, .cons a b, h, j + 1 => .cons a (dts_set b h j)
theorem off_all {S : List Addr} {H : Hp} : Same (offL S H) H := fun b o e => by
  by_cases z : b ∈ S
  · rw [offL_in z] at e
    cases e
  · rw [offL_at z] at e
    exact e
theorem PvP.mono {C p A : Addr} {H H' : Hp} {G G' : D → Prop} {k : Nat} (pv : PvP C p H G A k H') (h : ∀ d, G d → G' d) : PvP C p H G' A k H' := by
  obtain ⟨b1, p1, ys, l, e1, d1, el1, g1⟩ := pv
  exact ⟨b1, p1, ys, l, e1, d1, el1, fun d hd => h d (g1 d hd)⟩
theorem PvP.but {C p A : Addr} {H H' H2 : Hp} {G : D → Prop} {k : Nat} (hA : H A = none) (hp : PotAt H p) (pv : PvP C p H G A k H') (b2 : But p H' H2) (p2 : PotAt H2 p) : PvP C p H G A k H2 := by
  obtain ⟨b1, p1, ys, l, e1, d1, el1, g1⟩ := pv
  exact ⟨b1.trans b2, p2, ys, l, b2 _ _ e1 (pot_ne hp hA).symm, fun S hS => (d1 S hS).same (but_off b2), el1, g1⟩
theorem pot_set {C p A : Addr} {H H' H2 : Hp} {G : D → Prop} {k j : Nat} {y : V} {d : D} (hA : H A = none) (hp : PotAt H p) (pv : PvP C p H G A k H') (b2 : But p H' H2) (p2 : PotAt H2 p) (gd : G d) (nw : Nw C p H' y d H2) :
    ∃ ys, H2 A = some (.lst ys) ∧ ys.length = k ∧ PvP C p H G A k (upd H2 A (.lst (ys.set j y))) := by
  obtain ⟨b1, p1, ys, l, e1, d1, el1, g1⟩ := pv
  have nAp : A ≠ p := (pot_ne hp hA).symm
  have e2 := b2 _ _ e1 nAp
  have ly : ys.length = k := by rw [(d1 [] fun _ z => nomatch z).length]; exact el1
  refine ⟨ys, e2, ly, fun c o e hc => ?_, p2.upd nAp.symm, ys.set j y, l.set j d, upd_same, fun S hS => ?_, by rw [List.length_set, el1], fun e he => ?_⟩
  · rw [upd_ne (ne_of_none e hA)]
    exact b2 _ _ (b1 _ _ e hc) hc
  · have up : Same (offL (p :: A :: S) H2) (offL (p :: A :: S) (upd H2 A (.lst (ys.set j y)))) := offL_same fun c o e hc => by
      refine ⟨hc, ?_⟩
      simp only [List.mem_cons, not_or] at hc
      rw [upd_ne hc.2.1]
      exact e
    refine dts_set (((d1 S hS).same (but_off b2)).same up) ((nw (A :: S) fun c hc => ?_).same up) j
    rcases List.mem_cons.1 hc with rfl | hc
    · rw [e1]
      exact fun z => nomatch z
    · exact but_live b1 p1 (hS c hc)
  · rcases List.mem_or_eq_of_mem_set he with h | h
    · exact g1 e h
    · rw [h]
      exact gd
def spList (C : Addr) : Sp := fun vs H Q _ => ∃ (p : Addr) (n m : Nat), vs = [.ref p, .int n, .int m] ∧ PotAt H p ∧ n ≤ 20 ∧ m ≤ 20 ∧ ∀ A H', H A = none → PvP C p H (GL4 n) A m H' → Q (.ref A) H'
section
variable {P : Program} {w : World} {K : W.Frag} {mg : Str → Option Value} {base : Heap} {C HC : Addr}
theorem ok_list {f g : Addr} {fd gd : FuncData} (F : At K mg "_law_list" s_list ["_law_pot_here", "_law_wide", "_law_many"] f fd) (T : Txt K mg C HC) (T2 : Txt2 mg) (G : At K mg "_law_row" s_lrow ["_law_pot_here", "_law_wide"] g gd)
    (N : FnOk P w K mg base L2.CX0 4 g gd ["_law_pot_here", "_law_wide"] (spLrow C)) : FnOk P w K mg base L2.CX0 5 f fd ["_law_pot_here", "_law_wide", "_law_many"] (spList C) := by
  refine F.fn.ok sc_list (fun vs H Q E h => ?_) fun cdv A outer s H vs Q E hr h => ?_
  · obtain ⟨p, n, m, rfl, _⟩ := h
    rfl
  obtain ⟨p, n, m, rfl, hp, hn, hm, q⟩ := h
  refine ⟨_, (pss_cons (ps_set (i := 3) sc_list.nd rfl (.inl rfl) (pe_lst pa_nil)) (pss_cons (ps_for PassesOwn.never rfl (pi_range1 (by rfl) T2.range_ (pa_cons (pv 2) pa_nil)) (pg_name (i := 4) sc_list.nd rfl (Or.inl rfl)) (pss_one (ps_expr (pe_bm PySem.F.plainAttrs_list PySem.F.slot_list_append PySem.F.type_list_append mt_append (pv 3) (pa_cons (pe_call N hr (by rfl) G.mg G.fn.kp G.b .nil pass0 (pa_cons (pv 0) (pa_cons (pv 1) pa_nil))) pa_nil))))) (pss_one (ps_ret (pv 3))))), ?_⟩
  refine ⟨Nat.zero_le _, fun B nB => ?_⟩
  refine ⟨.int m, rfl, m, rfl, by omega, by omega, ?_⟩
  have tm : (m : Int).toNat = m := Int.toNat_natCast m
  rw [tm]
  refine for_range (fun i σ H' => ∃ o, σ = [some (.ref p), some (.int n), some (.int m), some (.ref B), o] ∧ PvP C p H (GL4 n) B i H') ⟨none, rfl, But.of (same_new nB), hp.upd (pot_ne hp nB), [], [], upd_same, fun _ _ => .nil, rfl, fun _ z => nomatch z⟩ ?_ ?_
  · rintro i σ H' hi ⟨o, rfl, pv⟩
    obtain ⟨b1, p1, ys, l, e1, d1, el1, g1⟩ := id pv
    refine ⟨.ref B, rfl, .inl ⟨rfl, _, .inl (.inl e1)⟩, .ref p, rfl, .int n, rfl, p, n, rfl, p1, hn, fun x ps H2 b2 p2 nw lp gp => ?_⟩
    obtain ⟨zs, e2, lz, pv2⟩ := pot_push nB hp pv b2 p2 ⟨ps, rfl, lp, gp⟩ nw
    exact ⟨B, zs, x, rfl, rfl, e2, small1000 (by omega), some (.int (0 + i)), rfl, pv2⟩
  · rintro σ H' ⟨o, rfl, pv⟩
    exact ⟨.ref B, rfl, q B H' nB pv⟩
theorem sc_table : FnScope ["_law_pot_here", "_law_size", "_law_found", "_law_one", "_law_other", "_law_number", "_law_entry_here"] ["_law_pot_here", "_law_size"] (defScope s_table) := ⟨rfl, rfl, rfl, by decide +kernel, rfl, by decide +kernel, by decide +kernel⟩
def spTab (C : Addr) : Sp := fun vs H Q _ => ∃ (p : Addr) (n : Nat), vs = [.ref p, .int n] ∧ PotAt H p ∧ 1 ≤ n ∧ n ≤ 20 ∧ ∀ A H', H A = none → PvP C p H (GL n) A n H' → Q (.ref A) H'
theorem ok_table {f g lt en by_ : Addr} {fd gd ltd end_ byd : FuncData} (F : At K mg "_law_table" s_table ["_law_pot_here", "_law_size"] f fd) (T : Txt K mg C HC) (T2 : Txt2 mg) (G : At K mg "_law_draw" s_draw ["_law_pot_here", "_law_room"] g gd)
    (N : FnOk P w K mg base L2.CX0 1 g gd ["_law_pot_here", "_law_room"] spDraw) (Lt : At K mg "_law_list" s_list ["_law_pot_here", "_law_wide", "_law_many"] lt ltd) (NL : FnOk P w K mg base L2.CX0 5 lt ltd ["_law_pot_here", "_law_wide", "_law_many"] (spList C))
    (En : At K mg "_law_entry" s_entry ["_law_pot_here"] en end_) (NE : FnOk P w K mg base L2.CX0 3 en end_ ["_law_pot_here"] (spEntry C)) (By : At K mg "_law_by" s_by ["_law_one", "_law_other"] by_ byd)
    (NB : FnOk P w K mg base L2.CX0 2 by_ byd ["_law_one", "_law_other"] (fun vs H Q _ => ∃ x y p r, vs = [x, y] ∧ Dt C H x (pD p) ∧ Dt C H y (pD r) ∧ Bits 4000 p ∧ Bits 4000 r ∧ ∀ c, H c = none → Q (.ref c) (upd H c (.tup [.int (p * r).num, .int (p * r).den])))) :
    FnOk P w K mg base L2.CX0 6 f fd ["_law_pot_here", "_law_size"] (spTab C) := by
  refine F.fn.ok sc_table (fun vs H Q E h => ?_) fun cdv A outer s H vs Q E hr h => ?_
  · obtain ⟨p, n, rfl, _⟩ := h
    rfl
  obtain ⟨p, n, rfl, hp, n1, hn, q⟩ := h
  have hr1 : Room 1 _ := hr.mono (by decide)
  have hr2 : Room 2 _ := hr.mono (by decide)
  have hr3 : Room 3 _ := hr.mono (by decide)
  refine ⟨_, (pss_cons (ps_set (i := 2) sc_table.nd rfl (.inl rfl) (pe_call NL hr (by rfl) Lt.mg Lt.fn.kp Lt.b .nil pass0 (pa_cons (pv 0) (pa_cons (pv 1) (pa_cons (pv 1) pa_nil))))) (pss_cons (ps_if (PW.pt (pw_and (pt_cmp (pc_gt (pv 1) pe_int)) (pw_and1 (pt_cmp (pc_eqI (pe_call N hr1 (by rfl) G.mg G.fn.kp G.b .nil pass0 (pa_cons (pv 0) (pa_cons pe_int pa_nil))) pe_int))))) (pss_cons (ps_asg (pe_tup (pa_cons (pe_call N hr1 (by rfl) G.mg G.fn.kp G.b .nil pass0 (pa_cons (pv 0) (pa_cons (pv 1) pa_nil))) (pa_cons (pe_call N hr1 (by rfl) G.mg G.fn.kp G.b .nil pass0 (pa_cons (pv 0) (pa_cons (pv 1) pa_nil))) (pa_cons (pe_call NE hr3 (by rfl) En.mg En.fn.kp En.b .nil pass0 (pa_cons (pv 0) pa_nil)) pa_nil)))) (pg_tup rfl (pgs_cons (pg_name (i := 3) sc_table.nd rfl (.inl rfl)) (pgs_cons (pg_name (i := 4) sc_table.nd rfl (.inl rfl)) (pgs_cons (pg_name (i := 5) sc_table.nd rfl (.inr rfl)) pgs_nil))))) (pss_one (ps_asg (pe_ifExp (pt_cmp (pc_neI (pv 3) (pv 4))) (pe_lc (own := [("_law_entry_here", 6)]) (g := gName 6) (tt := tYes) rfl sc_table.nd (pi_list (pe_ix ix_list (pv 2) (pv 4) (fun _ _ => rfl))) (blkOk_by (N := ["_law_pot_here", "_law_size", "_law_found", "_law_one", "_law_other", "_law_number", "_law_entry_here"]) (sc := defScope s_table) (by decide +kernel)) (fun _ _ _ _ _ => pg_name (i := 6) sc_table.nd rfl (Or.inl rfl)) (fun _ _ _ _ _ => pts_nil) (fun _ _ _ _ _ => (pe_call NB hr2 (by rfl) By.mg By.fn.kp By.b .nil pass0 (pa_cons (pv 5) (pa_cons (pv 6) pa_nil))))) (pe_op op_rep (pe_lst (pa_cons (pe_tup (pa_cons pe_int (pa_cons pe_int pa_nil))) pa_nil)) (pv 1))) (pg_sub (pv 2) (pv 3) set_list)))) pss_nil) (pss_one (ps_ret (pv 2))))), ?_⟩
  refine ⟨.ref p, rfl, .int n, rfl, .int n, rfl, p, n, n, rfl, hp, hn, hn, fun A H1 hA pv4 => ?_⟩
  have g48 : ∀ d, GL4 n d → GL n d := fun d ⟨ps, e, l, g⟩ => ⟨ps, e, l, fun x hx => by
    obtain ⟨r, e2, b⟩ := g x hx
    exact ⟨r, e2, b.mono (by decide)⟩⟩
  have p1 := pv4.2.1
  have stay : ∀ H2, But p H1 H2 → PotAt H2 p → Q (.ref A) H2 := fun H2 b2 p2 => q A H2 hA ((pv4.mono g48).but hA hp b2 p2)
  refine ⟨.int n, rfl, n, 1, rfl, rfl, _, rfl, iteB (b := decide ((1 : Int) < n)) (fun e => ?_) fun e => iteF ⟨.ref A, rfl, stay H1 (But.refl p H1) p1⟩⟩
  have n2 := of_decide_eq_true e
  refine ⟨.ref p, rfl, p, 3, rfl, p1, by decide, by decide, fun z H2 z0 z1 b2 p2 => ⟨z, 0, rfl, rfl, _, rfl, ?_⟩⟩
  refine iteB (b := decide (z = 0)) (fun _ => ?_) fun _ => ⟨.ref A, rfl, stay H2 b2 p2⟩
  refine ⟨.ref p, rfl, .int n, rfl, p, n, rfl, p2, by omega, by omega, fun o H3 o0 o1 b3 p3 => ?_⟩
  refine ⟨.ref p, rfl, .int n, rfl, p, n, rfl, p3, by omega, by omega, fun u H4 u0 u1 b4 p4 => ?_⟩
  refine ⟨.ref p, rfl, p, rfl, p4, fun x d H5 b5 p5 gd nw => ?_⟩
  obtain ⟨qd, rfl, bd⟩ := gd
  refine ⟨by show 3 ≤ 2 ^ 24; decide, fun t nt => ⟨t, [.int o, .int u, x], rfl, SqT.of upd_same, rfl, ?_⟩⟩
  have nwx := nw.now
  obtain ⟨on, rfl⟩ := Int.eq_ofNat_of_zero_le o0
  obtain ⟨un, rfl⟩ := Int.eq_ofNat_of_zero_le u0
  have b15 : But p H1 H5 := ((b2.trans b3).trans b4).trans b5
  have pv5 := (pv4.but hA hp b15 p5).but hA hp (But.of (same_new (o := .tup [.int on, .int un, x]) nt)) (p5.upd (pot_ne p5 nt))
  have p6 := pv5.2.1
  have nx6 : Dt C (offL [p] (upd H5 t (.tup [.int on, .int un, x]))) x (pD qd) := nwx.same (offL_mono (same_new nt))
  refine ⟨_, _, rfl, _, _, rfl, _, _, rfl, rfl, ?_⟩
  dsimp only
  generalize (upd H5 t (.tup [.int on, .int un, x])) = H6 at pv5 p6 nx6 ⊢
  obtain ⟨b6, _, ys, l, eA, dA, lA, gA⟩ := id pv5
  have ly : ys.length = n := by rw [(dA [] fun _ z => nomatch z).length]; exact lA
  dsimp only [tSeq, tAsg]
  refine give (te := tIf _ _ _) (S := fun v H' => But p H6 H' ∧ PotAt H' p ∧ ∃ d, GL n d ∧ Nw C p H6 v d H') (fun R g => ?_) fun v H' hv => ?_
  · refine ⟨.int on, rfl, .int un, rfl, on, un, rfl, rfl, _, rfl, iteB (b := !((on : Int) == un)) (fun _ => ?_) fun _ => ?_⟩
    · obtain ⟨row, hrow⟩ : ∃ row, ys[un]? = some row := ⟨_, List.getElem?_eq_getElem (by omega)⟩
      obtain ⟨dr, hdr, ddr⟩ := (dA [] fun _ z => nomatch z).at hrow
      obtain ⟨ps, rfl, lps, gps⟩ := gA dr (List.mem_of_getElem? hdr)
      obtain ⟨a, xs, rfl, ha0, dxs⟩ := lst_inv ddr
      have naS : a ∉ [p, A] := fun z => by
        rw [offL_in z] at ha0
        cases ha0
      have nap : a ≠ p := fun z => naS (by rw [z]; exact List.mem_cons_self)
      have ha : H6 a = some (.lst xs) := by
        rw [offL_at naS] at ha0
        exact ha0
      have lxs := dxs.length
      have dx6 : Dts C H6 xs ps := dxs.same off_all
      refine ⟨.ref A, rfl, .int un, rfl, A, ys, un, .ref a, rfl, rfl, SqL.of eA, atI_nat hrow, a, rfl, ⟨xs, SqL.of ha⟩, fun B nB => ?_⟩
      refine lc_list (K := K) (a := a) (xs := xs) (PvP C p H6 (GP 8) B) ⟨But.of (same_new nB), p6.upd (pot_ne p6 nB), [], [], upd_same, fun _ _ => .nil, rfl, fun _ z => nomatch z⟩ (fun k H' _ pv => SqL.of (pv.1 _ _ ha nap))
        (fun k y H' hy pv => pot_turn (n := xs.length) nB p6 (by omega) y k (by
          rcases Nat.lt_or_ge k xs.length with z | z
          · exact z
          · rw [List.getElem?_eq_none z] at hy; cases hy) H' (fun R b1 p1 r => ?_) pv) fun H' pv => ?_
      · obtain ⟨dy, hdy, ddy⟩ := dxs.at hy
        obtain ⟨qy, rfl, by4⟩ := gps dy (List.mem_of_getElem? hdy)
        have dx' : Dt C H' x (pD qd) := (nx6.same (but_off b1)).same off_all
        have dy' : Dt C H' y (pD qy) := by
          have z : Same (offL [p, A] H6) (offL [p, A] H') := but_off b1
          exact (ddy.same z).same off_all
        refine ⟨x, rfl, y, rfl, x, y, qd, qy, rfl, dx', dy', bd.mono (by decide), by4.mono (by decide), fun c hc => ?_⟩
        have st : Same H' (upd H' c (.tup [.int (qd * qy).num, .int (qd * qy).den])) := same_new hc
        refine r (.ref c) (pD (qd * qy)) _ (But.of st) (p1.upd (pot_ne p1 hc)) ⟨qd * qy, rfl, bits_mul bd by4⟩ fun S hS => ?_
        have cS : c ∉ p :: S := fun z => by
          rcases List.mem_cons.1 z with z | z
          · exact pot_ne p1 hc z.symm
          · exact hS c z hc
        exact .tup (by rw [offL_at cS]; exact upd_same) (.cons (.int _) (.cons (.int _) .nil))
      · obtain ⟨b1, p1, l', nw', el', gl'⟩ := pot_end nB p6 pv
        exact g _ _ ⟨b1, p1, .lst l', ⟨l', rfl, by omega, gl'⟩, nw'⟩
    · have e0 := (els_cons (el_pair (el_int (i := 0)) (el_int (i := 1))) els_nil : Els C (fun _ => True) (fun _ => False) [some (.ref p), some (.int n), some (.ref A), some (.int on), some (.int un), some x, none] _ _)
      refine el_lst e0 (by show 1 ≤ 1000; decide) H6 _ trivial fun y H7 s7 st => ?_
      obtain ⟨a, xs, rfl, e1, f1⟩ := std_lst st
      have lx := (f1 [] (fun _ z => nomatch z) (fun _ z => nomatch z)).length
      refine ⟨.int n, rfl, a, n, xs, rfl, rfl, e1, by omega, by omega, Nat.le_trans (by rw [lx, Int.toNat_natCast]; show 1 * n ≤ 1000; omega) (by decide : (1000 : Nat) ≤ sizeLine), fun B nB => ?_⟩
      have s8 := s7.trans (same_new (o := .lst (List.replicate (n : Int).toNat xs).flatten) nB)
      have p7 : PotAt H7 p := by
        obtain ⟨x', y', h1, h2, e⟩ := p6
        exact ⟨x', y', h1, h2, s7 _ _ e⟩
      refine g _ _ ⟨But.of s8, p7.upd (pot_ne p7 nB), .lst (List.replicate n [D.tup [.int 0, .int 1]]).flatten, ⟨_, rfl, by simp, fun e he => ?_⟩, fun S hS => ?_⟩
      · have : n ≠ 0 ∧ e = .tup [.int 0, .int 1] := by simpa using he
        rw [this.2]
        obtain ⟨q0, e0, b0⟩ := gp4 0 1
        exact ⟨q0, e0, b0.mono (by decide)⟩
      · have BS : B ∉ p :: S := fun z => by
          rcases List.mem_cons.1 z with z | z
          · exact pot_ne p7 nB z.symm
          · cases q : H6 B with
            | none => exact hS B z q
            | some o =>
              rw [s7 _ _ q] at nB
              cases nB
        refine .lst (by rw [offL_at BS]; exact upd_same) ?_
        rw [Int.toNat_natCast]
        refine (dts_rep (f1 (p :: S) (fun c hc => ?_) (fun _ _ z => z)) n).same (offL_mono (same_new nB))
        rcases List.mem_cons.1 hc with rfl | hc
        · exact pot_live p6
        · exact hS c hc
  · obtain ⟨b7, p7, d7, g7, nw7⟩ := hv
    obtain ⟨zs, e7, lz, pv7⟩ := pot_set (j := on) hA hp (pv5.mono g48) b7 p7 g7 nw7
    refine ⟨.ref A, rfl, .int on, rfl, A, zs, on, on, rfl, rfl, e7, ?_, ?_⟩
    · unfold ixN
      rw [if_pos (by omega), if_pos (by omega)]
      simp
    · exact ⟨.ref A, rfl, q A _ hA pv7⟩
end
end KT

set_option Elab.async false
set_option linter.all false
set_option maxRecDepth 100000
set_option maxHeartbeats 4000000
namespace KT
open PySem L2 TW
abbrev s_lnum : Stmt := top 35
abbrev s_lirow : Stmt := top 36
abbrev s_litab : Stmt := top 37
theorem sc_lnum : FnScope ["_law_value"] ["_law_value"] (defScope s_lnum) := ⟨rfl, rfl, rfl, by decide +kernel, rfl, by decide +kernel, by decide +kernel⟩
theorem sc_lirow : FnScope ["_law_value", "_law_wide", "_law_one"] ["_law_value", "_law_wide"] (defScope s_lirow) := ⟨rfl, rfl, rfl, by decide +kernel, rfl, by decide +kernel, by decide +kernel⟩
theorem sc_litab : FnScope ["_law_value", "_law_row_here"] ["_law_value"] (defScope s_litab) := ⟨rfl, rfl, rfl, by decide +kernel, rfl, by decide +kernel, by decide +kernel⟩
section
variable {P : Program} {w : World} {K : W.Frag} {mg : Str → Option Value} {base : Heap} {C HC : Addr}
theorem ok_lnum {f : Addr} {fd : FuncData} (F : At K mg "_law_is_number" s_lnum ["_law_value"] f fd) (T : Txt K mg C HC) : FnOk P w K mg base L2.CX0 1 f fd ["_law_value"] (spB C isN) := by
  refine F.fn.ok sc_lnum spB_len fun cdv A outer s H vs Q E hr h => ?_
  obtain ⟨x, d, rfl, hd, hl, q⟩ := h
  refine ⟨_, pss_one (ps_ret (pe_or (pe_callB call_isi (by rfl) T.isi (by decide +kernel) (pa_cons (pv 0) (pa_cons (pe_glob (v := .ref C) (by rfl) T.mgC rfl) pa_nil)))
    (pe_one (pe_and (pe_callB call_isi (by rfl) T.isi (by decide +kernel) (pa_cons (pv 0) (pa_cons (pe_bltn (v := .ty "int") (by rfl) T.int_ (by decide +kernel) rfl) pa_nil)))
      (pe_one (pe_not (pe_callB call_isi (by rfl) T.isi (by decide +kernel) (pa_cons (pv 0) (pa_cons (pe_bltn (v := .ty "bool") (by rfl) T.bool_ (by decide +kernel) rfl) pa_nil))))))))), ?_⟩
  have z := q H (Same.refl H)
  refine ⟨x, rfl, x, .ref C, _, _, _, rfl, .own C, tyx T hd, kit_rat T d, _, rfl, ?_⟩
  cases e : isR d with
  | true =>
    refine iteT ?_
    cases d <;> first | exact z | cases e
  | false =>
    refine iteF ⟨x, rfl, x, .ty "int", _, _, _, rfl, .ty "int", tyx T hd, kit_int T d, _, rfl, ?_⟩
    cases e2 : isIB d with
    | false =>
      refine iteF ?_
      cases d <;> first | exact z | (cases e2; done) | (cases e; done)
    | true =>
      refine iteT ⟨x, rfl, x, .ty "bool", _, _, _, rfl, .ty "bool", tyx T hd, kit_bool T d, _, rfl, ?_⟩
      cases d <;> first | exact z | (cases e2; done) | (cases e; done)
theorem ok_lirow {f g : Addr} {fd gd : FuncData} (F : At K mg "_law_is_row" s_lirow ["_law_value", "_law_wide"] f fd) (T : Txt K mg C HC) (G : At K mg "_law_is_number" s_lnum ["_law_value"] g gd) (N : FnOk P w K mg base L2.CX0 1 g gd ["_law_value"] (spB C isN)) :
    FnOk P w K mg base L2.CX0 2 f fd ["_law_value", "_law_wide"] (spRow C) := by
  refine F.fn.ok sc_lirow (fun vs H Q E h => ?_) fun cdv A outer s H vs Q E hr h => ?_
  · obtain ⟨x, d, m, rfl, _⟩ := h
    rfl
  obtain ⟨x, d, m, rfl, hd, hl, q⟩ := h
  refine ⟨_, pss_one (ps_ret (pe_and (pe_callB call_isiT (by rfl) T.isi (by decide +kernel) (pa_cons (pv 0) (pa_cons (pe_tup (pa_cons (pe_bltn (v := .ty "list") (by rfl) T.list_ (by decide +kernel) rfl)
        (pa_cons (pe_bltn (v := .ty "tuple") (by rfl) T.tuple_ (by decide +kernel) rfl) pa_nil))) pa_nil)))
    (pe_and (pe_cmp (pc_eqI (pe_callB (r := rLen K) call_len_seq (by rfl) T.len_ PySem.boot_len (pa_cons (pv 0) pa_nil)) (pv 1)) rfl)
    (pe_one (pe_callB (cr_all rfl) (by rfl) T.all_ (by decide +kernel) (pa_cons (pe_lc (own := [("_law_one", 2)]) (g := gName 2) (tt := tYes) rfl sc_lirow.nd (pi_seq (pv 0)) (blkOk_by (N := ["_law_value", "_law_wide", "_law_one"]) (sc := defScope s_lirow) (by decide +kernel))
      (fun _ _ _ _ _ => pg_name (i := 2) sc_lirow.nd rfl (Or.inl rfl)) (fun _ _ _ _ _ => pts_nil) (fun _ _ _ _ _ => pe_call N hr (by rfl) G.mg G.fn.kp G.b .nil pass0 (pa_cons (pv 2) pa_nil))) pa_nil)))))), ?_⟩
  refine ⟨x, rfl, by decide, fun p hp => ?_⟩
  have s1 : Same H (upd H p (.tup [.ty "list", .ty "tuple"])) := same_new hp
  refine ⟨x, p, _, _, _, _, rfl, upd_same, .cons (.ty _) (.cons (.ty _) .nil), tyx T (hd.same s1), kit_seq T d, _, rfl, ?_⟩
  unfold isRow areN at q
  cases e : isL d with
  | false =>
    rw [e] at q
    exact iteF (q _ s1)
  | true =>
    rw [e] at q
    obtain ⟨a, xs, rfl, hs, hds⟩ := seq_of (K := K) hd e
    refine iteT ⟨.ref a, rfl, a, xs, rfl, hs.same s1, .int m, rfl, _, _, rfl, rfl, _, rfl, ?_⟩
    rw [hds.length]
    refine iteB (b := _) (fun e2 => ?_) fun e2 => ?_
    · have e3 : decide (((itemsD d).length : Int) = m) = true := by simpa using e2
      rw [e3, Bool.and_true] at q
      show tLc (iSeq K (tVar 0)) (gName 2) tYes (tCall (spB C isN) [] E0 (tCons (tVar 2) tNil)) [2] [some (.ref a), some (.int m), none] _ (fun z H2 => rAll K [z] H2 Q)
      refine all_comp isN rfl (hs.same s1) (hds.same s1) (items_len hl) (fun y dy H2 R _ hdy hyl s2 r => ?_) fun H3 s3 => q H3 (s1.trans s3)
      exact ⟨y, rfl, y, dy, rfl, hdy, hyl, r⟩
    · have e3 : decide (((itemsD d).length : Int) = m) = false := by simpa using e2
      rw [e3, Bool.and_false] at q
      exact q _ s1
theorem ok_litab {f g : Addr} {fd gd : FuncData} (F : At K mg "_law_is_table" s_litab ["_law_value"] f fd) (T : Txt K mg C HC) (G : At K mg "_law_is_row" s_lirow ["_law_value", "_law_wide"] g gd) (N : FnOk P w K mg base L2.CX0 2 g gd ["_law_value", "_law_wide"] (spRow C)) :
    FnOk P w K mg base L2.CX0 3 f fd ["_law_value"] (spB C isTab) := by
  refine F.fn.ok sc_litab spB_len fun cdv A outer s H vs Q E hr h => ?_
  obtain ⟨x, d, rfl, hd, hl, q⟩ := h
  refine ⟨_, pss_cons (ps_if (PW.pt (pw_or (pt_not (pt_val (pe_callB call_isiT (by rfl) T.isi (by decide +kernel) (pa_cons (pv 0) (pa_cons (pe_tup (pa_cons (pe_bltn (v := .ty "list") (by rfl) T.list_ (by decide +kernel) rfl)
        (pa_cons (pe_bltn (v := .ty "tuple") (by rfl) T.tuple_ (by decide +kernel) rfl) pa_nil))) pa_nil)))))
      (pw_or1 (pt_not (pt_chain op_le op_le pe_int (pe_callB call_len_seq (by rfl) T.len_ PySem.boot_len (pa_cons (pv 0) pa_nil)) pe_int))))) (pss_one (ps_ret pe_bl)) pss_nil)
    (pss_one (ps_ret (pe_callB (cr_all rfl) (by rfl) T.all_ (by decide +kernel) (pa_cons (pe_lc (own := [("_law_row_here", 1)]) (g := gName 1) (tt := tYes) rfl sc_litab.nd (pi_seq (pv 0)) (blkOk_by (N := ["_law_value", "_law_row_here"]) (sc := defScope s_litab) (by decide +kernel))
      (fun _ _ _ _ _ => pg_name (i := 1) sc_litab.nd rfl (Or.inl rfl)) (fun _ _ _ _ _ => pts_nil) (fun _ _ _ _ _ => pe_call N hr (by rfl) G.mg G.fn.kp G.b .nil pass0 (pa_cons (pv 1) (pa_cons (pe_callB (r := rLen K) call_len_seq (by rfl) T.len_ PySem.boot_len (pa_cons (pv 0) pa_nil)) pa_nil)))) pa_nil)))), ?_⟩
  refine ⟨x, rfl, by decide, fun p hp => ?_⟩
  have s1 : Same H (upd H p (.tup [.ty "list", .ty "tuple"])) := same_new hp
  refine ⟨x, p, _, _, _, _, rfl, upd_same, .cons (.ty _) (.cons (.ty _) .nil), tyx T (hd.same s1), kit_seq T d, _, rfl, ?_⟩
  unfold isTab areRows at q
  cases e : isL d with
  | false =>
    rw [e] at q
    exact iteT (iteT (q _ s1))
  | true =>
    rw [e] at q
    obtain ⟨a, xs, rfl, hs, hds⟩ := seq_of (K := K) hd e
    refine iteF ⟨.ref a, rfl, a, xs, rfl, hs.same s1, _, _, rfl, rfl, _, rfl, ?_⟩
    have lenE := hds.length
    cases e1 : decide ((1 : Int) ≤ (itemsD d).length) with
    | false =>
      rw [e1] at q
      rw [lenE, e1]
      exact iteF ⟨_, rfl, iteT (q _ s1)⟩
    | true =>
      rw [e1] at q
      rw [lenE, e1]
      refine iteT ⟨_, _, rfl, rfl, _, rfl, ?_⟩
      cases e2 : decide (((itemsD d).length : Int) ≤ 4) with
      | false =>
        rw [e2] at q
        exact iteT (q _ s1)
      | true =>
        rw [e2] at q
        refine iteF ?_
        show tLc (iSeq K (tVar 0)) (gName 1) tYes (tCall (spRow C) [] E0 (tCons (tVar 1) (tCons (tCB (rLen K) (tCons (tVar 0) tNil)) tNil))) [1] [some (.ref a), none] _ (fun z H2 => rAll K [z] H2 Q)
        refine all_comp (isRow (itemsD d).length) rfl (hs.same s1) (hds.same s1) (items_len hl) (fun y dy H2 R _ hdy hyl s2 r => ?_) fun H3 s3 => q H3 (s1.trans s3)
        refine ⟨y, rfl, .ref a, rfl, a, xs, rfl, (hs.same s1).same s2, y, dy, (itemsD d).length, ?_, hdy, hyl, r⟩
        rw [lenE]
        rfl
end
end KT

set_option Elab.async false
set_option linter.all false
set_option maxRecDepth 100000
set_option maxHeartbeats 4000000
namespace KT
open PySem L2 TW
abbrev s_long : Stmt := top 38
theorem sc_long : FnScope ["_law_value", "_law_one"] ["_law_value"] (defScope s_long) := ⟨rfl, rfl, rfl, by decide +kernel, rfl, by decide +kernel, by decide +kernel⟩
def longs : List Int := [1, 4, 9, 16]
def isLong (d : D) : Bool := isL d && (decide (((itemsD d).length : Int) ∈ longs) && (itemsD d).all isN)
section
variable {P : Program} {w : World} {K : W.Frag} {mg : Str → Option Value} {base : Heap} {C HC : Addr}
theorem ok_long {f g : Addr} {fd gd : FuncData} (F : At K mg "_law_is_long" s_long ["_law_value"] f fd) (T : Txt K mg C HC) (G : At K mg "_law_is_number" s_lnum ["_law_value"] g gd) (N : FnOk P w K mg base L2.CX0 1 g gd ["_law_value"] (spB C isN)) :
    FnOk P w K mg base L2.CX0 2 f fd ["_law_value"] (spB C isLong) := by
  refine F.fn.ok sc_long spB_len fun cdv A outer s H vs Q E hr h => ?_
  obtain ⟨x, d, rfl, hd, hl, q⟩ := h
  refine ⟨_, pss_one (ps_ret (pe_and (pe_callB call_isiT (by rfl) T.isi (by decide +kernel) (pa_cons (pv 0) (pa_cons (pe_tup (pa_cons (pe_bltn (v := .ty "list") (by rfl) T.list_ (by decide +kernel) rfl)
        (pa_cons (pe_bltn (v := .ty "tuple") (by rfl) T.tuple_ (by decide +kernel) rfl) pa_nil))) pa_nil)))
    (pe_and (pe_cmpR op_in_seq (pe_callB (r := rLen K) call_len_seq (by rfl) T.len_ PySem.boot_len (pa_cons (pv 0) pa_nil)) (pe_lst (pa_cons pe_int (pa_cons pe_int (pa_cons pe_int (pa_cons pe_int pa_nil))))) (by with_unfolding_all rfl))
    (pe_one (pe_callB (cr_all rfl) (by rfl) T.all_ (by decide +kernel) (pa_cons (pe_lc (own := [("_law_one", 1)]) (g := gName 1) (tt := tYes) rfl sc_long.nd (pi_seq (pv 0)) (blkOk_by (N := ["_law_value", "_law_one"]) (sc := defScope s_long) (by decide +kernel))
      (fun _ _ _ _ _ => pg_name (i := 1) sc_long.nd rfl (Or.inl rfl)) (fun _ _ _ _ _ => pts_nil) (fun _ _ _ _ _ => pe_call N (hr.mono (by decide)) (by rfl) G.mg G.fn.kp G.b .nil pass0 (pa_cons (pv 1) pa_nil))) pa_nil)))))), ?_⟩
  refine ⟨x, rfl, by decide, fun p hp => ?_⟩
  have s1 : Same H (upd H p (.tup [.ty "list", .ty "tuple"])) := same_new hp
  refine ⟨x, p, _, _, _, _, rfl, upd_same, .cons (.ty _) (.cons (.ty _) .nil), tyx T (hd.same s1), kit_seq T d, _, rfl, ?_⟩
  unfold isLong at q
  cases e : isL d with
  | false =>
    rw [e] at q
    exact iteF (q _ s1)
  | true =>
    rw [e] at q
    obtain ⟨a, xs, rfl, hs, hds⟩ := seq_of (K := K) hd e
    refine iteT ⟨.ref a, rfl, a, xs, rfl, hs.same s1, ?_⟩
    refine ⟨by show 4 ≤ 2 ^ 24; decide, fun t nt => ⟨t, _, rfl, .inl (SqL.of upd_same), rfl, rfl, _, rfl, ?_⟩⟩
    have s2 := s1.trans (same_new (o := .lst [.int 1, .int 4, .int 9, .int 16]) nt)
    have ein : ∀ z : Int, inV (.int z) [.int 1, .int 4, .int 9, .int 16] = decide (z ∈ longs) := fun z => by
      rw [Bool.eq_iff_iff]
      simp [inV, longs, eqV]
      omega
    rw [hds.length]
    show if inV (.int ((itemsD d).length : Int)) [.int 1, .int 4, .int 9, .int 16] = true then _ else _
    rw [ein]
    refine iteB (b := decide (((itemsD d).length : Int) ∈ longs)) (fun e2 => ?_) fun e2 => ?_
    · rw [e2] at q
      show tLc (iSeq K (tVar 0)) (gName 1) tYes (tCall (spB C isN) [] E0 (tCons (tVar 1) tNil)) [1] [some (.ref a), none] _ (fun z H2 => rAll K [z] H2 Q)
      refine all_comp isN rfl (hs.same s2) (hds.same s2) (items_len hl) (fun y dy H2 R _ hdy hyl s3 r => ?_) fun H3 s3 => q H3 (s2.trans s3)
      exact ⟨y, rfl, y, dy, rfl, hdy, hyl, r⟩
    · rw [e2] at q
      exact q _ s2
end
end KT

set_option Elab.async false
set_option linter.all false
set_option maxRecDepth 100000
set_option maxHeartbeats 4000000
namespace KT
open PySem L2 TW
abbrev s_xinit : Stmt := inClass (top 8) 0
abbrev s_from_long : Stmt := top 21
abbrev s_lets : Stmt := top 39
theorem sc_xinit : FnScope ["self", "value"] ["self", "value"] (defScope s_xinit) := ⟨rfl, rfl, rfl, by decide +kernel, rfl, by decide +kernel, by decide +kernel⟩
theorem sc_from_long : FnScope ["row", "size", "told", "at"] ["row"] (defScope s_from_long) := ⟨rfl, rfl, rfl, by decide +kernel, rfl, by decide +kernel, by decide +kernel⟩
theorem sc_lets : FnScope ["_law_value", "_law_found"] ["_law_value"] (defScope s_lets) := ⟨rfl, rfl, rfl, by decide +kernel, rfl, by decide +kernel, by decide +kernel⟩
def spX (XC : Addr) : Sp := fun vs H Q _ => ∃ a y, vs = [.ref a, y] ∧ H a = some (exo a XC none) ∧ ∀ dx, H dx = none → dx ≠ a → Q .non (upd (upd H dx (exd dx [("value", y)])) a (exo a XC (some dx)))
section
variable {P : Program} {w : World} {K : W.Frag} {mg : Str → Option Value} {base : Heap} {C HC : Addr}
theorem ok_xinit {XC f : Addr} {fd : FuncData} (F : Fun K "__init__" "InvalidRow.__init__" s_xinit f fd) (OX : OexC K XC) (nv : W.findIn K (.ref XC) "value" = some none) : FnOk P w K mg base L2.CX0 1 f fd ["self", "value"] (spX XC) := by
  refine F.ok sc_xinit (fun vs H Q E h => ?_) fun cdv A outer s H vs Q E hr h => ?_
  · obtain ⟨a, y, rfl, _⟩ := h
    rfl
  obtain ⟨a, y, rfl, ha, q⟩ := h
  refine ⟨_, pss_one (ps_ost (pv 0) (pv 1)), ?_⟩
  exact ⟨y, rfl, .ref a, rfl, a, XC, rfl, OX, nv, .inl ⟨ha, q⟩⟩
/-- what the caller sees of from_long -/
def spFL (C XC : Addr) : Sp := fun vs H Q E => ∃ x d, vs = [x] ∧ Dt C H x d ∧ d.len ≤ sizeLine ∧ (isLong d = true → ∀ y H', Same H H' → Q y H') ∧ (isLong d = false → ∀ dx H', Same H H' → E (.ref XC) dx H')
theorem ok_lets {XC f g : Addr} {fd gd : FuncData} (F : At K mg "_law_lets" s_lets ["_law_value"] f fd) (T : Txt K mg C HC) (mX : mg "InvalidRow" = some (.ref XC)) (xm : W.exmOne K (.ref XC) (.ref XC) = some true) (G : At K mg "from_long" s_from_long ["row"] g gd)
    (N : FnOk P w K mg base (L2.CX P w) 8 g gd ["row"] (spFL C XC)) : FnOk P w K mg base L2.CX0 9 f fd ["_law_value"] (spB C isLong) := by
  refine F.fn.ok sc_lets spB_len fun cdv A outer s H vs Q E hr h => ?_
  obtain ⟨x, d, rfl, hd, hl, q⟩ := h
  refine ⟨_, pss_cons (ps_set (i := 1) sc_lets.nd rfl (.inl rfl) pe_bl)
    (pss_cons (ps_try_only (x := "InvalidRow") (c := .ref XC) (Wout := fun _ _ _ _ => False) (tb := fun W => tDrop (tCallS (spFL C XC) (WE W) (tCons (tVar 0) tNil))) (ts := fun _ _ _ => tAsg (tC (.bl false)) (gName 1)) rfl rfl ⟨rfl, by decide, .inl mX⟩ takes0
      (fun W pn xe tk _ => pss_one (ps_expr (pe_callS N hr (by rfl) G.mg G.fn.kp G.b (fun σ => passAt tk σ) (pa_cons (pv 0) pa_nil))))
      (fun a oe cls d pn hz hf => pss_one (ps_set (i := 1) sc_lets.nd rfl (.inl rfl) pe_bl)))
    (pss_one (ps_ret (pv 1)))), ?_⟩
  refine ⟨x, rfl, x, d, rfl, hd, hl, fun e y H' s1 => ?_, fun e dx H' s1 => ?_⟩
  · have z := q H' s1
    rw [e] at z
    exact ⟨.bl true, rfl, z⟩
  · have z := q H' s1
    rw [e] at z
    exact ⟨true, xm, fun _ a _ => ⟨.bl false, rfl, z⟩, fun q => Bool.noConfusion q⟩
abbrev s_ratio_row' : Stmt := top 14
def spRowS (C : Addr) : Sp := fun vs H Q _ => ∃ x d, vs = [x] ∧ Dt C H x d ∧ d.len ≤ sizeLine ∧ areN d = true ∧ ∀ p ys H', Same H H' → H' p = some (.lst ys) → ys.length = (itemsD d).length → Q (.ref p) H'
theorem ok_rowS {f g : Addr} {fd gd : FuncData} (F : At K mg "ratio_row" s_ratio_row ["numbers"] f fd) (T : Txt K mg C HC) (G : At K mg "ratio_of" s_ratio_of ["number"] g gd)
    (N : FnOk P w K mg base L2.CX0 4 g gd ["number"] (spSome C isN)) : FnOk P w K mg base L2.CX0 5 f fd ["numbers"] (spRowS C) := by
  refine F.fn.ok sc_ratio_row (fun vs H Q E h => ?_) fun cdv A outer s H vs Q E hr h => ?_
  · obtain ⟨x, d, rfl, _⟩ := h
    rfl
  obtain ⟨x, d, rfl, hd, hl, hn, q⟩ := h
  refine ⟨_, pss_one (ps_ret (pe_lc (own := [("number", 1)]) (g := gName 1) (tt := tYes) rfl sc_ratio_row.nd (pi_seq (pv 0)) (blkOk_by (N := ["numbers", "number"]) (sc := defScope s_ratio_row) (by decide +kernel))
      (fun _ _ _ _ _ => pg_name (i := 1) sc_ratio_row.nd rfl (Or.inl rfl)) (fun _ _ _ _ _ => pts_nil) (fun _ _ _ _ _ => pe_call N hr (by rfl) G.mg G.fn.kp G.b .nil pass0 (pa_cons (pv 1) pa_nil)))), ?_⟩
  obtain ⟨e, en⟩ := Bool.and_eq_true_iff.mp hn
  obtain ⟨a, xs, rfl, hs, hds⟩ := seq_of (K := K) hd e
  have hil := items_len hl
  have hll := lens_len (itemsD d)
  have hxl := hds.length
  show tLc (iSeq K (tVar 0)) (gName 1) tYes (tCall (spSome C isN) [] E0 (tCons (tVar 1) tNil)) [1] [some (.ref a), none] H Q
  refine comp_seq (fun _ _ _ => True) (fun _ _ _ _ _ h => h) rfl hs (by omega) (fun k y H2 R hy s2 r => ?_) fun A ys H2 hA s2 e2 e3 _ => q A ys H2 s2 e2 (by omega)
  obtain ⟨dy, e3, hdy⟩ := hds.at hy
  exact ⟨y, rfl, y, dy, rfl, hdy.same s2, Nat.le_trans (lens_item e3) hil, List.all_eq_true.1 en dy (List.mem_of_getElem? e3), fun z H3 s3 => r z H3 s3 fun _ _ _ => trivial⟩
theorem ok_from_long {XC f g h1 x1 : Addr} {fd gd hd1 xd1 : FuncData} (F : At K mg "from_long" s_from_long ["row"] f fd) (T : Txt K mg C HC) (T2 : Txt2 mg) (G : At K mg "are_numbers" s_are_numbers ["value"] g gd) (N : FnOk P w K mg base L2.CX0 3 g gd ["value"] (spB C areN))
    (R : At K mg "ratio_row" s_ratio_row ["numbers"] h1 hd1) (NR : FnOk P w K mg base L2.CX0 5 h1 hd1 ["numbers"] (spRowS C)) (OX : OexC K XC) (iX : W.findIn K (.ref XC) "__init__" = some (some (.ref x1))) (tX : W.typeIn K (.ref x1) = some (.type "function"))
    (NX : FnOk P w K mg base L2.CX0 1 x1 xd1 ["self", "value"] (spX XC)) (bX : Binds K xd1 ["self", "value"] []) (mX : mg "InvalidRow" = some (.ref XC)) : FnOk P w K mg base (L2.CX P w) 8 f fd ["row"] (spFL C XC) := by
  obtain ⟨tk, hlg⟩ := T.largest
  have glg : ∀ {X : Cx} {p : Pos}, X.mg = mg → Gl X "LARGEST" → PE X (.Name "LARGEST" p) (tC (.int 4)) := fun e hg => pe_glob hg (by rw [e]; exact hlg) ⟨_, rfl⟩
  refine F.fn.okX sc_from_long (fun vs H Q E h => ?_) fun cdv A outer s H vs Q E hr h => ?_
  · obtain ⟨x, d, rfl, _⟩ := h
    rfl
  obtain ⟨x, d, rfl, hd, hl, qy, qn⟩ := h
  have hr2 : Room 2 _ := hr.mono (by decide)
  have hr3 : Room 3 _ := hr.mono (by decide)
  have hr5 : Room 5 _ := hr.mono (by decide)
  refine ⟨_, (pss_cons (ps_for (passes_of rfl) rfl (pi_range2 (by rfl) T2.range_ (pa_cons pe_int (pa_cons (pe_op op_add (glg rfl (by rfl)) pe_int) pa_nil))) (pg_name (i := 1) sc_from_long.nd rfl (Or.inr rfl)) (pss_one (ps_if (PW.pt (pw_and (pt_val (pe_call N hr3 (by rfl) G.mg G.fn.kp G.b .nil pass0 (pa_cons (pv 0) pa_nil))) (pw_and1 (pt_cmp (pc_eqI (pe_callB call_len_seq (by rfl) T.len_ PySem.boot_len (pa_cons (pv 0) pa_nil)) (pe_op op_mul (pv 1) (pv 1))))))) (pss_cons (ps_set (i := 2) sc_from_long.nd rfl (.inr rfl) (pe_call NR hr5 (by rfl) R.mg R.fn.kp R.b .nil pass0 (pa_cons (pv 0) pa_nil))) (pss_one (ps_ret (pe_lc (own := [("at", 3)]) (g := gName 3) (tt := tYes) rfl sc_from_long.nd (pi_range1 (by rfl) T2.range_ (pa_cons (pv 1) pa_nil)) (blkOk_by (N := ["row", "size", "told", "at"]) (sc := defScope s_from_long) (by decide +kernel)) (fun _ _ _ _ _ => pg_name (i := 3) sc_from_long.nd rfl (Or.inl rfl)) (fun _ _ _ _ _ => pts_nil) (fun _ _ _ _ _ => (pe_slice (r := rSlL K) sl_list (pv 2) (po_some (pe_op op_mul (pv 1) (pv 3))) (po_some (pe_op op_add (pe_op op_mul (pv 1) (pv 3)) (pv 1))))))))) pss_nil))) (pss_one (ps_raise rfl (takes_of rfl rfl rfl rfl) (pmk_oex OX iX tX NX hr2 bX .nil pass0 (by rfl) mX (pa_cons (pv 0) pa_nil))))), ?_⟩
  refine ⟨4, 1, rfl, rfl, _, _, rfl, ⟨by decide, by decide, by decide, by decide⟩, ?_⟩
  have t4 : ((4 : Int) + 1 - 1).toNat = 4 := by decide
  show ∃ W : Nat → Nat → L2.St → Hp → Prop, _
  rw [t4]
  refine for_range (n := 4) (fun i σ H' => ∃ o1 o2, σ = [some x, o1, o2, none] ∧ Same H H' ∧ ∀ j : Nat, j < i → ¬ (areN d = true ∧ ((itemsD d).length : Int) = (1 + j) * (1 + j))) ⟨none, none, rfl, Same.refl H, fun j h => by omega⟩ ?_ ?_
  · rintro i σ H' hi ⟨o1, o2, rfl, s1, no⟩
    refine ⟨x, rfl, x, d, rfl, hd.same s1, hl, fun H1 s2 => ⟨_, rfl, ?_⟩⟩
    have s12 := s1.trans s2
    cases e : areN d with
    | false => exact iteF ⟨_, o2, rfl, s12, fun j hj z => Bool.noConfusion z.1⟩
    | true =>
      obtain ⟨el, en⟩ := Bool.and_eq_true_iff.mp e
      obtain ⟨a, xs, rfl, hs, hds⟩ := seq_of (K := K) hd el
      have lxs := hds.length
      refine iteT ⟨.ref a, rfl, a, xs, rfl, hs.same s12, .int (1 + i), rfl, .int (1 + i), rfl, _, _, rfl, rfl, .inl ⟨by omega, by omega⟩, _, _, rfl, rfl, _, rfl, ?_⟩
      refine iteB (b := (((xs.length : Int)) == (1 + i) * (1 + i))) (fun e2 => ?_) fun e2 => ?_
      · have e3 : ((itemsD d).length : Int) = (1 + i) * (1 + i) := by
          rw [← lxs]
          exact eq_of_beq e2
        have lg : isLong d = true := by
          have m : ((itemsD d).length : Int) ∈ longs := by
            rw [e3]
            have : i = 0 ∨ i = 1 ∨ i = 2 ∨ i = 3 := by omega
            rcases this with rfl | rfl | rfl | rfl <;> decide
          unfold isLong
          rw [el, en, decide_eq_true m]
          rfl
        refine ⟨.ref a, rfl, .ref a, d, rfl, hd.same s12, hl, e, fun p ys H3 s3 ep lp => ?_⟩
        refine ⟨.int (1 + i), rfl, 1 + i, rfl, by omega, by omega, fun A nA => ?_⟩
        refine lc_range (fun k H4 => Same H3 H4 ∧ ∃ zs : List V, H4 A = some (.lst zs) ∧ zs.length = k) ⟨same_new nA, [], upd_same, rfl⟩ (fun k H4 hk ⟨s4, zs, ez, lz⟩ => ⟨rfl, ?_⟩) fun H4 ⟨s4, _⟩ => qy lg _ H4 ((s12.trans s3).trans s4)
        refine ⟨.ref p, rfl, .int (1 + i), rfl, .int (0 + k), rfl, _, _, rfl, rfl, .inl ⟨by omega, by omega⟩, _, rfl, .int (1 + i), rfl, .int (0 + k), rfl, _, _, rfl, rfl, .inl ⟨by omega, by omega⟩, .int (1 + i), rfl, _, _, rfl, rfl, _, rfl, p, ys, rfl, SqL.of (s4 _ _ ep), fun u nu => ?_⟩
        exact ⟨zs, by rw [upd_ne (ne_of_none ez nu)]; exact ez, by rw [lz]; exact small1000 (by omega), fun b o eb => by
          rw [upd_ne (ne_of_none eb nA), upd_ne (ne_of_none (s4 _ _ eb) nu)]
          exact s4 _ _ eb, _, upd_same, by rw [List.length_append, lz]; rfl⟩
      · refine ⟨_, o2, rfl, s12, fun j hj z => ?_⟩
        by_cases hji : j = i
        · subst hji
          have := z.2
          rw [← lxs] at this
          rw [this] at e2
          simp at e2
        · exact no j (by omega) ⟨e, z.2⟩
  · rintro σ H' ⟨o1, o2, rfl, s1, no⟩
    have lg : isLong d = false := by
      cases e : isLong d with
      | false => rfl
      | true =>
        unfold isLong at e
        obtain ⟨el, e'⟩ := Bool.and_eq_true_iff.mp e
        obtain ⟨em, en⟩ := Bool.and_eq_true_iff.mp e'
        have m := of_decide_eq_true em
        have an : areN d = true := by
          unfold areN
          rw [el, en]
          rfl
        have m' : ((itemsD d).length : Int) = 1 ∨ ((itemsD d).length : Int) = 4 ∨ ((itemsD d).length : Int) = 9 ∨ ((itemsD d).length : Int) = 16 := by simpa [longs] using m
        rcases m' with z | z | z | z
        · exact absurd ⟨an, by rw [z]; rfl⟩ (no 0 (by decide))
        · exact absurd ⟨an, by rw [z]; rfl⟩ (no 1 (by decide))
        · exact absurd ⟨an, by rw [z]; rfl⟩ (no 2 (by decide))
        · exact absurd ⟨an, by rw [z]; rfl⟩ (no 3 (by decide))
    refine ⟨x, rfl, by show 1 ≤ 1000; decide, fun a na => ⟨a, x, rfl, upd_same, fun dx ndx nda => ⟨rfl, dx, [("value", x)], upd_same, ?_, ?_, ?_⟩⟩⟩
    · rw [upd_ne nda, upd_same]
    · rw [upd_ne nda] at ndx
      exact ndx
    · refine qn lg (some dx) _ fun b o e => ?_
      have e1 := s1 _ _ e
      have nb : b ≠ a := ne_of_none e1 na
      have nd : b ≠ dx := ne_of_none e1 (by rw [upd_ne nda] at ndx; exact ndx)
      rw [upd_ne nd, del_ne nb, upd_ne nb, upd_ne nd, upd_ne nb]
      exact e1
end
end KT

set_option Elab.async false
set_option linter.all false
set_option maxRecDepth 100000
set_option maxHeartbeats 4000000
namespace KT
open PySem L2 TW
/-! sizes -/
def Fl (j B : Nat) (d : D) : Prop := d.ok ∧ d.len ≤ B ∧ d.deep ≤ j
theorem Fl.up {j B j' B' : Nat} {d : D} (h : Fl j B d) (h1 : j ≤ j') (h2 : B ≤ B') : Fl j' B' d := ⟨h.1, Nat.le_trans h.2.1 h2, Nat.le_trans h.2.2 h1⟩
theorem fs_all {j B : Nat} : ∀ (l : List D), (∀ d ∈ l, Fl j B d) → oks l ∧ lens l ≤ l.length * (B + 2) ∧ deeps l ≤ j
  | [], _ => ⟨trivial, Nat.zero_le _, Nat.zero_le _⟩
  | d :: l, h => by
    have q := h d List.mem_cons_self
    have r := fs_all l fun x hx => h x (List.mem_cons_of_mem _ hx)
    refine ⟨⟨q.1, r.1⟩, ?_, Nat.max_le.2 ⟨q.2.2, r.2.2⟩⟩
    have e : (d :: l).length * (B + 2) = l.length * (B + 2) + (B + 2) := by rw [List.length_cons, Nat.add_mul, Nat.one_mul]
    rw [e]
    have q2 := q.2.1
    have r2 := r.2.1
    show d.len + 2 + lens l ≤ _
    omega
theorem fl_seq {j B B' n : Nat} {l : List D} (h : ∀ d ∈ l, Fl j B d) (hl : l.length ≤ n) (hn : n * (B + 2) + 3 ≤ B') : Fl (j + 1) B' (.lst l) ∧ Fl (j + 1) B' (.tup l) := by
  have q := fs_all l h
  have z : l.length * (B + 2) ≤ n * (B + 2) := Nat.mul_le_mul_right _ hl
  have q2 := q.2.1
  refine ⟨⟨q.1, ?_, Nat.succ_le_succ q.2.2⟩, q.1, ?_, Nat.succ_le_succ q.2.2⟩
  · show 2 + lens l ≤ B'
    omega
  · show 3 + lens l ≤ B'
    omega
abbrev F0 := Fl 0 4000
abbrev F1 := Fl 1 125000
abbrev F2 := Fl 2 760000
abbrev F3 := Fl 3 5000000
theorem f01 {d : D} (h : F0 d) : F1 d := h.up (by decide) (by decide)
theorem f12 {d : D} (h : F1 d) : F2 d := h.up (by decide) (by decide)
theorem f23 {d : D} (h : F2 d) : F3 d := h.up (by decide) (by decide)
theorem f_row {l : List D} (h : ∀ d ∈ l, F0 d) (hn : l.length ≤ 30) : F1 (.lst l) ∧ F1 (.tup l) := fl_seq h hn (by decide)
theorem f_tab {l : List D} (h : ∀ d ∈ l, F1 d) (hn : l.length ≤ 6) : F2 (.lst l) ∧ F2 (.tup l) := fl_seq h hn (by decide)
theorem f_lot {l : List D} (h : ∀ d ∈ l, F2 d) (hn : l.length ≤ 6) : F3 (.lst l) ∧ F3 (.tup l) := fl_seq h hn (by decide)
theorem small8 {n : Nat} (h : n < 2 ^ 8) : n.log2 < 1920 := by
  have q : ∀ n : Nat, n < 2 ^ 8 → n.log2 < 1920 := by decide +kernel
  exact q n h
theorem gn_f0 {d : D} (h : GN d) : F0 d := by
  rcases h with ⟨i, rfl, h⟩ | ⟨q, rfl, h⟩
  · exact ⟨small8 h, by show 1921 ≤ 4000; decide, Nat.le_refl _⟩
  · exact ⟨⟨small8 h.1, small8 (by rw [Int.natAbs_natCast]; exact h.2)⟩, Nat.le_refl _, Nat.le_refl _⟩
theorem f_int {i : Int} (h : i.natAbs < 2 ^ 8) : F0 (.int i) := ⟨small8 h, by show 1921 ≤ 4000; decide, Nat.le_refl _⟩
theorem f_non : F0 .non := ⟨trivial, by show 4 ≤ 4000; decide, Nat.le_refl _⟩
theorem f_bl {b : Bool} : F0 (.bl b) := ⟨trivial, by show 5 ≤ 4000; decide, Nat.le_refl _⟩
theorem f_str {x : Str} (h : (reprText x).length ≤ 4000) : F0 (.str x) := ⟨trivial, h, Nat.le_refl _⟩
theorem f_dct0 : F0 (.dct []) := ⟨fun _ h => (nomatch h), by show 2 + 4000 * 0 ≤ 4000; decide, Nat.le_refl _⟩
theorem f_dl : F2 (.dl 0 [.int 1]) := ⟨⟨by show Nat.log2 0 < 1920; decide, 1, rfl, by show Nat.log2 1 < 1920; decide⟩, by show 8000 ≤ 760000; decide, Nat.zero_le _⟩
theorem grow_f1 {n : Nat} {d : D} (hn : n ≤ 30) (h : GRow GN n d) : F1 d := by
  obtain ⟨l, h | h, hl, g⟩ := h
  · rw [h]
    exact (f_row (fun e he => gn_f0 (g e he)) (by omega)).1
  · rw [h]
    exact (f_row (fun e he => gn_f0 (g e he)) (by omega)).2
theorem all_app {α : Type} {P : α → Prop} {l m : List α} (h : ∀ x ∈ l, P x) (h' : ∀ x ∈ m, P x) : ∀ x ∈ l ++ m, P x := fun x hx => by
  rcases List.mem_append.1 hx with z | z
  · exact h x z
  · exact h' x z
theorem all_nil {α : Type} {P : α → Prop} : ∀ x ∈ ([] : List α), P x := fun _ z => nomatch z
theorem all_cons {α : Type} {P : α → Prop} {l : List α} {a : α} (h : P a) (h' : ∀ x ∈ l, P x) : ∀ x ∈ a :: l, P x := fun x hx => by
  rcases List.mem_cons.1 hx with rfl | z
  · exact h
  · exact h' x z
theorem all_take {α : Type} {P : α → Prop} {l : List α} {k : Nat} (h : ∀ x ∈ l, P x) : ∀ x ∈ l.take k, P x := fun x hx => h x (List.mem_of_mem_take hx)
theorem all_drop {α : Type} {P : α → Prop} {l : List α} {k : Nat} (h : ∀ x ∈ l, P x) : ∀ x ∈ l.drop k, P x := fun x hx => h x (List.mem_of_mem_drop hx)
/-! what stood in H0 stands -/
abbrev JN (H0 : Hp) : Hp → Prop := fun H => Same H0 H
abbrev BN (H0 : Hp) : Addr → Prop := fun a => H0 a ≠ none
instance {H0 : Hp} : Kp (JN H0) := ⟨fun s h => h.trans s⟩
theorem off_new {H0 H : Hp} {S : List Addr} (s : Same H0 H) (h : ∀ a ∈ S, ¬ BN H0 a) : Same H0 (offL S H) := fun b o e => by
  rw [offL_at (fun z => h b z (by show H0 b ≠ none; rw [e]; exact fun z => nomatch z))]
  exact s _ _ e
theorem off_one {D : Addr} {H : Hp} : offL [D] H = off D H := by
  funext b
  unfold offL off
  by_cases z : b = D
  · rw [if_pos (List.mem_singleton.2 z), if_pos z]
  · rw [if_neg (fun q => z (List.mem_singleton.1 q)), if_neg z]
section
variable {C : Addr} {σ : L2.St} {K : W.Frag} {H0 : Hp}
theorem el_varN {j : Nat} {x : V} {d : D} (hj : σ[j]? = some (some x)) (hx : Dt C H0 x d) : El C (JN H0) (BN H0) σ (tVar j) d := el_var hj fun H hJ S hS => hx.same (off_new hJ hS)
variable {J : Hp → Prop} {B : Addr → Prop} [Kp J]
theorem cut_init (xs : List V) : cutV xs none (some (-1 : Int)) = xs.take (xs.length - 1) := by
  unfold cutV HT.sIx
  simp
  congr 1
  omega
theorem el_init {tl : TE} {l : List D} (h : El C J B σ tl (.lst l)) : El C J B σ (tSl (rSlL K) tl tNoPart (tPart (tUn (rU fun i => .int (-i)) (tC (.int 1))))) (.lst (l.take (l.length - 1))) := fun H R hw q =>
  h H _ hw fun x H1 s1 st => by
    obtain ⟨a, xs, rfl, e1, f1⟩ := std_lst st
    have lx := (f1 [] (fun _ z => nomatch z) (fun _ z => nomatch z)).length
    refine ⟨1, rfl, -1, rfl, a, _, rfl, SqL.of e1, fun p hp => ?_⟩
    rw [cut_init, lx]
    exact q _ _ (s1.trans (same_new hp)) (std_new s1 hp fun S hS hwS np e => .lst e (dts_take _ ((f1 S hS hwS).same (offL_mono (same_new hp)))))
def rLo (K : W.Frag) : List V → Hp → VK → Prop := fun xs H Q => ∃ p ys, xs = [.ref p] ∧ (SqL K H p ys ∨ SqT K H p ys) ∧ ∀ l, H l = none → Q (.ref l) (upd H l (.lst ys))
theorem el_listOf {ti : TE} {d : D} {l : List D} (hd : d = .lst l ∨ d = .tup l) (h : El C J B σ ti d) : El C J B σ (tCB (rLo K) (tCons ti tNil)) (.lst l) := fun H R hw q =>
  h H _ hw fun x H1 s1 st => by
    rcases hd with rfl | rfl
    · obtain ⟨a, xs, rfl, e1, f1⟩ := std_lst st
      exact ⟨a, xs, rfl, .inl (SqL.of e1), fun p hp => q _ _ (s1.trans (same_new hp)) (std_new s1 hp fun S hS hwS np e => .lst e ((f1 S hS hwS).same (offL_mono (same_new hp))))⟩
    · obtain ⟨a, xs, rfl, e1, f1⟩ := std_tup st
      exact ⟨a, xs, rfl, .inr (SqT.of e1), fun p hp => q _ _ (s1.trans (same_new hp)) (std_new s1 hp fun S hS hwS np e => .lst e ((f1 S hS hwS).same (offL_mono (same_new hp))))⟩
theorem el_repE {ta tb : TE} {l : List D} {k : Nat} (h : El C J B σ ta (.lst l)) (h' : El C J B σ tb (.int k)) (hk : k ≤ 1000) (hz : l.length * k ≤ 1000) : El C J B σ (tOp rRep ta tb) (.lst (List.replicate k l).flatten) := fun H R hw q =>
  h H _ hw fun x H1 s1 st => h' H1 _ (Kp.m s1 hw) fun y H2 s2 st2 => by
    obtain ⟨a, xs, rfl, e1, f1⟩ := std_lst st
    cases int_inv st2.here
    have z1 := (f1 [] (fun _ z => nomatch z) (fun _ z => nomatch z)).length
    refine ⟨a, k, xs, rfl, rfl, s2 _ _ e1, by omega, by omega, Nat.le_trans (by rw [Int.toNat_natCast, z1]; exact hz) (by decide : (1000 : Nat) ≤ sizeLine), fun p hp => q _ _ ((s1.trans s2).trans (same_new hp)) (std_new (s1.trans s2) hp fun S hS hwS np e => .lst e ?_)⟩
    rw [Int.toNat_natCast]
    exact (dts_rep (f1 S hS hwS) k).same (offL_mono (s2.trans (same_new hp)))
theorem el_len {ta : TE} {l : List D} (h : El C J B σ ta (.lst l)) : El C J B σ (tCB (rLen K) (tCons ta tNil)) (.int l.length) := fun H R hw q =>
  h H _ hw fun x H1 s1 st => by
    obtain ⟨a, xs, rfl, e1, f1⟩ := std_lst st
    have z1 := (f1 [] (fun _ z => nomatch z) (fun _ z => nomatch z)).length
    refine ⟨a, xs, rfl, .inl (SqL.of e1), ?_⟩
    rw [z1]
    exact q _ _ s1 fun S _ _ => .int _
/-- for x in [..]: .. -/
theorem for_els {ta : TA} {l : List D} {g : TG} {tb : TS} {De : Ends} {H : Hp} (h : Els C J B σ ta l) (hl : l.length ≤ 1000) (hJ : J H) (Pv : Addr → List V → Nat → L2.St → Hp → Prop)
    (start : ∀ u xs H', Same H H' → Std C H B (.ref u) (.lst l) H' → H' u = some (.lst xs) → xs.length = l.length → (∀ S : List Addr, (∀ a ∈ S, H a ≠ none) → (∀ a ∈ S, ¬ B a) → Dts C (offL S H') xs l) →
      Pv u xs 0 σ H' ∧ (∀ (i : Nat) (σ : L2.St) (H : Hp), i ≤ xs.length → Pv u xs i σ H → SqL K H u xs) ∧
      (∀ (i : Nat) (x : V) (σ : L2.St) (H : Hp), xs[i]? = some x → Pv u xs i σ H → g x σ H fun σ2 H2 => tb { nx := Pv u xs (i + 1), rt := De.rt, bk := De.nx, ct := Pv u xs (i + 1) } σ2 H2) ∧
      (∀ (σ : L2.St) (H : Hp), Pv u xs xs.length σ H → De.nx σ H)) : tFor (iList K (tLst ta)) g tb De σ H := by
  dsimp only [tFor, iList]
  refine el_lst h hl H _ hJ fun x H' s st => ?_
  obtain ⟨u, xs, rfl, e, f⟩ := std_lst st
  obtain ⟨a, b, c, d⟩ := start u xs H' s st e ((f [] (fun _ z => nomatch z) (fun _ z => nomatch z)).length) f
  exact ⟨u, rfl, ⟨xs, SqL.of e⟩, for_list (Pv u xs) a b c d⟩
/-- [e for x in l], all of it new -/
theorem el_comp {te : TE} {i j : Nat} {a : Addr} {xs : List V} {l : List D} (f : D → D) (hj : σ[j]? = some (some (.ref a))) (ha : H0 a = some (.lst xs)) (hd : Dts C H0 xs l) (hl : l.length ≤ 1000)
    (h : ∀ x d, d ∈ l → Dt C H0 x d → El C (JN H0) (BN H0) ((wipe σ [i]).set i (some x)) te (f d)) :
    El C (JN H0) (BN H0) σ (tLc (iSeq K (tVar j)) (gName i) tYes te [i]) (.lst (l.map f)) := fun H R hw q => by
  have lx := hd.length
  -- S is known ahead: the places that are left out
  refine comp_seq (fun k y H' => ∃ d, l[k]? = some d ∧ ∀ S : List Addr, (∀ a ∈ S, H a ≠ none) → (∀ a ∈ S, ¬ BN H0 a) → Dt C (offL S H') y (f d)) (fun k y H1 H2 s ⟨d, e, z⟩ => ⟨d, e, fun S h1 h2 => (z S h1 h2).same (offL_mono s)⟩) hj (.inl (SqL.of (hw _ _ ha)))
    (Nat.le_trans (by omega) (by decide : (1000 : Nat) ≤ sizeLine)) (fun k x H1 R1 hx s1 r => ?_) fun A ys H1 hA s1 e1 e2 e3 => ?_
  · obtain ⟨d, e, dd⟩ := hd.at hx
    refine h x d (List.mem_of_getElem? e) dd H1 _ (hw.trans s1) fun y H2 s2 st => r y H2 s2 fun D hD nD => ⟨d, e, fun S h1 h2 => ?_⟩
    have z := st (D :: S) (fun a ha => ?_) (fun a ha => ?_)
    · refine z.same (offL_same fun b o eb hb => ?_)
      simp only [List.mem_cons, not_or] at hb
      exact ⟨hb.2, by rw [off_ne hb.1]; exact eb⟩
    · rcases List.mem_cons.1 ha with rfl | ha
      · exact nD
      · exact live s1 h1 a ha
    · rcases List.mem_cons.1 ha with rfl | ha
      · intro z
        cases q : H0 a with
        | none => exact z q
        | some o =>
          rw [hw _ _ q] at hD
          cases hD
      · exact h2 a ha
  · refine q _ _ s1 fun S hS hB => .lst (by rw [offL_at (out_of hS hA)]; exact e1) ?_
    have g : ∀ (ys : List V) (l : List D), ys.length = l.length → (∀ (k : Nat) (y : V), ys[k]? = some y → ∃ d : D, l[k]? = some d ∧ Dt C (offL S H1) y (f d)) → Dts C (offL S H1) ys (l.map f) := by
      intro ys
      induction ys with
      | nil =>
        intro l hl _
        cases l with
        | nil => exact .nil
        | cons d l => cases hl
      | cons y ys ih =>
        intro l hl hh
        cases l with
        | nil => cases hl
        | cons d l =>
          obtain ⟨d', e, z⟩ := hh 0 y rfl
          cases e
          exact .cons z (ih l (Nat.succ.inj hl) fun k y' e' => by
            obtain ⟨d', e2, z2⟩ := hh (k + 1) y' (by rw [List.getElem?_cons_succ]; exact e')
            exact ⟨d', by rw [List.getElem?_cons_succ] at e2; exact e2, z2⟩)
    exact g ys l (by omega) fun k y e => by
      obtain ⟨d, e', z⟩ := e3 k y e
      exact ⟨d, e', z S hS hB⟩
end
end KT

set_option Elab.async false
set_option linter.all false
set_option maxRecDepth 100000
set_option maxHeartbeats 4000000
namespace KT
open PySem L2 TW
abbrev s_bent : Stmt := top 40
theorem sc_bent : FnScope ["_law_pot_here", "_law_rows", "_law_at", "_law_row_here", "_law_odd", "_law_place", "_law_found", "_law_one"] ["_law_pot_here", "_law_rows"] (defScope s_bent) := ⟨rfl, rfl, rfl, by decide +kernel, rfl, by decide +kernel, by decide +kernel⟩
/-- the rows with another one at a place -/
def bentAt (l : List D) (k : Nat) (d : D) : D := .lst ((l.take k ++ [d]) ++ l.drop (k + 1))
def six (rl : List D) (od : D) (k : Nat) : List D := [.lst (rl ++ [.int 0]), .lst (rl.take (rl.length - 1)), od, .tup rl, .lst ((rl.take k ++ [od]) ++ rl.drop (k + 1)), .lst ((rl.take k ++ [.int 7]) ++ rl.drop (k + 1))]
def six2 (l rl : List D) : List D := [.lst (l ++ [.lst rl]), .lst (l.drop 1), .lst [.lst l], .lst (l.map fun d => .lst (itemsD d ++ [.int 0])), .lst (l ++ [.lst (List.replicate l.length [D.int 0]).flatten]), .tup l]
theorem f_six {rl : List D} {od : D} {k : Nat} (h : ∀ d ∈ rl, F0 d) (ho : F1 od) (hn : rl.length ≤ 4) : ∀ d ∈ six rl od k, F2 d := by
  have h1 : ∀ d ∈ rl, F1 d := fun d hd => f01 (h d hd)
  have lt : (rl.take k).length ≤ 4 := by rw [List.length_take]; omega
  have ld : (rl.drop (k + 1)).length ≤ 4 := by rw [List.length_drop]; omega
  have lk : (rl.take k).length + (rl.drop (k + 1)).length ≤ 4 := by rw [List.length_take, List.length_drop]; omega
  refine all_cons (f12 (f_row (all_app h (all_cons (f_int (by decide)) all_nil)) (by rw [List.length_append]; show rl.length + 1 ≤ 30; omega)).1) ?_
  refine all_cons (f12 (f_row (all_take h) (by rw [List.length_take]; omega)).1) ?_
  refine all_cons (f12 ho) (all_cons (f12 (f_row h (by omega)).2) ?_)
  refine all_cons (f_tab (all_app (all_app (all_take h1) (all_cons ho all_nil)) (all_drop h1)) ?_).1 (all_cons (f_tab (all_app (all_app (all_take h1) (all_cons (f01 (f_int (by decide))) all_nil)) (all_drop h1)) ?_).1 all_nil)
  · rw [List.length_append, List.length_append]
    show (rl.take k).length + 1 + (rl.drop (k + 1)).length ≤ 6
    omega
  · rw [List.length_append, List.length_append]
    show (rl.take k).length + 1 + (rl.drop (k + 1)).length ≤ 6
    omega
theorem f_bentAt {l : List D} {k : Nat} {d : D} (h : ∀ d ∈ l, F1 d) (hd : F2 d) (hn : l.length ≤ 4) : F3 (bentAt l k d) := by
  have h2 : ∀ d ∈ l, F2 d := fun d hd => f12 (h d hd)
  refine (f_lot (all_app (all_app (all_take h2) (all_cons hd all_nil)) (all_drop h2)) ?_).1
  rw [List.length_append, List.length_append, List.length_take, List.length_drop]
  show min k l.length + 1 + (l.length - (k + 1)) ≤ 6
  omega
theorem f_six2 {l rl : List D} {n : Nat} (h : ∀ d ∈ l, GRow GN n d) (hr : ∀ d ∈ rl, F0 d) (hn : l.length ≤ 4) (h4 : n ≤ 4) (hrn : rl.length ≤ 4) : ∀ d ∈ six2 l rl, F3 d := by
  have h1 : ∀ d ∈ l, F1 d := fun d hd => grow_f1 (by omega) (h d hd)
  have r1 : F1 (.lst rl) := (f_row hr (by omega)).1
  refine all_cons (f23 (f_tab (all_app h1 (all_cons r1 all_nil)) (by rw [List.length_append]; show l.length + 1 ≤ 6; omega)).1) ?_
  refine all_cons (f23 (f_tab (all_drop h1) (by rw [List.length_drop]; omega)).1) ?_
  refine all_cons (f_lot (all_cons (f_tab h1 (by omega)).1 all_nil) (by show 1 ≤ 6; decide)).1 ?_
  refine all_cons (f23 (f_tab (fun d hd => ?_) (by rw [List.length_map]; omega)).1) ?_
  · obtain ⟨e, he, rfl⟩ := List.mem_map.1 hd
    obtain ⟨es, hes, le, ge⟩ := h e he
    have ie : itemsD e = es := by rcases hes with rfl | rfl <;> rfl
    rw [ie]
    exact (f_row (all_app (fun x hx => gn_f0 (ge x hx)) (all_cons (f_int (by decide)) all_nil)) (by rw [List.length_append]; show es.length + 1 ≤ 30; omega)).1
  · refine all_cons (f23 (f_tab (all_app h1 (all_cons (f_row (fun d hd => ?_) ?_).1 all_nil)) (by rw [List.length_append]; show l.length + 1 ≤ 6; omega)).1) (all_cons (f23 (f_tab h1 (by omega)).2) all_nil)
    · have : l.length ≠ 0 ∧ d = .int 0 := by simpa using hd
      rw [this.2]
      exact f_int (by decide)
    · simp
      omega
def spBent (C : Addr) : Sp := fun vs H Q _ => ∃ (p w : Addr) (xs : List V) (l : List D) (n : Nat), vs = [.ref p, .ref w] ∧ PotAt H p ∧ w ≠ p ∧ H w = some (.lst xs) ∧ Dts C (offL [p] H) xs l ∧ l.length = n ∧ 1 ≤ n ∧ n ≤ 4 ∧ (∀ d ∈ l, GRow GN n d) ∧
  ∀ a ys m H', But p H H' → H' a = some (.lst ys) → Dts C H' ys m → m.length = 12 → (∀ d ∈ m, F3 d) → Q (.ref a) H'
section
variable {P : Program} {w : World} {K : W.Frag} {mg : Str → Option Value} {base : Heap} {C HC : Addr}
theorem ok_bent {f g h1 : Addr} {fd gd hd1 : FuncData} (F : At K mg "_law_bent" s_bent ["_law_pot_here", "_law_rows"] f fd) (T : Txt K mg C HC) (T2 : Txt2 mg) (G : At K mg "_law_draw" s_draw ["_law_pot_here", "_law_room"] g gd)
    (N : FnOk P w K mg base L2.CX0 1 g gd ["_law_pot_here", "_law_room"] spDraw) (G2 : At K mg "_law_pick" s_pick ["_law_pot_here", "_law_some"] h1 hd1) (N2 : FnOk P w K mg base L2.CX0 2 h1 hd1 ["_law_pot_here", "_law_some"] spPick) :
    FnOk P w K mg base L2.CX0 3 f fd ["_law_pot_here", "_law_rows"] (spBent C) := by
  refine F.fn.ok sc_bent (fun vs H Q E h => ?_) fun cdv A outer s H vs Q E hr h => ?_
  · obtain ⟨p, w, xs, l, n, rfl, _⟩ := h
    rfl
  obtain ⟨p, t, xs, l, n, rfl, hp, ntp, ht, hd, ll, n1, n4, gl, q⟩ := h
  have hr1 : Room 1 _ := hr.mono (by decide)
  refine ⟨_, (pss_cons (ps_set (i := 2) sc_bent.nd rfl (.inl rfl) (pe_call N hr1 (by rfl) G.mg G.fn.kp G.b .nil pass0 (pa_cons (pv 0) (pa_cons (pe_callB call_len_seq (by rfl) T.len_ PySem.boot_len (pa_cons (pv 1) pa_nil)) pa_nil)))) (pss_cons (ps_par rfl sc_bent.nd (i := 3) (j := 4) rfl rfl (by decide) rfl rfl (pa_cons (pe_callTy (T := "list") (r := rLo K) call_list_of (by rfl) T.list_ (by decide +kernel) (pa_cons (pe_ix ix_list (pv 1) (pv 2) (fun _ _ => rfl)) pa_nil)) (pa_cons (pe_call N2 hr (by rfl) G2.mg G2.fn.kp G2.b .nil pass0 (pa_cons (pv 0) (pa_cons (pe_lst (pa_cons pe_non (pa_cons pe_bl (pa_cons pe_bl (pa_cons pe_str (pa_cons (pe_lst (pa_cons pe_int pa_nil)) (pa_cons (pe_tup pa_nil) (pa_cons pe_dnewK pa_nil)))))))) pa_nil))) pa_nil)) (by rfl)) (pss_cons (ps_set (i := 5) sc_bent.nd rfl (.inl rfl) (pe_call N hr1 (by rfl) G.mg G.fn.kp G.b .nil pass0 (pa_cons (pv 0) (pa_cons (pe_callB call_len_seq (by rfl) T.len_ PySem.boot_len (pa_cons (pv 3) pa_nil)) pa_nil)))) (pss_cons (ps_set (i := 6) sc_bent.nd rfl (.inl rfl) (pe_lst pa_nil)) (pss_cons (ps_for PassesOwn.never rfl (pi_list (pe_lst (pa_cons (pe_op op_cat (pv 3) (pe_lst (pa_cons pe_int pa_nil))) (pa_cons (pe_slice sl_list (pv 3) po_none (po_some (pe_un un_neg pe_int))) (pa_cons (pv 4) (pa_cons (pe_callTy call_tuple_of (by rfl) T.tuple_ (by decide +kernel) (pa_cons (pv 3) pa_nil)) (pa_cons (pe_op op_cat (pe_op op_cat (pe_slice sl_list (pv 3) po_none (po_some (pv 5))) (pe_lst (pa_cons (pv 4) pa_nil))) (pe_slice sl_list (pv 3) (po_some (pe_op op_add (pv 5) pe_int)) po_none)) (pa_cons (pe_op op_cat (pe_op op_cat (pe_slice sl_list (pv 3) po_none (po_some (pv 5))) (pe_lst (pa_cons pe_int pa_nil))) (pe_slice sl_list (pv 3) (po_some (pe_op op_add (pv 5) pe_int)) po_none)) pa_nil)))))))) (pg_name (i := 7) sc_bent.nd rfl (Or.inl rfl)) (pss_one (ps_expr (pe_bm PySem.F.plainAttrs_list PySem.F.slot_list_append PySem.F.type_list_append mt_append (pv 6) (pa_cons (pe_op op_cat (pe_op op_cat (pe_slice sl_list (pv 1) po_none (po_some (pv 2))) (pe_lst (pa_cons (pv 7) pa_nil))) (pe_slice sl_list (pv 1) (po_some (pe_op op_add (pv 2) pe_int)) po_none)) pa_nil))))) (pss_one (ps_ret (pe_op op_cat (pv 6) (pe_lst (pa_cons (pe_op op_cat (pv 1) (pe_lst (pa_cons (pv 3) pa_nil))) (pa_cons (pe_slice sl_list (pv 1) (po_some pe_int) po_none) (pa_cons (pe_lst (pa_cons (pv 1) pa_nil)) (pa_cons (pe_lc (own := [("_law_one", 7)]) (g := gName 7) (tt := tYes) rfl sc_bent.nd (pi_seq (pv 1)) (blkOk_by (N := ["_law_pot_here", "_law_rows", "_law_at", "_law_row_here", "_law_odd", "_law_place", "_law_found", "_law_one"]) (sc := defScope s_bent) (by decide +kernel)) (fun _ _ _ _ _ => pg_name (i := 7) sc_bent.nd rfl (Or.inl rfl)) (fun _ _ _ _ _ => pts_nil) (fun _ _ _ _ _ => (pe_op op_cat (pe_callTy (T := "list") (r := rLo K) call_list_of (by rfl) T.list_ (by decide +kernel) (pa_cons (pv 7) pa_nil)) (pe_lst (pa_cons pe_int pa_nil))))) (pa_cons (pe_op op_cat (pv 1) (pe_lst (pa_cons (pe_op op_rep (pe_lst (pa_cons pe_int pa_nil)) (pe_callB (r := rLen K) call_len_seq (by rfl) T.len_ PySem.boot_len (pa_cons (pv 1) pa_nil))) pa_nil))) (pa_cons (pe_callTy call_tuple_of (by rfl) T.tuple_ (by decide +kernel) (pa_cons (pv 1) pa_nil)) pa_nil))))))))))))))), ?_⟩
  have lx := hd.length
  refine ⟨.ref p, rfl, .ref t, rfl, t, xs, rfl, .inl (SqL.of ht), p, xs.length, rfl, hp, by omega, by omega, fun az H1 a0 a1 b1 p1 => ?_⟩
  obtain ⟨an, rfl⟩ := Int.eq_ofNat_of_zero_le a0
  have an1 : an < n := by omega
  have ht1 := b1 _ _ ht ntp
  have hd1' := hd.same (but_off (S := []) b1)
  obtain ⟨rv, hrv⟩ : ∃ rv, xs[an]? = some rv := ⟨_, List.getElem?_eq_getElem (by omega)⟩
  obtain ⟨rd, erd, drv⟩ := hd1'.at hrv
  obtain ⟨rl, hrl, lrl, grl⟩ := gl rd (List.mem_of_getElem? erd)
  obtain ⟨ra, rs, rfl, hra, drs⟩ : ∃ ra rs, rv = .ref ra ∧ (SqL K (offL [p] H1) ra rs ∨ SqT K (offL [p] H1) ra rs) ∧ Dts C (offL [p] H1) rs rl := by
    rcases hrl with rfl | rfl
    · obtain ⟨a, ys, rfl, e1, e2⟩ := lst_inv drv
      exact ⟨a, ys, rfl, .inl (SqL.of e1), e2⟩
    · obtain ⟨a, ys, rfl, e1, e2⟩ := tup_inv drv
      exact ⟨a, ys, rfl, .inr (SqT.of e1), e2⟩
  refine ⟨.ref t, rfl, .int an, rfl, t, xs, an, .ref ra, rfl, rfl, SqL.of ht1, atI_nat hrv, ra, rs, rfl, hra.elim (fun z => .inl (off_all.seq z)) (fun z => .inr (Same.tup off_all z)), fun r nr => ?_⟩
  have s2 : Same H1 (upd H1 r (.lst rs)) := same_new nr
  have p2 := p1.upd (o := .lst rs) (pot_ne p1 nr)
  have hr2 : upd H1 r (.lst rs) r = some (.lst rs) := upd_same
  have nrp : r ≠ p := (pot_ne p1 nr).symm
  generalize upd H1 r (.lst rs) = H2 at s2 p2 hr2 ⊢
  have e0 := (els_cons (el_flat (v := .non) (d := .non) fun _ => .non) (els_cons (el_flat (v := .bl true) (d := .bl true) fun _ => .bl _) (els_cons (el_flat (v := .bl false) (d := .bl false) fun _ => .bl _) (els_cons (el_flat (v := .str "1") (d := .str "1") fun _ => .str _)
    (els_cons (el_lst (els_cons (el_int (i := 1)) els_nil) (by show 1 ≤ 1000; decide)) (els_cons (el_tup els_nil (by show 0 ≤ 1000; decide)) (els_cons el_dict0 els_nil)))))) : Els C (fun _ => True) (fun _ => False) [some (V.ref p), some (.ref t), some (.int an), none, none, none, none, none] _ _)
  refine ⟨.ref p, rfl, el_lst e0 (by show 7 ≤ 1000; decide) H2 _ trivial fun x H3 s3 st => ?_⟩
  obtain ⟨a, ps, rfl, e1, f1⟩ := std_lst st
  have lps := (f1 [] (fun _ z => nomatch z) (fun _ z => nomatch z)).length
  have p3 : PotAt H3 p := by
    obtain ⟨x, y, hx, hy, e⟩ := p2
    exact ⟨x, y, hx, hy, s3 _ _ e⟩
  have nap : a ≠ p := fun z => by
    have e := st [p] (fun c hc => by
      rw [List.mem_singleton.1 hc]
      exact pot_live p2) (fun _ _ z => z)
    cases e with
    | lst e _ =>
      rw [offL_in (by rw [z]; exact List.mem_singleton.2 rfl)] at e
      cases e
  refine ⟨p, a, ps, rfl, p3, nap, e1, by rw [lps]; decide, by rw [lps]; decide, fun ov H4 hv b4 p4 => ⟨_, _, rfl, ?_⟩⟩
  obtain ⟨kv, hkv⟩ := List.getElem?_of_mem hv
  obtain ⟨od, hod, dod⟩ := (f1 [p] (fun c hc => by
    rw [List.mem_singleton.1 hc]
    exact pot_live p2) (fun _ _ z => z)).at hkv
  have fod : F1 od := by
    have m := List.mem_of_getElem? hod
    simp only [List.mem_cons, List.not_mem_nil, or_false] at m
    rcases m with rfl | rfl | rfl | rfl | rfl | rfl | rfl
    · exact f01 f_non
    · exact f01 f_bl
    · exact f01 f_bl
    · exact f01 (f_str (by decide +kernel))
    · exact (f_row (all_cons (f_int (by decide)) all_nil) (by show 1 ≤ 30; decide)).1
    · exact (f_row all_nil (by show 0 ≤ 30; decide)).2
    · exact f01 f_dct0
  have b14 : But p H1 H4 := ((But.of s2).trans (But.of s3)).trans b4
  have hr4 : H4 r = some (.lst rs) := b4 _ _ (s3 _ _ hr2) nrp
  refine ⟨.ref p, rfl, .ref r, rfl, r, rs, rfl, .inl (SqL.of hr4), p, rs.length, rfl, p4, ?_, ?_, fun pz H5 z0 z1 b5 p5 => ?_⟩
  · have := drs.length; omega
  · have := drs.length; omega
  obtain ⟨pn, rfl⟩ := Int.eq_ofNat_of_zero_le z0
  have lrs := drs.length
  have b15 := b14.trans b5
  have rows5 : Dt C H5 (.ref t) (.lst l) := .lst (b15 _ _ ht1 ntp) ((hd1'.same (but_off b15)).same off_all)
  have ht5 := b15 _ _ ht1 ntp
  have drows : Dts C H5 xs l := (hd1'.same (but_off b15)).same off_all
  have row5 : Dt C H5 (.ref r) (.lst rl) := .lst (b5 _ _ hr4 nrp) ((drs.same (but_off b15)).same off_all)
  have odd5 : Dt C H5 ov od := ((dod.same (but_off b4)).same (but_off b5)).same off_all
  have b05 : But p H H5 := b1.trans b15
  clear b15 b14 hr4 f1 e1 st e0 b4 p4 p3 s3 p2 hr2 s2 drv hra hd1' hrv b5 p5
  refine ⟨Nat.zero_le _, fun A nA => ?_⟩
  have hpn : pn < rl.length := by omega
  have row3 : El C (JN H5) (BN H5) [some (V.ref p), some (.ref t), some (.int an), some (.ref r), some ov, some (.int pn), some (.ref A), none] (tVar 3) (.lst rl) := el_varN (j := 3) rfl row5
  have odd3 : El C (JN H5) (BN H5) [some (V.ref p), some (.ref t), some (.int an), some (.ref r), some ov, some (.int pn), some (.ref A), none] (tVar 4) od := el_varN (j := 4) rfl odd5
  have to3 := el_to (K := K) (k := pn) (by omega) row3 (el_int_at (j := 5) (i := pn) rfl)
  have from3 := el_from (K := K) (k := pn + 1) (by omega) row3 (el_op (f := fun i j => .int (i + j)) (g := fun i j => i + j) (fun _ _ => rfl) (el_int_at (j := 5) (i := (pn : Int)) rfl) (el_int (i := 1)))
  have lt3 : (rl.take pn).length + 1 ≤ 1000 := by rw [List.length_take]; omega
  have lb3 : ∀ d : D, (rl.take pn ++ [d]).length + (rl.drop (pn + 1)).length ≤ 1000 := fun d => by
    rw [List.length_append, List.length_take, List.length_drop]
    show min pn rl.length + 1 + _ ≤ 1000
    omega
  have E6 := els_cons (el_cat row3 (el_lst (els_cons (el_int (i := 0)) els_nil) (by show 1 ≤ 1000; decide)) (by show rl.length + 1 ≤ 1000; omega))
    (els_cons (el_init (K := K) row3) (els_cons odd3 (els_cons (el_tupleOf (K := K) row3)
    (els_cons (el_cat (el_cat to3 (el_lst (els_cons odd3 els_nil) (by show 1 ≤ 1000; decide)) lt3) from3 (lb3 _))
    (els_cons (el_cat (el_cat to3 (el_lst (els_cons (el_int (i := 7)) els_nil) (by show 1 ≤ 1000; decide)) lt3) from3 (lb3 _)) els_nil)))))
  have E6 : Els C (JN H5) (BN H5) _ _ (six rl od pn) := E6
  clear row3 odd3 to3 from3
  dsimp only [gName, tSeq, tAsg]
  refine for_els (K := K) E6 (by show 6 ≤ 1000; decide) (same_new nA) (fun u ys6 i σ H' => ∃ o7 zs H6, H6 u = some (.lst ys6) ∧ u ≠ A ∧ Same H5 (offL [A] H6) ∧ Dts C (offL [A] H6) ys6 (six rl od pn) ∧
    σ = [some (V.ref p), some (.ref t), some (.int an), some (.ref r), some ov, some (.int pn), some (.ref A), o7] ∧ Same (offL [A] H6) (offL [A] H') ∧ H' A = some (.lst zs) ∧ Dts C (offL [A] H') zs (((six rl od pn).take i).map (bentAt l an))) fun u ys6 H6 s6 st e6 l6 f6 => ?_
  have hA : ∀ a ∈ [A], upd H5 A (.lst []) a ≠ none := fun a ha => by
    rw [List.mem_singleton.1 ha, upd_same]
    exact fun z => nomatch z
  have hB : ∀ a ∈ [A], ¬ BN H5 a := fun a ha => by
    rw [List.mem_singleton.1 ha]
    exact fun z => z nA
  have stA := st [A] hA hB
  have d6 := f6 [A] hA hB
  have nuA : u ≠ A := fun z => by
    cases stA with
    | lst e _ =>
      rw [offL_in (by rw [z]; exact List.mem_singleton.2 rfl)] at e
      cases e
  have k6 : Same H5 (offL [A] H6) := off_new ((same_new nA).trans s6) hB
  have oth : ∀ H6 : Hp, u ≠ A → H6 u = some (.lst ys6) → offL [A] H6 u = some (.lst ys6) := fun H6 ne e => by rw [offL_at (fun z => ne (List.mem_singleton.1 z))]; exact e
  refine ⟨⟨none, [], H6, e6, nuA, k6, d6, rfl, Same.refl _, s6 _ _ upd_same, .nil⟩, fun i σ H' _ ⟨_, _, H6, e, ne, _, _, _, s, _⟩ => SqL.of (off_all _ _ (s _ _ (oth H6 ne e))), ?_, ?_⟩
  · rintro i y σ H' hy ⟨o7, zs, H6, eu, neu, k6, d6, rfl, s, eA, dz⟩
    obtain ⟨d, hd, dd⟩ := d6.at hy
    have dd' := dd.same s
    have rows' := rows5.same (k6.trans s)
    have r1 : El C (JN (offL [A] H')) (BN (offL [A] H')) [some (V.ref p), some (.ref t), some (.int an), some (.ref r), some ov, some (.int pn), some (.ref A), some y] (tVar 1) (.lst l) := el_varN (j := 1) rfl rows'
    have EB := el_cat (el_cat (el_to (K := K) (k := an) (by omega) r1 (el_int_at (j := 2) (i := an) rfl)) (el_lst (els_cons (el_varN (j := 7) rfl dd') els_nil) (by show 1 ≤ 1000; decide)) (by rw [List.length_take]; show _ + 1 ≤ 1000; omega))
      (el_from (K := K) (k := an + 1) (by omega) r1 (el_op (f := fun i j => .int (i + j)) (g := fun i j => i + j) (fun _ _ => rfl) (el_int_at (j := 2) (i := (an : Int)) rfl) (el_int (i := 1)))) (by
        rw [List.length_append, List.length_take, List.length_drop]
        show min an l.length + 1 + _ ≤ 1000
        omega)
    have lz : zs.length ≤ 6 := by
      rw [dz.length, List.length_map, List.length_take]
      show min i 6 ≤ 6
      omega
    refine ⟨.ref A, rfl, .inl ⟨rfl, _, .inl (.inl eA)⟩, EB H' _ off_all fun x H7 s7 st7 => ⟨A, zs, x, rfl, rfl, s7 _ _ eA, small1000 (by omega), some y, zs ++ [x], H6, eu, neu, k6, d6, rfl, ?_, upd_same, ?_⟩⟩
    · exact (s.trans (offL_mono s7)).trans (offL_same fun b o e hb => ⟨hb, by rw [upd_ne (fun z => hb (List.mem_singleton.2 z))]; exact e⟩)
    · have up : Same (offL [A] H7) (offL [A] (upd H7 A (.lst (zs ++ [x])))) := offL_same fun b o e hb => ⟨hb, by rw [upd_ne (fun z => hb (List.mem_singleton.2 z))]; exact e⟩
      have z := st7 [A] (fun a ha => by rw [List.mem_singleton.1 ha, eA]; exact fun z => nomatch z) (fun a ha => by rw [List.mem_singleton.1 ha]; exact fun z => z (offL_in (List.mem_singleton.2 rfl)))
      rw [List.take_succ, hd, List.map_append]
      exact dts_app (dz.same ((offL_mono s7).trans up)) (.cons (z.same up) .nil)
  · rintro σ H' ⟨o7, zs, H6, -, -, k6, d6, rfl, s, eA, dz⟩
    have k7 : Same H5 H' := (k6.trans s).trans off_all
    have m6 : Dt C H' (.ref A) (.lst (((six rl od pn).take ys6.length).map (bentAt l an))) := .lst eA (dz.same off_all)
    rw [d6.length] at m6
    have m6 : Dt C H' (.ref A) (.lst ((six rl od pn).map (bentAt l an))) := m6
    have r1 : El C (JN H') (BN H') [some (V.ref p), some (.ref t), some (.int an), some (.ref r), some ov, some (.int pn), some (.ref A), o7] (tVar 1) (.lst l) := el_varN (j := 1) rfl (rows5.same k7)
    have r3 : El C (JN H') (BN H') [some (V.ref p), some (.ref t), some (.int an), some (.ref r), some ov, some (.int pn), some (.ref A), o7] (tVar 3) (.lst rl) := el_varN (j := 3) rfl (row5.same k7)
    have ER := el_cat (el_varN (j := 6) rfl m6) (el_lst (els_cons (el_cat r1 (el_lst (els_cons r3 els_nil) (by show 1 ≤ 1000; decide)) (by show _ + 1 ≤ 1000; omega))
      (els_cons (el_from (K := K) (k := 1) (by omega) r1 (el_int (i := 1))) (els_cons (el_lst (els_cons r1 els_nil) (by show 1 ≤ 1000; decide))
      (els_cons (el_comp (K := K) (i := 7) (fun d => .lst (itemsD d ++ [.int 0])) (j := 1) rfl (k7 _ _ ht5) (drows.same k7) (by omega) (fun x d hd dx => el_cat (el_listOf (K := K) (l := itemsD d) (by
          obtain ⟨es, h, _, _⟩ := gl d hd
          rcases h with rfl | rfl
          · exact .inl rfl
          · exact .inr rfl) (el_varN (j := 7) rfl dx)) (el_lst (els_cons (el_int (i := 0)) els_nil) (by show 1 ≤ 1000; decide)) (by
          obtain ⟨es, h, le, _⟩ := gl d hd
          rcases h with rfl | rfl
          · show es.length + 1 ≤ 1000
            omega
          · show es.length + 1 ≤ 1000
            omega)))
      (els_cons (el_cat r1 (el_lst (els_cons (el_repE (el_lst (els_cons (el_int (i := 0)) els_nil) (by show 1 ≤ 1000; decide)) (el_len (K := K) r1) (by omega) (by show 1 * l.length ≤ 1000; omega)) els_nil) (by show 1 ≤ 1000; decide)) (by show _ + 1 ≤ 1000; omega))
      (els_cons (el_tupleOf (K := K) r1) els_nil)))))) (by show 6 ≤ 1000; decide)) (by show 6 + 6 ≤ 1000; decide)
    refine ER H' _ (Same.refl H') fun x H8 s8 st8 => ?_
    obtain ⟨a, ys, rfl, e, dd⟩ := lst_inv st8.here
    exact q a ys _ H8 (b05.trans (But.of (k7.trans s8))) e dd rfl (all_app (fun d hd => by
      obtain ⟨e, he, rfl⟩ := List.mem_map.1 hd
      exact f_bentAt (fun x hx => grow_f1 (by omega) (gl x hx)) (f_six (fun x hx => gn_f0 (grl x hx)) fod (by omega) e he) (by omega)) (f_six2 gl (fun x hx => gn_f0 (grl x hx)) (by omega) n4 (by omega)))
end
end KT

set_option Elab.async false
set_option linter.all false
set_option maxRecDepth 100000
set_option maxHeartbeats 4000000
namespace KT
open PySem L2 TW
section
variable {X : Cx} {CX : CXT} {k : Nat} {f : Addr} {fd : FuncData} {ps ks : List Str} {sp : Sp} {E : XK} {x : Str} {p pos : Pos} {kws : List Keyword} {tk : TA} {g : List Value → List Value → List Value} {gV : List V → List V → List V}
/-- f(k = v, ..) -/
theorem pe_callN0 (F : FnOk X.prog X.w X.K X.mg X.base CX k f fd ps sp) (hr : Room k X.A) (hg : Gl X x) (hm : X.mg x = some (.ref f)) (hk : W.keepIn X.K (.ref f) = true) (hb : KBn X.K fd ps 0 ks g gV) (hx : Passes CX X E)
    (hkw : PK X kws tk) (hall : (backToKw pos (keywordEach kws X.env)).all (·.1.isSome) = true := by rfl) (hks : (backToKw pos (keywordEach kws X.env)).filterMap (·.1) = ks := by rfl)
    (hdb : (x == ("__debug__" : Str)) = false := by decide)
    (hpl : ((backTo pos (starEach [] X.env)).any (·.1) || (backToKw pos (keywordEach kws X.env)).any (·.1.isNone)) = false := by rfl) :
    PE X (.Call (.Name x p) [] kws pos) (tCallN 0 ks.length sp gV E tNil tk) := by
  refine ⟨fun pins s σ H Q I h => ?_⟩
  refine wpAny_Call_Name_kw (ld_glob I hg hm ?_ hdb)
  refine W.callWith_KW0 (h₀ := X.base) I.ok.mod.kin hk hall ?_ hpl
  refine thn (hkw.run pos pins s σ H _ I h) fun ws s2 ⟨zs, H2, I2, rz, l1, l2, q2⟩ => ⟨I2.kIn, ?_⟩
  rw [hks]
  exact run_fnN F hr hb hx I2 .nil rz l1 l2 q2
end
theorem op_go {r : V → V → Hp → VK → Prop} {ta tb : TE} {σ : L2.St} {H : Hp} {Q : VK} (h : ta σ H fun x H1 => tb σ H1 fun y H2 => r x y H2 Q) : tOp r ta tb σ H Q := h
/-! displays -/
section
variable {C : Addr} {J : Hp → Prop} {B : Addr → Prop} [Kp J] {σ : L2.St}
theorem el_mk12 : El C J B σ (tMake C (spMk C) [] E0 (tCons (tC (.int 1)) (tCons (tC (.int 2)) tNil))) (.rat 1 2) := fun H R hw q => by
  intro p dx np ndx ne
  refine ⟨p, dx, 1, 2, rfl, upd_same, by decide, ?_, fun H' keep hp => ⟨rfl, q _ H' (fun b o e => ?_) fun S hS hwS => ?_⟩⟩
  · exact Nat.lt_of_lt_of_le (by decide : (2 : Int).natAbs < 2 ^ 2) (Nat.pow_le_pow_right (by decide) (by decide))
  · refine keep b o ?_ (ne_of_none e np)
    rw [upd_ne (ne_of_none e np), upd_ne (ne_of_none e ndx)]
    exact e
  · have nS : p ∉ S := out_of hS np
    obtain ⟨dz, fs, e1, t, b⟩ := hp
    have e2 : Rat.divInt 1 2 = ⟨1, 2, by decide, by decide⟩ := by rfl
    rw [e2] at t b
    exact .rat (by rw [offL_at nS]; exact e1) t b
theorem el_dl : El C J B σ (tDisp [(tC (.int 0), tLst (tCons (tC (.int 1)) tNil))]) (.dl 0 [.int 1]) := fun H R hw q p hp => by
  refine ⟨by show 1 ≤ 2 ^ 24; decide, fun b nb => ?_⟩
  have nbp : b ≠ p := fun z => by
    rw [z, upd_same] at nb
    cases nb
  have nb' : H b = none := by rw [upd_ne nbp] at nb; exact nb
  refine ⟨by rw [upd_ne nbp.symm]; exact upd_same, [(Sum.inl 0, .ref b)], rfl, (by show 1 ≤ 15; decide), ?_⟩
  refine q _ _ (fun c o e => ?_) fun S hS hwS => ?_
  · rw [upd_ne (ne_of_none e hp), upd_ne (ne_of_none e nb'), upd_ne (ne_of_none e hp)]
    exact e
  · refine .dl (b := b) (xs := [.int 1]) ?_ ?_ (.cons (.int 1) .nil)
    · rw [offL_at (out_of hS hp)]
      exact upd_same
    · rw [offL_at (out_of hS nb'), upd_ne nbp]
      exact upd_same
end
theorem all_rep {α : Type} {P : α → Prop} {l : List α} (h : ∀ x ∈ l, P x) : ∀ k : Nat, ∀ x ∈ (List.replicate k l).flatten, P x
  | 0 => fun _ z => nomatch z
  | k + 1 => by
    rw [List.replicate_succ, List.flatten_cons]
    exact all_app h (all_rep h k)
def nNil : List D := []
def v7 : List D := [.lst (List.replicate 5 [D.lst (List.replicate 5 [D.int 0]).flatten]).flatten, .lst (List.replicate 4 [D.lst (List.replicate 4 [D.int 0]).flatten]).flatten, .lst [.lst [.int 5]], .tup [.tup [.rat 1 2]], .lst [.lst [.bl true]], .lst [.int 1], .lst [.lst [.int 1, .int 2]]]
def v18 : List D := [.non, .int 0, .str "", .str "ab", .dct [], .lst [], .tup [], .lst [.lst []], .dl 0 [.int 1], .bl true, .rat 1 1, .lst [.lst [.int 1], .lst [.int 2]], .lst (List.replicate 4 [D.int 0]).flatten, .tup [.int 1, .int 2, .int 3, .int 4],
  .lst (List.replicate 9 [D.int 0]).flatten, .lst (List.replicate 16 [D.int 0]).flatten, .lst (List.replicate 25 [D.int 0]).flatten, .lst [.non]]
theorem f_zeros (k : Nat) (h : k ≤ 30) : F1 (.lst (List.replicate k [D.int 0]).flatten) := (f_row (all_rep (all_cons (f_int (by decide)) all_nil) k) (by simp; exact h)).1
theorem f_rat {t b : Nat} (h : t < 2 ^ 8) (h' : b < 2 ^ 8) : F0 (.rat t b) := ⟨⟨small8 (by rw [Int.natAbs_natCast]; exact h), small8 (by rw [Int.natAbs_natCast]; exact h')⟩, Nat.le_refl _, Nat.le_refl _⟩
theorem f_v7 : ∀ d ∈ v7, F3 d := by
  refine all_cons (f23 (f_tab (all_rep (all_cons (f_zeros 5 (by decide)) all_nil) 5) (by decide)).1) ?_
  refine all_cons (f23 (f_tab (all_rep (all_cons (f_zeros 4 (by decide)) all_nil) 4) (by decide)).1) ?_
  refine all_cons (f23 (f_tab (all_cons (f_row (all_cons (f_int (by decide)) all_nil) (by decide)).1 all_nil) (by decide)).1) ?_
  refine all_cons (f23 (f_tab (all_cons (f_row (all_cons (f_rat (t := 1) (b := 2) (by decide) (by decide)) all_nil) (by decide)).2 all_nil) (by decide)).2) ?_
  refine all_cons (f23 (f_tab (all_cons (f_row (all_cons f_bl all_nil) (by decide)).1 all_nil) (by decide)).1) ?_
  refine all_cons (f23 (f12 (f_row (all_cons (f_int (by decide)) all_nil) (by decide)).1)) ?_
  exact all_cons (f23 (f_tab (all_cons (f_row (all_cons (f_int (by decide)) (all_cons (f_int (by decide)) all_nil)) (by decide)).1 all_nil) (by decide)).1) all_nil
theorem f03 {d : D} (h : F0 d) : F3 d := f23 (f12 (f01 h))
theorem f13 {d : D} (h : F1 d) : F3 d := f23 (f12 h)
theorem f_v18 : ∀ d ∈ v18, F3 d := by
  refine all_cons (f03 f_non) (all_cons (f03 (f_int (by decide))) (all_cons (f03 (f_str (by decide +kernel))) (all_cons (f03 (f_str (by decide +kernel))) (all_cons (f03 f_dct0) ?_))))
  refine all_cons (f13 (f_row all_nil (by decide)).1) (all_cons (f13 (f_row all_nil (by decide)).2) (all_cons (f23 (f_tab (all_cons (f_row all_nil (by decide)).1 all_nil) (by decide)).1) (all_cons (f23 f_dl) (all_cons (f03 f_bl) ?_))))
  refine all_cons (f03 (f_rat (t := 1) (b := 1) (by decide) (by decide))) (all_cons (f23 (f_tab (all_cons (f_row (all_cons (f_int (by decide)) all_nil) (by decide)).1 (all_cons (f_row (all_cons (f_int (by decide)) all_nil) (by decide)).1 all_nil)) (by decide)).1) ?_)
  refine all_cons (f13 (f_zeros 4 (by decide))) (all_cons (f13 (f_row (all_cons (f_int (by decide)) (all_cons (f_int (by decide)) (all_cons (f_int (by decide)) (all_cons (f_int (by decide)) all_nil)))) (by decide)).2) ?_)
  exact all_cons (f13 (f_zeros 9 (by decide))) (all_cons (f13 (f_zeros 16 (by decide))) (all_cons (f13 (f_zeros 25 (by decide))) (all_cons (f13 (f_row (all_cons f_non all_nil) (by decide)).1) all_nil)))
section
variable {C : Addr} {J : Hp → Prop} {B : Addr → Prop} [Kp J] {σ : L2.St}
theorem le1000 (n : Nat) (h : n ≤ 1000 := by decide) : n ≤ 1000 := h
theorem el_zeros {k : Nat} (hk : k ≤ 1000) : El C J B σ (tOp rRep (tLst (tCons (tC (.int 0)) tNil)) (tC (.int k))) (.lst (List.replicate k [D.int 0]).flatten) := el_rep (el_lst (els_cons el_int els_nil) (le1000 1)) hk (by show 1 * k ≤ 1000; omega)
theorem el_one {te : TE} {d : D} (h : El C J B σ te d) : El C J B σ (tLst (tCons te tNil)) (.lst [d]) := el_lst (els_cons h els_nil) (le1000 1)
end
end KT

set_option Elab.async false
set_option linter.all false
set_option maxRecDepth 100000
set_option maxHeartbeats 4000000
namespace KT
open PySem L2 TW
abbrev s_right : Stmt := top 41
abbrev s_law : Stmt := top 42
theorem sc_right : FnScope ["_law_pot_here", "_law_size", "_law_rows", "_law_values", "_law_value", "_law_shown", "_law_due"] ["_law_pot_here"] (defScope s_right) := ⟨rfl, rfl, rfl, by decide +kernel, rfl, by decide +kernel, by decide +kernel⟩
theorem sc_law : FnScope ["_law_script"] ["_law_script"] (defScope s_law) := ⟨rfl, rfl, rfl, by decide +kernel, rfl, by decide +kernel, by decide +kernel⟩
def spRight : Sp := fun vs H Q _ => ∃ p, vs = [.ref p] ∧ PotAt H p ∧ ∀ H', Q (.bl true) H'
def spLaw (K : W.Frag) : Sp := fun vs H Q _ => ∃ (a : Addr) (ns : List Int), vs = [.ref a] ∧ SqL K H a (ns.map V.int) ∧ ns.length ≤ 1000 ∧ ∀ H', Q (.bl true) H'
def gKw (us ws : List Value) : List Value := ws
def gKwV (us ws : List V) : List V := ws
section
variable {P : Program} {w : World} {K : W.Frag} {mg : Str → Option Value} {base : Heap} {C HC : Addr}
theorem tab_kw {x qual : Str} {f : Addr} {fd : FuncData} (F : Fun K x qual s_is_table f fd) : KBn K fd ["value"] 0 ["value"] gKw gKwV := by
  obtain ⟨oc, od, kV, doc, pm, an, cdv, ct, osl, rfl, lk, hcd⟩ := F.ex
  refine ⟨fun s us ws X l1 l2 => ?_, fun r rz => ?_⟩
  · match us, ws, l1, l2 with
    | [], [a], _, _ => exact BindsTo.of_looks fun M => W.Looks.of_pure rfl
  · exact rz
theorem ok_right {f g gv tb bt f1 fi it lt ll lg : Addr} {fd gd gvd tbd btd fd1 fid itd ltd lld lgd : FuncData} (F : At K mg "_law_right" s_right ["_law_pot_here"] f fd) (T : Txt K mg C HC) (T2 : Txt2 mg)
    (G : At K mg "_law_draw" s_draw ["_law_pot_here", "_law_room"] g gd) (N : FnOk P w K mg base L2.CX0 1 g gd ["_law_pot_here", "_law_room"] spDraw)
    (Gv : At K mg "_law_given" s_given ["_law_pot_here", "_law_rows"] gv gvd) (NG : FnOk P w K mg base L2.CX0 6 gv gvd ["_law_pot_here", "_law_rows"] (fun vs H Q E => ∃ n : Nat, n ≤ 20 ∧ spGiv C (GL n) (GRow GN n) vs H Q E))
    (Tb : At K mg "_law_table" s_table ["_law_pot_here", "_law_size"] tb tbd) (NT : FnOk P w K mg base L2.CX0 6 tb tbd ["_law_pot_here", "_law_size"] (spTab C))
    (Bt : At K mg "_law_bent" s_bent ["_law_pot_here", "_law_rows"] bt btd) (NB : FnOk P w K mg base L2.CX0 3 bt btd ["_law_pot_here", "_law_rows"] (spBent C))
    (F1 : At K mg "is_integer" s_is_integer ["value"] f1 fd1) (I : InitAt K fi fid) (M : Mk K C fi)
    (It : At K mg "is_table" s_is_table ["value"] it itd) (NI : FnOk P w K mg base L2.CX0 6 it itd ["value"] (spB C isTab))
    (Lt : At K mg "_law_is_table" s_litab ["_law_value"] lt ltd) (NLt : FnOk P w K mg base L2.CX0 3 lt ltd ["_law_value"] (spB C isTab))
    (Ll : At K mg "_law_lets" s_lets ["_law_value"] ll lld) (NLl : FnOk P w K mg base L2.CX0 9 ll lld ["_law_value"] (spB C isLong))
    (Lg : At K mg "_law_is_long" s_long ["_law_value"] lg lgd) (NLg : FnOk P w K mg base L2.CX0 2 lg lgd ["_law_value"] (spB C isLong))
    (R : RatR P w K mg base C 1) : FnG P w K mg base L2.CX0 10 f fd ["_law_pot_here"] spRight := by
  refine okG F.fn sc_right (fun vs H Q E h => ?_) fun cdv A outer s H vs Q E gd hr h => ?_
  · obtain ⟨p, rfl, _⟩ := h
    rfl
  obtain ⟨p, rfl, hp, q⟩ := h
  have hr1 : Room 1 _ := hr.mono (by decide)
  have hr2 : Room 2 _ := hr.mono (by decide)
  have hr3 : Room 3 _ := hr.mono (by decide)
  have hr6 : Room 6 _ := hr.mono (by decide)
  have hr9 : Room 9 _ := hr.mono (by decide)
  have hrR : Room (1 + 3 + 1) _ := hr.mono (by decide)
  have nd := sc_right.nd
  obtain ⟨ds, vd, bd⟩ := init_binds I
  obtain ⟨ds2, vd2, bd2⟩ := initR_all I
  refine ⟨_, (pss_cons (ps_set (i := 1) sc_right.nd rfl (.inl rfl) (pe_op op_add pe_int (pe_call N hr1 (by rfl) G.mg G.fn.kp G.b .nil pass0 (pa_cons (pv 0) (pa_cons pe_int pa_nil))))) (pss_cons (ps_set (i := 2) sc_right.nd rfl (.inl rfl) (pe_callTy (T := "list") (r := rLo K) call_list_of (by rfl) T.list_ (by decide +kernel) (pa_cons (pe_call NG hr6 (by rfl) Gv.mg Gv.fn.kp Gv.b .nil pass0 (pa_cons (pv 0) (pa_cons (pe_call NT hr6 (by rfl) Tb.mg Tb.fn.kp Tb.b .nil pass0 (pa_cons (pv 0) (pa_cons (pv 1) pa_nil))) pa_nil))) pa_nil))) (pss_cons (ps_set (i := 3) sc_right.nd rfl (.inl rfl) (pe_op op_cat (pe_op op_cat (pe_lst (pa_cons (pv 2) (pa_cons (pe_callTy call_tuple_of (by rfl) T.tuple_ (by decide +kernel) (pa_cons (pv 2) pa_nil)) pa_nil))) (pe_call NB hr3 (by rfl) Bt.mg Bt.fn.kp Bt.b .nil pass0 (pa_cons (pv 0) (pa_cons (pv 2) pa_nil)))) (pe_lst (pa_cons (pe_op op_rep (pe_lst (pa_cons (pe_op op_rep (pe_lst (pa_cons pe_int pa_nil)) pe_int) pa_nil)) pe_int) (pa_cons (pe_op op_rep (pe_lst (pa_cons (pe_op op_rep (pe_lst (pa_cons pe_int pa_nil)) pe_int) pa_nil)) pe_int) (pa_cons (pe_lst (pa_cons (pe_lst (pa_cons pe_int pa_nil)) pa_nil)) (pa_cons (pe_tup (pa_cons (pe_tup (pa_cons (pe_make M (ok_mk I T F1) hr3 (by rfl) T.mgC bd2 vd2 pass0 (pa_cons pe_int (pa_cons pe_int pa_nil))) pa_nil)) pa_nil)) (pa_cons (pe_lst (pa_cons (pe_lst (pa_cons pe_bl pa_nil)) pa_nil)) (pa_cons (pe_lst (pa_cons pe_int pa_nil)) (pa_cons (pe_lst (pa_cons (pe_lst (pa_cons pe_int (pa_cons pe_int pa_nil))) pa_nil)) pa_nil)))))))))) (pss_cons (ps_set (i := 3) sc_right.nd rfl (.inl rfl) (pe_op op_cat (pv 3) (pe_lst (pa_cons pe_non (pa_cons pe_int (pa_cons pe_str (pa_cons pe_str (pa_cons pe_dnewK (pa_cons (pe_lst pa_nil) (pa_cons (pe_tup pa_nil) (pa_cons (pe_lst (pa_cons (pe_lst pa_nil) pa_nil)) (pa_cons (pe_disp (pps_cons pe_int (pe_lst (pa_cons pe_int pa_nil)) pps_nil) rfl rfl (by simp) (by decide)) (pa_cons pe_bl (pa_cons (pe_make M (ok_init I T F1) hr3 (by rfl) T.mgC bd vd pass0 (pa_cons pe_int pa_nil)) (pa_cons (pe_lst (pa_cons (pe_lst (pa_cons pe_int pa_nil)) (pa_cons (pe_lst (pa_cons pe_int pa_nil)) pa_nil))) (pa_cons (pe_op op_rep (pe_lst (pa_cons pe_int pa_nil)) pe_int) (pa_cons (pe_tup (pa_cons pe_int (pa_cons pe_int (pa_cons pe_int (pa_cons pe_int pa_nil))))) (pa_cons (pe_op op_rep (pe_lst (pa_cons pe_int pa_nil)) pe_int) (pa_cons (pe_op op_rep (pe_lst (pa_cons pe_int pa_nil)) pe_int) (pa_cons (pe_op op_rep (pe_lst (pa_cons pe_int pa_nil)) pe_int) (pa_cons (pe_lst (pa_cons pe_non pa_nil)) pa_nil))))))))))))))))))))) (pss_cons (ps_for PassesOwn.never rfl (pi_list (pv 3)) (pg_name (i := 4) sc_right.nd rfl (Or.inl rfl)) (pss_cons (ps_par rfl sc_right.nd (i := 5) (j := 6) rfl rfl (by decide) rfl rfl (pa_cons (pe_callB (call_repr R gd hrR) (by rfl) T2.repr_ (by decide +kernel) (pa_cons (pv 4) pa_nil)) (pa_cons (pe_call NLt hr3 (by rfl) Lt.mg Lt.fn.kp Lt.b .nil pass0 (pa_cons (pv 4) pa_nil)) pa_nil)) (by rfl)) (pss_cons (ps_if (PW.pt (pw_or (pt_cmpR op_ne (pe_callB (call_repr R gd hrR) (by rfl) T2.repr_ (by decide +kernel) (pa_cons (pe_lst (pa_cons (pe_call NI hr6 (by rfl) It.mg It.fn.kp It.b .nil pass0 (pa_cons (pv 4) pa_nil)) (pa_cons (pe_callN0 NI hr6 (by rfl) It.mg It.fn.kp (tab_kw It.fn) pass0 (pk_cons (pv 4) pk_nil)) pa_nil))) pa_nil)) (pe_callB (call_repr R gd hrR) (by rfl) T2.repr_ (by decide +kernel) (pa_cons (pe_lst (pa_cons (pv 6) (pa_cons (pv 6) pa_nil))) pa_nil)) (nomark _)) (pw_or1 (pt_cmpR op_ne (pe_call NLl hr9 (by rfl) Ll.mg Ll.fn.kp Ll.b .nil pass0 (pa_cons (pv 4) pa_nil)) (pe_call NLg hr2 (by rfl) Lg.mg Lg.fn.kp Lg.b .nil pass0 (pa_cons (pv 4) pa_nil)) (nomark _))))) (pss_one (ps_ret pe_bl)) pss_nil) (pss_one (ps_if (pt_cmpR op_ne (pe_callB (call_repr R gd hrR) (by rfl) T2.repr_ (by decide +kernel) (pa_cons (pv 4) pa_nil)) (pv 5) (nomark _)) (pss_one (ps_ret pe_bl)) pss_nil))))) (pss_one (ps_ret pe_bl))))))), ?_⟩
  refine ⟨.ref p, rfl, p, 4, rfl, hp, by decide, by decide, fun dz H1 d0 d1 b1 p1 => ⟨1, dz, rfl, rfl, ?_⟩⟩
  obtain ⟨dn, rfl⟩ := Int.eq_ofNat_of_zero_le d0
  have n4 : 1 + dn ≤ 4 := by omega
  refine ⟨.ref p, rfl, .ref p, rfl, .int (1 + dn), rfl, p, 1 + dn, rfl, p1, by omega, by omega, fun A H2 hA pv => ?_⟩
  obtain ⟨b2, p2, l, nw, ll, gl⟩ := pot_end hA p1 pv
  refine ⟨1 + dn, by omega, p, .ref A, l, rfl, p2, nw.now, gl, by omega, fun x d H3 b3 p3 gd3 nw3 => ?_⟩
  obtain ⟨l3, hd3, ll3, gl3⟩ := gd3
  obtain ⟨a, xs, rfl, ha, dxs⟩ : ∃ a xs, x = .ref a ∧ (SqL K (offL [p] H3) a xs ∨ SqT K (offL [p] H3) a xs) ∧ Dts C (offL [p] H3) xs l3 := by
    rcases hd3 with rfl | rfl
    · obtain ⟨a, ys, rfl, e1, e2⟩ := lst_inv nw3.now
      exact ⟨a, ys, rfl, .inl (SqL.of e1), e2⟩
    · obtain ⟨a, ys, rfl, e1, e2⟩ := tup_inv nw3.now
      exact ⟨a, ys, rfl, .inr (SqT.of e1), e2⟩
  refine ⟨a, xs, rfl, ha.elim (fun z => .inl (off_all.seq z)) (fun z => .inr (Same.tup off_all z)), fun t nt => ?_⟩
  have s4 : Same H3 (upd H3 t (.lst xs)) := same_new nt
  have p4 := p3.upd (o := .lst xs) (pot_ne p3 nt)
  have ht4 : upd H3 t (.lst xs) t = some (.lst xs) := upd_same
  have ntp : t ≠ p := (pot_ne p3 nt).symm
  have d4 := dxs.same (offL_mono (S := [p]) s4)
  generalize upd H3 t (.lst xs) = H4 at s4 p4 ht4 d4 ⊢
  have ll4 : l3.length = 1 + dn := by omega
  have ht4' : offL [p] H4 t = some (.lst xs) := by rw [offL_at (fun z => ntp (List.mem_singleton.1 z))]; exact ht4
  have v2 : El C (JN (offL [p] H4)) (BN (offL [p] H4)) [some (V.ref p), some (.int (1 + dn)), some (.ref t), none, none, none, none] (tVar 2) (.lst l3) := el_varN (j := 2) rfl (.lst ht4' d4)
  have E2 : Els C (JN (offL [p] H4)) (BN (offL [p] H4)) _ _ [.lst l3, .tup l3] := els_cons v2 (els_cons (el_tupleOf (K := K) v2) els_nil)
  have live4 : ∀ a ∈ [p], H4 a ≠ none := fun a ha => by
    rw [List.mem_singleton.1 ha]
    exact pot_live p4
  have out4 : ∀ a ∈ [p], ¬ BN (offL [p] H4) a := fun a ha => by
    rw [List.mem_singleton.1 ha]
    exact fun z => z (offL_in (List.mem_singleton.2 rfl))
  dsimp only [gName, tSeq, tAsg]
  refine op_go (op_go (el_lst E2 (le1000 2) H4 _ off_all fun x2 H5 s5 st5 => ?_))
  obtain ⟨c2, ys2, rfl, ec2, f2⟩ := std_lst st5
  have d2 := f2 [p] live4 out4
  have ncp : c2 ≠ p := fun z => by
    cases st5 [p] live4 out4 with
    | lst e _ =>
      rw [offL_in (by rw [z]; exact List.mem_singleton.2 rfl)] at e
      cases e
  have p5 : PotAt H5 p := by
    obtain ⟨x, y, hx, hy, e⟩ := p4
    exact ⟨x, y, hx, hy, s5 _ _ e⟩
  refine ⟨.ref p, rfl, .ref t, rfl, p, t, xs, l3, 1 + dn, rfl, p5, ntp, s5 _ _ ht4, d4.same (offL_mono s5), ll4, by omega, n4, fun d hd => by rw [← ll4]; rw [ll4]; exact gl3 d hd, fun cb yb mb H6 b6 eb db lb fb => ?_⟩
  have d2' : Dts C H6 ys2 [.lst l3, .tup l3] := (d2.same (but_off b6)).same off_all
  have ec2' := b6 _ _ ec2 ncp
  have l2' := d2'.length
  have lb' := db.length
  refine ⟨c2, cb, ys2, yb, rfl, rfl, ec2', eb, Nat.le_trans (by rw [l2', lb', lb]; show 2 + 12 ≤ 14; decide) (by decide : (14 : Nat) ≤ sizeLine), fun u nu => ?_⟩
  have dU : Dts C (upd H6 u (.lst (ys2 ++ yb))) (ys2 ++ yb) ([.lst l3, .tup l3] ++ mb) := dts_app (d2'.same (same_new nu)) (db.same (same_new nu))
  have eU : upd H6 u (.lst (ys2 ++ yb)) u = some (.lst (ys2 ++ yb)) := upd_same
  have lU : (ys2 ++ yb).length = 14 := by rw [List.length_append, l2', lb', lb]; rfl
  generalize upd H6 u (.lst (ys2 ++ yb)) = H7 at dU eU ⊢
  generalize hY : ys2 ++ yb = yU at dU eU lU ⊢
  have E7 : Els C (JN H7) (BN H7) [some (V.ref p), some (.int (1 + dn)), some (.ref t), none, none, none, none] _ v7 := els_cons (el_rep (k := 5) (el_one (el_zeros (k := 5) (by decide))) (by decide) (by show 1 * 5 ≤ 1000; decide)) (els_cons (el_rep (k := 4) (el_one (el_zeros (k := 4) (by decide))) (by decide) (by show 1 * 4 ≤ 1000; decide))
      (els_cons (el_one (el_one (el_int (i := 5)))) (els_cons (el_tup (els_cons (el_tup (els_cons el_mk12 els_nil) (le1000 1)) els_nil) (le1000 1)) (els_cons (el_one (el_one (el_flat (v := .bl true) (d := .bl true) fun _ => .bl _)))
      (els_cons (el_one (el_int (i := 1))) (els_cons (el_one (el_lst (els_cons (el_int (i := 1)) (els_cons (el_int (i := 2)) els_nil)) (le1000 2))) els_nil))))))
  refine el_lst E7 (le1000 7) H7 _ (Same.refl H7) fun x7 H8 s8 st8 => ?_
  obtain ⟨c7, ys7, rfl, ec7, d7⟩ := lst_inv st8.here
  have l7 := d7.length
  refine ⟨u, c7, yU, ys7, rfl, rfl, s8 _ _ eU, ec7, Nat.le_trans (by rw [lU, l7]; show 14 + 7 ≤ 21; decide) (by decide : (21 : Nat) ≤ sizeLine), fun v nv => ?_⟩
  have dV : Dts C (upd H8 v (.lst (yU ++ ys7))) (yU ++ ys7) (([.lst l3, .tup l3] ++ mb) ++ v7) := dts_app ((dU.same s8).same (same_new nv)) (d7.same (same_new nv))
  have eV : upd H8 v (.lst (yU ++ ys7)) v = some (.lst (yU ++ ys7)) := upd_same
  have fV : ∀ d ∈ (([.lst l3, .tup l3] ++ mb) ++ v7), F3 d := by
    have g1 : ∀ d ∈ l3, KT.F1 d := fun d hd => grow_f1 (by omega) (gl3 d hd)
    exact all_app (all_app (all_cons (f23 (f_tab g1 (by omega)).1) (all_cons (f23 (f_tab g1 (by omega)).2) all_nil)) fb) f_v7
  have lV : (([D.lst l3, .tup l3] ++ mb) ++ v7).length = 21 := by rw [List.length_append, List.length_append, lb]; rfl
  generalize upd H8 v (.lst (yU ++ ys7)) = H9 at dV eV ⊢
  generalize yU ++ ys7 = yV at dV eV ⊢
  generalize (([D.lst l3, .tup l3] ++ mb) ++ v7) = mV at dV fV lV
  have E18 : Els C (JN H9) (BN H9) [some (V.ref p), some (.int (1 + dn)), some (.ref t), some (.ref v), none, none, none] _ v18 := els_cons (el_flat (v := .non) (d := .non) fun _ => .non) (els_cons (el_int (i := 0)) (els_cons (el_flat (v := .str "") (d := .str "") fun _ => .str _) (els_cons (el_flat (v := .str "ab") (d := .str "ab") fun _ => .str _) (els_cons el_dict0
      (els_cons (el_lst els_nil (le1000 0)) (els_cons (el_tup els_nil (le1000 0)) (els_cons (el_one (el_lst els_nil (le1000 0))) (els_cons el_dl (els_cons (el_flat (v := .bl true) (d := .bl true) fun _ => .bl _)
      (els_cons (el_ratio (el_int (i := 1))) (els_cons (el_lst (els_cons (el_one (el_int (i := 1))) (els_cons (el_one (el_int (i := 2))) els_nil)) (le1000 2)) (els_cons (el_zeros (k := 4) (by decide)) (els_cons (el_tup (els_cons (el_int (i := 1)) (els_cons (el_int (i := 2)) (els_cons (el_int (i := 3)) (els_cons (el_int (i := 4)) els_nil)))) (le1000 4))
      (els_cons (el_zeros (k := 9) (by decide)) (els_cons (el_zeros (k := 16) (by decide)) (els_cons (el_zeros (k := 25) (by decide)) (els_cons (el_one (el_flat (v := .non) (d := .non) fun _ => .non)) els_nil)))))))))))))))))
  have E19 := el_cat (el_varN (j := 3) rfl (.lst eV dV)) (el_lst E18 (le1000 18)) (by rw [lV]; show 21 + 18 ≤ 1000; decide)
  refine E19 H9 _ (Same.refl H9) fun x10 H10 s10 st10 => ?_
  obtain ⟨vf, xs10, rfl, e10, d10⟩ := lst_inv st10.here
  have fAll := all_app fV f_v18
  refine ⟨.ref vf, rfl, vf, rfl, ⟨xs10, SqL.of e10⟩, for_list (K := K) (a := vf) (xs := xs10) (fun i σ H' => ∃ o4 o5 o6, σ = [some (V.ref p), some (.int (1 + dn)), some (.ref t), some (.ref vf), o4, o5, o6] ∧ Same H10 H') ⟨none, none, none, rfl, Same.refl _⟩
    (fun i σ H' _ ⟨_, _, _, _, s⟩ => SqL.of (s _ _ e10)) ?_ fun σ H' _ => q H'⟩
  rintro i y σ H11 hy ⟨o4, o5, o6, rfl, st⟩
  obtain ⟨d, hd, dd⟩ := d10.at hy
  have fd3 := fAll d (List.mem_of_getElem? hd)
  have len3 : d.len ≤ sizeLine := Nat.le_trans fd3.2.1 (by decide)
  refine ⟨y, rfl, y, d, rfl, dd.same st, fd3.1, len3, fd3.2.2, y, rfl, y, d, rfl, dd.same st, len3, fun H12 s12 => ⟨_, _, rfl, ?_⟩⟩
  have st := st.trans s12
  refine ⟨y, rfl, y, d, rfl, dd.same st, len3, fun H13 s13 => ⟨y, rfl, rfl, rfl, y, d, rfl, dd.same (st.trans s13), len3, fun H14 s14 => ⟨by show 2 ≤ 2 ^ 24; decide, fun b nb => ?_⟩⟩⟩
  have st := (st.trans s13).trans s14
  have stb := st.trans (same_new (o := .lst [.bl (isTab d), .bl (isTab d)]) nb)
  have len16 : (D.lst [.bl (isTab d), .bl (isTab d)]).len ≤ sizeLine := by show 16 ≤ sizeLine; decide
  refine ⟨.ref b, .lst [.bl (isTab d), .bl (isTab d)], rfl, .lst upd_same (.cons (.bl _) (.cons (.bl _) .nil)), ⟨trivial, trivial, trivial⟩, len16, by show 1 ≤ 3; decide, ?_⟩
  generalize upd H14 b (.lst [.bl (isTab d), .bl (isTab d)]) = H15 at stb ⊢
  refine ⟨.bl (isTab d), rfl, .bl (isTab d), rfl, by show 2 ≤ 2 ^ 24; decide, fun b2 nb2 => ?_⟩
  have stc := stb.trans (same_new (o := .lst [.bl (isTab d), .bl (isTab d)]) nb2)
  refine ⟨.ref b2, .lst [.bl (isTab d), .bl (isTab d)], rfl, .lst upd_same (.cons (.bl _) (.cons (.bl _) .nil)), ⟨trivial, trivial, trivial⟩, len16, by show 1 ≤ 3; decide, rfl, ?_⟩
  generalize upd H15 b2 (.lst [.bl (isTab d), .bl (isTab d)]) = H16 at stc ⊢
  refine ⟨_, rfl, ?_⟩
  have e0 : ∀ z : V, (!decide (z = z)) = false := fun z => by simp
  rw [e0]
  refine iteF ⟨y, rfl, y, d, rfl, dd.same stc, len3, fun H17 s17 => ⟨y, rfl, y, d, rfl, dd.same (stc.trans s17), len3, fun H18 s18 => ?_⟩⟩
  refine ⟨rfl, _, rfl, ?_⟩
  rw [e0]
  have st := (stc.trans s17).trans s18
  refine iteF ⟨y, rfl, y, d, rfl, dd.same st, fd3.1, len3, fd3.2.2, .str d.shown, rfl, rfl, _, rfl, ?_⟩
  rw [e0]
  exact iteF ⟨_, _, _, rfl, st⟩
end
end KT

set_option Elab.async false
set_option linter.all false
set_option maxRecDepth 100000
set_option maxHeartbeats 4000000
namespace KT
open PySem L2 TW
section
variable {P : Program} {w : World} {K : W.Frag} {mg : Str → Option Value} {base : Heap} {C HC : Addr}
theorem ok_law {f g r : Addr} {fd gd rd : FuncData} (F : Fun K "law" "law" s_law f fd) (T : Txt K mg C HC)
    (G : At K mg "_law_pot" s_pot ["_law_script", "_law_k"] g gd) (N : FnOk P w K mg base L2.CX0 1 g gd ["_law_script", "_law_k"] (spPot K))
    (Rt : At K mg "_law_right" s_right ["_law_pot_here"] r rd) (NR : FnG P w K mg base L2.CX0 10 r rd ["_law_pot_here"] spRight) : FnG P w K mg base L2.CX0 11 f fd ["_law_script"] (spLaw K) := by
  refine okG F sc_law (fun vs H Q E h => ?_) fun cdv A outer s H vs Q E gd hr h => ?_
  · obtain ⟨a, ns, rfl, _⟩ := h
    rfl
  obtain ⟨a, ns, rfl, hs, hl, q⟩ := h
  have hr1 : Room 1 _ := hr.mono (by decide)
  refine ⟨_, (pss_one (ps_ret (pe_callG NR gd hr (by rfl) Rt.mg Rt.fn.kp Rt.b pass0 (pa_cons (pe_call N hr1 (by rfl) G.mg G.fn.kp G.b .nil pass0 (pa_cons (pv 0) (pa_cons pe_int pa_nil))) pa_nil)))), ?_⟩
  exact ⟨.ref a, rfl, a, ns, rfl, hs, fun p H' s np pot => ⟨p, rfl, pot, q⟩⟩
end
/-! ### what the top has written -/
/-- a def of the top stands -/
def Dn (K : W.Frag) (x : Str) (st : Stmt) : Prop := ∃ (f : Addr) (fd : FuncData), W.nsIn K mainGlobals x = some (some (.ref f)) ∧ Fun K x x st f fd
section
variable {K : W.Frag} {h : Heap} {mg : Str → Option Value}
theorem dn {x : Str} {st : Stmt} {f : Addr} {oc : Value} {od an : Option Addr} {osl : Array (Option Value)} {kV doc pm cdv ct : Value} (n : W.nsIn K mainGlobals x = some (some (.ref f)))
    (l : K.lookup f = some ⟨oc, od, .func (W.fnOf x x (defArgs st) (defBody st) (defScope st) .none kV doc pm an cdv ct), osl⟩) (c : W.codeIn K cdv x = true) (k : W.keepIn K (.ref f) = true) : Dn K x st := ⟨f, _, n, fun_mk l c k⟩
theorem Dn.at_ {x : Str} {st : Stmt} (X : K.In h) (G : h.Ns mainGlobals mg) (d : Dn K x st) (ps : List Str)
    (hb : ∀ (kV doc pm : Value) (an : Option Addr) (cdv ct : Value) (us : List Value), us.length = ps.length → bindArgs (W.fnOf x x (defArgs st) (defBody st) (defScope st) .none kV doc pm an cdv ct) ⟨us, []⟩ = pure (ps.zip us)) : ∃ (f : Addr) (fd : FuncData), At K mg x st ps f fd := by
  obtain ⟨f, fd, n, F⟩ := d
  exact ⟨f, fd, F, W.mg_of X G n, F.binds hb⟩
theorem tx {C HC : Addr} {t1 : Addr} (X : K.In h) (G : h.Ns mainGlobals mg)
    (aC : W.nsIn K mainGlobals "Ratio" = some (some (.ref C)))
    (z1 : W.nsIn K mainGlobals "isinstance" = some none) (z2 : W.nsIn K mainGlobals "int" = some none) (z3 : W.nsIn K mainGlobals "bool" = some none) (z4 : W.nsIn K mainGlobals "list" = some none) (z5 : W.nsIn K mainGlobals "tuple" = some none)
    (z6 : W.nsIn K mainGlobals "len" = some none) (z7 : W.nsIn K mainGlobals "all" = some none) (g1 : W.nsIn K mainGlobals "gcd" = some (some (.builtin "math.gcd")))
    (c1 : W.nsIn K mainGlobals "LARGEST" = some (some (.int 4 t1)))
    (pg : W.plainGet K C Str.empty = true) (hd : W.hasDictIn K C = true) (po : W.plainOver K C = true) (sa : W.findIn K (.ref C) "__setattr__" = some (some (.builtin "object.__setattr__")))
    (n1 : W.findIn K (.ref C) "_top" = some none) (n2 : W.findIn K (.ref C) "_bottom" = some none)
    (atC : W.findIn K (.ref C) "__class__" = some (some (.builtin "object.__class__")))
    (cg : W.specialIn K (.builtin "object.__class__") "__get__" = some (some (.builtin "getset_descriptor.__get__"))) (ct : W.takesIn K (.builtin "object.__class__") = some true)
    (moC : W.mroIn K C (.type "object") = some true)
    (k1 : W.kitOne K (.ref C) (.type "int") = some false) (k2 : W.kitOne K (.ref C) (.type "bool") = some false) (k3 : W.kitOne K (.ref C) (.type "list") = some false) (k4 : W.kitOne K (.ref C) (.type "tuple") = some false) (k5 : W.kitOne K (.ref C) (.ref C) = some true)
    (k6 : W.kitOne K (.type "NoneType") (.ref C) = some false) (k7 : W.kitOne K (.type "bool") (.ref C) = some false) (k8 : W.kitOne K (.type "int") (.ref C) = some false) (k9 : W.kitOne K (.type "str") (.ref C) = some false) (k10 : W.kitOne K (.type "list") (.ref C) = some false)
    (k11 : W.kitOne K (.type "tuple") (.ref C) = some false) (k12 : W.kitOne K (.type "dict") (.ref C) = some false) : Txt K mg C HC := by
  exact ⟨W.mg_none_of X G z1, W.mg_none_of X G z2, W.mg_none_of X G z3, W.mg_none_of X G z4, W.mg_none_of X G z5, W.mg_none_of X G z6, W.mg_none_of X G z7, W.mg_of X G g1, ⟨t1, W.mg_of X G c1⟩, W.mg_of X G aC,
    ⟨pg, hd, po, sa⟩, n1, n2, atC, cg, ct, moC, k1, k2, k3, k4, k5, k6, k7, k8, k9, k10, k11, k12⟩
/-- the error's class -/
structure XAt (K : W.Frag) (mg : Str → Option Value) (XC : Addr) : Prop where
  ox : OexC K XC
  nv : W.findIn K (.ref XC) "value" = some none
  xm : W.exmOne K (.ref XC) (.ref XC) = some true
  mX : mg "InvalidRow" = some (.ref XC)
  fn : ∃ (f : Addr) (fd : FuncData), W.findIn K (.ref XC) "__init__" = some (some (.ref f)) ∧ W.typeIn K (.ref f) = some (.type "function") ∧ Fun K "__init__" "InvalidRow.__init__" s_xinit f fd
theorem exm_self {S : Addr} (h1 : W.subIn K (.ref S) (.type "BaseException") = some true) (h2 : W.isClsIn K S = true) (h3 : W.typeIn K (.ref S) = some (.type "type")) (h4 : W.subIn K (.ref S) (.ref S) = some true) :
    W.exmOne K (.ref S) (.ref S) = some true := by
  have e1 : (W.subIn K (.ref S) (.type "BaseException") == some true) = true := by rw [h1] <;> rfl
  have e2 : ((W.clsIn K S).isSome && W.typeIn K (.ref S) == some (.type "type")) = true := by
    have h2' : (W.clsIn K S).isSome = true := h2
    rw [h2', h3] <;> rfl
  show (if (W.subIn K (.ref S) (.type "BaseException") == some true) = true then (if ((W.clsIn K S).isSome && W.typeIn K (.ref S) == some (.type "type")) = true then W.subIn K (.ref S) (.ref S) else none) else none) = some true
  rw [if_pos e1, if_pos e2]
  exact h4
theorem xat {XC f : Addr} (X : K.In h) (G : h.Ns mainGlobals mg) {nm q : Str} {N : Addr} {bs bm : List Value} {sn : List Str} {sub : List Value} {ab : Bool} {col : Option Bool} {dd : Option Addr} {k0 k1 k2 k3 k5 : Option Value}
    {oc : Value} {od an : Option Addr} {osl : Array (Option Value)} {kV doc pm cdv ct : Value}
    (aX : W.nsIn K mainGlobals "InvalidRow" = some (some (.ref XC)))
    (xl : K.lookup XC = some (excClassObj nm q XC N bs bm true sn sub ab col dd k0 k1 k2 k3 k5 "ValueError.__new__")) (xr : PySem.HandSPX.refsVE bm = true)
    (sa : W.findIn K (.ref XC) "__setattr__" = some (some (.builtin "object.__setattr__"))) (ex : W.subIn K (.ref XC) (.type "BaseException") = some true) (ty : W.typeIn K (.ref XC) = some (.type "type")) (kp : W.keepIn K (.ref XC) = true)
    (nv : W.findIn K (.ref XC) "value" = some none) (iC : W.isClsIn K XC = true) (sC : W.subIn K (.ref XC) (.ref XC) = some true)
    (a : W.findIn K (.ref XC) "__init__" = some (some (.ref f))) (t : W.typeIn K (.ref f) = some (.type "function"))
    (l : K.lookup f = some ⟨oc, od, .func (W.fnOf "__init__" "InvalidRow.__init__" (defArgs s_xinit) (defBody s_xinit) (defScope s_xinit) .none kV doc pm an cdv ct), osl⟩) (c : W.codeIn K cdv "InvalidRow.__init__" = true) (k : W.keepIn K (.ref f) = true) : XAt K mg XC :=
  ⟨⟨⟨nm, q, N, bs, bm, sn, sub, ab, col, dd, k0, k1, k2, k3, k5, xl, xr⟩, sa, ex, ty, kp⟩, nv, exm_self ex iC ty sC, W.mg_of X G aX, f, _, a, t, fun_mk l c k⟩
theorem tx2 (X : K.In h) (G : h.Ns mainGlobals mg) (z1 : W.nsIn K mainGlobals "abs" = some none) (z2 : W.nsIn K mainGlobals "max" = some none) (z3 : W.nsIn K mainGlobals "min" = some none) (z4 : W.nsIn K mainGlobals "divmod" = some none)
    (z5 : W.nsIn K mainGlobals "str" = some none) (z6 : W.nsIn K mainGlobals "range" = some none) (z7 : W.nsIn K mainGlobals "enumerate" = some none) (z8 : W.nsIn K mainGlobals "repr" = some none) : Txt2 mg :=
  ⟨W.mg_none_of X G z1, W.mg_none_of X G z2, W.mg_none_of X G z3, W.mg_none_of X G z4, W.mg_none_of X G z5, W.mg_none_of X G z6, W.mg_none_of X G z7, W.mg_none_of X G z8⟩
/-- a method stands -/
theorem me {C : Addr} {x qual : Str} {st : Stmt} {f : Addr} {oc : Value} {od an : Option Addr} {osl : Array (Option Value)} {kV doc pm cdv ct : Value} (a : W.findIn K (.ref C) x = some (some (.ref f))) (i : W.isFn K (.ref f) = true)
    (l : K.lookup f = some ⟨oc, od, .func (W.fnOf x qual (defArgs st) (defBody st) (defScope st) .none kV doc pm an cdv ct), osl⟩) (c : W.codeIn K cdv qual = true) (k : W.keepIn K (.ref f) = true) :
    ∃ (f : Addr) (fd : FuncData), W.findIn K (.ref C) x = some (some (.ref f)) ∧ W.isFn K (.ref f) = true ∧ Fun K x qual st f fd := ⟨f, _, a, i, fun_mk l c k⟩
theorem initR {C f : Addr} {oc : Value} {od an : Option Addr} {osl : Array (Option Value)} {kV doc pm cdv ct : Value} {Td t : Addr} {ot : Value} {odt : Option Addr} {slt : Array (Option Value)} {n : Nat} (a : W.findIn K (.ref C) "__init__" = some (some (.ref f))) (i : W.isFn K (.ref f) = true)
    (l : K.lookup f = some ⟨oc, od, .func (W.fnOf "__init__" "Ratio.__init__" (defArgs s_init) (defBody s_init) (defScope s_init) (.ref Td) kV doc pm an cdv ct), osl⟩) (c : W.codeIn K cdv "Ratio.__init__" = true) (k : W.keepIn K (.ref f) = true)
    (lt : K.lookup Td = some ⟨ot, odt, .seq #[.int 1 t] n, slt⟩) (mk : W.makesIn K C = true) (kc : W.keepIn K (.ref C) = true) : ∃ (f : Addr) (fd : FuncData), InitAt K f fd ∧ Mk K C f :=
  ⟨f, _, ⟨⟨oc, od, .ref Td, kV, doc, pm, an, cdv, ct, osl, rfl, l, c, .inr ⟨by simp, Td, _, [.int 1 t], n, rfl, lt, rfl, .cons ⟨t, rfl⟩ .nil⟩, .inl rfl⟩, k⟩, ⟨mk, a, i, kc⟩⟩
theorem all_mk {l : W.OpenLaw} {w : World} {fa C XC : Addr} (X : K.In h) (G : h.Ns mainGlobals mg) (hfa : mg "law" = some (.ref fa)) (T : Txt K mg C C) (T2 : Txt2 mg)
    (I : ∃ (f : Addr) (fd : FuncData), InitAt K f fd ∧ Mk K C f)
    (re : ∃ (f : Addr) (fd : FuncData), W.findIn K (.ref C) "__repr__" = some (some (.ref f)) ∧ W.isFn K (.ref f) = true ∧ Fun K "__repr__" "Ratio.__repr__" s_repr f fd) (XT : XAt K mg XC)
    (d1 : Dn K "is_integer" s_is_integer) (d2 : Dn K "is_list" s_is_list) (d3 : Dn K "is_number" s_is_number) (d4 : Dn K "are_numbers" s_are_numbers) (d5 : Dn K "is_row_of" s_is_row_of) (d6 : Dn K "are_rows_of" s_are_rows_of) (d7 : Dn K "is_table" s_is_table) (d8 : Dn K "ratio_of" s_ratio_of) (d9 : Dn K "ratio_row" s_ratio_row) (d10 : Dn K "from_long" s_from_long) (e1 : Dn K "_law_pot" s_pot) (e2 : Dn K "_law_draw" s_draw) (e3 : Dn K "_law_pick" s_pick) (e4 : Dn K "_law_low" s_low) (e5 : Dn K "_law_by" s_by) (e6 : Dn K "_law_passed" s_passed) (e7 : Dn K "_law_given_row" s_given_row) (e8 : Dn K "_law_given" s_given) (e9 : Dn K "_law_entry" s_entry) (e10 : Dn K "_law_row" s_lrow) (e11 : Dn K "_law_list" s_list) (e12 : Dn K "_law_table" s_table) (e13 : Dn K "_law_is_number" s_lnum) (e14 : Dn K "_law_is_row" s_lirow) (e15 : Dn K "_law_is_table" s_litab) (e16 : Dn K "_law_is_long" s_long) (e17 : Dn K "_law_lets" s_lets) (e18 : Dn K "_law_bent" s_bent) (e19 : Dn K "_law_right" s_right) (e20 : Dn K "law" s_law) :
    ∃ fd : FuncData, (∀ (s : Shared) (v : Value), BindsTo s fd ⟨[v], []⟩ [("_law_script", v)]) ∧ ∀ base : Heap, K.In base → base.Ns mainGlobals mg → FnG l.prog w K mg base L2.CX0 11 fa fd ["_law_script"] (spLaw K) := by
  obtain ⟨f_d1, fd_d1, Ad1⟩ := d1.at_ X G ["value"] fun _ _ _ _ _ _ us hl => match us, hl with | [_], _ => rfl
  obtain ⟨f_d2, fd_d2, Ad2⟩ := d2.at_ X G ["value"] fun _ _ _ _ _ _ us hl => match us, hl with | [_], _ => rfl
  obtain ⟨f_d3, fd_d3, Ad3⟩ := d3.at_ X G ["value"] fun _ _ _ _ _ _ us hl => match us, hl with | [_], _ => rfl
  obtain ⟨f_d4, fd_d4, Ad4⟩ := d4.at_ X G ["value"] fun _ _ _ _ _ _ us hl => match us, hl with | [_], _ => rfl
  obtain ⟨f_d5, fd_d5, Ad5⟩ := d5.at_ X G ["value", "wide"] fun _ _ _ _ _ _ us hl => match us, hl with | [_, _], _ => rfl
  obtain ⟨f_d6, fd_d6, Ad6⟩ := d6.at_ X G ["value", "most", "wide"] fun _ _ _ _ _ _ us hl => match us, hl with | [_, _, _], _ => rfl
  obtain ⟨f_d7, fd_d7, Ad7⟩ := d7.at_ X G ["value"] fun _ _ _ _ _ _ us hl => match us, hl with | [_], _ => rfl
  obtain ⟨f_d8, fd_d8, Ad8⟩ := d8.at_ X G ["number"] fun _ _ _ _ _ _ us hl => match us, hl with | [_], _ => rfl
  obtain ⟨f_d9, fd_d9, Ad9⟩ := d9.at_ X G ["numbers"] fun _ _ _ _ _ _ us hl => match us, hl with | [_], _ => rfl
  obtain ⟨f_d10, fd_d10, Ad10⟩ := d10.at_ X G ["row"] fun _ _ _ _ _ _ us hl => match us, hl with | [_], _ => rfl
  obtain ⟨f_e1, fd_e1, Ae1⟩ := e1.at_ X G ["_law_script", "_law_k"] fun _ _ _ _ _ _ us hl => match us, hl with | [_, _], _ => rfl
  obtain ⟨f_e2, fd_e2, Ae2⟩ := e2.at_ X G ["_law_pot_here", "_law_room"] fun _ _ _ _ _ _ us hl => match us, hl with | [_, _], _ => rfl
  obtain ⟨f_e3, fd_e3, Ae3⟩ := e3.at_ X G ["_law_pot_here", "_law_some"] fun _ _ _ _ _ _ us hl => match us, hl with | [_, _], _ => rfl
  obtain ⟨f_e4, fd_e4, Ae4⟩ := e4.at_ X G ["_law_top", "_law_bottom"] fun _ _ _ _ _ _ us hl => match us, hl with | [_, _], _ => rfl
  obtain ⟨f_e5, fd_e5, Ae5⟩ := e5.at_ X G ["_law_one", "_law_other"] fun _ _ _ _ _ _ us hl => match us, hl with | [_, _], _ => rfl
  obtain ⟨f_e6, fd_e6, Ae6⟩ := e6.at_ X G ["_law_pot_here", "_law_pair"] fun _ _ _ _ _ _ us hl => match us, hl with | [_, _], _ => rfl
  obtain ⟨f_e7, fd_e7, Ae7⟩ := e7.at_ X G ["_law_pot_here", "_law_row_here"] fun _ _ _ _ _ _ us hl => match us, hl with | [_, _], _ => rfl
  obtain ⟨f_e8, fd_e8, Ae8⟩ := e8.at_ X G ["_law_pot_here", "_law_rows"] fun _ _ _ _ _ _ us hl => match us, hl with | [_, _], _ => rfl
  obtain ⟨f_e9, fd_e9, Ae9⟩ := e9.at_ X G ["_law_pot_here"] fun _ _ _ _ _ _ us hl => match us, hl with | [_], _ => rfl
  obtain ⟨f_e10, fd_e10, Ae10⟩ := e10.at_ X G ["_law_pot_here", "_law_wide"] fun _ _ _ _ _ _ us hl => match us, hl with | [_, _], _ => rfl
  obtain ⟨f_e11, fd_e11, Ae11⟩ := e11.at_ X G ["_law_pot_here", "_law_wide", "_law_many"] fun _ _ _ _ _ _ us hl => match us, hl with | [_, _, _], _ => rfl
  obtain ⟨f_e12, fd_e12, Ae12⟩ := e12.at_ X G ["_law_pot_here", "_law_size"] fun _ _ _ _ _ _ us hl => match us, hl with | [_, _], _ => rfl
  obtain ⟨f_e13, fd_e13, Ae13⟩ := e13.at_ X G ["_law_value"] fun _ _ _ _ _ _ us hl => match us, hl with | [_], _ => rfl
  obtain ⟨f_e14, fd_e14, Ae14⟩ := e14.at_ X G ["_law_value", "_law_wide"] fun _ _ _ _ _ _ us hl => match us, hl with | [_, _], _ => rfl
  obtain ⟨f_e15, fd_e15, Ae15⟩ := e15.at_ X G ["_law_value"] fun _ _ _ _ _ _ us hl => match us, hl with | [_], _ => rfl
  obtain ⟨f_e16, fd_e16, Ae16⟩ := e16.at_ X G ["_law_value"] fun _ _ _ _ _ _ us hl => match us, hl with | [_], _ => rfl
  obtain ⟨f_e17, fd_e17, Ae17⟩ := e17.at_ X G ["_law_value"] fun _ _ _ _ _ _ us hl => match us, hl with | [_], _ => rfl
  obtain ⟨f_e18, fd_e18, Ae18⟩ := e18.at_ X G ["_law_pot_here", "_law_rows"] fun _ _ _ _ _ _ us hl => match us, hl with | [_, _], _ => rfl
  obtain ⟨f_e19, fd_e19, Ae19⟩ := e19.at_ X G ["_law_pot_here"] fun _ _ _ _ _ _ us hl => match us, hl with | [_], _ => rfl
  obtain ⟨g8, gd8, n8, F8⟩ := e20
  obtain ⟨fi, fid, FI, MI⟩ := I
  obtain ⟨fr, frd, ar, ir, FR⟩ := re
  obtain ⟨fx, fxd, ax, tx, FX⟩ := XT.fn
  have e := hfa.symm.trans (W.mg_of X G n8)
  cases e
  have bR := FR.binds (ps := ["self"]) fun _ _ _ _ _ _ us hl => match us, hl with | [_], _ => rfl
  have bX := FX.binds (ps := ["self", "value"]) fun _ _ _ _ _ _ us hl => match us, hl with | [_, _], _ => rfl
  refine ⟨gd8, ?_, fun base _ _ => ?_⟩
  · obtain ⟨oc, od, kV, doc, pm, an, cdv, ct, osl, rfl, lk, hcd⟩ := F8.ex
    exact fun s v => .of_eq rfl
  have N4 := ok_are_numbers (P := l.prog) (w := w) (base := base) Ad4 T Ad1 Ad2 Ad3
  have N5 := ok_is_row_of Ad5 T Ad4 N4
  have N6 := ok_are_rows_of Ad6 T Ad5 N5 Ad2
  have N7 := ok_is_table Ad7 T Ad6 N6 Ad2
  have N8 := ok_ratio_of (P := l.prog) (w := w) (base := base) Ad8 T Ad1 FI MI
  have N9 := ok_rowS Ad9 T Ad8 N8
  have NX := ok_xinit (P := l.prog) (w := w) (mg := mg) (base := base) FX XT.ox XT.nv
  have N10 := ok_from_long Ad10 T T2 Ad4 N4 Ad9 N9 XT.ox ax tx NX bX XT.mX
  have Np := ok_pot (P := l.prog) (w := w) (base := base) Ae1 T T2
  have Nd := ok_draw (P := l.prog) (w := w) (base := base) Ae2 T T2
  have Nk := ok_pick Ae3 T Ae2 Nd
  have Nl := ok_low (P := l.prog) (w := w) (base := base) Ae4 T T2
  have Nb := ok_by Ae5 T Ae4 Nl
  have Ns := ok_passed Ae6 T T2 Ae2 Nd Ad1 FI MI
  have Ng := ok_given_row Ae7 T T2 Ae2 Nd Ae6 Ns
  have NG := ok_given Ae8 T T2 Ae2 Nd Ae7 Ng
  have Ne := ok_entry (C := C) Ae9 T Ae3 Nk
  have Nr := ok_lrow Ae10 T T2 Ae9 Ne
  have Nt := ok_list Ae11 T T2 Ae10 Nr
  have NT := ok_table Ae12 T T2 Ae2 Nd Ae11 Nt Ae9 Ne Ae5 Nb
  have M1 := ok_lnum (P := l.prog) (w := w) (base := base) Ae13 T
  have M2 := ok_lirow Ae14 T Ae13 M1
  have M3 := ok_litab Ae15 T Ae14 M2
  have M4 := ok_long Ae16 T Ae13 M1
  have M5 := ok_lets Ae17 T XT.mX XT.xm Ad10 N10
  have NB := ok_bent (C := C) Ae18 T T2 Ae2 Nd Ae3 Nk
  have RR : RatR l.prog w K mg base C 1 := ⟨fr, frd, ar, ir, ok_repr FR T, bR⟩
  exact ok_law F8 T Ae1 Np Ae19 (ok_right Ae19 T T2 Ae2 Nd Ae8 NG Ae12 NT Ae18 NB Ad1 FI MI Ad7 N7 Ae15 M3 Ae17 M5 Ae16 M4 RR)
end
theorem walk {l : W.OpenLaw} {q : Program} {loose : List Str} {XP : (Str → Option Value) → Heap → Prop} {YP : World → Heap → Prop} {d : DefRec} {K : Params → W.Frag} (hn : l.most = some 63) (hdf : d.params.defaults = [])
    (hY : ∀ (w : World) (h : Heap), YP w h → (K w.params).In h)
    (F : ∀ (w : World) (mg : Str → Option Value) (fa : Addr) (h : Heap), (K w.params).In h → h.Ns mainGlobals mg → mg d.name = some (.ref fa) →
      ∃ fd : FuncData, (∀ (s : Shared) (u : Value), BindsTo s fd ⟨[u], []⟩ [("_law_script", u)]) ∧ ∀ base : Heap, (K w.params).In base → base.Ns mainGlobals mg → FnG l.prog w (K w.params) mg base L2.CX0 11 fa fd ["_law_script"] (spLaw (K w.params))) :
    W.WalkO q loose XP YP l.row.toRowW d [] (fun f vs => PySem.call f vs) :=
  walkG (n := 63) (k := 11) (x := "_law_script") (sp := spLaw) hn (by decide) hdf ⟨rfl, by decide, by decide⟩ hY F fun K H a ns hl _ hS => ⟨a, ns, rfl, hS, Nat.le_trans hl (by decide), fun _ => rfl⟩
end KT

set_option Elab.async false
set_option linter.all false
open PySem PySem.W PyProof.Rows
set_option maxRecDepth 100000 in
set_option maxHeartbeats 0 in
theorem PySem.Challenge.cw_tracewords_k12_any_values_as_tables_holds : PySem.Challenge.rw_tracewords_k12_any_values_as_tables.Holds := by
  w_on; o_law; k_head; (case hw => w_witness2)
  k_fill
  refine KT.walk (l := PySem.Challenge.rw_tracewords_k12_any_values_as_tables) rfl rfl (fun w h Y => PySem.W.kIn_of Y) ?F
  case F =>
    intro w mg fa h KX G hmg
    refine' KT.all_mk KX G hmg (KT.tx KX G ?q_aC ?q_z1 ?q_z2 ?q_z3 ?q_z4 ?q_z5 ?q_z6 ?q_z7 ?q_g1 ?q_c1 ?q_pg ?q_hd ?q_po ?q_sa ?q_n1 ?q_n2 ?q_atC ?q_cg ?q_ct ?q_moC ?q_k1 ?q_k2 ?q_k3 ?q_k4 ?q_k5 ?q_k6 ?q_k7 ?q_k8 ?q_k9 ?q_k10 ?q_k11 ?q_k12) (KT.tx2 KX G ?q_y1 ?q_y2 ?q_y3 ?q_y4 ?q_y5 ?q_y6 ?q_y7 ?q_y8) (KT.initR ?q_ia ?q_ii ?q_il ?q_ic ?q_ik ?q_it ?q_im ?q_ikc) (KT.me ?q_ra ?q_ri ?q_rl ?q_rc ?q_rk) (KT.xat KX G ?q_xa ?q_xl ?q_xr ?q_xs ?q_xe ?q_xt ?q_xk ?q_xv ?q_xi ?q_xc ?q_xn ?q_xf ?q_xfl ?q_xfc ?q_xfk) (KT.dn ?q_d1n ?q_d1l ?q_d1c ?q_d1k) (KT.dn ?q_d2n ?q_d2l ?q_d2c ?q_d2k) (KT.dn ?q_d3n ?q_d3l ?q_d3c ?q_d3k) (KT.dn ?q_d4n ?q_d4l ?q_d4c ?q_d4k) (KT.dn ?q_d5n ?q_d5l ?q_d5c ?q_d5k) (KT.dn ?q_d6n ?q_d6l ?q_d6c ?q_d6k) (KT.dn ?q_d7n ?q_d7l ?q_d7c ?q_d7k) (KT.dn ?q_d8n ?q_d8l ?q_d8c ?q_d8k) (KT.dn ?q_d9n ?q_d9l ?q_d9c ?q_d9k) (KT.dn ?q_d10n ?q_d10l ?q_d10c ?q_d10k) (KT.dn ?q_e1n ?q_e1l ?q_e1c ?q_e1k) (KT.dn ?q_e2n ?q_e2l ?q_e2c ?q_e2k) (KT.dn ?q_e3n ?q_e3l ?q_e3c ?q_e3k) (KT.dn ?q_e4n ?q_e4l ?q_e4c ?q_e4k) (KT.dn ?q_e5n ?q_e5l ?q_e5c ?q_e5k) (KT.dn ?q_e6n ?q_e6l ?q_e6c ?q_e6k) (KT.dn ?q_e7n ?q_e7l ?q_e7c ?q_e7k) (KT.dn ?q_e8n ?q_e8l ?q_e8c ?q_e8k) (KT.dn ?q_e9n ?q_e9l ?q_e9c ?q_e9k) (KT.dn ?q_e10n ?q_e10l ?q_e10c ?q_e10k) (KT.dn ?q_e11n ?q_e11l ?q_e11c ?q_e11k) (KT.dn ?q_e12n ?q_e12l ?q_e12c ?q_e12k) (KT.dn ?q_e13n ?q_e13l ?q_e13c ?q_e13k) (KT.dn ?q_e14n ?q_e14l ?q_e14c ?q_e14k) (KT.dn ?q_e15n ?q_e15l ?q_e15c ?q_e15k) (KT.dn ?q_e16n ?q_e16l ?q_e16c ?q_e16k) (KT.dn ?q_e17n ?q_e17l ?q_e17c ?q_e17k) (KT.dn ?q_e18n ?q_e18l ?q_e18c ?q_e18k) (KT.dn ?q_e19n ?q_e19l ?q_e19c ?q_e19k) (KT.dn ?q_e20n ?q_e20l ?q_e20c ?q_e20k)
    (case q_aC => first | k_is | kit_is)
    (case q_z1 => first | k_is | kit_is)
    (case q_z2 => first | k_is | kit_is)
    (case q_z3 => first | k_is | kit_is)
    (case q_z4 => first | k_is | kit_is)
    (case q_z5 => first | k_is | kit_is)
    (case q_z6 => first | k_is | kit_is)
    (case q_z7 => first | k_is | kit_is)
    (case q_g1 => first | k_is | kit_is)
    (case q_c1 => first | k_is | kit_is)
    (case q_pg => first | k_is | kit_is)
    (case q_hd => first | k_is | kit_is)
    (case q_po => first | k_is | kit_is)
    (case q_sa => first | k_is | kit_is)
    (case q_n1 => first | k_is | kit_is)
    (case q_n2 => first | k_is | kit_is)
    (case q_atC => first | k_is | kit_is)
    (case q_cg => first | k_is | kit_is)
    (case q_ct => first | k_is | kit_is)
    (case q_moC => first | k_is | kit_is)
    (case q_k1 => first | k_is | kit_is)
    (case q_k2 => first | k_is | kit_is)
    (case q_k3 => first | k_is | kit_is)
    (case q_k4 => first | k_is | kit_is)
    (case q_k5 => first | k_is | kit_is)
    (case q_k6 => first | k_is | kit_is)
    (case q_k7 => first | k_is | kit_is)
    (case q_k8 => first | k_is | kit_is)
    (case q_k9 => first | k_is | kit_is)
    (case q_k10 => first | k_is | kit_is)
    (case q_k11 => first | k_is | kit_is)
    (case q_k12 => first | k_is | kit_is)
    (case q_y1 => first | k_is | kit_is)
    (case q_y2 => first | k_is | kit_is)
    (case q_y3 => first | k_is | kit_is)
    (case q_y4 => first | k_is | kit_is)
    (case q_y5 => first | k_is | kit_is)
    (case q_y6 => first | k_is | kit_is)
    (case q_y7 => first | k_is | kit_is)
    (case q_y8 => first | k_is | kit_is)
    (case q_ia => first | k_is | kit_is)
    (case q_ii => first | k_is | kit_is)
    (case q_il => first | k_is | kit_is)
    (case q_ic => first | k_is | kit_is)
    (case q_ik => first | k_is | kit_is)
    (case q_it => first | k_is | kit_is)
    (case q_im => first | k_is | kit_is)
    (case q_ikc => first | k_is | kit_is)
    (case q_ra => first | k_is | kit_is)
    (case q_ri => first | k_is | kit_is)
    (case q_rl => first | k_is | kit_is)
    (case q_rc => first | k_is | kit_is)
    (case q_rk => first | k_is | kit_is)
    (case q_xa => first | k_is | kit_is)
    (case q_xl => first | k_is | kit_is)
    (case q_xr => first | rfl | decide +kernel | k_is)
    (case q_xs => first | k_is | kit_is)
    (case q_xe => first | k_is | kit_is)
    (case q_xt => first | k_is | kit_is)
    (case q_xk => first | k_is | kit_is)
    (case q_xv => first | k_is | kit_is)
    (case q_xi => first | k_is | kit_is)
    (case q_xc => first | k_is | kit_is)
    (case q_xn => first | k_is | kit_is)
    (case q_xf => first | k_is | kit_is)
    (case q_xfl => first | k_is | kit_is)
    (case q_xfc => first | k_is | kit_is)
    (case q_xfk => first | k_is | kit_is)
    (case q_d1n => first | k_is | kit_is)
    (case q_d1l => first | k_is | kit_is)
    (case q_d1c => first | k_is | kit_is)
    (case q_d1k => first | k_is | kit_is)
    (case q_d2n => first | k_is | kit_is)
    (case q_d2l => first | k_is | kit_is)
    (case q_d2c => first | k_is | kit_is)
    (case q_d2k => first | k_is | kit_is)
    (case q_d3n => first | k_is | kit_is)
    (case q_d3l => first | k_is | kit_is)
    (case q_d3c => first | k_is | kit_is)
    (case q_d3k => first | k_is | kit_is)
    (case q_d4n => first | k_is | kit_is)
    (case q_d4l => first | k_is | kit_is)
    (case q_d4c => first | k_is | kit_is)
    (case q_d4k => first | k_is | kit_is)
    (case q_d5n => first | k_is | kit_is)
    (case q_d5l => first | k_is | kit_is)
    (case q_d5c => first | k_is | kit_is)
    (case q_d5k => first | k_is | kit_is)
    (case q_d6n => first | k_is | kit_is)
    (case q_d6l => first | k_is | kit_is)
    (case q_d6c => first | k_is | kit_is)
    (case q_d6k => first | k_is | kit_is)
    (case q_d7n => first | k_is | kit_is)
    (case q_d7l => first | k_is | kit_is)
    (case q_d7c => first | k_is | kit_is)
    (case q_d7k => first | k_is | kit_is)
    (case q_d8n => first | k_is | kit_is)
    (case q_d8l => first | k_is | kit_is)
    (case q_d8c => first | k_is | kit_is)
    (case q_d8k => first | k_is | kit_is)
    (case q_d9n => first | k_is | kit_is)
    (case q_d9l => first | k_is | kit_is)
    (case q_d9c => first | k_is | kit_is)
    (case q_d9k => first | k_is | kit_is)
    (case q_d10n => first | k_is | kit_is)
    (case q_d10l => first | k_is | kit_is)
    (case q_d10c => first | k_is | kit_is)
    (case q_d10k => first | k_is | kit_is)
    (case q_e1n => first | k_is | kit_is)
    (case q_e1l => first | k_is | kit_is)
    (case q_e1c => first | k_is | kit_is)
    (case q_e1k => first | k_is | kit_is)
    (case q_e2n => first | k_is | kit_is)
    (case q_e2l => first | k_is | kit_is)
    (case q_e2c => first | k_is | kit_is)
    (case q_e2k => first | k_is | kit_is)
    (case q_e3n => first | k_is | kit_is)
    (case q_e3l => first | k_is | kit_is)
    (case q_e3c => first | k_is | kit_is)
    (case q_e3k => first | k_is | kit_is)
    (case q_e4n => first | k_is | kit_is)
    (case q_e4l => first | k_is | kit_is)
    (case q_e4c => first | k_is | kit_is)
    (case q_e4k => first | k_is | kit_is)
    (case q_e5n => first | k_is | kit_is)
    (case q_e5l => first | k_is | kit_is)
    (case q_e5c => first | k_is | kit_is)
    (case q_e5k => first | k_is | kit_is)
    (case q_e6n => first | k_is | kit_is)
    (case q_e6l => first | k_is | kit_is)
    (case q_e6c => first | k_is | kit_is)
    (case q_e6k => first | k_is | kit_is)
    (case q_e7n => first | k_is | kit_is)
    (case q_e7l => first | k_is | kit_is)
    (case q_e7c => first | k_is | kit_is)
    (case q_e7k => first | k_is | kit_is)
    (case q_e8n => first | k_is | kit_is)
    (case q_e8l => first | k_is | kit_is)
    (case q_e8c => first | k_is | kit_is)
    (case q_e8k => first | k_is | kit_is)
    (case q_e9n => first | k_is | kit_is)
    (case q_e9l => first | k_is | kit_is)
    (case q_e9c => first | k_is | kit_is)
    (case q_e9k => first | k_is | kit_is)
    (case q_e10n => first | k_is | kit_is)
    (case q_e10l => first | k_is | kit_is)
    (case q_e10c => first | k_is | kit_is)
    (case q_e10k => first | k_is | kit_is)
    (case q_e11n => first | k_is | kit_is)
    (case q_e11l => first | k_is | kit_is)
    (case q_e11c => first | k_is | kit_is)
    (case q_e11k => first | k_is | kit_is)
    (case q_e12n => first | k_is | kit_is)
    (case q_e12l => first | k_is | kit_is)
    (case q_e12c => first | k_is | kit_is)
    (case q_e12k => first | k_is | kit_is)
    (case q_e13n => first | k_is | kit_is)
    (case q_e13l => first | k_is | kit_is)
    (case q_e13c => first | k_is | kit_is)
    (case q_e13k => first | k_is | kit_is)
    (case q_e14n => first | k_is | kit_is)
    (case q_e14l => first | k_is | kit_is)
    (case q_e14c => first | k_is | kit_is)
    (case q_e14k => first | k_is | kit_is)
    (case q_e15n => first | k_is | kit_is)
    (case q_e15l => first | k_is | kit_is)
    (case q_e15c => first | k_is | kit_is)
    (case q_e15k => first | k_is | kit_is)
    (case q_e16n => first | k_is | kit_is)
    (case q_e16l => first | k_is | kit_is)
    (case q_e16c => first | k_is | kit_is)
    (case q_e16k => first | k_is | kit_is)
    (case q_e17n => first | k_is | kit_is)
    (case q_e17l => first | k_is | kit_is)
    (case q_e17c => first | k_is | kit_is)
    (case q_e17k => first | k_is | kit_is)
    (case q_e18n => first | k_is | kit_is)
    (case q_e18l => first | k_is | kit_is)
    (case q_e18c => first | k_is | kit_is)
    (case q_e18k => first | k_is | kit_is)
    (case q_e19n => first | k_is | kit_is)
    (case q_e19l => first | k_is | kit_is)
    (case q_e19c => first | k_is | kit_is)
    (case q_e19k => first | k_is | kit_is)
    (case q_e20n => first | k_is | kit_is)
    (case q_e20l => first | k_is | kit_is)
    (case q_e20c => first | k_is | kit_is)
    (case q_e20k => first | k_is | kit_is)
#print axioms PySem.Challenge.cw_tracewords_k12_any_values_as_tables_holds
