import PyProof.Rows.All
import Wide.All
import OpenK.AllK
import Wide.FinOn
import HandS.ForMost
import HandS.IsInst
import HandS.Property
import HandS.Gcd
import HandS.Defaults
import HandS.FStr
import HandS.Style
import HandS.TupMul
import HandS.MakeKw
import HandS.Small
import HandS.Walk
import PySem.Challenge.RW_tracewords_k22_any_value_as_a_word
set_option Elab.async false
set_option linter.all false
set_option maxRecDepth 100000
set_option maxHeartbeats 2000000
namespace TW
open PySem L2 Builtin

/-- x is written as t at every place where the frames are ours, no writing of the objects as is under way, and Room lv is left; nothing that is tracked changes -/
def Rp (X : Cx) (H : Hp) (as : List Addr) (lv : Nat) (x : V) (t : Str) : Prop :=
  ∀ (A : Around) (g : List Code) (pins : List (Addr × Obj)) (σ : L2.St) (s : Shared) (u : Value) (b : Nat) (E : Value → Shared → Prop) (Q : Str → Shared → Prop),
    A.frames = some X.stack → A.guards = some g → (∀ a ∈ as, Clear g a) → Room lv A → Inv X pins σ H s → RelV x u → b + t.length ≤ sizeLine →
    (∀ s', Inv X pins σ H s' → Q t s') → wpAny (model X.prog X.w) A (pyReprUnder b u) Q E s

section
variable {X : Cx} {H : Hp}
theorem Rp.leaf {as : List Addr} {lv : Nat} {x : V} {t : Str} (h : ∀ u, RelV x u → ReprIs X.prog X.w u t) : Rp X H as lv x t := by
  intro A g pins σ s u b E Q _ _ _ _ I r hb hQ
  exact h u r b hb A E s Q fun tk => hQ _ (I.tok tk)
theorem Rp.more {as as' : List Addr} {lv lv' : Nat} {x : V} {t : Str} (h : Rp X H as lv x t) (hs : ∀ c ∈ as, c ∈ as') (hl : lv ≤ lv') : Rp X H as' lv' x t :=
  fun A g pins σ s u b E Q hf hg hc hr I r hb hQ => h A g pins σ s u b E Q hf hg (fun c z => hc c (hs c z)) (hr.mono hl) I r hb hQ
theorem Rp.non {as : List Addr} {lv : Nat} : Rp X H as lv .non "None" := Rp.leaf fun u r => by
  cases (show u = Value.none from r)
  exact ReprIs.none
theorem Rp.bl {as : List Addr} {lv : Nat} (y : Bool) : Rp X H as lv (.bl y) (if y then "True" else "False") := Rp.leaf fun u r => by
  cases (show u = Value.bool y from r)
  exact ReprIs.bool y
theorem Rp.int {as : List Addr} {lv : Nat} {i : Int} (h : i.natAbs.log2 < 1920) : Rp X H as lv (.int i) (toString i) := Rp.leaf fun u r => by
  obtain ⟨t, q⟩ := (show ∃ t, u = Value.int i t from r)
  subst q
  exact ReprIs.int t h
theorem Rp.str {as : List Addr} {lv : Nat} {z : Str} (h : (reprText z).length ≤ sizeLine) : Rp X H as lv (.str z) (reprText z) := Rp.leaf fun u r => by
  obtain ⟨t, q⟩ := (show ∃ t, u = Value.str z t from r)
  subst q
  exact ReprIs.str z t h

theorem fr_loop {A : Around} {args : Args} : (A.under (.builtin "list.__repr__.loop" args)).frames = A.frames := by
  first | rfl | simp [Around.under, Code.envs, Code.isFrame, pushEnvs]
theorem dp_loop {A : Around} {args : Args} : (A.under (.builtin "list.__repr__.loop" args)).depth = A.depth + 1 := by
  first | rfl | simp [Around.under, Code.weight, Code.isCreation, Code.isGuard, Code.isCaller, Code.frames, Code.isFrame, guardIds]
theorem hd_loop {A : Around} {args : Args} : (A.under (.builtin "list.__repr__.loop" args)).handled = A.handled := by
  first | rfl | simp [Around.under]
theorem room_loop {A : Around} {lv : Nat} (r : Room (lv + 1) A) (args : Args) : Room lv (A.under (.builtin "list.__repr__.loop" args)) := by
  obtain ⟨h1, h2, h3⟩ := r
  refine ⟨hd_loop.trans h1, ?_, ?_⟩
  · rw [dp_loop]; omega
  · rw [units_under_list_loop]; omega

/-- the loop of a list's writing: P holds the parts written so far -/
theorem loopR {as : List Addr} {lv : Nat} {a P : Addr} {xs : List V} {ts : List Str} {b : Nat} {A : Around} {g : List Code} {R : Result → Shared → Prop} {pins : List (Addr × Obj)} {σ : L2.St}
    (hlen : ts.length = xs.length) (hT : ∀ (i : Nat) (x : V), xs[i]? = some x → ∃ t, ts[i]? = some t ∧ Rp X H as lv x t) (ha : SqL X.K H a xs) (hna : a ∉ as)
    (hf : A.frames = some X.stack) (hg : A.guards = some g) (hcl : ∀ c ∈ as, Clear g c) (hr : Room (lv + 1) A) (hsz : b + (listText ts).length ≤ sizeLine) (fp : FpOk X pins H P)
    (hR : ∀ s' u, Inv X pins σ H s' → R (.ok (.ret (.str (listText ts) u))) s') :
    ∀ (k i : Nat) (s : Shared) (acc : Array Value) (c : Nat) (done : List (Str × Tok)), xs.length - i = k → i ≤ xs.length → Inv X pins σ H s →
      s.heap.get? P = some { cls := .type "list", dict := none, data := .seq acc c, slots := #[] } → acc.toList = strValues done → done.map (·.1) = ts.take i →
      codeAny (model X.prog X.w) A (.builtin "list.__repr__.loop" ⟨[.ref a, rawInt i, .ref P, rawInt ((b + piled (ts.take i) : Nat) : Int)], []⟩) R s := by
  have eL : (listText ts).length = (textFrom 0 "[" ts).length + 1 := by
    show (textFrom 0 "[" ts ++ "]").length = _
    rw [strLen_append]
    rfl
  have tl := textFrom_len ts 0 "["
  have z1 : xs.length ≤ sizeLine := by
    have q := tl.1
    rw [if_neg (Nat.lt_irrefl 0)] at q
    omega
  have z2 : ∀ t ∈ ts, t.length ≤ sizeLine := fun t ht => by
    have q := tl.2.1 t ht
    omega
  have z3 := piled_le_listText ts
  have z5 : (listText ts).length ≤ sizeLine := by omega
  obtain ⟨f0, f1, f2, f3, f4, f5⟩ := fp
  intro k
  induction k with
  | zero =>
    intro i s acc c done hk hi I hP hacc hdone
    have ei : i = xs.length := by omega
    obtain ⟨its, rv, ⟨o, n, e1, _, _, e2⟩, _⟩ := I.list ha
    have li := rv.length
    refine codeAny_builtin F.entry_list_repr_loop ?_
    show wpAny _ _ («list.__repr__.loop» ⟨[.ref a, .int i 0, .ref P, .int ((b + piled (ts.take i) : Nat) : Int) 0], []⟩) _ _ s
    rw [repr_loop_tree]
    refine wpAny_bind (wpAny_listItems e1 e2 ?_)
    have no : its.toArray[(i : Int).toNat]? = none := by simp; omega
    simp only [no]
    unfold reprEnd
    refine wpAny_bind (wpAny_listItems hP rfl ?_)
    rw [hacc, repr_fold]
    refine wpAny_bind (wpAny_pure ?_)
    have ed : done.map (·.1) = ts := by rw [hdone, ei, ← hlen, List.take_length]
    rw [ed]
    exact wpAny_bind (wpAny_mkStr (wpAny_pure (hR _ _ (I.tok _))) z5)
  | succ k ih =>
    intro i s acc c done hk hi I hP hacc hdone
    have lt : i < xs.length := by omega
    obtain ⟨its, rv, ⟨o, n, e1, _, _, e2⟩, _⟩ := I.list ha
    obtain ⟨u, eu, ru⟩ := rv.get (i := i) (x := xs[i]) (by simp [lt])
    obtain ⟨t, et, rp⟩ := hT i xs[i] (by simp [lt])
    have p1 := piled_take_succ et
    have p2 := piled_take_le ts (i + 1)
    refine codeAny_builtin F.entry_list_repr_loop ?_
    show wpAny _ _ («list.__repr__.loop» ⟨[.ref a, .int i 0, .ref P, .int ((b + piled (ts.take i) : Nat) : Int) 0], []⟩) _ _ s
    rw [repr_loop_tree]
    refine wpAny_bind (wpAny_listItems e1 e2 ?_)
    have so : its.toArray[(i : Int).toNat]? = some u := by simpa using eu
    simp only [so]
    rw [Int.toNat_natCast]
    have I1 : Inv X (pins ++ pinsAt [P] s.heap) σ H s := I.pinned (fp := [P]) (fun c hc => by
      cases List.mem_singleton.mp hc
      exact ⟨f0, f1, f2, f3, f4, f5⟩) fun c hc => by
      cases List.mem_singleton.mp hc
      exact ⟨_, hP, fun _ q => nomatch q⟩
    refine wpAny_bind (wpAny_holding (rp _ _ (pins ++ pinsAt [P] s.heap) σ s u _ _ _ (fr_loop.trans hf) (guards_under_guard (isGuard_list_loop _) hg) (fun c hc => (hcl c hc).cons (a := a) fun e => hna (e ▸ hc)) (room_loop hr _) I1 ru (by omega) fun s' I2 => ?_))
    have hP2 : s'.heap.get? P = some { cls := .type "list", dict := none, data := .seq acc c, slots := #[] } := (I2.pin (P, _) (List.mem_append_right _ (List.mem_append_right _ (mem_pinsAt (List.mem_singleton.mpr rfl) hP)))).1
    have I3 := I2.unpinned
    refine wpAny_bind (wpAny_mkStr ?_ (z2 t (List.mem_of_getElem? et)))
    refine wpAny_bind ?_
    show wpAny _ _ (updateSeq P _) _ _ _
    have hasz : acc.size ≤ sizeLine := by
      have q1 : acc.toList.length = acc.size := by simp
      have q2 : (strValues done).length = done.length := by simp [strValues]
      have q3 : done.length = (ts.take i).length := by rw [← hdone, List.length_map]
      have q4 : (ts.take i).length ≤ i := by rw [List.length_take]; omega
      rw [hacc] at q1
      omega
    refine wpAny_updateSeq hP2 rfl (wpAny_pure ⟨F.quiet_list_repr_loop _, ?_⟩) hasz
    have q1 : ((i : Int) + 1) = ((i + 1 : Nat) : Int) := by omega
    have q2 : b + piled (ts.take i) + (t.length + 2) = b + piled (ts.take (i + 1)) := by omega
    rw [q1, q2]
    refine ih (i + 1) _ (acc.push (.str t s'.toks)) _ (done ++ [(t, s'.toks)]) (by omega) lt ?_ (Heap.get?_update_self _ hP2 rfl) (by simp [hacc, strValues]) (by simp [List.take_add_one, et, hdone])
    exact I3.turned (fun c o' hc e => (Heap.get?_update_other _ _ (fun h : P = c => hc h.symm)).trans e) f0 f1 f3 f4 f5

abbrev EndOf (X : Cx) (A : Around) (R : Result → Shared → Prop) : Fin → Shared → Prop := fun fin s' => match fin with
  | .done f => R (.ok f) s'
  | .again c' => c'.quiet = true ∧ codeAny (model X.prog X.w) A c' R s'

theorem no_same {g : List Code} {a : Addr} (h : Clear g a) : ∀ v rest kw, Code.builtin "list.__repr__.loop" ⟨v :: rest, kw⟩ ∈ g → Builtin.List.listSameRef v (.ref a) = false :=
  fun v rest kw hm => listSameRef_of_ne (h _ v rest kw hm)

theorem list_at {as : List Addr} {lv : Nat} {a : Addr} {xs : List V} {ts : List Str} {b : Nat} {A : Around} {g : List Code} {R : Result → Shared → Prop} {pins : List (Addr × Obj)} {σ : L2.St} {s : Shared}
    (hlen : ts.length = xs.length) (hT : ∀ (i : Nat) (x : V), xs[i]? = some x → ∃ t, ts[i]? = some t ∧ Rp X H as lv x t) (ha : SqL X.K H a xs) (hna : a ∉ as)
    (hf : A.frames = some X.stack) (hg : A.guards = some g) (hcl : ∀ c ∈ a :: as, Clear g c) (hr : Room (lv + 1) A) (hsz : b + (listText ts).length ≤ sizeLine) (I : Inv X pins σ H s)
    (hR : ∀ s' u, Inv X pins σ H s' → R (.ok (.ret (.str (listText ts) u))) s') :
    wpAny (model X.prog X.w) A.in1 (Builtin.listReprAt b ⟨[.ref a], []⟩) (EndOf X A R) (fun e s' => R (.error e) s') s := by
  obtain ⟨its, rv, ⟨o, n, e1, _, _, e2⟩, _⟩ := I.list ha
  have li := rv.length
  cases its with
  | nil =>
    obtain rfl : xs = [] := List.eq_nil_of_length_eq_zero li
    obtain rfl : ts = [] := List.eq_nil_of_length_eq_zero hlen
    exact wpAny_list_repr_empty e1 e2 (hR _ _ (I.tok _))
  | cons v l =>
    refine wpAny_list_repr_head (A := A.in1) hg (no_same (hcl a (List.Mem.head _))) e1 e2 ?_
    refine wpAny_bind (m := newList []) (wpAny_newObj_type ?_)
    refine wpAny_pure ⟨F.quiet_list_repr_loop _, ?_⟩
    have I1 : Inv X pins σ H { s with heap := s.heap.push { cls := .type "list", data := .seq #[] } } := I.kept (t' := s.toks) fun b u e => Heap.get?_push_of_some _ e
    exact loopR hlen hT ha hna hf hg (fun c hc => hcl c (List.Mem.tail _ hc)) hr hsz (I.fpOk (Nat.le_refl _) (I.hok.fresh (Nat.le_refl _))) hR xs.length 0 _ #[] _ [] rfl (Nat.zero_le _) I1 (Heap.get?_push_size _ rfl) rfl (by simp)

/-- the same of a whole call of the built-in repr -/
def Rc (X : Cx) (H : Hp) (as : List Addr) (lv : Nat) (x : V) (t : Str) : Prop :=
  ∀ (A : Around) (g : List Code) (pins : List (Addr × Obj)) (σ : L2.St) (s : Shared) (u : Value) (E : Value → Shared → Prop) (Q : Value → Shared → Prop),
    A.frames = some X.stack → A.guards = some g → (∀ a ∈ as, Clear g a) → Room lv A → Inv X pins σ H s → RelV x u → t.length ≤ sizeLine →
    (∀ s' tk, Inv X pins σ H s' → Q (.str t tk) s') → wpAny (model X.prog X.w) A (call (.builtin "repr") [u]) Q E s

theorem Rp.list {as : List Addr} {lv : Nat} {a : Addr} {xs : List V} {ts : List Str} (ha : SqL X.K H a xs) (hna : a ∉ as)
    (hlen : ts.length = xs.length) (hT : ∀ (i : Nat) (x : V), xs[i]? = some x → ∃ t, ts[i]? = some t ∧ Rp X H as lv x t) : Rp X H (a :: as) (lv + 1) (.ref a) (listText ts) := by
  intro A g pins σ s u b E Q hf hg hcl hr I r hb hQ
  cases (show u = Value.ref a from r)
  obtain ⟨its, rv, ⟨o, n, e1, e3, _, e2⟩, _⟩ := I.list ha
  refine wpAny_pyReprUnder_ref (by omega) (wpAny_pyReprObjUnder_twin (twin := "list.__repr__.under") ⟨o, e1, e3⟩ F.slot_list_repr.toG rfl hr.units0 ?_)
  exact call_twin_plain F.plain_list_repr_under F.entry_list_repr_under F.check_list_repr_under ⟨o, e1, e3⟩ F.slot_list_repr.toG (F.args_list_repr_1 _)
    (list_at (R := callEnd (fun v s' => (∃ x u, v = Value.str x u) ∧ ∃ x u, v = Value.str x u ∧ Q x s') E) hlen hT ha hna hf hg hcl hr hb I fun s' u I' => ⟨⟨_, _, rfl⟩, _, _, rfl, hQ s' I'⟩)

theorem Rc.list {as : List Addr} {lv : Nat} {a : Addr} {xs : List V} {ts : List Str} (ha : SqL X.K H a xs) (hna : a ∉ as)
    (hlen : ts.length = xs.length) (hT : ∀ (i : Nat) (x : V), xs[i]? = some x → ∃ t, ts[i]? = some t ∧ Rp X H as lv x t) : Rc X H (a :: as) (lv + 2) (.ref a) (listText ts) := by
  intro A g pins σ s u E Q hf hg hcl hr I r hb hQ
  cases (show u = Value.ref a from r)
  obtain ⟨its, rv, ⟨o, n, e1, e3, _, e2⟩, _⟩ := I.list ha
  refine call_repr_slot (by have := hr.un; omega) ⟨o, e1, e3⟩ F.slot_list_repr.toG ?_
  exact wpAny_call (codeAny_call_builtin F.slot_list_repr.plain F.entry_list_repr (F.slot_list_repr.check _ _ _ _ _ _ _ _ ⟨o, e1, e3⟩ (F.args_list_repr_1 _)
    (list_at (A := A.in1) (b := 0) (R := callEnd (fun v s' => ∃ x u, v = Value.str x u ∧ Q v s') E) hlen hT ha hna hf hg hcl hr.in1 (by omega) I fun s' u I' => ⟨_, _, rfl, hQ s' u I'⟩)))

/-! tuples -/
inductive RpAll (X : Cx) (H : Hp) (as : List Addr) (lv : Nat) : List V → List Str → Prop
  | nil : RpAll X H as lv [] []
  | cons {x : V} {t : Str} {l : List V} {ts : List Str} : Rp X H as lv x t → RpAll X H as lv l ts → RpAll X H as lv (x :: l) (t :: ts)
theorem RpAll.len {as : List Addr} {lv : Nat} : ∀ {l : List V} {ts : List Str}, RpAll X H as lv l ts → ts.length = l.length
  | _, _, .nil => rfl
  | _, _, .cons _ h => by simp [h.len]
theorem RpAll.at {as : List Addr} {lv : Nat} : ∀ {l : List V} {ts : List Str}, RpAll X H as lv l ts → ∀ (i : Nat) (x : V), l[i]? = some x → ∃ t, ts[i]? = some t ∧ Rp X H as lv x t
  | _, _, .nil, _, _, q => by simp at q
  | _, _, .cons h _, 0, _, q => by
    simp at q
    subst q
    exact ⟨_, rfl, h⟩
  | _, _, .cons _ h, i + 1, x, q => by
    obtain ⟨t, e, r⟩ := h.at i x (by simpa using q)
    exact ⟨t, by simpa using e, r⟩

theorem tup_fold {as : List Addr} {lv : Nat} {A : Around} {g : List Code} {E : Value → Shared → Prop} {pins : List (Addr × Obj)} {σ : L2.St} (hf : A.frames = some X.stack) (hg : A.guards = some g) (hcl : ∀ c ∈ as, Clear g c) (hr : Room lv A) :
    ∀ (xs : List V) (us : List Value) (ts : List Str) (acc : Array Str) (n : Nat) (s : Shared) (Q : (Array Str × Nat) → Shared → Prop), Vals xs us → RpAll X H as lv xs ts → n + piled ts ≤ sizeLine → Inv X pins σ H s →
      (∀ s', Inv X pins σ H s' → Q ⟨acc ++ ts.toArray, n + piled ts⟩ s') → wpAny (model X.prog X.w) A (forIn us (⟨acc, n⟩ : (Array Str × Nat)) tupBody) Q E s := by
  intro xs
  induction xs with
  | nil =>
    intro us ts acc n s Q rv hT _ I h
    cases rv
    cases hT
    simp only [List.forIn_nil]
    exact wpAny_pure (by simpa [piled] using h s I)
  | cons x l ih =>
    intro us ts acc n s Q rv hT hn I h
    cases rv with
    | cons r1 r2 =>
      cases hT with
      | cons hx hl =>
        rename_i u us' t ts'
        rw [piled_cons] at hn
        rw [List.forIn_cons]
        refine wpAny_bind (wpAny_bind (hx A g pins σ s _ (n + 1) _ _ hf hg hcl hr I r1 (by omega) fun s' I' => wpAny_pure ?_))
        refine ih us' ts' (acc.push t) (n + (t.length + 2)) _ Q r2 hl (by omega) I' fun s2 I2 => ?_
        have q := h s2 I2
        have e : n + piled (t :: ts') = n + (t.length + 2) + piled ts' := by rw [piled_cons]; omega
        rw [e] at q
        simpa using q

theorem fr_id {A : Around} {id : String} {args : Args} (h1 : id = "tuple.__repr__" ∨ id = "tuple.__repr__.under") : (A.under (.builtin id args)).frames = A.frames ∧ (A.under (.builtin id args)).handled = A.handled ∧ (A.under (.builtin id args)).depth = A.depth + 1 ∧ (A.under (.builtin id args)).units = A.units + 1 := by
  rcases h1 with rfl | rfl
  · refine ⟨?_, ?_, ?_, ?_⟩ <;> first | rfl | simp [Around.under, Code.envs, Code.isFrame, pushEnvs, Code.weight, Code.isCreation, Code.isGuard, Code.isCaller, Code.frames, guardIds, Code.cUnits]
  · refine ⟨?_, ?_, ?_, ?_⟩ <;> first | rfl | simp [Around.under, Code.envs, Code.isFrame, pushEnvs, Code.weight, Code.isCreation, Code.isGuard, Code.isCaller, Code.frames, guardIds, Code.cUnits]

theorem tup_at {as : List Addr} {lv : Nat} {a : Addr} {xs : List V} {ts : List Str} {b : Nat} {A : Around} {g : List Code} {R : Result → Shared → Prop} {pins : List (Addr × Obj)} {σ : L2.St} {s : Shared} {id : String} {rest : List Value}
    (hid : id = "tuple.__repr__" ∨ id = "tuple.__repr__.under") (hgd : (Code.builtin id ⟨.ref a :: rest, []⟩).isGuard = true)
    (hT : RpAll X H as lv xs ts) (ha : SqT X.K H a xs) (hna : a ∉ as)
    (hf : A.frames = some X.stack) (hg : A.guards = some g) (hcl : ∀ c ∈ a :: as, Clear g c) (hr : Room (lv + 1) A) (hsz : b + (tupleText ts).length ≤ sizeLine) (I : Inv X pins σ H s)
    (hR : ∀ s' u, Inv X pins σ H s' → R (.ok (.ret (.str (tupleText ts) u))) s') :
    wpOwn (model X.prog X.w) A (.builtin id ⟨.ref a :: rest, []⟩) (Builtin.tupleReprAt b ⟨[.ref a], []⟩) (EndOf X A R) (fun e s' => R (.error e) s') s := by
  obtain ⟨its, rv, ⟨o, e1, e3, n, e2⟩, _⟩ := I.tuple ha
  obtain ⟨q1, q2, q3, q4⟩ := fr_id (A := A) (args := ⟨.ref a :: rest, []⟩) hid
  have hlen : ts.length = its.toArray.size := by rw [hT.len, rv.length]; simp
  have hp := piled_le_tupleText ts
  have clr : Clear g a := hcl a (List.Mem.head _)
  rw [tuple_repr_tree, tupleReprUnderWay_eq]
  refine wpOwn_bind (wpOwn_stackTailAny hg (tupGuardF_off _) (tupGuardF_pos _) ?_)
  have no : (g.any fun c => tupGuardF (.ref a) (c, default)) = false := List.any_eq_false.mpr fun c hc => by
    rw [tupGuardF_of_clear clr c hc]
    exact Bool.false_ne_true
  rw [no]
  refine wpOwn_of_wpAny ?_
  show wpAny _ _ (tupleReprRest b (.ref a)) _ _ s
  unfold tupleReprRest Builtin.Tuple.tupleItemsOf
  refine wpAny_bind (wpAny_bind (wpAny_seqItems e1 e2 (wpAny_pure ?_)))
  rw [← Array.forIn_toList]
  have rm : Room lv (A.under (.builtin id ⟨.ref a :: rest, []⟩)) := ⟨q2.trans hr.hd, by have := hr.dp; rw [q3]; omega, by have := hr.un; rw [q4]; omega⟩
  refine wpAny_bind (tup_fold (pins := pins) (σ := σ) (q1.trans hf) (guards_under_guard hgd hg) (fun c hc => (hcl c (List.Mem.tail _ hc)).cons (a := a) fun e => hna (e ▸ hc)) rm xs its ts _ _ s _ (by simpa using rv) hT (by omega) I fun s' I' => ?_)
  refine wpAny_bind (wpAny_mkStr (wpAny_pure ?_) (by have z : (tupleText ts).length ≤ sizeLine := by omega
                                                     simpa [tupleText, hlen] using z))
  have q := hR _ s'.toks (I'.tok (s'.toks + 1))
  simpa [tupleText, hlen] using q

theorem Rp.tup {as : List Addr} {lv : Nat} {a : Addr} {xs : List V} {ts : List Str} (ha : SqT X.K H a xs) (hna : a ∉ as) (hT : RpAll X H as lv xs ts) : Rp X H (a :: as) (lv + 1) (.ref a) (tupleText ts) := by
  intro A g pins σ s u b E Q hf hg hcl hr I r hb hQ
  cases (show u = Value.ref a from r)
  obtain ⟨its, rv, ⟨o, e1, e3, n, e2⟩, _⟩ := I.tuple ha
  refine wpAny_pyReprUnder_ref (by omega) (wpAny_pyReprObjUnder_twin (twin := "tuple.__repr__.under") ⟨o, e1, e3⟩ F.slot_tuple_repr rfl hr.units0 ?_)
  exact call_twin_own (F.quiet_tuple_repr_under _) F.entry_tuple_repr_under F.check_tuple_repr_under ⟨o, e1, e3⟩ F.slot_tuple_repr (F.args_tuple_repr_1 _)
    (tup_at (R := callEnd (fun v s' => (∃ x u, v = Value.str x u) ∧ ∃ x u, v = Value.str x u ∧ Q x s') E) (.inr rfl) (isGuard_tuple_repr_under _) hT ha hna hf hg hcl hr hb I fun s' u I' => ⟨⟨_, _, rfl⟩, _, _, rfl, hQ s' I'⟩)

theorem Rc.tup {as : List Addr} {lv : Nat} {a : Addr} {xs : List V} {ts : List Str} (ha : SqT X.K H a xs) (hna : a ∉ as) (hT : RpAll X H as lv xs ts) : Rc X H (a :: as) (lv + 2) (.ref a) (tupleText ts) := by
  intro A g pins σ s u E Q hf hg hcl hr I r hb hQ
  cases (show u = Value.ref a from r)
  obtain ⟨its, rv, ⟨o, e1, e3, n, e2⟩, _⟩ := I.tuple ha
  refine call_repr_slot (by have := hr.un; omega) ⟨o, e1, e3⟩ F.slot_tuple_repr ?_
  exact wpAny_call (codeAny_call_builtin_own (Code.quiet_builtin _ (by decide +kernel)) F.entry_tuple_repr (F.slot_tuple_repr.check _ _ _ _ _ _ _ _ ⟨o, e1, e3⟩ (F.args_tuple_repr_1 _)
    (tup_at (A := A.in1) (b := 0) (R := callEnd (fun v s' => ∃ x u, v = Value.str x u ∧ Q v s') E) (.inl rfl) (isGuard_tuple_repr _) hT ha hna hf hg hcl hr.in1 (by omega) I fun s' u I' => ⟨_, _, rfl, hQ s' u I'⟩)))

/-! dicts of ints -/
def kvText : List (Key × V) → List Str
  | [] => []
  | (Sum.inl k, .int v) :: r => (toString k ++ ": " ++ toString v : Str) :: kvText r
  | _ :: r => "" :: kvText r
def KvSmall : List (Key × V) → Prop
  | [] => True
  | (Sum.inl k, .int v) :: r => k.natAbs.log2 < 1920 ∧ v.natAbs.log2 < 1920 ∧ (toString k : Str).length ≤ sizeLine ∧ KvSmall r
  | _ :: _ => False
theorem entries_of {as : List Addr} {h₀ : Heap} : ∀ (kvs : List (Key × V)) (vs : List (Key × Value)) (es : List DictEntry), KV kvs vs → Pairs (mixKind X.prog X.w) es vs → KvSmall kvs → ReprEntriesK X.prog X.w as h₀ 0 es (kvText kvs)
  | [], _, _, .nil, .nil, _ => .nil
  | (k, v) :: r, _, _, .cons ⟨e1, e2⟩ t, .cons (e := e) p1 p2 p3, z => by
    rename_i kv _ _
    obtain ⟨k', v'⟩ := kv
    simp only at e1 e2 p1 p2
    subst e1
    rcases k with k | k
    · cases v with
      | int i =>
        obtain ⟨z1, z2, z3, z4⟩ := z
        rcases keyIs_shape (show keyIs (Sum.inl k) e.key = true from p1) with ⟨j, t1, q1, q2⟩ | ⟨x, t1, q1, q2⟩
        · cases q1
          obtain ⟨t2, q3⟩ := e2
          obtain ⟨ek, ev, eh⟩ := e
          simp only at p1 p2 q2
          subst q2
          subst p2
          subst q3
          exact .cons (ReprK.of_is (ReprIs.int t1 z1) _ _ _) (ReprK.of_is (ReprIs.int t2 z2) _ _ _) (entries_of r _ _ t p3 z4)
        · cases q1
      | _ => exact z.elim
    · exact z.elim
theorem Rp.of_K {as : List Addr} {lv d : Nat} {x : V} {t : Str} (hd : d ≤ 16 * lv + 200) (h : ∀ pins σ s u, Inv X pins σ H s → RelV x u → ReprK X.prog X.w as s.heap d u t) : Rp X H as lv x t := by
  intro A g pins σ s u b E Q hf hg hcl hr I r hb hQ
  exact h pins σ s u I r b hb A g E s Q hg hcl (by have := hr.un; omega) (fun _ _ e => e) fun h' tk hk => hQ _ (I.kept hk)
theorem Rp.dct {as : List Addr} {lv : Nat} {a : Addr} {kvs : List (Key × V)} (hd : H a = some (.dK kvs)) (hna : a ∉ as) (hz : KvSmall kvs) : Rp X H (a :: as) lv (.ref a) (dictText (kvText kvs)) :=
  Rp.of_K (d := 1) (by omega) fun pins σ s u I r => by
    cases (show u = Value.ref a from r)
    obtain ⟨z, hs, vs, kv, o, es, ep, e1, ⟨e2, _, _⟩, e3, _, pr, _⟩ := (show ObjOk X.prog X.w H s.heap a (.dK kvs) from I.hok a _ hd)
    exact ReprK.dict e1 e2 e3 hs hna (entries_of kvs vs es.toList kv pr hz)
theorem Rc.dct {as : List Addr} {lv : Nat} {a : Addr} {kvs : List (Key × V)} (hd : H a = some (.dK kvs)) (hna : a ∉ as) (hz : KvSmall kvs) : Rc X H (a :: as) lv (.ref a) (dictText (kvText kvs)) := by
  intro A g pins σ s u E Q hf hg hcl hr I r hb hQ
  cases (show u = Value.ref a from r)
  obtain ⟨z, hs, vs, kv, o, es, ep, e1, ⟨e2, _, _⟩, e3, _, pr, _⟩ := (show ObjOk X.prog X.w H s.heap a (.dK kvs) from I.hok a _ hd)
  refine call_repr_slot (by have := hr.un; omega) ⟨o, e1, e2⟩ F.slot_dict_repr ?_
  exact call_dict_reprK (h₀ := s.heap) (d := 0) e1 e2 e3 hs hna (entries_of kvs vs es.toList kv pr hz) hg hcl (by have := hr.un; show A.units + 1 + 1 < cLine; omega) (fun _ _ e => e) (fun h' u tk hk => ⟨_, _, rfl, hQ _ _ (I.kept hk)⟩) hb

/-! a dict of one list of an int -/
theorem entries_dl {as : List Addr} {pins : List (Addr × Obj)} {σ : L2.St} {sh : Shared} {b : Addr} {i j : Int} {vs : List (Key × Value)} {es : List DictEntry} (I : Inv X pins σ H sh) (hb : H b = some (.lst [.int j])) (hba : b ∉ as)
    (kv : KV [((Sum.inl i : Key), V.ref b)] vs) (pr : Pairs (mixKind X.prog X.w) es vs) (hi : i.natAbs.log2 < 1920) (hj : j.natAbs.log2 < 1920) : ReprEntriesK X.prog X.w (b :: as) sh.heap 1 es [(toString i ++ ": " ++ listText [toString j] : Str)] := by
  cases kv with
  | cons e12 t =>
    rename_i kv' _
    obtain ⟨k', v'⟩ := kv'
    obtain ⟨e1, e2⟩ := e12
    cases t
    cases pr with
    | cons p1 p2 p3 =>
      rename_i e _
      cases p3
      simp only at e1 e2 p1 p2
      subst e1
      rcases keyIs_shape (show keyIs (Sum.inl i) e.key = true from p1) with ⟨m, t1, q1, q2⟩ | ⟨x, t1, q1, q2⟩
      · cases q1
        cases (show v' = Value.ref b from e2)
        obtain ⟨ek, ev, eh⟩ := e
        simp only at p1 p2 q2
        subst q2
        subst p2
        obtain ⟨z, its, n, r, hl, eb⟩ := I.lstM hb
        cases r with
        | cons r1 r2 =>
          cases r2
          obtain ⟨t2, q3⟩ := r1
          subst q3
          have one : ∀ (m : Nat) (y : Value), ([Value.int j t2]).toArray[m]? = some y → ∃ t, [(toString j : Str)][m]? = some t ∧ ReprK X.prog X.w as sh.heap 0 y t := fun m y hy => by
            match m with
            | 0 =>
              have : Value.int j t2 = y := by simpa using hy
              subst this
              exact ⟨_, rfl, ReprK.of_is (ReprIs.int t2 hj) _ _ _⟩
            | m + 1 => simp at hy
          exact .cons (ReprK.of_is (ReprIs.int t1 hi) _ _ _) (ReprK.list eb rfl rfl hba rfl one) .nil
      · cases q1
theorem Rp.dl {as : List Addr} {lv : Nat} {a b : Addr} {i j : Int} (hd : H a = some (.dK [((Sum.inl i : Key), V.ref b)])) (hb : H b = some (.lst [.int j])) (hna : a ∉ b :: as) (hba : b ∉ as) (hi : i.natAbs.log2 < 1920) (hj : j.natAbs.log2 < 1920) :
    Rp X H (a :: b :: as) lv (.ref a) (dictText [(toString i ++ ": " ++ listText [toString j] : Str)]) :=
  Rp.of_K (d := 2) (by omega) fun pins σ s u I r => by
    cases (show u = Value.ref a from r)
    obtain ⟨z, hs, vs, kv, o, es, ep, e1, ⟨e2, _, _⟩, e3, _, pr, _⟩ := (show ObjOk X.prog X.w H s.heap a (.dK [((Sum.inl i : Key), V.ref b)]) from I.hok a _ hd)
    exact ReprK.dict e1 e2 e3 hs hna (entries_dl I hb hba kv pr hi hj)
theorem Rc.dl {as : List Addr} {lv : Nat} {a b : Addr} {i j : Int} (hd : H a = some (.dK [((Sum.inl i : Key), V.ref b)])) (hb : H b = some (.lst [.int j])) (hna : a ∉ b :: as) (hba : b ∉ as) (hi : i.natAbs.log2 < 1920) (hj : j.natAbs.log2 < 1920) :
    Rc X H (a :: b :: as) lv (.ref a) (dictText [(toString i ++ ": " ++ listText [toString j] : Str)]) := by
  intro A g pins σ s u E Q hf hg hcl hr I r hz hQ
  cases (show u = Value.ref a from r)
  obtain ⟨z, hs, vs, kv, o, es, ep, e1, ⟨e2, _, _⟩, e3, _, pr, _⟩ := (show ObjOk X.prog X.w H s.heap a (.dK [((Sum.inl i : Key), V.ref b)]) from I.hok a _ hd)
  refine call_repr_slot (by have := hr.un; omega) ⟨o, e1, e2⟩ F.slot_dict_repr ?_
  exact call_dict_reprK (h₀ := s.heap) (d := 1) e1 e2 e3 hs hna (entries_dl I hb hba kv pr hi hj) hg hcl (by have := hr.un; show A.units + 1 + 1 + 1 < cLine; omega) (fun _ _ e => e) (fun h' u tk hk => ⟨_, _, rfl, hQ _ _ (I.kept hk)⟩) hz

/-! leaves -/
theorem Rc.leaf {as : List Addr} {lv : Nat} {x : V} {t : Str} (h : ∀ u, RelV x u → ∀ (A : Around) (E : Value → Shared → Prop) (s : Shared) (Q : Value → Shared → Prop), t.length ≤ sizeLine → (∀ tk tk', Q (.str t tk) { s with toks := tk' }) → wpAny (model X.prog X.w) A (call (.builtin "repr") [u]) Q E s) : Rc X H as lv x t := by
  intro A g pins σ s u E Q _ _ _ _ I r hb hQ
  exact h u r A E s Q hb fun tk tk' => hQ _ _ (I.tok _)
theorem Rc.int {as : List Addr} {lv : Nat} {i : Int} (h : i.natAbs.log2 < 1920) : Rc X H as lv (.int i) (toString i) := Rc.leaf fun u r A E s Q hb hQ => by
  obtain ⟨t, q⟩ := (show ∃ t, u = Value.int i t from r)
  subst q
  exact PySem.P.repr_of_int h (hQ _ _)

theorem Rc.bl {as : List Addr} {lv : Nat} (y : Bool) : Rc X H as lv (.bl y) (if y then "True" else "False") := Rc.leaf fun u r A E s Q hb hQ => by
  cases (show u = Value.bool y from r)
  exact PySem.P.repr_of_bool (hQ _ _)
theorem Rc.non {as : List Addr} {lv : Nat} : Rc X H as lv .non "None" := Rc.leaf fun u r A E s Q hb hQ => by
  cases (show u = Value.none from r)
  exact PySem.P.repr_of_none (hQ _ _)
theorem Rc.str {as : List Addr} {lv : Nat} {z : Str} : Rc X H as lv (.str z) (reprText z) := Rc.leaf fun u r A E s Q hb hQ => by
  obtain ⟨t, q⟩ := (show ∃ t, u = Value.str z t from r)
  subst q
  exact PySem.P.repr_of_str (hQ _ _) hb

/-! an instance with a __repr__ of its own -/
theorem own_call {a f : Addr} {k : Nat} {fd : FuncData} {sp : Sp} {t : Str} {A : Around} {pins : List (Addr × Obj)} {σ : L2.St} {s : Shared} {E : Value → Shared → Prop} {Q : Value → Shared → Prop}
    (F : FnOk X.prog X.w X.K X.mg X.base CX0 k f fd ["self"] sp) (hb : Binds X.K fd ["self"] []) (hq : ∀ (Q : VK) (E : XK), Q (.str t) H → sp [.ref a] H Q E)
    (I : Inv X pins σ H s) (hf : A.frames = some X.stack) (hr : Room k A) (hQ : ∀ s' tk, Inv X pins σ H s' → Q (.str t tk) s') : wpAny (model X.prog X.w) A (call (.ref f) [.ref a]) Q E s := by
  refine wpAny_call (codeAny_mono (F.run A X.stack s H ⟨[.ref a], []⟩ [.ref a] [.ref a] (fun v H' => v = .str t ∧ H' = H) (fun _ _ _ => False) hr { I.env0 with frames := hf } (hb s [.ref a] I.kIn rfl) (.cons rfl .nil) (hq _ _ ⟨rfl, rfl⟩)) fun r s' h => ?_)
  cases r with
  | error e => exact False.elim h
  | ok fl =>
    cases fl with
    | ret u =>
      obtain ⟨v, H', I3, rv, ev, eh⟩ := I.after h
      subst ev
      subst eh
      obtain ⟨tk, q⟩ := (show ∃ tk, u = Value.str t tk from rv)
      subst q
      exact hQ s' tk I3
    | next => exact False.elim h
    | brk => exact False.elim h
    | cont => exact False.elim h

theorem bound_by {M : Model} {A : Around} {E : Value → Shared → Prop} {s : Shared} {K : PySem.W.Frag} {x C f : Addr} {ox : Obj} {od : Option Obj} {name : Str} {last : Value → List Value → Sem Value} {Q : Option Value → Shared → Prop}
    (kin : K.In s.heap) (at_ : PySem.W.InstAt s.heap x ox C od) (hs : PySem.W.findIn K (.ref C) name = some (some (.ref f))) (fn : PySem.W.isFn K (.ref f) = true)
    (h : wpAny M A (last (.ref f) [.ref x]) (fun v => Q (some v)) E s) : wpAny M A (callSpecialIfBoundBy? last (.ref x) name) Q E s := by
  have fin : wpAny M A (last (.ref f) [.ref x] >>= fun v => pure (some v)) Q E s := wpAny_bind (wpAny_mono h (fun _ _ z => wpAny_pure z) fun _ _ z => z)
  have bnd := PySem.W.bind_fn (M := M) kin (.ref x) (beq_iff_eq.mp fn)
  simp only [callSpecialIfBoundBy?, bindSpecialIfBound?]
  refine wpAny_holding (wpAny_bind (wpAny_bind (wpAny_bind (at_.type.here ((PySem.W.looks_findIn kin hs).here ?_)))))
  refine wpAny_bind (wpAny_askSetting (wpAny_ite ?_))
  split
  · exact wpAny_bind (bnd.here (wpAny_pure (by exact fin)))
  · exact wpAny_tryCatch (wpAny_bind (bnd.here (wpAny_pure (by exact fin))))

theorem Rp.own {as : List Addr} {C a f dx : Addr} {fs : List (Str × V)} {k : Nat} {fd : FuncData} {sp : Sp} {t : Str} (ha : H a = some (.ins C dx fs)) (hs : PySem.W.findIn X.K (.ref C) "__repr__" = some (some (.ref f))) (fn : PySem.W.isFn X.K (.ref f) = true)
    (F : FnOk X.prog X.w X.K X.mg X.base CX0 k f fd ["self"] sp) (hb : Binds X.K fd ["self"] []) (hq : ∀ (Q : VK) (E : XK), Q (.str t) H → sp [.ref a] H Q E) : Rp X H as k (.ref a) t := by
  intro A g pins σ s u b E Q hf hg hcl hr I r hz hQ
  cases (show u = Value.ref a from r)
  obtain ⟨mA, O, _⟩ := ins_get I.hok ha
  obtain ⟨od, J, _⟩ := O.look
  refine wpAny_pyReprUnder_ref (by omega) ?_
  unfold pyReprObjUnder pyReprObjBy
  refine wpAny_bind (wpAny_cRoomFor hr.units0 ?_)
  refine wpAny_bind (wpAny_bind (J.type.here ((PySem.W.looks_findIn I.kIn hs).here ?_)))
  show wpAny _ _ (if (some (Value.ref f)).isNone = true then _ else _) _ _ _
  rw [if_neg (by simp)]
  refine wpAny_bind (bound_by (name := Str.ofString "__repr__") I.kIn J hs fn ?_)
  refine own_call F hb hq I hf hr fun s' tk I' => ?_
  exact wpAny_bind (wpAny_isInstance (T := "str") (b := true) rfl isSubtype_str_str (wpAny_pure ⟨_, _, rfl, hQ s' I'⟩))
theorem Rc.own {as : List Addr} {C a f dx : Addr} {fs : List (Str × V)} {k : Nat} {fd : FuncData} {sp : Sp} {t : Str} (ha : H a = some (.ins C dx fs)) (hs : PySem.W.findIn X.K (.ref C) "__repr__" = some (some (.ref f))) (fn : PySem.W.isFn X.K (.ref f) = true)
    (F : FnOk X.prog X.w X.K X.mg X.base CX0 k f fd ["self"] sp) (hb : Binds X.K fd ["self"] []) (hq : ∀ (Q : VK) (E : XK), Q (.str t) H → sp [.ref a] H Q E) : Rc X H as (k + 1) (.ref a) t := by
  intro A g pins σ s u E Q hf hg hcl hr I r hz hQ
  cases (show u = Value.ref a from r)
  obtain ⟨mA, O, _⟩ := ins_get I.hok ha
  obtain ⟨od, J, _⟩ := O.look
  obtain ⟨m, Fm⟩ := I.fr
  refine PySem.W.repr_K hr.in1.units0 Fm I.ok.mod.kin J hs fn ?_
  exact own_call F hb hq I hf hr.in1 fun s' tk I' => hQ s' tk I'
end
end TW

set_option Elab.async false
set_option linter.all false
set_option maxRecDepth 100000
set_option maxHeartbeats 2000000
namespace TW
open PySem PySem.Spec L2

/-- a def's promise, as FnOk, where it is known that no writing of an object is under way -/
structure FnG (P : Program) (w : World) (K : W.Frag) (mg : Str → Option Value) (base : Heap) (CX : CXT) (k : Nat) (f : Addr) (fd : FuncData) (ps : List Str) (sp : Sp) : Prop where
  len : ∀ vs H Q E, sp vs H Q E → vs.length = ps.length
  go : ∀ (A : Around) (outer : List Env) (s : Shared) (H : Hp) (args : Args) (us : List Value) (vs : List V) (Q : VK) (E : XK), A.guards = some [] → Room k A → Env0 P w K mg base A outer s H →
    BindsTo s fd args (ps.zip us) → Vals vs us → sp vs H Q E → codeAny (model P w) A (.call (.ref f) args) (CR CX outer P w H s Q E) s

section
variable {P : Program} {w : World} {K : W.Frag} {mg : Str → Option Value} {base : Heap}
theorem FnG.mono {CX : CXT} {j k : Nat} {f : Addr} {fd : FuncData} {ps : List Str} {sp : Sp} (F : FnG P w K mg base CX j f fd ps sp) (h : j ≤ k) : FnG P w K mg base CX k f fd ps sp :=
  ⟨F.len, fun A o s H a us vs Q E g r => F.go A o s H a us vs Q E g (r.mono h)⟩

theorem okG {x qual : Str} {st : Stmt} {f : Addr} {fd : FuncData} {N ps : List Str} {k : Nat} {sp : Sp} (F : Fun K x qual st f fd) (S : FnScope N ps (defScope st))
    (len : ∀ vs H Q E, sp vs H Q E → vs.length = ps.length)
    (body : ∀ (cdv : Value) (A : Around) (outer : List Env) (s : Shared) (H : Hp) (vs : List V) (Q : VK) (E : XK), A.guards = some [] → Room k (A.deeper (PyProof.Rows.envOfC qual (defScope st) s.heap.objs.size f cdv)) → sp vs H Q E →
      ∃ t, PSs (cxOf L2.CX0 P w K mg base N qual (defScope st) f cdv A outer s H E).nox (defBody st) t ∧ t { nx := fun _ H' => Q .non H', rt := Q } (start N vs) H) : FnG P w K mg base L2.CX0 (k + 1) f fd ps sp := by
  obtain ⟨oc, od, kV, doc, pm, an, cdv, ct, osl, rfl, lk, hcd⟩ := F.ex
  refine ⟨len, fun A outer s H args us vs Q E gd room e0 bnd rv want => ?_⟩
  have lenV := len _ _ _ _ want
  have there : K.In s.heap := e0.mod.kin.keeps fun b o e => (e0.bs b o e).1
  have nolim : s.heap.NoLimit := e0.mod.nolimit.keeps fun b o e => (e0.bs b o e).1
  have kinds : ∀ y ∈ ps.zip us, (defScope st).names.lookup y.1 = some .local ∨ ((defScope st).names.lookup y.1 = some .cell ∧ ((cellsFrom (s.heap.objs.size + 1) (defScope st).names []).lookup y.1).isSome = true) := by
    rintro ⟨n, v⟩ hy
    rcases S.par n (List.of_mem_zip hy).1 with q | q
    · exact .inl q
    · exact .inr ⟨q, W.cellsFrom_some _ _ _ (.inl q)⟩
  obtain ⟨t, ht, hq⟩ := body cdv A outer s H vs Q E gd (room.deeper _) want
  refine codeAny_call_function room.depth (there _ _ lk) rfl S.co S.gen rfl (W.codeRec_of there hcd) (bnd _ _ _ _ ?_)
  refine wpAny_newFunctionEnv_cells S.kind kinds fun env he s1 x => ?_
  subst he
  refine ⟨nolim.keeps x.toInCall.keep, codeAny_func ?_⟩
  have I := inv_start (CX := L2.CX0) (E := E) S room.hd e0 lenV rv x
  refine wpAny_mono (ht.nox.run [] s1 (start N vs) H _ I hq) (fun fl s' hs => ?_) fun e s' hs => hs
  cases fl with
  | ret u =>
    obtain ⟨v, σ', H', J, r, q⟩ := hs
    exact ⟨v, H', J.os, J.bare, J.base, J.hok, r, q⟩
  | next =>
    obtain ⟨σ', H', J, q⟩ := hs
    exact ⟨V.non, H', J.os, J.bare, J.base, J.hok, rfl, q⟩
  | brk =>
    obtain ⟨_, _, _, q⟩ := hs
    exact q.elim
  | cont =>
    obtain ⟨_, _, _, q⟩ := hs
    exact q.elim
end

section
variable {X : Cx} {CX : CXT} {k : Nat} {f : Addr} {fd : FuncData} {ps : List Str} {sp : Sp} {E : XK} {x : Str} {p pos : Pos} {e : Expr} {es : List Expr} {t : TA}
/-- a call of such a def -/
theorem pe_callG (F : FnG X.prog X.w X.K X.mg X.base CX k f fd ps sp) (gd : X.A.guards = some []) (hr : Room k X.A) (hg : Gl X x) (hm : X.mg x = some (.ref f)) (hk : W.keepIn X.K (.ref f) = true) (hb : Binds X.K fd ps []) (hx : Passes CX X E)
    (ha : PA X (e :: es) t) (hdb : (x == ("__debug__" : Str)) = false := by decide) (he : starEach (e :: es) X.env = (false, eval e X.env) :: starEach es X.env := by rfl) (hpl : (backTo pos (starEach es X.env)).any (·.1) = false := by rfl) :
    PE X (.Call (.Name x p) (e :: es) [] pos) (tCall sp [] E t) := by
  refine ⟨fun pins s σ H Q I h => ?_⟩
  refine wpAny_Call_Name_kw (ld_glob I hg hm ?_ hdb)
  refine W.callWith_K (h₀ := X.base) I.ok.mod.kin hk (thn (ha.run pos pins s σ H _ I h) fun us s1 ⟨vs, H1, I1, r, q⟩ => ⟨I1.kIn, ?_⟩) he hpl
  have q' : sp vs H1 Q E := by simpa using q
  have hl : us.length = ps.length := by rw [← r.length]; exact F.len _ _ _ _ q'
  have bd := hb s1 us I1.kIn (by simpa using hl)
  rw [List.append_nil] at bd
  refine wpAny_call (codeAny_mono (F.go X.A X.stack s1 H1 ⟨us, []⟩ us vs Q E gd hr I1.env0 bd r q') fun rs s' hq => ?_)
  cases rs with
  | error e => exact hx pins σ H1 s1 e s' I1 hq
  | ok fl =>
    cases fl with
    | ret u => exact I1.after hq
    | next => exact False.elim hq
    | brk => exact False.elim hq
    | cont => exact False.elim hq
end

/-! the law's own call, from such a promise -/
section
variable {P : Program} {w : World} {K : W.Frag} {mg mb : Str → Option Value} {CX : CXT} {k : Nat} {fa a : Addr} {fd : FuncData} {x : Str} {sp : Sp} {s₁ : Shared} {vs : List Value} {ns : List Int}
abbrev EndT (s₁ : Shared) : Result → Shared → Prop := fun r s' => r = .ok (.ret (.bool true)) ∧ OldK s₁.heap s'.heap ∧ s'.os = s₁.os ∧ PyProof.Rows.AllBare s'.gens

/-- where at most the script is tracked -/
theorem go_from (KX : K.In s₁.heap) (hns : s₁.heap.Ns mainGlobals mg) (hb : s₁.heap.Ns builtinsNs mb) (hbb : ∀ x : Str, x ≠ "__name__" → mb x = bootBuiltins x) (lim : s₁.heap.NoLimit) (hg : s₁.gens = #[])
    (ha : s₁.heap.get? a = some { cls := .type "list", data := .seq vs.toArray }) (hr : Room k callerA)
    (F : ∀ base : Heap, K.In base → base.Ns mainGlobals mg → FnG P w K mg base CX k fa fd [x] sp) (hbind : ∀ (s : Shared) (u : Value), BindsTo s fd ⟨[u], []⟩ [(x, u)])
    (hCX : ∀ H e s', CX [] H s₁ (fun _ _ _ => False) e s' → False) (H : Hp) (only : Only H) (hsp : sp [.ref a] H (fun v _ => v = .bl true) fun _ _ _ => False)
    (hok : HOk P w H s₁.heap) (sole : ∀ b u, H b = some u → b = a) (out : ∀ u, H a = some u → K.lookup a = none) :
    codeAny (model P w) callerA (.call (.ref fa) ⟨[.ref a], []⟩) (EndT s₁) s₁ := by
  have untracked : ∀ {b : Addr} {o : Obj} {es : Array DictEntry} {ep : Nat}, s₁.heap.get? b = some o → o.data = .dict es ep → H b = none := by
    intro b o es ep e d
    match q : H b with
    | none => rfl
    | some u =>
      cases sole b u q
      rw [ha] at e
      cases e
      exact nomatch d
  have carry : ∀ {b : Addr} {m : Str → Option Value}, s₁.heap.Ns b m → (hidT s₁.heap H).Ns b m := by
    rintro b m ⟨o, es, ep, e, d, r⟩
    exact ⟨o, es, ep, hidT_get e (untracked e d), d, r⟩
  have inB : K.In (hidT s₁.heap H) := by
    intro b o e
    refine hidT_get (KX b o e) ?_
    match q : H b with
    | none => rfl
    | some u =>
      cases sole b u q
      rw [out u q] at e
      cases e
  obtain ⟨mc, l1, l2⟩ := lim
  have M : L2.Mod K mg (hidT s₁.heap H) := ⟨inB, carry hns, ⟨mb, carry hb, hbb⟩, ⟨mc, carry l1, l2⟩⟩
  have e0 : Env0 P w K mg (hidT s₁.heap H) callerA [] s₁ H :=
    { frames := rfl, mod := M, bs := fun b o e => of_hidT e, bsz := Nat.le_of_eq (hidT_size _ _), funs := trivial, frf := fun b z => (by cases z), hok := hok, bare := .of_eq hg }
  refine codeAny_mono ((F _ inB (carry hns)).go callerA [] s₁ H ⟨[.ref a], []⟩ [.ref a] [.ref a] _ _ rfl hr e0 (hbind s₁ (.ref a)) (.cons rfl .nil) hsp) fun r s' h => ?_
  cases r with
  | error e => exact (hCX H e s' h).elim
  | ok fl =>
    cases fl with
    | next => exact h.elim
    | brk => exact h.elim
    | cont => exact h.elim
    | ret u =>
      obtain ⟨v, H', os, bare, un, hok', rv, q⟩ := h
      cases (show v = V.bl true from q)
      cases (show u = Value.bool true from rv)
      refine ⟨rfl, OldK.of_keep fun b o e => ?_, os, bare⟩
      match q : H b with
      | none => exact un.keep b o e q (by intro z; cases z) (by intro z; cases z)
      | some u =>
        rcases only b with z | ⟨ob, xs, z⟩
        · rw [q] at z
          cases z
        · obtain ⟨k1, _⟩ := hok b _ z
          obtain ⟨k2, _⟩ := hok' b _ (un.frzs b ob _ z)
          rw [e] at k1
          cases k1
          exact k2

theorem law_go (KX : K.In s₁.heap) (hns : s₁.heap.Ns mainGlobals mg) (hb : s₁.heap.Ns builtinsNs mb) (hbb : ∀ x : Str, x ≠ "__name__" → mb x = bootBuiltins x) (lim : s₁.heap.NoLimit) (hg : s₁.gens = #[])
    (ha : s₁.heap.get? a = some { cls := .type "list", data := .seq vs.toArray }) (hi : PyProof.Rows.IntsAre vs ns) (hl : ns.length ≤ sizeLine) (hr : Room k callerA)
    (F : ∀ base : Heap, K.In base → base.Ns mainGlobals mg → FnG P w K mg base CX k fa fd [x] sp) (hbind : ∀ (s : Shared) (u : Value), BindsTo s fd ⟨[u], []⟩ [(x, u)])
    (hsp : ∀ H : Hp, Only H → SqL K H a (ns.map V.int) → sp [.ref a] H (fun v _ => v = .bl true) fun _ _ _ => False)
    (hCX : ∀ H e s', CX [] H s₁ (fun _ _ _ => False) e s' → False) : codeAny (model P w) callerA (.call (.ref fa) ⟨[.ref a], []⟩) (EndT s₁) s₁ := by
  have rv := vals_ints hi
  match hk : K.lookup a with
  | some o =>
    have e := KX a o hk
    rw [ha] at e
    cases e
    have S : SqL K (fun _ => none) a (ns.map V.int) := .inr ⟨_, vs.toArray, _, hk, rfl, rfl, rfl, by rw [List.size_toArray, hi.length]; exact hl, by simpa using rv⟩
    have O : Only (fun _ => none) := fun _ => .inl rfl
    exact go_from KX hns hb hbb lim hg ha hr F hbind hCX _ O (hsp _ O S) (fun b u z => nomatch (show (none : Option HO) = some u from z)) (fun b u z => nomatch (show (none : Option HO) = some u from z)) fun u z => nomatch (show (none : Option HO) = some u from z)
  | none =>
    let ob : Obj := { cls := .type "list", data := .seq vs.toArray }
    let H : Hp := fun b => if b = a then some (.frz ob (.lst (ns.map V.int))) else none
    have at_ : H a = some (.frz ob (.lst (ns.map V.int))) := if_pos rfl
    have off : ∀ b, b ≠ a → H b = none := fun b z => if_neg z
    have O : Only H := fun b => by
      by_cases z : b = a
      · exact .inr ⟨ob, ns.map V.int, z ▸ at_⟩
      · exact .inl (off b z)
    have S : SqL K H a (ns.map V.int) := .inl (.inr ⟨ob, at_⟩)
    refine go_from KX hns hb hbb lim hg ha hr F hbind hCX H O (hsp H O S) (fun b u z => ?_) (fun b u z => ?_) fun _ _ => hk
    · by_cases y : b = a
      · subst y
        rw [at_] at z
        cases z
        exact ⟨ha, by rw [List.length_map]; exact hl, vs, _, rv, ha⟩
      · rw [off b y] at z
        cases z
    · by_cases y : b = a
      · exact y
      · rw [off b y] at z
        cases z
end

theorem walkG {l : W.OpenLaw} {n k : Nat} {q : Program} {loose : List Str} {XP : (Str → Option Value) → Heap → Prop} {YP : World → Heap → Prop} {d : DefRec} {K : Params → W.Frag} {sp : W.Frag → Sp} {x : Str}
    (hn : l.most = some n) (hn2 : n ≤ sizeLine) (hdf : d.params.defaults = []) (hr : Room k callerA) (hY : ∀ (w : World) (h : Heap), YP w h → (K w.params).In h)
    (F : ∀ (w : World) (mg : Str → Option Value) (fa : Addr) (h : Heap), (K w.params).In h → h.Ns mainGlobals mg → mg d.name = some (.ref fa) →
      ∃ fd : FuncData, (∀ (s : Shared) (u : Value), BindsTo s fd ⟨[u], []⟩ [(x, u)]) ∧ ∀ base : Heap, (K w.params).In base → base.Ns mainGlobals mg → FnG l.prog w (K w.params) mg base L2.CX0 k fa fd [x] (sp (K w.params)))
    (hsp : ∀ (K : W.Frag) (H : Hp) (a : Addr) (ns : List Int), ns.length ≤ n → Only H → SqL K H a (ns.map V.int) → sp K [.ref a] H (fun v _ => v = .bl true) fun _ _ _ => False) :
    W.WalkO q loose XP YP l.row.toRowW d [] (fun f vs => PySem.call f vs) := by
  refine Att.attach_call hn hdf fun w s₀ s₁ mg mb fa o pm cd doc a vs ns G Y ho hd hcd hmg hobj hints hlen hg => ?_
  have there := hY w _ Y
  obtain ⟨fd, hb, hF⟩ := F w mg fa _ there G.T.g hmg
  exact law_go there G.T.g G.T.b G.T.builtins G.T.nolimit hg hobj hints (Nat.le_trans hlen hn2) hr hF hb (fun H hO hS => hsp _ H a ns hlen hO hS) fun H e s' z => z
end TW

set_option Elab.async false
set_option linter.all false
set_option maxRecDepth 100000
set_option maxHeartbeats 2000000
namespace TW
open PySem L2

/-- what a value is, without the heap -/
inductive D where
  | non | bl (b : Bool) | int (i : Int) | str (z : Str) | rat (t b : Int) | lst (l : List D) | tup (l : List D) | dct (l : List (Int × Int)) | dl (i : Int) (l : List D)

def ratText (t b : Int) : Str := Str.empty ++ "Ratio(" ++ toString t ++ ", " ++ toString b ++ ")"
def kvs (l : List (Int × Int)) : List (Key × V) := l.map fun p => (Sum.inl p.1, V.int p.2)
mutual
def D.shown : D → Str
  | .non => "None"
  | .bl b => if b then "True" else "False"
  | .int i => toString i
  | .str z => reprText z
  | .rat t b => ratText t b
  | .lst l => listText (showns l)
  | .tup l => tupleText (showns l)
  | .dct l => dictText (kvText (kvs l))
  | .dl i l => dictText [(toString i ++ ": " ++ listText (showns l) : Str)]
def showns : List D → List Str
  | [] => []
  | d :: l => d.shown :: showns l
end
def SmallI (i : Int) : Prop := i.natAbs.log2 < 1920
mutual
/-- at most so many signs -/
def D.len : D → Nat
  | .non => 4
  | .bl _ => 5
  | .int _ => 1921
  | .str z => (reprText z).length
  | .rat _ _ => 4000
  | .lst l => 2 + lens l
  | .tup l => 3 + lens l
  | .dct l => 2 + 4000 * l.length
  | .dl _ _ => 8000
def lens : List D → Nat
  | [] => 0
  | d :: l => d.len + 2 + lens l
end
mutual
def D.ok : D → Prop
  | .int i => SmallI i
  | .rat t b => SmallI t ∧ SmallI b
  | .lst l => oks l
  | .tup l => oks l
  | .dct l => ∀ p ∈ l, SmallI p.1 ∧ SmallI p.2
  | .dl i l => SmallI i ∧ ∃ j : Int, l = [.int j] ∧ SmallI j
  | _ => True
def oks : List D → Prop
  | [] => True
  | d :: l => d.ok ∧ oks l
end
mutual
def D.deep : D → Nat
  | .lst l => deeps l + 1
  | .tup l => deeps l + 1
  | _ => 0
def deeps : List D → Nat
  | [] => 0
  | d :: l => max d.deep (deeps l)
end

mutual
inductive Dt (C : Addr) (H : Hp) : V → D → Prop
  | non : Dt C H .non .non
  | bl (b : Bool) : Dt C H (.bl b) (.bl b)
  | int (i : Int) : Dt C H (.int i) (.int i)
  | str (z : Str) : Dt C H (.str z) (.str z)
  | rat {a dx : Addr} {fs : List (Str × V)} {t b : Int} : H a = some (.ins C dx fs) → fs.lookup ("_top" : Str) = some (V.int t) → fs.lookup ("_bottom" : Str) = some (V.int b) → Dt C H (.ref a) (.rat t b)
  | lst {a : Addr} {xs : List V} {l : List D} : H a = some (.lst xs) → Dts C H xs l → Dt C H (.ref a) (.lst l)
  | tup {a : Addr} {xs : List V} {l : List D} : H a = some (.tup xs) → Dts C H xs l → Dt C H (.ref a) (.tup l)
  | dct {a : Addr} {l : List (Int × Int)} : H a = some (.dK (kvs l)) → Dt C H (.ref a) (.dct l)
  | dl {a b : Addr} {xs : List V} {i : Int} {l : List D} : H a = some (.dK [((Sum.inl i : Key), V.ref b)]) → H b = some (.lst xs) → Dts C H xs l → Dt C H (.ref a) (.dl i l)
inductive Dts (C : Addr) (H : Hp) : List V → List D → Prop
  | nil : Dts C H [] []
  | cons {v : V} {d : D} {xs : List V} {l : List D} : Dt C H v d → Dts C H xs l → Dts C H (v :: xs) (d :: l)
end
theorem Dts.length {C : Addr} {H : Hp} : ∀ {xs : List V} {l : List D}, Dts C H xs l → xs.length = l.length
  | _, _, .nil => rfl
  | _, _, .cons _ h => by simp [h.length]
theorem Dts.at {C : Addr} {H : Hp} : ∀ {xs : List V} {l : List D}, Dts C H xs l → ∀ {i : Nat} {x : V}, xs[i]? = some x → ∃ d, l[i]? = some d ∧ Dt C H x d
  | _, _, .nil, _, _, e => by simp at e
  | _, _, .cons h _, 0, _, e => by
    simp at e
    subst e
    exact ⟨_, rfl, h⟩
  | _, _, .cons _ h, i + 1, x, e => by
    obtain ⟨d, q, r⟩ := h.at (i := i) (x := x) (by simpa using e)
    exact ⟨d, by simpa using q, r⟩
mutual
theorem Dt.same {C : Addr} {H H' : Hp} (s : Same H H') : ∀ {d : D} {v : V}, Dt C H v d → Dt C H' v d
  | _, _, .non => .non
  | _, _, .bl b => .bl b
  | _, _, .int i => .int i
  | _, _, .str z => .str z
  | _, _, .rat h1 h2 h3 => .rat (s _ _ h1) h2 h3
  | _, _, .lst h1 h2 => .lst (s _ _ h1) (h2.same s)
  | _, _, .tup h1 h2 => .tup (s _ _ h1) (h2.same s)
  | _, _, .dct h1 => .dct (s _ _ h1)
  | _, _, .dl h1 h2 h3 => .dl (s _ _ h1) (s _ _ h2) (h3.same s)
theorem Dts.same {C : Addr} {H H' : Hp} (s : Same H H') : ∀ {l : List D} {xs : List V}, Dts C H xs l → Dts C H' xs l
  | _, _, .nil => .nil
  | _, _, .cons h1 h2 => .cons (h1.same s) (h2.same s)
end
theorem kvs_ref {l : List (Int × Int)} {i : Int} {b : Addr} (h : kvs l = [((Sum.inl i : Key), V.ref b)]) : False := by
  match l with
  | [] => simp [kvs] at h
  | (c, d) :: l => simp [kvs] at h
theorem kvs_inj : ∀ {l l' : List (Int × Int)}, kvs l = kvs l' → l = l'
  | [], [], _ => rfl
  | [], _ :: _, h => by simp [kvs] at h
  | _ :: _, [], h => by simp [kvs] at h
  | (a, b) :: l, (c, d) :: l', h => by
    simp only [kvs, List.map_cons, List.cons.injEq, Prod.mk.injEq, Sum.inl.injEq, V.int.injEq] at h
    obtain ⟨⟨rfl, rfl⟩, h⟩ := h
    rw [kvs_inj (l := l) (l' := l') h]
mutual
theorem Dt.uniq {C : Addr} {H : Hp} : ∀ {d d' : D} {v : V}, Dt C H v d → Dt C H v d' → d = d'
  | _, _, _, .non, h => by cases h; rfl
  | _, _, _, .bl b, h => by cases h; rfl
  | _, _, _, .int i, h => by cases h; rfl
  | _, _, _, .str z, h => by cases h; rfl
  | _, _, _, .rat h1 h2 h3, h => by
    cases h with
    | rat g1 g2 g3 =>
      rw [h1] at g1; cases g1
      rw [h2] at g2; cases g2
      rw [h3] at g3; cases g3
      rfl
    | lst g1 _ => rw [h1] at g1; cases g1
    | tup g1 _ => rw [h1] at g1; cases g1
    | dct g1 => rw [h1] at g1; cases g1
    | dl g1 g2 g3 => rw [h1] at g1; cases g1
  | _, _, _, .lst h1 h2, h => by
    cases h with
    | rat g1 g2 g3 => rw [h1] at g1; cases g1
    | lst g1 g2 =>
      rw [h1] at g1; cases g1
      rw [h2.uniq g2]
    | tup g1 _ => rw [h1] at g1; cases g1
    | dct g1 => rw [h1] at g1; cases g1
    | dl g1 g2 g3 => rw [h1] at g1; cases g1
  | _, _, _, .tup h1 h2, h => by
    cases h with
    | rat g1 g2 g3 => rw [h1] at g1; cases g1
    | tup g1 g2 =>
      rw [h1] at g1; cases g1
      rw [h2.uniq g2]
    | lst g1 _ => rw [h1] at g1; cases g1
    | dct g1 => rw [h1] at g1; cases g1
    | dl g1 g2 g3 => rw [h1] at g1; cases g1
  | _, _, _, .dct h1, h => by
    cases h with
    | rat g1 g2 g3 => rw [h1] at g1; cases g1
    | tup g1 g2 => rw [h1] at g1; cases g1
    | lst g1 _ => rw [h1] at g1; cases g1
    | dct g1 =>
      rw [h1] at g1
      have e : kvs _ = kvs _ := HO.dK.inj (Option.some.inj g1)
      rw [kvs_inj e]
    | dl g1 g2 g3 =>
      rw [h1] at g1
      exact (kvs_ref (HO.dK.inj (Option.some.inj g1))).elim
  | _, _, _, .dl h1 h2 h3, h => by
    cases h with
    | rat g1 g2 g3 => rw [h1] at g1; cases g1
    | tup g1 g2 => rw [h1] at g1; cases g1
    | lst g1 _ => rw [h1] at g1; cases g1
    | dct g1 =>
      rw [h1] at g1
      exact (kvs_ref (HO.dK.inj (Option.some.inj g1)).symm).elim
    | dl g1 g2 g3 =>
      rw [h1] at g1; cases g1
      rw [h2] at g2; cases g2
      rw [h3.uniq g3]
theorem Dts.uniq {C : Addr} {H : Hp} : ∀ {l l' : List D} {xs : List V}, Dts C H xs l → Dts C H xs l' → l = l'
  | _, _, _, .nil, h => by cases h; rfl
  | _, _, _, .cons h1 h2, h => by
    cases h with
    | cons g1 g2 => rw [h1.uniq g1, h2.uniq g2]
end

/-! lengths -/
theorem len_int {i : Int} (h : SmallI i) : (toString i : Str).length ≤ 1921 := PyProof.Rows.int_text_len_1921 h
theorem len_list (ts : List Str) : (listText ts).length ≤ 2 + piled ts := by
  cases ts with
  | nil => decide
  | cons t r =>
    have q := textFrom_length_pos r 1 (("[" : Str) ++ (if (0 : Nat) > 0 then ", " else "" : String) ++ t) (Nat.succ_pos 0)
    have e1 : (listText (t :: r)).length = (textFrom 1 (("[" : Str) ++ (if (0 : Nat) > 0 then ", " else "" : String) ++ t) r).length + 1 := by
      show (textFrom 1 (("[" : Str) ++ (if (0 : Nat) > 0 then ", " else "" : String) ++ t) r ++ "]").length = _
      rw [strLen_append]
      rfl
    have e2 : (("[" : Str) ++ (if (0 : Nat) > 0 then ", " else "" : String) ++ t).length = 1 + t.length := by
      rw [strLen_append, strLen_append]
      rfl
    rw [e1, q, e2, piled_cons]
    omega
theorem len_join (ts : List Str) : (Str.join ", " ts).length ≤ piled ts := by
  by_cases h : ts = []
  · subst h
    exact Nat.zero_le _
  · have := join_length_add ts h
    omega
theorem len_tup (ts : List Str) : (tupleText ts).length ≤ 3 + piled ts := by
  unfold tupleText
  rw [strLen_append, strLen_append]
  have q := len_join ts
  have e1 : (("(" : Str)).length = 1 := rfl
  have e3 : ((if ts.length == 1 then ",)" else ")" : String) : Str).length ≤ 2 := by split <;> decide
  rw [e1]
  omega
theorem len_dict (ts : List Str) : (dictText ts).length ≤ 2 + piled ts := by
  unfold dictText
  rw [strLen_append, strLen_append]
  have q := len_join ts
  have e1 : (("{" : Str)).length = 1 := rfl
  have e3 : (("}" : Str)).length = 1 := rfl
  rw [e1, e3]
  omega
theorem len_kv : ∀ (l : List (Int × Int)), (∀ p ∈ l, SmallI p.1 ∧ SmallI p.2) → piled (kvText (kvs l)) ≤ 4000 * l.length
  | [], _ => Nat.zero_le _
  | (a, b) :: l, h => by
    have h1 := h (a, b) (List.Mem.head _)
    have h2 := len_kv l fun p hp => h p (List.Mem.tail _ hp)
    have e : piled (kvText (kvs ((a, b) :: l))) = ((toString a ++ ": " ++ toString b : Str).length + 2) + piled (kvText (kvs l)) := piled_cons _ _
    rw [e, strLen_append, strLen_append]
    have e1 : ((": " : String) : Str).length = 2 := rfl
    have q1 : (toString a : Str).length ≤ 1921 := len_int h1.1
    have q2 : (toString b : Str).length ≤ 1921 := len_int h1.2
    rw [e1, List.length_cons]
    omega
theorem len_rat {t b : Int} (h1 : SmallI t) (h2 : SmallI b) : (ratText t b).length ≤ 4000 := by
  unfold ratText
  rw [strLen_append, strLen_append, strLen_append, strLen_append, strLen_append]
  have q1 := len_int h1
  have q2 := len_int h2
  have e0 : (Str.empty).length = 0 := rfl
  have e1 : (("Ratio(" : String) : Str).length = 6 := rfl
  have e2 : ((", " : String) : Str).length = 2 := rfl
  have e3 : ((")" : String) : Str).length = 1 := rfl
  rw [e0, e1, e2, e3]
  omega
mutual
theorem len_shown : ∀ (d : D), d.ok → d.shown.length ≤ d.len
  | .non, _ => by decide
  | .bl b, _ => by cases b <;> decide
  | .int i, h => len_int h
  | .str z, _ => Nat.le_refl _
  | .rat t b, h => len_rat h.1 h.2
  | .lst l, h => by
    have q := len_showns l h
    have z := len_list (showns l)
    simp only [D.shown, D.len]
    omega
  | .tup l, h => by
    have q := len_showns l h
    have z := len_tup (showns l)
    simp only [D.shown, D.len]
    omega
  | .dct l, h => by
    have q := len_kv l h
    have z := len_dict (kvText (kvs l))
    simp only [D.shown, D.len]
    omega
  | .dl i l, h => by
    obtain ⟨hi, j, rfl, hj⟩ := h
    show (dictText [(toString i ++ ": " ++ listText [(toString j : Str)] : Str)]).length ≤ 8000
    have z := len_dict [(toString i ++ ": " ++ listText [(toString j : Str)] : Str)]
    have z2 := len_list [(toString j : Str)]
    rw [piled_cons] at z z2
    rw [strLen_append, strLen_append] at z
    have e1 : ((": " : String) : Str).length = 2 := rfl
    have e0 : piled ([] : List Str) = 0 := rfl
    have q1 := len_int hi
    have q2 := len_int hj
    rw [e1] at z
    rw [e0] at z z2
    omega
theorem len_showns : ∀ (l : List D), oks l → piled (showns l) ≤ lens l
  | [], _ => Nat.le_refl _
  | d :: l, h => by
    have q1 := len_shown d h.1
    have q2 := len_showns l h.2
    simp only [showns, lens, piled_cons]
    omega
end

/-! writing such values -/
/-- what Ratio's __repr__ promises -/
def spRepr (C : Addr) : Sp := fun vs H Q _ => ∃ (a dx : Addr) (fs : List (Str × V)) (t b : Int), vs = [.ref a] ∧ H a = some (.ins C dx fs) ∧ fs.lookup ("_top" : Str) = some (V.int t) ∧ fs.lookup ("_bottom" : Str) = some (V.int b) ∧ SmallI t ∧ SmallI b ∧ Q (.str (ratText t b)) H
/-- that it stands there -/
structure RatR (P : Program) (w : World) (K : W.Frag) (mg : Str → Option Value) (base : Heap) (C : Addr) (k : Nat) : Prop where
  ex : ∃ (f : Addr) (fd : FuncData), W.findIn K (.ref C) "__repr__" = some (some (.ref f)) ∧ W.isFn K (.ref f) = true ∧ FnOk P w K mg base L2.CX0 k f fd ["self"] (spRepr C) ∧ Binds K fd ["self"] []

section
variable {X : Cx} {C : Addr} {H : Hp} {k : Nat}
def Within_ (C : Addr) (H : Hp) (as : List Addr) (n : Nat) : Prop := ∀ c ∈ as, ∃ d, Dt C H (.ref c) d ∧ sizeOf d ≤ n
theorem Within_.out {as : List Addr} {n : Nat} {a : Addr} {d : D} (h : Within_ C H as n) (ha : Dt C H (.ref a) d) (lt : n < sizeOf d) : a ∉ as := fun hm => by
  obtain ⟨d', h1, h2⟩ := h a hm
  rw [ha.uniq h1] at lt
  omega
theorem Within_.cons {as : List Addr} {n m : Nat} {a : Addr} {d : D} (h : Within_ C H as n) (ha : Dt C H (.ref a) d) (h1 : n ≤ m) (h2 : sizeOf d ≤ m) : Within_ C H (a :: as) m := fun c hc => by
  rcases List.mem_cons.mp hc with rfl | hc
  · exact ⟨d, ha, h2⟩
  · obtain ⟨d', q1, q2⟩ := h c hc
    exact ⟨d', q1, by omega⟩
theorem Within_.nil {n : Nat} : Within_ C H [] n := fun _ h => nomatch h
theorem Within_.append {as bs : List Addr} {n m l : Nat} (h1 : Within_ C H as n) (h2 : Within_ C H bs m) (q1 : n ≤ l) (q2 : m ≤ l) : Within_ C H (as ++ bs) l := fun c hc => by
  rcases List.mem_append.mp hc with hc | hc
  · obtain ⟨d', z1, z2⟩ := h1 c hc
    exact ⟨d', z1, by omega⟩
  · obtain ⟨d', z1, z2⟩ := h2 c hc
    exact ⟨d', z1, by omega⟩
theorem RpAll.more {as as' : List Addr} {lv lv' : Nat} : ∀ {xs : List V} {ts : List Str}, RpAll X H as lv xs ts → (∀ c ∈ as, c ∈ as') → lv ≤ lv' → RpAll X H as' lv' xs ts
  | _, _, .nil, _, _ => .nil
  | _, _, .cons h t, a, b => .cons (h.more a b) (t.more a b)
theorem kv_small : ∀ {l : List (Int × Int)}, (∀ p ∈ l, SmallI p.1 ∧ SmallI p.2) → KvSmall (kvs l)
  | [], _ => trivial
  | (a, b) :: l, h => ⟨(h (a, b) (List.Mem.head _)).1, (h (a, b) (List.Mem.head _)).2, Nat.le_trans (len_int (h (a, b) (List.Mem.head _)).1) (by decide), kv_small fun p hp => h p (List.Mem.tail _ hp)⟩
mutual
theorem rpD (R : RatR X.prog X.w X.K X.mg X.base C k) : ∀ (d : D) (v : V), Dt C H v d → d.ok → d.len ≤ sizeLine → ∃ as, Within_ C H as (sizeOf d) ∧ Rp X H as (k + d.deep) v d.shown
  | .non, _, .non, _, _ => ⟨[], Within_.nil, Rp.non⟩
  | .bl b, _, .bl _, _, _ => ⟨[], Within_.nil, Rp.bl b⟩
  | .int i, _, .int _, h, _ => ⟨[], Within_.nil, Rp.int h⟩
  | .str z, _, .str _, _, h => ⟨[], Within_.nil, Rp.str h⟩
  | .rat t b, _, .rat (a := a) h1 h2 h3, h, _ => by
    obtain ⟨f, fd, r1, r2, r3, r4⟩ := R.ex
    exact ⟨[], Within_.nil, Rp.own h1 r1 r2 r3 r4 fun Q E q => ⟨_, _, _, _, _, rfl, h1, h2, h3, h.1, h.2, q⟩⟩
  | .lst l, _, .lst (a := a) (xs := xs) h1 h2, h, hz => by
    have z : lens l ≤ sizeLine := by simp only [D.len] at hz; omega
    obtain ⟨as, w1, r⟩ := rpL R l xs h2 h z
    have me : Dt C H (.ref a) (.lst l) := .lst h1 h2
    have lt : sizeOf l < sizeOf (D.lst l) := by simp
    refine ⟨a :: as, w1.cons me (Nat.le_of_lt lt) (Nat.le_refl _), ?_⟩
    exact Rp.list (SqL.of h1) (w1.out me lt) r.len r.at
  | .tup l, _, .tup (a := a) (xs := xs) h1 h2, h, hz => by
    have z : lens l ≤ sizeLine := by simp only [D.len] at hz; omega
    obtain ⟨as, w1, r⟩ := rpL R l xs h2 h z
    have me : Dt C H (.ref a) (.tup l) := .tup h1 h2
    have lt : sizeOf l < sizeOf (D.tup l) := by simp
    refine ⟨a :: as, w1.cons me (Nat.le_of_lt lt) (Nat.le_refl _), ?_⟩
    exact Rp.tup (SqT.of h1) (w1.out me lt) r
  | .dct l, _, .dct (a := a) h1, h, _ => ⟨[a], Within_.nil.cons (n := 0) (.dct h1) (Nat.zero_le _) (Nat.le_refl _), Rp.dct h1 (fun z => nomatch z) (kv_small h)⟩
  | .dl i l, _, .dl (a := a) (b := b) h1 h2 h3, h, _ => by
    obtain ⟨hi, j, rfl, hj⟩ := h
    have me : Dt C H (.ref a) (.dl i [.int j]) := .dl h1 h2 h3
    have inn : Dt C H (.ref b) (.lst [.int j]) := .lst h2 h3
    have le : sizeOf (D.lst [.int j]) ≤ sizeOf (D.dl i [.int j]) := by simp
    have nab : a ∉ [b] := fun z => by
      rw [List.mem_singleton.1 z, h2] at h1
      cases h1
    have hx : H b = some (.lst [.int j]) := by
      cases h3 with
      | cons g t =>
        cases t
        cases g
        exact h2
    exact ⟨[a, b], (Within_.nil.cons (n := 0) (m := sizeOf (D.dl i [.int j])) inn (Nat.zero_le _) le).cons me (Nat.le_refl _) (Nat.le_refl _), Rp.dl h1 hx nab (fun z => nomatch z) hi hj⟩
theorem rpL (R : RatR X.prog X.w X.K X.mg X.base C k) : ∀ (l : List D) (xs : List V), Dts C H xs l → oks l → lens l ≤ sizeLine → ∃ as, Within_ C H as (sizeOf l) ∧ RpAll X H as (k + deeps l) xs (showns l)
  | [], _, .nil, _, _ => ⟨[], Within_.nil, .nil⟩
  | d :: l, _, .cons (v := v) (xs := xs) h1 h2, h, hz => by
    have z1 : d.len ≤ sizeLine := by simp only [lens] at hz; omega
    have z2 : lens l ≤ sizeLine := by simp only [lens] at hz; omega
    obtain ⟨as, w1, r1⟩ := rpD R d v h1 h.1 z1
    obtain ⟨bs, w2, r2⟩ := rpL R l xs h2 h.2 z2
    have q1 : sizeOf d ≤ sizeOf (d :: l) := by simp; omega
    have q2 : sizeOf l ≤ sizeOf (d :: l) := by simp
    refine ⟨as ++ bs, w1.append w2 q1 q2, .cons (r1.more (fun c hc => List.mem_append_left _ hc) ?_) (r2.more (fun c hc => List.mem_append_right _ hc) ?_)⟩
    · simp only [deeps]; omega
    · simp only [deeps]; omega
end
theorem rcD (R : RatR X.prog X.w X.K X.mg X.base C k) : ∀ (d : D) (v : V), Dt C H v d → d.ok → d.len ≤ sizeLine → ∃ as, Rc X H as (k + d.deep + 1) v d.shown
  | .non, _, .non, _, _ => ⟨[], Rc.non⟩
  | .bl b, _, .bl _, _, _ => ⟨[], Rc.bl b⟩
  | .int i, _, .int _, h, _ => ⟨[], Rc.int h⟩
  | .str z, _, .str _, _, h => ⟨[], Rc.str⟩
  | .rat t b, _, .rat (a := a) h1 h2 h3, h, _ => by
    obtain ⟨f, fd, r1, r2, r3, r4⟩ := R.ex
    exact ⟨[], Rc.own h1 r1 r2 r3 r4 fun Q E q => ⟨_, _, _, _, _, rfl, h1, h2, h3, h.1, h.2, q⟩⟩
  | .lst l, _, .lst (a := a) (xs := xs) h1 h2, h, hz => by
    have z : lens l ≤ sizeLine := by simp only [D.len] at hz; omega
    obtain ⟨as, w1, r⟩ := rpL R l xs h2 h z
    exact ⟨a :: as, Rc.list (SqL.of h1) (w1.out (.lst h1 h2) (by simp)) r.len r.at⟩
  | .tup l, _, .tup (a := a) (xs := xs) h1 h2, h, hz => by
    have z : lens l ≤ sizeLine := by simp only [D.len] at hz; omega
    obtain ⟨as, w1, r⟩ := rpL R l xs h2 h z
    exact ⟨a :: as, Rc.tup (SqT.of h1) (w1.out (.tup h1 h2) (by simp)) r⟩
  | .dct l, _, .dct (a := a) h1, h, _ => ⟨[a], Rc.dct h1 (fun z => nomatch z) (kv_small h)⟩
  | .dl i l, _, .dl (a := a) (b := b) h1 h2 h3, h, _ => by
    obtain ⟨hi, j, rfl, hj⟩ := h
    have me : Dt C H (.ref a) (.dl i [.int j]) := .dl h1 h2 h3
    have inn : Dt C H (.ref b) (.lst [.int j]) := .lst h2 h3
    have le : sizeOf (D.lst [.int j]) ≤ sizeOf (D.dl i [.int j]) := by simp
    have nab : a ∉ [b] := fun z => by
      rw [List.mem_singleton.1 z, h2] at h1
      cases h1
    have hx : H b = some (.lst [.int j]) := by
      cases h3 with
      | cons g t =>
        cases t
        cases g
        exact h2
    exact ⟨[a, b], Rc.dl h1 hx nab (fun z => nomatch z) hi hj⟩

/-- repr(x) in a body, where no writing is under way -/
def rRepr (C : Addr) (n : Nat) : List V → Hp → VK → Prop := fun xs H Q => ∃ x d, xs = [x] ∧ Dt C H x d ∧ d.ok ∧ d.len ≤ sizeLine ∧ d.deep ≤ n ∧ Q (.str d.shown) H
theorem call_repr {n : Nat} (R : RatR X.prog X.w X.K X.mg X.base C k) (gd : X.A.guards = some []) (hr : Room (k + n + 1) X.A) : CallR X (.builtin "repr") (rRepr C n) := by
  intro pins s σ H xs us Q I r h
  obtain ⟨x, d, rfl, hd, ho, hl, hn, q⟩ := h
  obtain ⟨u, rfl, ru⟩ := vals1 r
  obtain ⟨as, rc⟩ := rcD R d x hd ho hl
  exact rc X.A [] pins σ s u _ _ I.ok.frames gd (fun a _ => Clear.nil a) (hr.mono (by omega)) I ru (Nat.le_trans (len_shown d ho) hl) fun s' tk I' => ⟨.str d.shown, H, I', ⟨tk, rfl⟩, q⟩
end
end TW

set_option Elab.async false
set_option linter.all false
set_option maxRecDepth 100000
set_option maxHeartbeats 2000000
namespace TW
open PySem L2

theorem same_new {H : Hp} {p : Addr} {o : HO} (h : H p = none) : Same H (upd H p o) := fun b x e => by
  rw [upd_ne (ne_of_none e h)]
  exact e
theorem Same.tup {K : W.Frag} {H H' : Hp} {a : Addr} {xs : List V} (e : Same H H') (h : SqT K H a xs) : SqT K H' a xs := by
  rcases h with (h | ⟨o, h⟩) | h
  · exact .inl (.inl (e _ _ h))
  · exact .inl (.inr ⟨o, e _ _ h⟩)
  · exact .inr h
/-- a list or a tuple -/
def Sq (K : W.Frag) (H : Hp) (a : Addr) (xs : List V) : Prop := SqL K H a xs ∨ SqT K H a xs
theorem Sq.same {K : W.Frag} {H H' : Hp} {a : Addr} {xs : List V} (e : Same H H') (h : Sq K H a xs) : Sq K H' a xs := h.elim (fun z => .inl (e.seq z)) fun z => .inr (Same.tup e z)

/-! walking what is a list or a tuple -/
section
variable {X : Cx} {tg it : Expr} {tl : TE}
theorem PI.or {wi wi' : TI} (h : PI X tg it wi) (h' : PI X tg it wi') : PI X tg it (fun σ H R => wi σ H R ∨ wi' σ H R) :=
  ⟨fun pins s σ H R I q => q.elim (h.run pins s σ H R I) (h'.run pins s σ H R I)⟩
abbrev iSeq (K : W.Frag) (tl : TE) : TI := fun σ H R => iList K tl σ H R ∨ iTup K tl σ H R
theorem pi_seq (h : PE X it tl) : PI X tg it (iSeq X.K tl) := PI.or (pi_list h) (pi_tup h)
end


/-- the heap without D -/
def off (D : Addr) (H : Hp) : Hp := fun b => if b = D then none else H b
theorem off_ne {D b : Addr} {H : Hp} (h : b ≠ D) : off D H b = H b := if_neg h
theorem off_same {D : Addr} {H : Hp} : Same (off D H) H := fun b o e => by
  by_cases z : b = D
  · rw [show off D H b = none from if_pos z] at e
    cases e
  · rw [off_ne z] at e
    exact e
theorem off_off {D : Addr} {H1 H2 : Hp} (h : ∀ b o, H1 b = some o → b ≠ D → H2 b = some o) : Same (off D H1) (off D H2) := fun b o e => by
  by_cases z : b = D
  · rw [show off D H1 b = none from if_pos z] at e
    cases e
  · rw [off_ne z] at e
    rw [off_ne z]
    exact h b o e z

section
variable {te : TE} {i : Nat} {σ : L2.St} {H : Hp} {xs : List V} {D : Addr}
def PvC (H : Hp) (P : Nat → V → Hp → Prop) (D : Addr) (k : Nat) (H' : Hp) : Prop := Same H H' ∧ ∃ ys, H' D = some (.lst ys) ∧ ys.length = k ∧ ∀ m y, ys[m]? = some y → P m y (off D H')
theorem comp_turn (P : Nat → V → Hp → Prop) (mono : ∀ k y H1 H2, Same H1 H2 → P k y H1 → P k y H2) (hD : H D = none) (hl : xs.length ≤ sizeLine)
    (el : ∀ (k : Nat) (x : V) (H' : Hp) (R : VK), xs[k]? = some x → Same H H' → (∀ y H2, Same H' H2 → (∀ D, H D = none → H' D ≠ none → P k y (off D H2)) → R y H2) → te ((wipe σ [i]).set i (some x)) H' R) :
    ∀ k x H', xs[k]? = some x → PvC H P D k H' → gName i x (wipe σ [i]) H' fun σ2 H2 => wipe σ2 [i] = wipe σ [i] ∧ tYes σ2 H2 fun b H3 =>
      if b = true then te σ2 H3 fun y H4 => ∃ acc, H4 D = some (.lst acc) ∧ acc.length < sizeLine ∧ PvC H P D (k + 1) (upd H4 D (.lst (acc ++ [y]))) else PvC H P D (k + 1) H3 := by
  rintro k x H' hx ⟨s1, ys, e1, e2, e3⟩
  have hk : k < xs.length := by
    rcases Nat.lt_or_ge k xs.length with z | z
    · exact z
    · rw [List.getElem?_eq_none z] at hx; cases hx
  refine ⟨?_, ?_⟩
  · show (((σ.set i none).set i (some x)).set i none) = (σ.set i none)
    rw [List.set_set, List.set_set]
  · show if true = true then te ((wipe σ [i]).set i (some x)) H' (fun y H4 => ∃ acc, H4 D = some (.lst acc) ∧ acc.length < sizeLine ∧ PvC H P D (k + 1) (upd H4 D (.lst (acc ++ [y])))) else PvC H P D (k + 1) H'
    rw [if_pos rfl]
    refine el k x H' _ hx s1 fun y H2 s2 p => ?_
    refine ⟨ys, s2 _ _ e1, by omega, fun b o e => ?_, ys ++ [y], upd_same, by simp [e2], fun m z hz => ?_⟩
    · rw [upd_ne (ne_of_none e hD)]
      exact s2 _ _ (s1 _ _ e)
    · rcases Nat.lt_or_ge m ys.length with lt | ge
      · rw [List.getElem?_append_left lt] at hz
        refine mono _ _ _ _ (off_off fun b o e hb => ?_) (e3 m z hz)
        rw [upd_ne hb]
        exact s2 _ _ e
      · rw [List.getElem?_append_right ge] at hz
        have em : m - ys.length = 0 := by
          rcases Nat.eq_zero_or_pos (m - ys.length) with q | q
          · exact q
          · rw [List.getElem?_eq_none (by simp; omega)] at hz; cases hz
        rw [em] at hz
        cases (show some y = some z from hz)
        have ek : m = k := by omega
        subst ek
        refine mono _ _ _ _ (off_off fun b o e hb => ?_) (p D hD (by rw [e1]; simp))
        rw [upd_ne hb]
        exact e

/-- [e for x in l], l a list or tuple at slot j: each element by P, which stays; nothing that stood is changed -/
theorem comp_seq {K : W.Frag} {j : Nat} {Q : VK} {a : Addr} (P : Nat → V → Hp → Prop) (mono : ∀ k y H1 H2, Same H1 H2 → P k y H1 → P k y H2)
    (hj : σ[j]? = some (some (.ref a))) (hs : Sq K H a xs) (hl : xs.length ≤ sizeLine)
    (el : ∀ (k : Nat) (x : V) (H' : Hp) (R : VK), xs[k]? = some x → Same H H' → (∀ y H2, Same H' H2 → (∀ D, H D = none → H' D ≠ none → P k y (off D H2)) → R y H2) → te ((wipe σ [i]).set i (some x)) H' R)
    (fin : ∀ (D : Addr) (ys : List V) (H' : Hp), H D = none → Same H H' → H' D = some (.lst ys) → ys.length = xs.length → (∀ k y, ys[k]? = some y → P k y H') → Q (.ref D) H') :
    tLc (iSeq K (tVar j)) (gName i) tYes te [i] σ H Q := by
  have start : ∀ D, H D = none → PvC H P D 0 (upd H D (.lst [])) := fun D hD => ⟨same_new hD, [], upd_same, rfl, fun m y e => by simp at e⟩
  have done : ∀ D, H D = none → ∀ H', PvC H P D xs.length H' → Q (.ref D) H' := fun D hD H' ⟨s1, ys, e1, e2, e3⟩ => fin D ys H' hD s1 e1 e2 fun k y e => mono _ _ _ _ off_same (e3 k y e)
  rcases hs with hs | hs
  · exact .inl ⟨.ref a, hj, a, rfl, ⟨xs, hs⟩, fun D hD => lc_list (K := K) (a := a) (xs := xs) (PvC H P D) (start D hD) (fun k H' _ p => p.1.seq hs) (comp_turn P mono hD hl el) (done D hD)⟩
  · exact .inr ⟨.ref a, hj, a, rfl, ⟨xs, hs⟩, fun D hD => lc_tup (K := K) (a := a) (xs := xs) (PvC H P D) (start D hD) (fun k H' _ p => Same.tup p.1 hs) (comp_turn P mono hD hl el) (done D hD)⟩
end

/-- a comprehension whose elements are written values, by their place -/
theorem comp_vals {te : TE} {i : Nat} {σ : L2.St} {H : Hp} {xs : List V} {K : W.Frag} {j : Nat} {Q : VK} {a : Addr} (f : Nat → V)
    (hj : σ[j]? = some (some (.ref a))) (hs : Sq K H a xs) (hl : xs.length ≤ sizeLine)
    (el : ∀ (k : Nat) (x : V) (H' : Hp) (R : VK), xs[k]? = some x → Same H H' → (∀ H2, Same H' H2 → R (f k) H2) → te ((wipe σ [i]).set i (some x)) H' R)
    (fin : ∀ (D : Addr) (H' : Hp), H D = none → Same H H' → H' D = some (.lst ((List.range xs.length).map f)) → Q (.ref D) H') :
    tLc (iSeq K (tVar j)) (gName i) tYes te [i] σ H Q := by
  refine comp_seq (fun k y _ => y = f k) (fun _ _ _ _ _ h => h) hj hs hl (fun k x H' R hx s1 q => el k x H' R hx s1 fun H2 s2 => q _ H2 s2 fun _ _ _ => rfl) fun D ys H' hD s1 e1 e2 e3 => ?_
  have e : ys = (List.range xs.length).map f := by
    refine List.ext_getElem? fun k => ?_
    rcases Nat.lt_or_ge k ys.length with lt | ge
    · have q : ys[k]? = some ys[k] := List.getElem?_eq_getElem lt
      rw [q, List.getElem?_map, List.getElem?_range (by omega), e3 k _ q]
      rfl
    · rw [List.getElem?_eq_none ge, List.getElem?_eq_none (by simp; omega)]
  rw [e] at e1
  exact fin D H' hD s1 e1
end TW

set_option Elab.async false
set_option linter.all false
set_option maxRecDepth 100000
set_option maxHeartbeats 4000000
namespace KT
open PySem L2 TW
def top (i : Nat) : Stmt := PySem.Challenge.pw_tracewords_k22_any_value_as_a_word.main.body.getD i (.Pass ⟨0, 0, 0, 0⟩)
abbrev s_is_integer : Stmt := top 3
abbrev s_is_count : Stmt := top 4
abbrev s_is_list : Stmt := top 5
abbrev s_is_number : Stmt := top 18
abbrev s_are_numbers : Stmt := top 19
abbrev s_is_row_of : Stmt := top 23
abbrev s_are_rows_of : Stmt := top 24
abbrev s_is_table : Stmt := top 29

structure Txt (K : W.Frag) (mg : Str → Option Value) (C HC : Addr) : Prop where
  isi : mg "isinstance" = none
  int_ : mg "int" = none
  bool_ : mg "bool" = none
  list_ : mg "list" = none
  tuple_ : mg "tuple" = none
  len_ : mg "len" = none
  all_ : mg "all" = none
  gcd_ : mg "gcd" = some (.builtin "math.gcd")
  largest : ∃ t, mg "LARGEST" = some (.int 4 t)
  most : ∃ t, mg "MOST_LETTERS" = some (.int 3 t)
  longest : ∃ t, mg "LONGEST_WORD" = some (.int 16 t)
  mgC : mg "Ratio" = some (.ref C)
  mgH : mg "House" = some (.ref HC)
  clC : Cls K C
  clH : Cls K HC
  nTop : NoAttr K C "_top"
  nBot : NoAttr K C "_bottom"
  nLet : NoAttr K HC "_letters"
  atC : W.findIn K (.ref C) "__class__" = some (some (.builtin "object.__class__"))
  atH : W.findIn K (.ref HC) "__class__" = some (some (.builtin "object.__class__"))
  cg : W.specialIn K (.builtin "object.__class__") "__get__" = some (some (.builtin "getset_descriptor.__get__"))
  ct : W.takesIn K (.builtin "object.__class__") = some true
  moC : W.mroIn K C (.type "object") = some true
  moH : W.mroIn K HC (.type "object") = some true
  kCi : W.kitOne K (.ref C) (.type "int") = some false
  kCb : W.kitOne K (.ref C) (.type "bool") = some false
  kCl : W.kitOne K (.ref C) (.type "list") = some false
  kCt : W.kitOne K (.ref C) (.type "tuple") = some false
  kCC : W.kitOne K (.ref C) (.ref C) = some true
  kTC1 : W.kitOne K (.type "NoneType") (.ref C) = some false
  kTC2 : W.kitOne K (.type "bool") (.ref C) = some false
  kTC3 : W.kitOne K (.type "int") (.ref C) = some false
  kTC4 : W.kitOne K (.type "str") (.ref C) = some false
  kTC5 : W.kitOne K (.type "list") (.ref C) = some false
  kTC6 : W.kitOne K (.type "tuple") (.ref C) = some false
  kTC7 : W.kitOne K (.type "dict") (.ref C) = some false
  kHH : W.kitOne K (.ref HC) (.ref HC) = some true

/-- the type of such a value -/
def tyD (C : Addr) : D → Value
  | .non => .type "NoneType"
  | .bl _ => .type "bool"
  | .int _ => .type "int"
  | .str _ => .type "str"
  | .rat _ _ => .ref C
  | .lst _ => .type "list"
  | .tup _ => .type "tuple"
  | .dct _ => .type "dict"
  | .dl _ _ => .type "dict"
section
variable {K : W.Frag} {mg : Str → Option Value} {C HC : Addr} {H : Hp}
theorem tyx (T : Txt K mg C HC) : ∀ {d : D} {v : V}, Dt C H v d → TyX K H v (tyD C d)
  | _, _, .non => .base .non
  | _, _, .bl b => .base (.bl b)
  | _, _, .int i => .base (.int i)
  | _, _, .str z => .base (.str z)
  | _, _, .rat h _ _ => .base (.ins h T.clC T.atC T.cg T.ct T.moC)
  | _, _, .lst h _ => .base (.lst h)
  | _, _, .tup h _ => .base (.tup h)
  | _, _, .dct h => .base (.dK h)
  | _, _, .dl h _ _ => .base (.dK h)
end
def isIB : D → Bool
  | .int _ => true
  | .bl _ => true
  | _ => false
def isB : D → Bool
  | .bl _ => true
  | _ => false
def isI : D → Bool
  | .int _ => true
  | _ => false
def isC : D → Bool
  | .int i => decide (0 ≤ i)
  | _ => false
def isL : D → Bool
  | .lst _ => true
  | .tup _ => true
  | _ => false
def isR : D → Bool
  | .rat _ _ => true
  | _ => false
def isN : D → Bool
  | .int _ => true
  | .rat _ _ => true
  | _ => false
def itemsD : D → List D
  | .lst l => l
  | .tup l => l
  | _ => []
def areN (d : D) : Bool := isL d && (itemsD d).all isN
section
variable {K : W.Frag} {mg : Str → Option Value} {C HC : Addr} {H : Hp}
theorem kit_int (T : Txt K mg C HC) (d : D) : W.kitOne K (tyD C d) (.type "int") = some (isIB d) := by
  cases d with
  | rat _ _ => exact T.kCi
  | _ => first | exact kit_ty (show kitB _ _ = some true by decide +kernel) | exact kit_ty (show kitB _ _ = some false by decide +kernel)
theorem kit_bool (T : Txt K mg C HC) (d : D) : W.kitOne K (tyD C d) (.type "bool") = some (isB d) := by
  cases d with
  | rat _ _ => exact T.kCb
  | _ => first | exact kit_ty (show kitB _ _ = some true by decide +kernel) | exact kit_ty (show kitB _ _ = some false by decide +kernel)
theorem kit_rat (T : Txt K mg C HC) (d : D) : W.kitOne K (tyD C d) (.ref C) = some (isR d) := by
  cases d with
  | rat _ _ => exact T.kCC
  | non => exact T.kTC1
  | bl _ => exact T.kTC2
  | int _ => exact T.kTC3
  | str _ => exact T.kTC4
  | lst _ => exact T.kTC5
  | tup _ => exact T.kTC6
  | dct _ => exact T.kTC7
  | dl _ _ => exact T.kTC7
theorem kit_seq (T : Txt K mg C HC) (d : D) : W.kitAny K (tyD C d) [.type "list", .type "tuple"] = some (isL d) := by
  cases d with
  | rat _ _ => exact kitAny_cons (b := false) T.kCl (fun _ => kitAny_cons (b := false) T.kCt (fun _ => kitAny_nil) fun z => nomatch z) fun z => nomatch z
  | lst _ => exact kitAny_cons (b := true) (kit_ty (by decide +kernel)) (fun z => nomatch z) fun _ => rfl
  | tup _ => exact kitAny_cons (b := false) (kit_ty (by decide +kernel)) (fun _ => kitAny_cons (b := true) (kit_ty (by decide +kernel)) (fun z => nomatch z) fun _ => rfl) fun z => nomatch z
  | _ => exact kitAny_cons (b := false) (kit_ty (by decide +kernel)) (fun _ => kitAny_cons (b := false) (kit_ty (by decide +kernel)) (fun _ => kitAny_nil) fun z => nomatch z) fun z => nomatch z
end

/-- a judge of any value: nothing that stood is changed -/
def spB (C : Addr) (p : D → Bool) : Sp := fun vs H Q _ => ∃ x d, vs = [x] ∧ Dt C H x d ∧ d.len ≤ sizeLine ∧ ∀ H', Same H H' → Q (.bl (p d)) H'
theorem spB_len {C : Addr} {p : D → Bool} {x : Str} : ∀ vs H Q E, spB C p vs H Q E → vs.length = [x].length := by
  rintro vs H Q E ⟨x, d, rfl, _⟩
  rfl
/-- a def of the top, by its name -/
structure At (K : W.Frag) (mg : Str → Option Value) (x : Str) (st : Stmt) (ps : List Str) (f : Addr) (fd : FuncData) : Prop where
  fn : Fun K x x st f fd
  mg : mg x = some (.ref f)
  b : Binds K fd ps []

theorem sc_is_integer : FnScope ["value"] ["value"] (defScope s_is_integer) := ⟨rfl, rfl, rfl, by decide +kernel, rfl, by decide +kernel, by decide +kernel⟩
theorem sc_is_count : FnScope ["value"] ["value"] (defScope s_is_count) := ⟨rfl, rfl, rfl, by decide +kernel, rfl, by decide +kernel, by decide +kernel⟩
theorem sc_is_list : FnScope ["value"] ["value"] (defScope s_is_list) := ⟨rfl, rfl, rfl, by decide +kernel, rfl, by decide +kernel, by decide +kernel⟩
theorem sc_is_number : FnScope ["value"] ["value"] (defScope s_is_number) := ⟨rfl, rfl, rfl, by decide +kernel, rfl, by decide +kernel, by decide +kernel⟩
theorem sc_are_numbers : FnScope ["value", "one"] ["value"] (defScope s_are_numbers) := ⟨rfl, rfl, rfl, by decide +kernel, rfl, by decide +kernel, by decide +kernel⟩
section
variable {P : Program} {w : World} {K : W.Frag} {mg : Str → Option Value} {base : Heap} {C HC : Addr}
theorem ok_is_integer {f : Addr} {fd : FuncData} (F : At K mg "is_integer" s_is_integer ["value"] f fd) (T : Txt K mg C HC) : FnOk P w K mg base L2.CX0 1 f fd ["value"] (spB C isI) := by
  refine F.fn.ok sc_is_integer spB_len fun cdv A outer s H vs Q E hr h => ?_
  obtain ⟨x, d, rfl, hd, hl, q⟩ := h
  refine ⟨_, pss_one (ps_ret (pe_and (pe_callB call_isi (by rfl) T.isi (by decide +kernel) (pa_cons (pv 0) (pa_cons (pe_bltn (v := .ty "int") (by rfl) T.int_ (by decide +kernel) rfl) pa_nil)))
    (pe_one (pe_not (pe_callB call_isi (by rfl) T.isi (by decide +kernel) (pa_cons (pv 0) (pa_cons (pe_bltn (v := .ty "bool") (by rfl) T.bool_ (by decide +kernel) rfl) pa_nil))))))), ?_⟩
  refine ⟨x, rfl, x, .ty "int", _, _, _, rfl, .ty "int", tyx T hd, kit_int T d, _, rfl, ?_⟩
  cases e : isIB d with
  | false =>
    refine iteF ?_
    have z := q H (Same.refl H)
    cases d <;> first | exact z | cases e
  | true =>
    refine iteT ⟨x, rfl, x, .ty "bool", _, _, _, rfl, .ty "bool", tyx T hd, kit_bool T d, _, rfl, ?_⟩
    have z := q H (Same.refl H)
    cases d <;> first | exact z | cases e
theorem ok_is_count {f f1 : Addr} {fd fd1 : FuncData} (F : At K mg "is_count" s_is_count ["value"] f fd) (T : Txt K mg C HC) (F1 : At K mg "is_integer" s_is_integer ["value"] f1 fd1) : FnOk P w K mg base L2.CX0 2 f fd ["value"] (spB C isC) := by
  refine F.fn.ok sc_is_count spB_len fun cdv A outer s H vs Q E hr h => ?_
  obtain ⟨x, d, rfl, hd, hl, q⟩ := h
  refine ⟨_, pss_one (ps_ret (pe_and (pe_call (ok_is_integer F1 T) hr (by rfl) F1.mg F1.fn.kp F1.b .nil pass0 (pa_cons (pv 0) pa_nil)) (pe_one (pe_cmp (pc_ge (pv 0) pe_int) rfl)))), ?_⟩
  refine ⟨x, rfl, x, d, rfl, hd, hl, fun H' s1 => ⟨_, rfl, ?_⟩⟩
  have z := q H' s1
  cases hd with
  | int i => exact ⟨_, rfl, i, 0, rfl, rfl, z⟩
  | _ => exact z
theorem ok_is_list {f : Addr} {fd : FuncData} (F : At K mg "is_list" s_is_list ["value"] f fd) (T : Txt K mg C HC) : FnOk P w K mg base L2.CX0 1 f fd ["value"] (spB C isL) := by
  refine F.fn.ok sc_is_list spB_len fun cdv A outer s H vs Q E hr h => ?_
  obtain ⟨x, d, rfl, hd, hl, q⟩ := h
  refine ⟨_, pss_one (ps_ret (pe_callB call_isiT (by rfl) T.isi (by decide +kernel) (pa_cons (pv 0) (pa_cons (pe_tup (pa_cons (pe_bltn (v := .ty "list") (by rfl) T.list_ (by decide +kernel) rfl)
    (pa_cons (pe_bltn (v := .ty "tuple") (by rfl) T.tuple_ (by decide +kernel) rfl) pa_nil))) pa_nil)))), ?_⟩
  refine ⟨x, rfl, by decide, fun p hp => ?_⟩
  have s1 : Same H (upd H p (.tup [.ty "list", .ty "tuple"])) := same_new hp
  exact ⟨x, p, _, _, _, _, rfl, upd_same, .cons (.ty _) (.cons (.ty _) .nil), tyx T (hd.same s1), kit_seq T d, q _ s1⟩
theorem ok_is_number {f f1 : Addr} {fd fd1 : FuncData} (F : At K mg "is_number" s_is_number ["value"] f fd) (T : Txt K mg C HC) (F1 : At K mg "is_integer" s_is_integer ["value"] f1 fd1) : FnOk P w K mg base L2.CX0 2 f fd ["value"] (spB C isN) := by
  refine F.fn.ok sc_is_number spB_len fun cdv A outer s H vs Q E hr h => ?_
  obtain ⟨x, d, rfl, hd, hl, q⟩ := h
  refine ⟨_, pss_one (ps_ret (pe_or (pe_call (ok_is_integer F1 T) hr (by rfl) F1.mg F1.fn.kp F1.b .nil pass0 (pa_cons (pv 0) pa_nil))
    (pe_one (pe_callB call_isi (by rfl) T.isi (by decide +kernel) (pa_cons (pv 0) (pa_cons (pe_glob (v := .ref C) (by rfl) T.mgC rfl) pa_nil)))))), ?_⟩
  refine ⟨x, rfl, x, d, rfl, hd, hl, fun H' s1 => ⟨_, rfl, ?_⟩⟩
  have z := q H' s1
  cases e : isI d with
  | true =>
    refine iteT ?_
    cases d <;> first | exact z | cases e
  | false =>
    refine iteF ⟨x, rfl, x, .ref C, _, _, _, rfl, .own C, tyx T (hd.same s1), kit_rat T d, ?_⟩
    cases d <;> first | exact z | cases e

theorem all_range {p : D → Bool} : ∀ (l : List D) (f : Nat → Bool), (∀ k d, l[k]? = some d → f k = p d) → ((List.range l.length).map f).all id = l.all p
  | [], _, _ => rfl
  | d :: l, f, h => by
    have h0 : f 0 = p d := h 0 d rfl
    have h1 := all_range (p := p) l (fun k => f (k + 1)) fun k d e => h (k + 1) d (by simpa using e)
    rw [List.length_cons, List.range_succ_eq_map, List.map_cons, List.map_map, List.all_cons, List.all_cons, ← h1, h0]
    rfl
theorem seq_of {H : Hp} {x : V} {d : D} (h : Dt C H x d) (e : isL d = true) : ∃ a xs, x = .ref a ∧ Sq K H a xs ∧ Dts C H xs (itemsD d) := by
  cases h with
  | lst h1 h2 => exact ⟨_, _, rfl, .inl (SqL.of h1), h2⟩
  | tup h1 h2 => exact ⟨_, _, rfl, .inr (SqT.of h1), h2⟩
  | _ => cases e
theorem lens_len : ∀ (l : List D), l.length ≤ lens l
  | [] => Nat.le_refl _
  | d :: l => by
    have := lens_len l
    simp only [lens, List.length_cons]
    omega
theorem lens_item : ∀ {l : List D} {k : Nat} {d : D}, l[k]? = some d → d.len ≤ lens l
  | [], _, _, h => by simp at h
  | e :: l, 0, d, h => by
    simp at h
    subst h
    simp only [lens]
    omega
  | e :: l, k + 1, d, h => by
    have := lens_item (l := l) (k := k) (d := d) (by simpa using h)
    simp only [lens]
    omega
theorem items_len {d : D} (h : d.len ≤ sizeLine) : lens (itemsD d) ≤ sizeLine := by
  cases d with
  | lst l => simp only [D.len] at h; show lens l ≤ _; omega
  | tup l => simp only [D.len] at h; show lens l ≤ _; omega
  | _ => exact Nat.zero_le _
theorem ok_are_numbers {f f1 f2 f3 : Addr} {fd fd1 fd2 fd3 : FuncData} (F : At K mg "are_numbers" s_are_numbers ["value"] f fd) (T : Txt K mg C HC) (F1 : At K mg "is_integer" s_is_integer ["value"] f1 fd1)
    (F2 : At K mg "is_list" s_is_list ["value"] f2 fd2) (F3 : At K mg "is_number" s_is_number ["value"] f3 fd3) : FnOk P w K mg base L2.CX0 3 f fd ["value"] (spB C areN) := by
  refine F.fn.ok sc_are_numbers spB_len fun cdv A outer s H vs Q E hr h => ?_
  obtain ⟨x, d, rfl, hd, hl, q⟩ := h
  refine ⟨_, pss_one (ps_ret (pe_and (pe_call (ok_is_list F2 T) (hr.mono (by decide)) (by rfl) F2.mg F2.fn.kp F2.b .nil pass0 (pa_cons (pv 0) pa_nil))
    (pe_one (pe_callB (cr_all rfl) (by rfl) T.all_ (by decide +kernel) (pa_cons (pe_lc (own := [("one", 1)]) (g := gName 1) (tt := tYes) rfl sc_are_numbers.nd (pi_seq (pv 0)) (blkOk_by (N := ["value", "one"]) (sc := defScope s_are_numbers) (by decide +kernel))
      (fun _ _ _ _ _ => pg_name (i := 1) sc_are_numbers.nd rfl (Or.inl rfl)) (fun _ _ _ _ _ => pts_nil) (fun _ _ _ _ _ => pe_call (ok_is_number F3 T F1) hr (by rfl) F3.mg F3.fn.kp F3.b .nil pass0 (pa_cons (pv 1) pa_nil))) pa_nil))))), ?_⟩
  refine ⟨x, rfl, x, d, rfl, hd, hl, fun H1 s1 => ⟨_, rfl, ?_⟩⟩
  cases e : isL d with
  | false =>
    refine iteF ?_
    have z := q H1 s1
    rw [areN, e] at z
    exact z
  | true =>
    refine iteT ?_
    obtain ⟨a, xs, rfl, hs, hds⟩ := seq_of (K := K) hd e
    have hil := items_len hl
    have hll := lens_len (itemsD d)
    have hxl := hds.length
    show tLc (iSeq K (tVar 0)) (gName 1) tYes (tCall (spB C isN) [] E0 (tCons (tVar 1) tNil)) [1] [some (.ref a), none] H1 (fun z H2 => rAll K [z] H2 Q)
    refine comp_vals (xs := xs) (fun k => V.bl (((itemsD d)[k]?.map isN).getD false)) rfl (hs.same s1) (by omega) (fun k y H2 R hy s2 r => ?_) fun D H2 hD s2 e2 => ?_
    · obtain ⟨dy, e3, hdy⟩ := hds.at hy
      refine ⟨y, rfl, y, dy, rfl, (hdy.same s1).same s2, Nat.le_trans (lens_item e3) hil, fun H3 s3 => ?_⟩
      have z := r H3 s3
      rw [e3] at z
      exact z
    · refine ⟨D, (List.range xs.length).map fun k => ((itemsD d)[k]?.map isN).getD false, rfl, SqL.of ?_, ?_⟩
      · rw [e2, List.map_map]
        rfl
      · have z := q H2 (s1.trans s2)
        rw [hxl, all_range (p := isN) (itemsD d) _ fun k dy e3 => by rw [e3]; rfl]
        rw [areN, e] at z
        exact z

theorem iteB {b : Bool} {A B : Prop} (h1 : b = true → A) (h2 : b = false → B) : if b = true then A else B := by
  cases b with
  | true => exact iteT (h1 rfl)
  | false => exact iteF (h2 rfl)
/-- all([.. for one in l]) where each is a judge's answer -/
theorem all_comp {te : TE} {i j : Nat} {σ : L2.St} {H1 : Hp} {Q : VK} {a : Addr} {xs : List V} {l : List D} (p : D → Bool) (hj : σ[j]? = some (some (.ref a))) (hs : Sq K H1 a xs) (hds : Dts C H1 xs l) (hl : lens l ≤ sizeLine)
    (el : ∀ y dy H2 R, dy ∈ l → Dt C H2 y dy → dy.len ≤ sizeLine → Same H1 H2 → (∀ H3, Same H2 H3 → R (.bl (p dy)) H3) → te ((wipe σ [i]).set i (some y)) H2 R)
    (fin : ∀ H3, Same H1 H3 → Q (.bl (l.all p)) H3) : tLc (iSeq K (tVar j)) (gName i) tYes te [i] σ H1 (fun z H2 => rAll K [z] H2 Q) := by
  have hll := lens_len l
  have hxl := hds.length
  refine comp_vals (xs := xs) (fun k => V.bl ((l[k]?.map p).getD false)) hj hs (by omega) (fun k y H2 R hy s2 r => ?_) fun A H2 hD s2 e2 => ?_
  · obtain ⟨dy, e3, hdy⟩ := hds.at hy
    refine el y dy H2 R (List.mem_of_getElem? e3) (hdy.same s2) (Nat.le_trans (lens_item e3) hl) s2 fun H3 s3 => ?_
    have z := r H3 s3
    rw [e3] at z
    exact z
  · refine ⟨A, (List.range xs.length).map fun k => (l[k]?.map p).getD false, rfl, SqL.of ?_, ?_⟩
    · rw [e2, List.map_map]
      rfl
    · rw [hxl, all_range (p := p) l _ fun k dy e3 => by rw [e3]; rfl]
      exact fin H2 s2

def isRow (w : Int) (d : D) : Bool := areN d && decide (((itemsD d).length : Int) = w)
def areRows (m w : Int) (d : D) : Bool := isL d && (decide (((itemsD d).length : Int) ≤ m) && (itemsD d).all (isRow w))
def isTab (d : D) : Bool := isL d && ((decide ((1 : Int) ≤ (itemsD d).length) && decide (((itemsD d).length : Int) ≤ 4)) && areRows 4 (itemsD d).length d)
def spRow (C : Addr) : Sp := fun vs H Q _ => ∃ x d w, vs = [x, .int w] ∧ Dt C H x d ∧ d.len ≤ sizeLine ∧ ∀ H', Same H H' → Q (.bl (isRow w d)) H'
def spRows (C : Addr) : Sp := fun vs H Q _ => ∃ x d m w, vs = [x, .int m, .int w] ∧ Dt C H x d ∧ d.len ≤ sizeLine ∧ ∀ H', Same H H' → Q (.bl (areRows m w d)) H'
theorem sc_is_row_of : FnScope ["value", "wide"] ["value", "wide"] (defScope s_is_row_of) := ⟨rfl, rfl, rfl, by decide +kernel, rfl, by decide +kernel, by decide +kernel⟩
theorem sc_are_rows_of : FnScope ["value", "most", "wide", "row"] ["value", "most", "wide"] (defScope s_are_rows_of) := ⟨rfl, rfl, rfl, by decide +kernel, rfl, by decide +kernel, by decide +kernel⟩
theorem sc_is_table : FnScope ["value"] ["value"] (defScope s_is_table) := ⟨rfl, rfl, rfl, by decide +kernel, rfl, by decide +kernel, by decide +kernel⟩
theorem ok_is_row_of {f g : Addr} {fd gd : FuncData} (F : At K mg "is_row_of" s_is_row_of ["value", "wide"] f fd) (T : Txt K mg C HC) (G : At K mg "are_numbers" s_are_numbers ["value"] g gd)
    (N : FnOk P w K mg base L2.CX0 3 g gd ["value"] (spB C areN)) : FnOk P w K mg base L2.CX0 4 f fd ["value", "wide"] (spRow C) := by
  refine F.fn.ok sc_is_row_of (fun vs H Q E h => ?_) fun cdv A outer s H vs Q E hr h => ?_
  · obtain ⟨x, d, m, rfl, _⟩ := h
    rfl
  obtain ⟨x, d, m, rfl, hd, hl, q⟩ := h
  refine ⟨_, pss_one (ps_ret (pe_and (pe_call N hr (by rfl) G.mg G.fn.kp G.b .nil pass0 (pa_cons (pv 0) pa_nil)) (pe_one (pe_cmp (pc_eqI (pe_callB call_len_seq (by rfl) T.len_ PySem.boot_len (pa_cons (pv 0) pa_nil)) (pv 1)) rfl)))), ?_⟩
  refine ⟨x, rfl, x, d, rfl, hd, hl, fun H1 s1 => ⟨_, rfl, ?_⟩⟩
  have z := q H1 s1
  unfold isRow at z
  cases e : areN d with
  | false =>
    rw [e] at z
    exact iteF z
  | true =>
    rw [e] at z
    have e1 : isL d = true := (Bool.and_eq_true_iff.mp e).1
    obtain ⟨a, xs, rfl, hs, hds⟩ := seq_of (K := K) hd e1
    refine iteT ⟨.ref a, rfl, a, xs, rfl, hs.same s1, .int m, rfl, _, _, rfl, rfl, ?_⟩
    rw [hds.length]
    exact z
theorem ok_are_rows_of {f g h1 : Addr} {fd gd hd1 : FuncData} (F : At K mg "are_rows_of" s_are_rows_of ["value", "most", "wide"] f fd) (T : Txt K mg C HC) (G : At K mg "is_row_of" s_is_row_of ["value", "wide"] g gd)
    (N : FnOk P w K mg base L2.CX0 4 g gd ["value", "wide"] (spRow C)) (L : At K mg "is_list" s_is_list ["value"] h1 hd1) : FnOk P w K mg base L2.CX0 5 f fd ["value", "most", "wide"] (spRows C) := by
  refine F.fn.ok sc_are_rows_of (fun vs H Q E h => ?_) fun cdv A outer s H vs Q E hr h => ?_
  · obtain ⟨x, d, m, w, rfl, _⟩ := h
    rfl
  obtain ⟨x, d, m, n, rfl, hd, hl, q⟩ := h
  refine ⟨_, pss_one (ps_ret (pe_and (pe_call (ok_is_list L T) (hr.mono (by decide)) (by rfl) L.mg L.fn.kp L.b .nil pass0 (pa_cons (pv 0) pa_nil))
    (pe_and (pe_cmp (pc_le (pe_callB call_len_seq (by rfl) T.len_ PySem.boot_len (pa_cons (pv 0) pa_nil)) (pv 1)) rfl)
    (pe_one (pe_callB (cr_all rfl) (by rfl) T.all_ (by decide +kernel) (pa_cons (pe_lc (own := [("row", 3)]) (g := gName 3) (tt := tYes) rfl sc_are_rows_of.nd (pi_seq (pv 0)) (blkOk_by (N := ["value", "most", "wide", "row"]) (sc := defScope s_are_rows_of) (by decide +kernel))
      (fun _ _ _ _ _ => pg_name (i := 3) sc_are_rows_of.nd rfl (Or.inl rfl)) (fun _ _ _ _ _ => pts_nil) (fun _ _ _ _ _ => pe_call N hr (by rfl) G.mg G.fn.kp G.b .nil pass0 (pa_cons (pv 3) (pa_cons (pv 2) pa_nil)))) pa_nil)))))), ?_⟩
  refine ⟨x, rfl, x, d, rfl, hd, hl, fun H1 s1 => ⟨_, rfl, ?_⟩⟩
  unfold areRows at q
  cases e : isL d with
  | false =>
    rw [e] at q
    exact iteF (q H1 s1)
  | true =>
    rw [e] at q
    obtain ⟨a, xs, rfl, hs, hds⟩ := seq_of (K := K) hd e
    refine iteT ⟨.ref a, rfl, a, xs, rfl, hs.same s1, .int m, rfl, _, _, rfl, rfl, _, rfl, ?_⟩
    rw [hds.length]
    refine iteB (b := decide (((itemsD d).length : Int) ≤ m)) (fun e2 => ?_) fun e2 => ?_
    · rw [e2] at q
      show tLc (iSeq K (tVar 0)) (gName 3) tYes (tCall (spRow C) [] E0 (tCons (tVar 3) (tCons (tVar 2) tNil))) [3] [some (.ref a), some (.int m), some (.int n), none] H1 (fun z H2 => rAll K [z] H2 Q)
      refine all_comp (isRow n) rfl (hs.same s1) (hds.same s1) (items_len hl) (fun y dy H2 R _ hdy hyl s2 r => ?_) fun H3 s3 => q H3 (s1.trans s3)
      exact ⟨y, rfl, .int n, rfl, y, dy, n, rfl, hdy, hyl, r⟩
    · rw [e2] at q
      exact q H1 s1
theorem ok_is_table {f g h1 : Addr} {fd gd hd1 : FuncData} (F : At K mg "is_table" s_is_table ["value"] f fd) (T : Txt K mg C HC) (G : At K mg "are_rows_of" s_are_rows_of ["value", "most", "wide"] g gd)
    (N : FnOk P w K mg base L2.CX0 5 g gd ["value", "most", "wide"] (spRows C)) (L : At K mg "is_list" s_is_list ["value"] h1 hd1) : FnOk P w K mg base L2.CX0 6 f fd ["value"] (spB C isTab) := by
  refine F.fn.ok sc_is_table spB_len fun cdv A outer s H vs Q E hr h => ?_
  obtain ⟨x, d, rfl, hd, hl, q⟩ := h
  obtain ⟨tk, hlg⟩ := T.largest
  have glg : ∀ {X : Cx} {p : Pos}, X.mg = mg → Gl X "LARGEST" → PE X (.Name "LARGEST" p) (tC (.int 4)) := fun e hg => pe_glob hg (by rw [e]; exact hlg) ⟨_, rfl⟩
  refine ⟨_, pss_one (ps_ret (pe_and (pe_call (ok_is_list L T) (hr.mono (by decide)) (by rfl) L.mg L.fn.kp L.b .nil pass0 (pa_cons (pv 0) pa_nil))
    (pe_and (pe_chain op_le op_le pe_int (pe_callB call_len_seq (by rfl) T.len_ PySem.boot_len (pa_cons (pv 0) pa_nil)) (glg rfl (by rfl)))
    (pe_one (pe_call N hr (by rfl) G.mg G.fn.kp G.b .nil pass0 (pa_cons (pv 0) (pa_cons (glg rfl (by rfl)) (pa_cons (pe_callB call_len_seq (by rfl) T.len_ PySem.boot_len (pa_cons (pv 0) pa_nil)) pa_nil)))))))), ?_⟩
  refine ⟨x, rfl, x, d, rfl, hd, hl, fun H1 s1 => ⟨_, rfl, ?_⟩⟩
  unfold isTab at q
  cases e : isL d with
  | false =>
    rw [e] at q
    exact iteF (q H1 s1)
  | true =>
    rw [e] at q
    obtain ⟨a, xs, rfl, hs, hds⟩ := seq_of (K := K) hd e
    refine iteT ⟨.ref a, rfl, a, xs, rfl, hs.same s1, _, _, rfl, rfl, _, rfl, ?_⟩
    have lenE := hds.length
    cases e1 : decide ((1 : Int) ≤ (itemsD d).length) with
    | false =>
      rw [e1] at q
      rw [lenE, e1]
      exact iteF ⟨_, rfl, iteF (q H1 s1)⟩
    | true =>
      rw [e1] at q
      rw [lenE, e1]
      refine iteT ⟨_, _, rfl, rfl, _, rfl, ?_⟩
      cases e2 : decide (((itemsD d).length : Int) ≤ 4) with
      | false =>
        rw [e2] at q
        exact iteF (q H1 s1)
      | true =>
        rw [e2] at q
        refine iteT ⟨.ref a, rfl, .ref a, rfl, a, xs, rfl, hs.same s1, .ref a, d, 4, _, ?_, hd.same s1, hl, fun H2 s2 => q H2 (s1.trans s2)⟩
        rw [lenE]
        rfl
end
end KT

set_option Elab.async false
set_option linter.all false
set_option maxRecDepth 100000
set_option maxHeartbeats 4000000
namespace KT
open PySem L2 TW
abbrev s_init : Stmt := inClass (top 17) 0
abbrev s_repr : Stmt := inClass (top 17) 19
abbrev s_ratio_of : Stmt := top 20
abbrev s_ratio_row : Stmt := top 21
abbrev s_told_table : Stmt := top 32
/-- a method of a class -/
structure Me (K : W.Frag) (qual x : Str) (st : Stmt) (f : Addr) (fd : FuncData) : Prop where
  fn : Fun K x qual st f fd
  b : Binds K fd ["self"] []

/-! Ratio.__init__ -/
def fsR (x y : Int) : List (Str × V) := putF "_bottom" (.int y) (putF "_top" (.int x) [])
theorem kTB : ¬ (("_top" : Str) = "_bottom") := by decide +kernel
theorem fsR_top (x y : Int) : (fsR x y).lookup ("_top" : Str) = some (V.int x) := by
  unfold fsR
  rw [lookup_putF, if_neg kTB, lookup_putF, if_pos rfl]
theorem fsR_bottom (x y : Int) : (fsR x y).lookup ("_bottom" : Str) = some (V.int y) := by
  unfold fsR
  rw [lookup_putF, if_pos rfl]
/-- the common part, with the bottom's sign -/
def cm (t b : Int) : Int := if b < 0 then -((Nat.gcd t.natAbs b.natAbs : Nat) : Int) else ((Nat.gcd t.natAbs b.natAbs : Nat) : Int)
def spInit (C : Addr) : Sp := fun vs H Q _ => ∃ (p dx : Addr) (t b : Int), vs = [.ref p, .int t, .int b] ∧ H p = some (.ins C dx []) ∧ b ≠ 0 ∧ Nat.gcd t.natAbs b.natAbs < 1073741824 ∧
  ∀ H', (∀ q o, H q = some o → q ≠ p → H' q = some o) → H' p = some (.ins C dx (fsR (t.fdiv (cm t b)) (b.fdiv (cm t b)))) → Q .non H'
theorem sc_init : FnScope ["self", "top", "bottom", "common"] ["self", "top", "bottom"] (defScope s_init) := ⟨rfl, rfl, rfl, by decide +kernel, rfl, by decide +kernel, by decide +kernel⟩
theorem sc_repr : FnScope ["self"] ["self"] (defScope s_repr) := ⟨rfl, rfl, rfl, by decide +kernel, rfl, by decide +kernel, by decide +kernel⟩
theorem sc_ratio_of : FnScope ["number"] ["number"] (defScope s_ratio_of) := ⟨rfl, rfl, rfl, by decide +kernel, rfl, by decide +kernel, by decide +kernel⟩
theorem sc_ratio_row : FnScope ["numbers", "number"] ["numbers"] (defScope s_ratio_row) := ⟨rfl, rfl, rfl, by decide +kernel, rfl, by decide +kernel, by decide +kernel⟩
theorem sc_told_table : FnScope ["table", "row"] ["table"] (defScope s_told_table) := ⟨rfl, rfl, rfl, by decide +kernel, rfl, by decide +kernel, by decide +kernel⟩
section
variable {P : Program} {w : World} {K : W.Frag} {mg : Str → Option Value} {base : Heap} {C HC : Addr}
abbrev InitAt (K : W.Frag) (f : Addr) (fd : FuncData) : Prop := FunD K "__init__" "Ratio.__init__" (defArgs s_init) (defBody s_init) (defScope s_init) [.int 1] [] f fd
theorem ok_init {f f1 : Addr} {fd fd1 : FuncData} (F : InitAt K f fd) (T : Txt K mg C HC) (F1 : At K mg "is_integer" s_is_integer ["value"] f1 fd1) : FnOk P w K mg base L2.CX0 2 f fd ["self", "top", "bottom"] (spInit C) := by
  refine F.ok sc_init (fun vs H Q E h => ?_) fun cdv A outer s H vs Q E hr h => ?_
  · obtain ⟨p, dx, t, b, rfl, _⟩ := h
    rfl
  obtain ⟨p, dx, t, b, rfl, hp, hb, hz, q⟩ := h
  have G := ok_is_integer (P := P) (w := w) (base := base) F1 T
  refine ⟨_, pss_cons (ps_if (pt_not (pt_val (pe_call G hr (by rfl) F1.mg F1.fn.kp F1.b .nil pass0 (pa_cons (pv 1) pa_nil)))) (pss_one ps_never) pss_nil)
    (pss_cons (ps_if (PW.pt (pw_or (pt_not (pt_val (pe_call G hr (by rfl) F1.mg F1.fn.kp F1.b .nil pass0 (pa_cons (pv 2) pa_nil)))) (pw_or1 (pt_cmp (pc_eqI (pv 2) pe_int))))) (pss_one ps_never) pss_nil)
    (pss_cons (ps_set (i := 3) sc_init.nd rfl (.inl rfl) (pe_callBfun cr_gcd (by rfl) T.gcd_ (pa_cons (pv 1) (pa_cons (pv 2) pa_nil))))
    (pss_cons (ps_if (pt_cmp (pc_lt (pv 2) pe_int)) (pss_one (ps_set (i := 3) sc_init.nd rfl (.inl rfl) (pe_un un_neg (pv 3)))) pss_nil)
    (pss_cons (ps_fld (pv 0) (pe_op op_fdivN (pv 1) (pv 3)) rfl) (pss_one (ps_fld (pv 0) (pe_op op_fdivN (pv 2) (pv 3)) rfl)))))), ?_⟩
  have len1 : ∀ i : Int, (D.int i).len ≤ sizeLine := fun i => by show 1921 ≤ 2 ^ 24; decide
  refine ⟨.int t, rfl, .int t, .int t, rfl, .int t, len1 _, fun H1 s1 => ⟨_, rfl, iteF ?_⟩⟩
  refine ⟨.int b, rfl, .int b, .int b, rfl, .int b, len1 _, fun H2 s2 => ⟨_, rfl, iteF ⟨.int b, rfl, b, 0, rfl, rfl, _, rfl, ?_⟩⟩⟩
  refine iteB (b := decide (b = 0)) (fun e => absurd (of_decide_eq_true e) hb) fun _ => ?_
  refine ⟨.int t, rfl, .int b, rfl, t, b, rfl, .int b, rfl, b, 0, rfl, rfl, _, rfl, ?_⟩
  have s12 : Same H H2 := s1.trans s2
  -- the two stores
  have rest : ∀ c : Int, c = cm t b → c ≠ 0 → c.natAbs < 1073741824 →
      tSeq (sFld K (tVar 0) (tOp (rI CDivN fun i j => .int (i.fdiv j)) (tVar 1) (tVar 3)) "_top") (sFld K (tVar 0) (tOp (rI CDivN fun i j => .int (i.fdiv j)) (tVar 2) (tVar 3)) "_bottom") { nx := fun _ H' => Q .non H', rt := Q } [some (.ref p), some (.int t), some (.int b), some (.int c)] H2 := by
    rintro c rfl c0 cz
    refine ⟨.int t, rfl, .int _, rfl, t, _, rfl, rfl, ⟨c0, cz⟩, .ref p, rfl, p, C, dx, [], rfl, s12 _ _ hp, T.clC, T.nTop, by show 0 < 1000; decide, ?_⟩
    refine ⟨.int b, rfl, .int _, rfl, b, _, rfl, rfl, ⟨c0, cz⟩, .ref p, rfl, p, C, dx, _, rfl, upd_same, T.clC, T.nBot, by show 1 < 1000; decide, ?_⟩
    refine q _ (fun z o e hz => ?_) upd_same
    rw [upd_ne hz, upd_ne hz]
    exact s12 _ _ e
  have gpos : (0 : Int) < ((Nat.gcd t.natAbs b.natAbs : Nat) : Int) := by
    have : 0 < Nat.gcd t.natAbs b.natAbs := Nat.gcd_pos_of_pos_right _ (by omega)
    omega
  refine iteB (b := decide (b < 0)) (fun e => ?_) fun e => ?_
  · have e' : b < 0 := of_decide_eq_true e
    refine ⟨.int _, rfl, _, rfl, rest _ ?_ ?_ ?_⟩
    · unfold cm
      rw [if_pos e']
    · omega
    · omega
  · have e' : ¬ b < 0 := of_decide_eq_false e
    refine rest _ ?_ ?_ ?_
    · unfold cm
      rw [if_neg e']
    · omega
    · omega
/-! Ratio.__repr__ -/
theorem ok_repr {f : Addr} {fd : FuncData} (F : Fun K "__repr__" "Ratio.__repr__" s_repr f fd) (T : Txt K mg C HC) : FnOk P w K mg base L2.CX0 1 f fd ["self"] (spRepr C) := by
  refine F.ok sc_repr (fun vs H Q E h => ?_) fun cdv A outer s H vs Q E hr h => ?_
  · obtain ⟨a, dx, fs, t, b, rfl, _⟩ := h
    rfl
  obtain ⟨a, dx, fs, t, b, rfl, ha, ht, hb, zt, zb, q⟩ := h
  refine ⟨_, pss_one (ps_ret (pe_joined (.cons pe_str (.cons (pe_fmt (pe_fld (pv 0) rfl)) (.cons pe_str (.cons (pe_fmt (pe_fld (pv 0) rfl)) (.cons pe_str .nil))))))), ?_⟩
  have q1 := len_int zt
  have q2 := len_int zb
  have e0 : (Str.empty).length = 0 := rfl
  have e1 : (("Ratio(" : String) : Str).length = 6 := rfl
  have e2 : ((", " : String) : Str).length = 2 := rfl
  have e3 : ((")" : String) : Str).length = 1 := rfl
  have z : (6000 : Nat) ≤ sizeLine := by decide
  refine ⟨_, rfl, by rw [strLen_append, e0, e1]; omega, .ref a, rfl, a, C, dx, fs, _, rfl, ha, T.clC, T.nTop, ht, .inr ⟨t, rfl, zt, _, rfl, by rw [strLen_append, strLen_append, e0, e1]; omega, ?_⟩⟩
  refine ⟨_, rfl, by rw [strLen_append, strLen_append, strLen_append, e0, e1, e2]; omega, .ref a, rfl, a, C, dx, fs, _, rfl, ha, T.clC, T.nBot, hb, .inr ⟨b, rfl, zb, _, rfl, by rw [strLen_append, strLen_append, strLen_append, strLen_append, e0, e1, e2]; omega, ?_⟩⟩
  exact ⟨_, rfl, by rw [strLen_append, strLen_append, strLen_append, strLen_append, strLen_append, e0, e1, e2, e3]; omega, q⟩
end
end KT

set_option Elab.async false
set_option linter.all false
set_option maxRecDepth 100000
set_option maxHeartbeats 4000000
namespace KT
open PySem L2 TW
abbrev s_are_letters : Stmt := top 33
abbrev s_hinit : Stmt := inClass (top 40) 0
abbrev s_many : Stmt := inClass (top 40) 2
abbrev s_check_house : Stmt := top 43
abbrev s_is_word : Stmt := top 41
abbrev s_are_letters_at : Stmt := top 42
abbrev s_seen : Stmt := top 49
def rLen (K : W.Frag) : List V → Hp → VK → Prop := fun xs H Q => ∃ p ys, xs = [.ref p] ∧ (SqL K H p ys ∨ SqT K H p ys) ∧ Q (.int ys.length) H
/-- numbers stay, something comes -/
def spSome (C : Addr) (p : D → Bool) : Sp := fun vs H Q _ => ∃ x d, vs = [x] ∧ Dt C H x d ∧ d.len ≤ sizeLine ∧ p d = true ∧ ∀ y H', Same H H' → Q y H'
theorem spSome_len {C : Addr} {p : D → Bool} {x : Str} : ∀ vs H Q E, spSome C p vs H Q E → vs.length = [x].length := by
  rintro vs H Q E ⟨x, d, rfl, _⟩
  rfl
section
variable {P : Program} {w : World} {K : W.Frag} {mg : Str → Option Value} {base : Heap} {C HC : Addr}
theorem init_binds {f : Addr} {fd : FuncData} (F : InitAt K f fd) : ∃ ds, Vals [V.int 1] ds ∧ Binds K fd ["self", "top", "bottom"] ds :=
  F.binds1 (n := 2) (j := 0) (by simp) rfl fun T kV doc pm an cdv ct us its h1 h2 => match us, its, h1, h2 with
    | [_, _], [_], _, _ => ⟨_, rfl, rfl⟩
theorem ok_ratio_of {f f1 f2 : Addr} {fd fd1 fd2 : FuncData} (F : At K mg "ratio_of" s_ratio_of ["number"] f fd) (T : Txt K mg C HC) (F1 : At K mg "is_integer" s_is_integer ["value"] f1 fd1)
    (I : InitAt K f2 fd2) (M : Mk K C f2) : FnOk P w K mg base L2.CX0 4 f fd ["number"] (spSome C isN) := by
  refine F.fn.ok sc_ratio_of spSome_len fun cdv A outer s H vs Q E hr h => ?_
  obtain ⟨x, d, rfl, hd, hl, hn, q⟩ := h
  obtain ⟨ds, vd, bd⟩ := init_binds I
  refine ⟨_, pss_one (ps_ret (pe_ifExp (pt_val (pe_callB call_isi (by rfl) T.isi (by decide +kernel) (pa_cons (pv 0) (pa_cons (pe_glob (v := .ref C) (by rfl) T.mgC rfl) pa_nil)))) (pv 0)
    (pe_make M (ok_init I T F1) hr (by rfl) T.mgC bd vd pass0 (pa_cons (pv 0) pa_nil)))), ?_⟩
  refine ⟨x, rfl, x, .ref C, _, _, _, rfl, .own C, tyx T hd, kit_rat T d, _, rfl, ?_⟩
  cases hd with
  | rat _ _ _ => exact iteT ⟨_, rfl, q _ H (Same.refl H)⟩
  | int i =>
    refine iteF ⟨.int i, rfl, fun p dx np ndx ne => ?_⟩
    refine ⟨p, dx, i, 1, rfl, upd_same, by decide, ?_, fun H' keep _ => ⟨rfl, q _ H' fun b o e => ?_⟩⟩
    · show Nat.gcd i.natAbs 1 < _
      rw [Nat.gcd_one_right]
      decide
    · refine keep b o ?_ (ne_of_none e np)
      rw [upd_ne (ne_of_none e np), upd_ne (ne_of_none e ndx)]
      exact e
  | _ => cases hn

theorem sc_are_letters : FnScope ["value", "most", "table"] ["value", "most"] (defScope s_are_letters) := ⟨rfl, rfl, rfl, by decide +kernel, rfl, by decide +kernel, by decide +kernel⟩
theorem sc_hinit : FnScope ["self", "letters", "letter"] ["self", "letters"] (defScope s_hinit) := ⟨rfl, rfl, rfl, by decide +kernel, rfl, by decide +kernel, by decide +kernel⟩
theorem sc_many : FnScope ["self"] ["self"] (defScope s_many) := ⟨rfl, rfl, rfl, by decide +kernel, rfl, by decide +kernel, by decide +kernel⟩
theorem sc_check_house : FnScope ["house"] ["house"] (defScope s_check_house) := ⟨rfl, rfl, rfl, by decide +kernel, rfl, by decide +kernel, by decide +kernel⟩
theorem sc_are_letters_at : FnScope ["value", "many", "at"] ["value", "many"] (defScope s_are_letters_at) := ⟨rfl, rfl, rfl, by decide +kernel, rfl, by decide +kernel, by decide +kernel⟩
theorem sc_is_word : FnScope ["house", "value"] ["house", "value"] (defScope s_is_word) := ⟨rfl, rfl, rfl, by decide +kernel, rfl, by decide +kernel, by decide +kernel⟩
theorem sc_seen : FnScope ["_law_many", "_law_value", "_law_letter"] ["_law_many", "_law_value"] (defScope s_seen) := ⟨rfl, rfl, rfl, by decide +kernel, rfl, by decide +kernel, by decide +kernel⟩
theorem ok_ratio_row {f g : Addr} {fd gd : FuncData} (F : At K mg "ratio_row" s_ratio_row ["numbers"] f fd) (T : Txt K mg C HC) (G : At K mg "ratio_of" s_ratio_of ["number"] g gd)
    (N : FnOk P w K mg base L2.CX0 4 g gd ["number"] (spSome C isN)) : FnOk P w K mg base L2.CX0 5 f fd ["numbers"] (spSome C areN) := by
  refine F.fn.ok sc_ratio_row spSome_len fun cdv A outer s H vs Q E hr h => ?_
  obtain ⟨x, d, rfl, hd, hl, hn, q⟩ := h
  refine ⟨_, pss_one (ps_ret (pe_lc (own := [("number", 1)]) (g := gName 1) (tt := tYes) rfl sc_ratio_row.nd (pi_seq (pv 0)) (blkOk_by (N := ["numbers", "number"]) (sc := defScope s_ratio_row) (by decide +kernel))
      (fun _ _ _ _ _ => pg_name (i := 1) sc_ratio_row.nd rfl (Or.inl rfl)) (fun _ _ _ _ _ => pts_nil) (fun _ _ _ _ _ => pe_call N hr (by rfl) G.mg G.fn.kp G.b .nil pass0 (pa_cons (pv 1) pa_nil)))), ?_⟩
  obtain ⟨e, en⟩ := Bool.and_eq_true_iff.mp hn
  obtain ⟨a, xs, rfl, hs, hds⟩ := seq_of (K := K) hd e
  have hil := items_len hl
  have hll := lens_len (itemsD d)
  have hxl := hds.length
  show tLc (iSeq K (tVar 0)) (gName 1) tYes (tCall (spSome C isN) [] E0 (tCons (tVar 1) tNil)) [1] [some (.ref a), none] H Q
  refine comp_seq (fun _ _ _ => True) (fun _ _ _ _ _ h => h) rfl hs (by omega) (fun k y H2 R hy s2 r => ?_) fun A ys H2 hA s2 e2 e3 _ => q _ H2 s2
  obtain ⟨dy, e3, hdy⟩ := hds.at hy
  exact ⟨y, rfl, y, dy, rfl, hdy.same s2, Nat.le_trans (lens_item e3) hil, List.all_eq_true.mp en dy (List.mem_of_getElem? e3), fun z H3 s3 => r z H3 s3 fun _ _ _ => trivial⟩
theorem tab_row {d r : D} (h : isTab d = true) (hr : r ∈ itemsD d) : areN r = true := by
  unfold isTab areRows at h
  simp only [Bool.and_eq_true] at h
  have z := List.all_eq_true.mp h.2.2.2.2 r hr
  unfold isRow at z
  exact (Bool.and_eq_true_iff.mp z).1
theorem tab_seq {d : D} (h : isTab d = true) : isL d = true := by
  unfold isTab at h
  exact (Bool.and_eq_true_iff.mp h).1
theorem ok_told_table {f g h1 : Addr} {fd gd hd1 : FuncData} (F : At K mg "told_table" s_told_table ["table"] f fd) (T : Txt K mg C HC) (G : At K mg "is_table" s_is_table ["value"] g gd)
    (N : FnOk P w K mg base L2.CX0 6 g gd ["value"] (spB C isTab)) (R : At K mg "ratio_row" s_ratio_row ["numbers"] h1 hd1) (NR : FnOk P w K mg base L2.CX0 5 h1 hd1 ["numbers"] (spSome C areN)) : FnOk P w K mg base L2.CX0 7 f fd ["table"] (spSome C isTab) := by
  refine F.fn.ok sc_told_table spSome_len fun cdv A outer s H vs Q E hr h => ?_
  obtain ⟨x, d, rfl, hd, hl, hn, q⟩ := h
  refine ⟨_, pss_cons (ps_if (pt_not (pt_val (pe_call N hr (by rfl) G.mg G.fn.kp G.b .nil pass0 (pa_cons (pv 0) pa_nil)))) (pss_one ps_never) pss_nil)
    (pss_one (ps_ret (pe_lc (own := [("row", 1)]) (g := gName 1) (tt := tYes) rfl sc_told_table.nd (pi_seq (pv 0)) (blkOk_by (N := ["table", "row"]) (sc := defScope s_told_table) (by decide +kernel))
      (fun _ _ _ _ _ => pg_name (i := 1) sc_told_table.nd rfl (Or.inl rfl)) (fun _ _ _ _ _ => pts_nil) (fun _ _ _ _ _ => pe_call NR (hr.mono (by decide)) (by rfl) R.mg R.fn.kp R.b .nil pass0 (pa_cons (pv 1) pa_nil))))), ?_⟩
  refine ⟨x, rfl, x, d, rfl, hd, hl, fun H1 s1 => ⟨_, rfl, ?_⟩⟩
  rw [hn]
  refine iteF ?_
  obtain ⟨a, xs, rfl, hs, hds⟩ := seq_of (K := K) hd (tab_seq hn)
  have hil := items_len hl
  have hll := lens_len (itemsD d)
  have hxl := hds.length
  show tLc (iSeq K (tVar 0)) (gName 1) tYes (tCall (spSome C areN) [] E0 (tCons (tVar 1) tNil)) [1] [some (.ref a), none] H1 Q
  refine comp_seq (fun _ _ _ => True) (fun _ _ _ _ _ h => h) rfl (hs.same s1) (by omega) (fun k y H2 R hy s2 r => ?_) fun A ys H2 hA s2 e2 e3 _ => q _ H2 (s1.trans s2)
  obtain ⟨dy, e3, hdy⟩ := hds.at hy
  exact ⟨y, rfl, y, dy, rfl, (hdy.same s1).same s2, Nat.le_trans (lens_item e3) hil, tab_row hn (List.mem_of_getElem? e3), fun z H3 s3 => r z H3 s3 fun _ _ _ => trivial⟩

/-! letters -/
def IsLet (l : List D) (m : Nat) : Prop := 1 ≤ l.length ∧ l.length ≤ 3 ∧ ∀ d ∈ l, isTab d = true ∧ (itemsD d).length = m
def spLet (C : Addr) : Sp := fun vs H Q _ => ∃ a xs l m, vs = [.ref a] ∧ H a = some (.lst xs) ∧ Dts C H xs l ∧ lens l ≤ sizeLine ∧ IsLet l m ∧ ∀ H', Same H H' → Q (.bl true) H'
theorem len_lst {l : List D} (h : lens l + 2 ≤ sizeLine) : (D.lst l).len ≤ sizeLine := by simp only [D.len]; omega
theorem ok_are_letters {f g h1 : Addr} {fd gd hd1 : FuncData} (F : At K mg "are_tables" s_are_letters ["value", "most"] f fd) (T : Txt K mg C HC) (G : At K mg "is_table" s_is_table ["value"] g gd)
    (N : FnOk P w K mg base L2.CX0 6 g gd ["value"] (spB C isTab)) (L : At K mg "is_list" s_is_list ["value"] h1 hd1) : FnOk P w K mg base L2.CX0 7 f fd ["value", "most"] (fun vs H Q E => ∃ l, (D.lst l).len ≤ sizeLine ∧ ∃ a xs m, vs = [.ref a, .int 3] ∧ H a = some (.lst xs) ∧ Dts C H xs l ∧ IsLet l m ∧ ∀ H', Same H H' → Q (.bl true) H') := by
  refine F.fn.ok sc_are_letters (fun vs H Q E h => ?_) fun cdv A outer s H vs Q E hr h => ?_
  · obtain ⟨l, _, a, xs, m, rfl, _⟩ := h
    rfl
  obtain ⟨l, hl, a, xs, m, rfl, ha, hds, ⟨l1, l3, hm⟩, q⟩ := h
  refine ⟨_, pss_cons (ps_if (PW.pt (pw_or (pt_not (pt_val (pe_call (ok_is_list L T) (hr.mono (by decide)) (by rfl) L.mg L.fn.kp L.b .nil pass0 (pa_cons (pv 0) pa_nil))))
      (pw_or1 (pt_not (pt_chain op_le op_le pe_int (pe_callB (r := rLen K) call_len_seq (by rfl) T.len_ PySem.boot_len (pa_cons (pv 0) pa_nil)) (pv 1)))))) (pss_one (ps_ret pe_bl)) pss_nil)
    (pss_one (ps_ret (pe_and (pe_callB (cr_all rfl) (by rfl) T.all_ (by decide +kernel) (pa_cons (pe_lc (own := [("table", 2)]) (g := gName 2) (tt := tYes) rfl sc_are_letters.nd (pi_seq (pv 0)) (blkOk_by (N := ["value", "most", "table"]) (sc := defScope s_are_letters) (by decide +kernel))
      (fun _ _ _ _ _ => pg_name (i := 2) sc_are_letters.nd rfl (Or.inl rfl)) (fun _ _ _ _ _ => pts_nil) (fun _ _ _ _ _ => pe_call N hr (by rfl) G.mg G.fn.kp G.b .nil pass0 (pa_cons (pv 2) pa_nil))) pa_nil))
      (pe_one (pe_callB (cr_all rfl) (by rfl) T.all_ (by decide +kernel) (pa_cons (pe_lc (own := [("table", 2)]) (g := gName 2) (tt := tYes) rfl sc_are_letters.nd (pi_seq (pv 0)) (blkOk_by (N := ["value", "most", "table"]) (sc := defScope s_are_letters) (by decide +kernel))
      (fun _ _ _ _ _ => pg_name (i := 2) sc_are_letters.nd rfl (Or.inl rfl)) (fun _ _ _ _ _ => pts_nil) (fun _ _ _ _ _ => pe_cmp (pc_eqI (pe_callB (r := rLen K) call_len_seq (by rfl) T.len_ PySem.boot_len (pa_cons (pv 2) pa_nil)) (pe_callB (r := rLen K) call_len_seq (by rfl) T.len_ PySem.boot_len (pa_cons (pe_ix (r := rIxL K) ix_list (pv 0) pe_int (fun _ _ => rfl)) pa_nil))) rfl)) pa_nil)))))), ?_⟩
  have hd : Dt C H (.ref a) (.lst l) := .lst ha hds
  have hxl := hds.length
  refine ⟨.ref a, rfl, .ref a, .lst l, rfl, hd, hl, fun H1 s1 => ⟨_, rfl, iteF ?_⟩⟩
  refine ⟨.ref a, rfl, a, xs, rfl, .inl (SqL.of (s1 _ _ ha)), _, _, rfl, rfl, _, rfl, ?_⟩
  have e1 : decide ((1 : Int) ≤ (xs.length : Int)) = true := decide_eq_true (by omega)
  have e3 : decide (((xs.length : Nat) : Int) ≤ 3) = true := decide_eq_true (by omega)
  rw [e1]
  refine iteT ⟨_, rfl, _, _, rfl, rfl, _, rfl, ?_⟩
  rw [e3]
  refine iteF ?_
  have ll : lens l ≤ sizeLine := by simp only [D.len] at hl; omega
  show tLc (iSeq K (tVar 0)) (gName 2) tYes _ [2] [some (.ref a), some (.int 3), none] H1 (fun z H2 => rAll K [z] H2 fun x H3 => ∃ c, x = V.bl c ∧ if c = true then tCB (rAll K) (tCons (tLc (iSeq K (tVar 0)) (gName 2) tYes (tEqI (tCB (rLen K) (tCons (tVar 2) tNil)) (tCB (rLen K) (tCons (tOp (rIxL K) (tVar 0) (tC (.int 0))) tNil))) [2]) tNil) [some (.ref a), some (.int 3), none] H3 Q else Q (.bl false) H3)
  refine all_comp (fun _ => true) rfl (.inl (SqL.of (s1 _ _ ha))) (hds.same s1) ll (fun y dy H2 R hin hdy hyl s2 r => ?_) fun H3 s3 => ?_
  · refine ⟨y, rfl, y, dy, rfl, hdy, hyl, fun H3 s3 => ?_⟩
    rw [(hm dy hin).1]
    exact r H3 s3
  rw [List.all_eq_true.mpr fun _ _ => rfl]
  refine ⟨_, rfl, iteT ?_⟩
  have s13 := s1.trans s3
  show tLc (iSeq K (tVar 0)) (gName 2) tYes _ [2] [some (.ref a), some (.int 3), none] H3 (fun z H2 => rAll K [z] H2 Q)
  refine all_comp (fun _ => true) rfl (.inl (SqL.of (s13 _ _ ha))) (hds.same s13) ll (fun y dy H2 R hin hdy hyl s2 r => ?_) fun H4 s4 => ?_
  · obtain ⟨t1, t2⟩ := hm dy hin
    obtain ⟨b, ys, rfl, hs2, hds2⟩ := seq_of (K := K) hdy (tab_seq t1)
    have lt : 0 < xs.length := by omega
    have x0 : xs[0]? = some xs[0] := List.getElem?_eq_getElem lt
    obtain ⟨d0, g1, g2⟩ := hds.at x0
    obtain ⟨t3, t4⟩ := hm d0 (List.mem_of_getElem? g1)
    obtain ⟨c, zs, e0, hs3, hds3⟩ := seq_of (K := K) g2 (tab_seq t3)
    have q1 := hds2.length
    have q2 := hds3.length
    refine ⟨.ref b, rfl, b, ys, rfl, hs2, .ref a, rfl, a, xs, 0, xs[0], rfl, rfl, SqL.of (s2 _ _ (s13 _ _ ha)), atI_nat (j := 0) x0, c, zs, by rw [e0], (hs3.same s13).same s2, _, _, rfl, rfl, ?_⟩
    have e5 : decide ((ys.length : Int) = (zs.length : Int)) = true := decide_eq_true (by omega)
    show R (.bl (decide ((ys.length : Int) = (zs.length : Int)))) H2
    rw [e5]
    exact r H2 (Same.refl H2)
  · rw [List.all_eq_true.mpr fun _ _ => rfl]
    exact q H4 (s13.trans s4)

/-! House -/
def HouseAt (HC : Addr) (H : Hp) (a : Addr) (n : Nat) : Prop := ∃ dx fs q ys, H a = some (.ins HC dx fs) ∧ fs.lookup ("_letters" : Str) = some (V.ref q) ∧ H q = some (.lst ys) ∧ ys.length = n
theorem HouseAt.same {H H' : Hp} {a : Addr} {n : Nat} (s : Same H H') (h : HouseAt HC H a n) : HouseAt HC H' a n := by
  obtain ⟨dx, fs, q, ys, h1, h2, h3, h4⟩ := h
  exact ⟨dx, fs, q, ys, s _ _ h1, h2, s _ _ h3, h4⟩
abbrev spLetters (C : Addr) : Sp := fun vs H Q E => ∃ l, (D.lst l).len ≤ sizeLine ∧ ∃ a xs m, vs = [.ref a, .int 3] ∧ H a = some (.lst xs) ∧ Dts C H xs l ∧ IsLet l m ∧ ∀ H', Same H H' → Q (.bl true) H'
def spHInit (C HC : Addr) : Sp := fun vs H Q _ => ∃ p dx l a xs m, vs = [.ref p, .ref a] ∧ H p = some (.ins HC dx []) ∧ (D.lst l).len ≤ sizeLine ∧ H a = some (.lst xs) ∧ Dts C H xs l ∧ IsLet l m ∧
  ∀ H', (∀ b o, H b = some o → b ≠ p → H' b = some o) → HouseAt HC H' p l.length → Q .non H'
theorem ok_hinit {f g h1 : Addr} {fd gd hd1 : FuncData} (F : Fun K "__init__" "House.__init__" s_hinit f fd) (T : Txt K mg C HC) (G : At K mg "are_tables" s_are_letters ["value", "most"] g gd)
    (N : FnOk P w K mg base L2.CX0 7 g gd ["value", "most"] (spLetters C)) (R : At K mg "told_table" s_told_table ["table"] h1 hd1) (NR : FnOk P w K mg base L2.CX0 7 h1 hd1 ["table"] (spSome C isTab)) : FnOk P w K mg base L2.CX0 8 f fd ["self", "letters"] (spHInit C HC) := by
  refine F.ok sc_hinit (fun vs H Q E h => ?_) fun cdv A outer s H vs Q E hr h => ?_
  · obtain ⟨p, dx, l, a, xs, m, rfl, _⟩ := h
    rfl
  obtain ⟨p, dx, l, a, xs, m, rfl, hp, hl, ha, hds, hlet, q⟩ := h
  obtain ⟨tk, hmo⟩ := T.most
  have gmo : ∀ {X : Cx} {p : Pos}, X.mg = mg → Gl X "MOST_LETTERS" → PE X (.Name "MOST_LETTERS" p) (tC (.int 3)) := fun e hg => pe_glob hg (by rw [e]; exact hmo) ⟨_, rfl⟩
  refine ⟨_, pss_cons (ps_if (pt_not (pt_val (pe_call N hr (by rfl) G.mg G.fn.kp G.b .nil pass0 (pa_cons (pv 1) (pa_cons (gmo rfl (by rfl)) pa_nil))))) (pss_one ps_never) pss_nil)
    (pss_one (ps_fld (pv 0) (pe_lc (own := [("letter", 2)]) (g := gName 2) (tt := tYes) rfl sc_hinit.nd (pi_seq (pv 1)) (blkOk_by (N := ["self", "letters", "letter"]) (sc := defScope s_hinit) (by decide +kernel))
      (fun _ _ _ _ _ => pg_name (i := 2) sc_hinit.nd rfl (Or.inl rfl)) (fun _ _ _ _ _ => pts_nil) (fun _ _ _ _ _ => pe_call NR hr (by rfl) R.mg R.fn.kp R.b .nil pass0 (pa_cons (pv 2) pa_nil))) rfl)), ?_⟩
  refine ⟨.ref a, rfl, l, hl, a, xs, m, rfl, ha, hds, hlet, fun H1 s1 => ⟨_, rfl, iteF ?_⟩⟩
  have hll := lens_len l
  have hxl := hds.length
  have hil : lens l ≤ sizeLine := by simp only [D.len] at hl; omega
  show tLc (iSeq K (tVar 1)) (gName 2) tYes (tCall (spSome C isTab) [] E0 (tCons (tVar 2) tNil)) [2] [some (.ref p), some (.ref a), none] H1 (fun y H1 => tVar 0 [some (.ref p), some (.ref a), none] H1 fun x H2 => ∃ a C dx fs, x = .ref a ∧ H2 a = some (.ins C dx fs) ∧ Cls K C ∧ NoAttr K C "_letters" ∧ fs.length < 1000 ∧ Q .non (upd H2 a (.ins C dx (putF "_letters" y fs))))
  refine comp_seq (fun _ _ _ => True) (fun _ _ _ _ _ h => h) rfl (.inl (SqL.of (s1 _ _ ha))) (by omega) (fun k y H2 R hy s2 r => ?_) fun A ys H2 hA s2 e2 e3 _ => ?_
  · obtain ⟨dy, e3, hdy⟩ := hds.at hy
    exact ⟨y, rfl, y, dy, rfl, (hdy.same s1).same s2, Nat.le_trans (lens_item e3) hil, (hlet.2.2 dy (List.mem_of_getElem? e3)).1, fun z H3 s3 => r z H3 s3 fun _ _ _ => trivial⟩
  · have hp2 := s2 _ _ (s1 _ _ hp)
    have np : A ≠ p := fun e => by
      subst e
      rw [s1 _ _ hp] at hA
      cases hA
    refine ⟨.ref p, rfl, p, HC, dx, [], rfl, hp2, T.clH, T.nLet, by show 0 < 1000; decide, ?_⟩
    refine q _ (fun b o e hb => ?_) ⟨dx, _, A, ys, upd_same, ?_, ?_, by omega⟩
    · rw [upd_ne hb]
      exact s2 _ _ (s1 _ _ e)
    · rw [lookup_putF, if_pos rfl]
    · rw [upd_ne np]
      exact e2
def spMany (HC : Addr) : Sp := fun vs H Q _ => ∃ a n, vs = [.ref a] ∧ HouseAt HC H a n ∧ Q (.int n) H
theorem ok_many {f : Addr} {fd : FuncData} (F : Fun K "many" "House.many" s_many f fd) (T : Txt K mg C HC) : FnOk P w K mg base L2.CX0 1 f fd ["self"] (spMany HC) := by
  refine F.ok sc_many (fun vs H Q E h => ?_) fun cdv A outer s H vs Q E hr h => ?_
  · obtain ⟨a, n, rfl, _⟩ := h
    rfl
  obtain ⟨a, n, rfl, ⟨dx, fs, q, ys, h1, h2, h3, rfl⟩, k⟩ := h
  refine ⟨_, pss_one (ps_ret (pe_callB call_len_seq (by rfl) T.len_ PySem.boot_len (pa_cons (pe_fld (pv 0) rfl) pa_nil))), ?_⟩
  exact ⟨.ref a, rfl, a, HC, dx, fs, _, rfl, h1, T.clH, T.nLet, h2, q, ys, rfl, .inl (SqL.of h3), k⟩
def spCheck (HC : Addr) : Sp := fun vs H Q _ => ∃ a dx fs, vs = [.ref a] ∧ H a = some (.ins HC dx fs) ∧ Q .non H
theorem ok_check_house {f : Addr} {fd : FuncData} (F : At K mg "check_house" s_check_house ["house"] f fd) (T : Txt K mg C HC) : FnOk P w K mg base L2.CX0 1 f fd ["house"] (spCheck HC) := by
  refine F.fn.ok sc_check_house (fun vs H Q E h => ?_) fun cdv A outer s H vs Q E hr h => ?_
  · obtain ⟨a, dx, fs, rfl, _⟩ := h
    rfl
  obtain ⟨a, dx, fs, rfl, ha, q⟩ := h
  refine ⟨_, pss_one (ps_if (pt_not (pt_val (pe_callB call_isi (by rfl) T.isi (by decide +kernel) (pa_cons (pv 0) (pa_cons (pe_glob (v := .ref HC) (by rfl) T.mgH rfl) pa_nil))))) (pss_one ps_never) pss_nil), ?_⟩
  exact ⟨.ref a, rfl, .ref a, .ref HC, _, _, true, rfl, .own HC, .base (.ins ha T.clH T.atH T.cg T.ct T.moH), T.kHH, true, rfl, iteF q⟩
/-- the property many -/
structure ManyAt (K : W.Frag) (HC : Addr) (p g : Addr) (gd : FuncData) : Prop where
  pr : PropOf K HC "many" p g
  fn : Fun K "many" "House.many" s_many g gd
  b : Binds K gd ["self"] []
def below (n : Nat) : D → Bool
  | .int i => decide (0 ≤ i) && decide (i < n)
  | _ => false
def isWord (n : Nat) (d : D) : Bool := isL d && (decide (((itemsD d).length : Int) ≤ 16) && (itemsD d).all (below n))
def spLetAt (C : Addr) : Sp := fun vs H Q _ => ∃ (n : Nat) (x : V) (d : D), vs = [x, .int n] ∧ Dt C H x d ∧ d.len ≤ sizeLine ∧ ∀ H', Same H H' → Q (.bl (isWord n d)) H'
theorem ok_are_letters_at {f g h1 i1 : Addr} {fd gd hd1 id1 : FuncData} (F : At K mg "are_letters_at" s_are_letters_at ["value", "many"] f fd) (T : Txt K mg C HC) (L : At K mg "is_list" s_is_list ["value"] h1 hd1)
    (Ct : At K mg "is_count" s_is_count ["value"] g gd) (I : At K mg "is_integer" s_is_integer ["value"] i1 id1) : FnOk P w K mg base L2.CX0 4 f fd ["value", "many"] (spLetAt C) := by
  refine F.fn.ok sc_are_letters_at (fun vs H Q E h => ?_) fun cdv A outer s H vs Q E hr h => ?_
  · obtain ⟨n, x, d, rfl, _⟩ := h
    rfl
  obtain ⟨n, x, d, rfl, hd, hl, q⟩ := h
  obtain ⟨tk, hlo⟩ := T.longest
  have glo : ∀ {X : Cx} {p : Pos}, X.mg = mg → Gl X "LONGEST_WORD" → PE X (.Name "LONGEST_WORD" p) (tC (.int 16)) := fun e hg => pe_glob hg (by rw [e]; exact hlo) ⟨_, rfl⟩
  refine ⟨_, pss_cons (ps_if (PW.pt (pw_or (pt_not (pt_val (pe_call (ok_is_list L T) (hr.mono (by decide)) (by rfl) L.mg L.fn.kp L.b .nil pass0 (pa_cons (pv 0) pa_nil))))
      (pw_or1 (pt_cmp (pc_gt (pe_callB call_len_seq (by rfl) T.len_ PySem.boot_len (pa_cons (pv 0) pa_nil)) (glo rfl (by rfl))))))) (pss_one (ps_ret pe_bl)) pss_nil)
    (pss_one (ps_ret (pe_callB (cr_all rfl) (by rfl) T.all_ (by decide +kernel) (pa_cons (pe_lc (own := [("at", 2)]) (g := gName 2) (tt := tYes) rfl sc_are_letters_at.nd (pi_seq (pv 0)) (blkOk_by (N := ["value", "many", "at"]) (sc := defScope s_are_letters_at) (by decide +kernel))
      (fun _ _ _ _ _ => pg_name (i := 2) sc_are_letters_at.nd rfl (Or.inl rfl)) (fun _ _ _ _ _ => pts_nil) (fun _ _ _ _ _ => pe_and (pe_call (ok_is_count Ct T I) (hr.mono (by decide)) (by rfl) Ct.mg Ct.fn.kp Ct.b .nil pass0 (pa_cons (pv 2) pa_nil))
        (pe_one (pe_cmp (pc_lt (pv 2) (pv 1)) rfl)))) pa_nil)))), ?_⟩
  refine ⟨x, rfl, x, d, rfl, hd, hl, fun H1 s1 => ⟨_, rfl, ?_⟩⟩
  unfold isWord at q
  cases e : isL d with
  | false =>
    rw [e] at q
    exact iteT (iteT (q H1 s1))
  | true =>
    rw [e] at q
    obtain ⟨b, xs, rfl, hs, hds⟩ := seq_of (K := K) hd e
    have hxl := hds.length
    refine iteF ⟨.ref b, rfl, b, xs, rfl, hs.same s1, _, _, rfl, rfl, _, rfl, ?_⟩
    refine iteB (b := decide ((16 : Int) < (xs.length : Int))) (fun e2 => ?_) fun e2 => ?_
    · have e3 : decide (((itemsD d).length : Int) ≤ 16) = false := decide_eq_false (by have := of_decide_eq_true e2; omega)
      rw [e3] at q
      exact q H1 s1
    · have e3 : decide (((itemsD d).length : Int) ≤ 16) = true := decide_eq_true (by have := of_decide_eq_false e2; omega)
      rw [e3] at q
      show tLc (iSeq K (tVar 0)) (gName 2) tYes _ [2] [some (.ref b), some (.int n), none] H1 (fun z H2 => rAll K [z] H2 Q)
      refine all_comp (below n) rfl (hs.same s1) (hds.same s1) (items_len hl) (fun y dy H2 R _ hdy hyl s2 r => ?_) fun H3 s3 => q H3 (s1.trans s3)
      refine ⟨y, rfl, y, dy, rfl, hdy, hyl, fun H3 s3 => ⟨_, rfl, ?_⟩⟩
      cases hdy with
      | int i =>
        refine iteB (b := decide (0 ≤ i)) (fun e4 => ?_) fun e4 => ?_
        · have z := r H3 s3
          rw [below, e4] at z
          exact ⟨.int i, rfl, .int n, rfl, i, n, rfl, rfl, z⟩
        · have z := r H3 s3
          rw [below, e4] at z
          exact z
      | _ => exact r H3 s3
def spWord (C HC : Addr) : Sp := fun vs H Q _ => ∃ a n x d, vs = [.ref a, x] ∧ HouseAt HC H a n ∧ Dt C H x d ∧ d.len ≤ sizeLine ∧ ∀ H', Same H H' → Q (.bl (isWord n d)) H'
theorem ok_is_word {f g h1 c1 m1 p1 i1 l1 : Addr} {fd gd hd1 cd1 md1 id1 ld1 : FuncData} (F : At K mg "is_word" s_is_word ["house", "value"] f fd) (T : Txt K mg C HC) (L : At K mg "is_list" s_is_list ["value"] h1 hd1)
    (Ck : At K mg "check_house" s_check_house ["house"] c1 cd1) (Ct : At K mg "is_count" s_is_count ["value"] g gd) (I : At K mg "is_integer" s_is_integer ["value"] i1 id1) (M : ManyAt K HC p1 m1 md1)
    (W : At K mg "are_letters_at" s_are_letters_at ["value", "many"] l1 ld1) : FnOk P w K mg base L2.CX0 5 f fd ["house", "value"] (spWord C HC) := by
  refine F.fn.ok sc_is_word (fun vs H Q E h => ?_) fun cdv A outer s H vs Q E hr h => ?_
  · obtain ⟨a, n, x, d, rfl, _⟩ := h
    rfl
  obtain ⟨a, n, x, d, rfl, hH, hd, hl, q⟩ := h
  refine ⟨_, pss_cons (ps_expr (pe_call (ok_check_house Ck T) (hr.mono (by decide)) (by rfl) Ck.mg Ck.fn.kp Ck.b .nil pass0 (pa_cons (pv 0) pa_nil)))
    (pss_one (ps_ret (pe_call (ok_are_letters_at W T L Ct I) hr (by rfl) W.mg W.fn.kp W.b .nil pass0 (pa_cons (pv 1) (pa_cons (pe_prop (pv 0) T.clH M.pr (ok_many M.fn T) (hr.mono (by decide)) M.b .nil pass0 rfl) pa_nil))))), ?_⟩
  obtain ⟨dx, fs, qa, ys, h1, h2, h3, h4⟩ := id hH
  exact ⟨.ref a, rfl, a, dx, fs, rfl, h1, x, rfl, .ref a, rfl, a, dx, fs, rfl, h1, a, n, rfl, hH, n, x, d, rfl, hd, hl, q⟩
theorem ok_seen {f : Addr} {fd : FuncData} (F : At K mg "_law_seen" s_seen ["_law_many", "_law_value"] f fd) (T : Txt K mg C HC) :
    FnOk P w K mg base L2.CX0 1 f fd ["_law_many", "_law_value"] (fun vs H Q _ => ∃ (n : Nat) (x : V) (d : D), vs = [.int n, x] ∧ Dt C H x d ∧ d.len ≤ sizeLine ∧ ∀ H', Same H H' → Q (.bl (isWord n d)) H') := by
  refine F.fn.ok sc_seen (fun vs H Q E h => ?_) fun cdv A outer s H vs Q E hr h => ?_
  · obtain ⟨n, x, d, rfl, _⟩ := h
    rfl
  obtain ⟨n, x, d, rfl, hd, hl, q⟩ := h
  refine ⟨_, pss_cons (ps_if (PW.pt (pw_or (pt_not (pt_val (pe_callB call_isiT (by rfl) T.isi (by decide +kernel) (pa_cons (pv 1) (pa_cons (pe_tup (pa_cons (pe_bltn (v := .ty "list") (by rfl) T.list_ (by decide +kernel) rfl)
        (pa_cons (pe_bltn (v := .ty "tuple") (by rfl) T.tuple_ (by decide +kernel) rfl) pa_nil))) pa_nil)))))
      (pw_or1 (pt_cmp (pc_gt (pe_callB call_len_seq (by rfl) T.len_ PySem.boot_len (pa_cons (pv 1) pa_nil)) pe_int))))) (pss_one (ps_ret pe_bl)) pss_nil)
    (pss_one (ps_ret (pe_callB (cr_all rfl) (by rfl) T.all_ (by decide +kernel) (pa_cons (pe_lc (own := [("_law_letter", 2)]) (g := gName 2) (tt := tYes) rfl sc_seen.nd (pi_seq (pv 1)) (blkOk_by (N := ["_law_many", "_law_value", "_law_letter"]) (sc := defScope s_seen) (by decide +kernel))
      (fun _ _ _ _ _ => pg_name (i := 2) sc_seen.nd rfl (Or.inl rfl)) (fun _ _ _ _ _ => pts_nil)
      (fun _ _ _ _ _ => pe_and (pe_callB (r := rIsi K) call_isi (by rfl) T.isi (by decide +kernel) (pa_cons (pv 2) (pa_cons (pe_bltn (v := .ty "int") (by rfl) T.int_ (by decide +kernel) rfl) pa_nil)))
        (pe_and (pe_not (pe_callB (r := rIsi K) call_isi (by rfl) T.isi (by decide +kernel) (pa_cons (pv 2) (pa_cons (pe_bltn (v := .ty "bool") (by rfl) T.bool_ (by decide +kernel) rfl) pa_nil))))
        (pe_one (pe_chain op_le op_lt pe_int (pv 2) (pv 0)))))) pa_nil)))), ?_⟩
  refine ⟨x, rfl, by decide, fun p hp => ?_⟩
  have s1 : Same H (upd H p (.tup [.ty "list", .ty "tuple"])) := same_new hp
  refine ⟨x, p, _, _, _, _, rfl, upd_same, .cons (.ty _) (.cons (.ty _) .nil), tyx T (hd.same s1), kit_seq T d, _, rfl, ?_⟩
  unfold isWord at q
  cases e : isL d with
  | false =>
    rw [e] at q
    exact iteT (iteT (q _ s1))
  | true =>
    rw [e] at q
    obtain ⟨b, xs, rfl, hs, hds⟩ := seq_of (K := K) hd e
    have hxl := hds.length
    refine iteF ⟨.ref b, rfl, b, xs, rfl, hs.same s1, _, _, rfl, rfl, _, rfl, ?_⟩
    refine iteB (b := decide ((16 : Int) < (xs.length : Int))) (fun e2 => ?_) fun e2 => ?_
    · have e3 : decide (((itemsD d).length : Int) ≤ 16) = false := decide_eq_false (by have := of_decide_eq_true e2; omega)
      rw [e3] at q
      exact q _ s1
    · have e3 : decide (((itemsD d).length : Int) ≤ 16) = true := decide_eq_true (by have := of_decide_eq_false e2; omega)
      rw [e3] at q
      show tLc (iSeq K (tVar 1)) (gName 2) tYes _ [2] [some (.int n), some (.ref b), none] _ (fun z H2 => rAll K [z] H2 Q)
      refine all_comp (below n) rfl (hs.same s1) (hds.same s1) (items_len hl) (fun y dy H2 R _ hdy hyl s2 r => ?_) fun H3 s3 => q H3 (s1.trans s3)
      have z := r H2 (Same.refl H2)
      refine ⟨y, rfl, y, .ty "int", _, _, _, rfl, .ty "int", tyx T hdy, kit_int T dy, _, rfl, ?_⟩
      cases hdy with
      | int i =>
        refine iteT ⟨.int i, rfl, .int i, .ty "bool", _, _, _, rfl, .ty "bool", .base (.int i), kit_bool T (.int i), _, rfl, _, rfl, iteT ?_⟩
        refine ⟨.int i, rfl, 0, i, rfl, rfl, _, rfl, ?_⟩
        refine iteB (b := decide (0 ≤ i)) (fun e4 => ?_) fun e4 => ?_
        · rw [below, e4] at z
          exact ⟨.int n, rfl, i, n, rfl, rfl, z⟩
        · rw [below, e4] at z
          exact z
      | bl b =>
        exact iteT ⟨.bl b, rfl, .bl b, .ty "bool", _, _, _, rfl, .ty "bool", .base (.bl b), kit_bool T (.bl b), _, rfl, _, rfl, iteF z⟩
      | _ => exact iteF z
end
end KT

set_option Elab.async false
set_option linter.all false
set_option maxRecDepth 100000
set_option maxHeartbeats 4000000
namespace KT
open PySem L2 TW
abbrev s_pot : Stmt := top 45
abbrev s_draw : Stmt := top 46
abbrev s_pick : Stmt := top 47
structure Txt2 (mg : Str → Option Value) : Prop where
  abs_ : mg "abs" = none
  max_ : mg "max" = none
  min_ : mg "min" = none
  divmod_ : mg "divmod" = none
  str_ : mg "str" = none
  range_ : mg "range" = none
  enum_ : mg "enumerate" = none
  repr_ : mg "repr" = none
theorem sc_pot : FnScope ["_law_script", "_law_k", "_law_cell"] ["_law_script", "_law_k"] (defScope s_pot) := ⟨rfl, rfl, rfl, by decide +kernel, rfl, by decide +kernel, by decide +kernel⟩
theorem sc_draw : FnScope ["_law_pot_here", "_law_many", "_law_digit"] ["_law_pot_here", "_law_many"] (defScope s_draw) := ⟨rfl, rfl, rfl, by decide +kernel, rfl, by decide +kernel, by decide +kernel⟩
theorem sc_pick : FnScope ["_law_pot_here", "_law_some"] ["_law_pot_here", "_law_some"] (defScope s_pick) := ⟨rfl, rfl, rfl, by decide +kernel, rfl, by decide +kernel, by decide +kernel⟩
/-- a pot stands at p -/
def PotAt (H : Hp) (p : Addr) : Prop := ∃ x y : Int, 0 ≤ x ∧ 0 ≤ y ∧ H p = some (.lst [.int x, .int y])
/-- all but what stands at p is as it was -/
def But (p : Addr) (H H' : Hp) : Prop := ∀ b o, H b = some o → b ≠ p → H' b = some o
theorem give {te : TE} {σ : L2.St} {H : Hp} {S : V → Hp → Prop} {Q : VK} (h : ∀ R : VK, (∀ v H', S v H' → R v H') → te σ H R) (k : ∀ v H', S v H' → Q v H') : te σ H Q := h Q k
theorem But.refl (p : Addr) (H : Hp) : But p H H := fun _ _ e _ => e
theorem But.trans {p : Addr} {H H1 H2 : Hp} (a : But p H H1) (b : But p H1 H2) : But p H H2 := fun c o e h => b c o (a c o e h) h
theorem But.of {p : Addr} {H H' : Hp} (s : Same H H') : But p H H' := fun b o e _ => s b o e
theorem But.upd {p : Addr} {H : Hp} {o : HO} : But p H (upd H p o) := fun b o' e h => by
  rw [upd_ne h]
  exact e
def spPot (K : W.Frag) : Sp := fun vs H Q _ => ∃ (a : Addr) (k : Int) (ns : List Int), vs = [.ref a, .int k] ∧ SqL K H a (ns.map V.int) ∧ 0 ≤ k ∧ ∀ p H', Same H H' → H p = none → PotAt H' p → Q (.ref p) H'
def spDraw : Sp := fun vs H Q _ => ∃ (p : Addr) (m : Int), vs = [.ref p, .int m] ∧ PotAt H p ∧ 0 < m ∧ m < 1073741824 ∧ ∀ d H', 0 ≤ d → d < m → But p H H' → PotAt H' p → Q (.int d) H'
def spPick : Sp := fun vs H Q _ => ∃ (p q : Addr) (xs : List V), vs = [.ref p, .ref q] ∧ PotAt H p ∧ q ≠ p ∧ H q = some (.lst xs) ∧ 0 < xs.length ∧ xs.length < 1073741824 ∧ ∀ v H', v ∈ xs → But p H H' → PotAt H' p → Q v H'
section
variable {P : Program} {w : World} {K : W.Frag} {mg : Str → Option Value} {base : Heap} {C HC : Addr}
theorem ok_pot {f : Addr} {fd : FuncData} (F : At K mg "_law_pot" s_pot ["_law_script", "_law_k"] f fd) (T : Txt K mg C HC) (T2 : Txt2 mg) : FnOk P w K mg base L2.CX0 1 f fd ["_law_script", "_law_k"] (spPot K) := by
  refine F.fn.ok sc_pot (fun vs H Q E h => ?_) fun cdv A outer s H vs Q E hr h => ?_
  · obtain ⟨a, k, ns, rfl, _⟩ := h
    rfl
  obtain ⟨a, k, ns, rfl, hs, hk, q⟩ := h
  refine ⟨_, pss_cons (ps_set (i := 2) sc_pot.nd rfl (.inl rfl) (pe_ifExp (pt_cmp (pc_lt (pv 1) (pe_callB call_len_seq (by rfl) T.len_ PySem.boot_len (pa_cons (pv 0) pa_nil))))
      (pe_callB call_abs (by rfl) T2.abs_ (by decide +kernel) (pa_cons (pe_ix ix_list (pv 0) (pv 1) (fun _ _ => rfl)) pa_nil)) (pe_op op_add (pe_op op_mul pe_int (pv 1)) pe_int)))
    (pss_one (ps_ret (pe_lst (pa_cons (pe_callB (call_max2 rfl) (by rfl) T2.max_ (by decide +kernel) (pa_cons pe_int (pa_cons (pe_op op_sub (pv 2) (pe_op op_pow pe_int pe_int)) pa_nil)))
      (pa_cons (pe_op op_add (pe_op op_mod (pe_callTy call_int1 (by rfl) T.int_ (by decide +kernel) (pa_cons (pe_op op_add (pe_op op_add (pe_op op_mul (pe_op op_mod (pe_callTy call_int1 (by rfl) T.int_ (by decide +kernel) (pa_cons (pv 2) pa_nil)) pe_int) pe_int)
        (pe_op op_mul pe_int (pv 1))) pe_int) pa_nil)) pe_int) pe_int) pa_nil))))), ?_⟩
  refine give (te := tIf _ _ _) (S := fun v H' => H' = H ∧ ∃ c, v = .int c) (fun R g => ?_) fun v H' hv => ?_
  · refine ⟨.int k, rfl, .ref a, rfl, a, _, rfl, .inl hs, _, _, rfl, rfl, _, rfl, ?_⟩
    refine iteB (b := decide (k < ((ns.map V.int).length : Int))) (fun e => ?_) fun e => ?_
    · have e' := of_decide_eq_true e
      rw [List.length_map] at e'
      obtain ⟨n, rfl⟩ := Int.eq_ofNat_of_zero_le hk
      have lt : n < ns.length := by omega
      have x0 : (ns.map V.int)[n]? = some (V.int ns[n]) := by rw [List.getElem?_map, List.getElem?_eq_getElem lt]; rfl
      exact ⟨.ref a, rfl, .int n, rfl, a, _, n, _, rfl, rfl, hs, atI_nat x0, _, rfl, g _ _ ⟨rfl, _, rfl⟩⟩
    · exact ⟨.int k, rfl, _, _, rfl, rfl, .inl ⟨by decide, by decide⟩, _, _, rfl, rfl, g _ _ ⟨rfl, _, rfl⟩⟩
  · obtain ⟨rfl, c, rfl⟩ := hv
    refine ⟨.int c, rfl, 10, 18, rfl, rfl, ⟨by decide, by decide, by decide⟩, _, _, rfl, rfl, _, _, rfl, ?_⟩
    refine ⟨.int c, rfl, .inl ⟨_, rfl, _, _, rfl, rfl, (by show (0 : Int) < 2147483549; decide), _, _, rfl, rfl, .inr ⟨by decide, by decide⟩, .int k, rfl, _, _, rfl, rfl, .inl ⟨by decide, by decide⟩, _, _, rfl, rfl, _, _, rfl, rfl, .inl ⟨_, rfl, _, _, rfl, rfl, (by show (0 : Int) < 2147483563; decide), _, _, rfl, rfl, ?_⟩⟩⟩
    refine ⟨by show 2 ≤ 2 ^ 24; decide, fun p hp => q p _ (same_new hp) hp ⟨_, _, ?_, ?_, upd_same⟩⟩
    · split <;> omega
    · have := Int.emod_nonneg (c % 2147483549 * 40639 + 4021 * k + 367) (by decide : (2147483563 : Int) ≠ 0)
      omega

theorem ok_draw {f : Addr} {fd : FuncData} (F : At K mg "_law_draw" s_draw ["_law_pot_here", "_law_many"] f fd) (T : Txt K mg C HC) (T2 : Txt2 mg) : FnOk P w K mg base L2.CX0 1 f fd ["_law_pot_here", "_law_many"] spDraw := by
  refine F.fn.ok sc_draw (fun vs H Q E h => ?_) fun cdv A outer s H vs Q E hr h => ?_
  · obtain ⟨p, m, rfl, _⟩ := h
    rfl
  obtain ⟨p, m, rfl, ⟨x, y, hx, hy, hp⟩, m0, m1, q⟩ := h
  refine ⟨_, pss_cons (ps_if (pt_cmp (pc_gt (pe_ix ix_list (pv 0) pe_int (fun _ _ => rfl)) pe_int))
      (pss_cons (ps_asg (pe_callB call_divmod (by rfl) T2.divmod_ (by decide +kernel) (pa_cons (pe_ix ix_list (pv 0) pe_int (fun _ _ => rfl)) (pa_cons (pv 1) pa_nil)))
          (pg_tup rfl (pgs_cons (pg_sub (pv 0) pe_int set_list) (pgs_cons (pg_name (i := 2) sc_draw.nd rfl (.inl rfl)) pgs_nil))))
        (pss_one (ps_ret (pv 2)))) pss_nil)
    (pss_cons (ps_asg (pe_op op_mod (pe_callTy call_int1 (by rfl) T.int_ (by decide +kernel) (pa_cons (pe_op op_add (pe_op op_mul (pe_ix ix_list (pv 0) pe_int (fun _ _ => rfl)) pe_int) pe_int) pa_nil)) pe_int) (pg_sub (pv 0) pe_int set_list))
    (pss_one (ps_ret (pe_op op_mod (pe_callTy call_int1 (by rfl) T.int_ (by decide +kernel) (pa_cons (pe_op op_fdiv (pe_op op_mod (pe_callTy call_int1 (by rfl) T.int_ (by decide +kernel) (pa_cons (pe_op op_mul (pe_ix ix_list (pv 0) pe_int (fun _ _ => rfl)) (pe_ix ix_list (pv 0) pe_int (fun _ _ => rfl))) pa_nil)) pe_int) pe_int) pa_nil)) (pv 1))))), ?_⟩
  have S0 : SqL K H p [.int x, .int y] := SqL.of hp
  have i0 : ∀ a b : V, atI [a, b] 0 = some a := fun a b => atI_nat (j := 0) rfl
  have i1 : ∀ a b : V, atI [a, b] 1 = some b := fun a b => atI_nat (j := 1) rfl
  refine ⟨.ref p, rfl, p, _, 0, _, rfl, rfl, S0, i0 _ _, _, _, rfl, rfl, _, rfl, ?_⟩
  refine iteB (b := decide (0 < x)) (fun e => ?_) fun e => ?_
  · refine ⟨.ref p, rfl, p, _, 0, _, rfl, rfl, S0, i0 _ _, .int m, rfl, x, m, rfl, ⟨m0, m1⟩, fun t ht => ?_⟩
    have np : p ≠ t := ne_of_none hp ht
    refine ⟨t, [.int (x / m), .int (x % m)], rfl, SqT.of upd_same, rfl, _, _, rfl, ⟨.ref p, rfl, p, [.int x, .int y], 0, 0, rfl, rfl, by rw [upd_ne np]; exact hp, rfl, ?_⟩⟩
    refine ⟨.int (x % m), [], rfl, rfl, .int (x % m), rfl, ?_⟩
    refine q _ _ (Int.emod_nonneg _ (by omega)) (Int.emod_lt_of_pos _ m0) (fun b o e hb => ?_) ⟨x / m, y, Int.ediv_nonneg hx (by omega), hy, upd_same⟩
    rw [upd_ne hb, upd_ne (ne_of_none e ht)]
    exact e
  · refine ⟨.ref p, rfl, p, _, 1, _, rfl, rfl, S0, i1 _ _, _, _, rfl, rfl, .inr ⟨by decide, by decide⟩, _, _, rfl, rfl, .inl ⟨_, rfl, _, _, rfl, rfl, (by show (0 : Int) < 2147483563; decide), ?_⟩⟩
    have y0 := Int.emod_nonneg (y * 40014 + 1109) (by decide : (2147483563 : Int) ≠ 0)
    have y1 := Int.emod_lt_of_pos (y * 40014 + 1109) (by decide : (0 : Int) < 2147483563)
    refine ⟨.ref p, rfl, p, [.int x, .int y], 1, 1, rfl, rfl, hp, rfl, ?_⟩
    have key : ∀ z : Int, 0 ≤ z → z < 2147483563 → tRet (tOp (rI (fun _ j => 0 < j) fun i j => .int (i % j)) (tCB (fun xs H Q => (∃ i, xs = [V.int i] ∧ Q (.int i) H) ∨ ∃ k, xs = [V.bl k] ∧ Q (.int (if k then 1 else 0)) H) (tCons (tOp (rI CDiv fun i j => .int (i / j)) (tOp (rI (fun _ j => 0 < j) fun i j => .int (i % j)) (tCB (fun xs H Q => (∃ i, xs = [V.int i] ∧ Q (.int i) H) ∨ ∃ k, xs = [V.bl k] ∧ Q (.int (if k then 1 else 0)) H) (tCons (tOp (rI CMul fun i j => .int (i * j)) (tOp (rIxL K) (tVar 0) (tC (.int 1))) (tOp (rIxL K) (tVar 0) (tC (.int 1)))) tNil)) (tC (.int 2147483587))) (tC (.int 21))) tNil)) (tVar 1)) { nx := fun _ H' => Q .non H', rt := Q } [some (.ref p), some (.int m), none] (upd H p (.lst [.int x, .int z])) := by
      intro z y0 y1
      have S1 : SqL K (upd H p (.lst [.int x, .int z])) p [.int x, .int z] := SqL.of upd_same
      refine ⟨.ref p, rfl, p, _, 1, _, rfl, rfl, S1, i1 _ _, .ref p, rfl, p, _, 1, _, rfl, rfl, S1, i1 _ _, z, z, rfl, rfl, .inl ⟨by omega, by omega⟩, ?_⟩
      refine .inl ⟨_, rfl, _, _, rfl, rfl, (by show (0 : Int) < 2147483587; decide), _, _, rfl, rfl, ⟨by decide, by decide⟩, .inl ⟨_, rfl, .int m, rfl, _, m, rfl, rfl, m0, ?_⟩⟩
      exact q _ _ (Int.emod_nonneg _ (by omega)) (Int.emod_lt_of_pos _ m0) But.upd ⟨x, z, hx, y0, upd_same⟩
    exact key _ y0 y1
theorem ok_pick {f g : Addr} {fd gd : FuncData} (F : At K mg "_law_pick" s_pick ["_law_pot_here", "_law_some"] f fd) (T : Txt K mg C HC) (G : At K mg "_law_draw" s_draw ["_law_pot_here", "_law_many"] g gd)
    (N : FnOk P w K mg base L2.CX0 1 g gd ["_law_pot_here", "_law_many"] spDraw) : FnOk P w K mg base L2.CX0 2 f fd ["_law_pot_here", "_law_some"] spPick := by
  refine F.fn.ok sc_pick (fun vs H Q E h => ?_) fun cdv A outer s H vs Q E hr h => ?_
  · obtain ⟨p, t, xs, rfl, _⟩ := h
    rfl
  obtain ⟨p, t, xs, rfl, hp, ne, ht, l0, l1, q⟩ := h
  refine ⟨_, pss_one (ps_ret (pe_ix ix_list (pv 1) (pe_call N hr (by rfl) G.mg G.fn.kp G.b .nil pass0 (pa_cons (pv 0) (pa_cons (pe_callB call_len_seq (by rfl) T.len_ PySem.boot_len (pa_cons (pv 1) pa_nil)) pa_nil))) (fun _ _ => rfl))), ?_⟩
  refine ⟨.ref t, rfl, .ref p, rfl, .ref t, rfl, t, xs, rfl, .inl (SqL.of ht), p, _, rfl, hp, by omega, by omega, fun d H' d0 d1 bt pt => ?_⟩
  obtain ⟨n, rfl⟩ := Int.eq_ofNat_of_zero_le d0
  have lt : n < xs.length := by omega
  have xn : xs[n]? = some xs[n] := List.getElem?_eq_getElem lt
  exact ⟨t, xs, n, _, rfl, rfl, SqL.of (bt _ _ ht ne), atI_nat xn, q _ _ (List.getElem_mem lt) bt pt⟩
end
end KT

set_option Elab.async false
set_option linter.all false
set_option maxRecDepth 100000
set_option maxHeartbeats 4000000
namespace KT
open PySem L2 TW
abbrev s_letters : Stmt := top 48
theorem sc_letters : FnScope ["_law_pot_here", "_law_size", "_law_most", "_law_found", "_law_kind", "_law_turn", "_law_table", "_law_line", "_law_row", "_law_place", "_law_number"] ["_law_pot_here", "_law_size", "_law_most"] (defScope s_letters) := ⟨rfl, rfl, rfl, by decide +kernel, rfl, by decide +kernel, by decide +kernel⟩
/-- the heap without some places -/
def offL (S : List Addr) (H : Hp) : Hp := fun b => if b ∈ S then none else H b
theorem offL_at {S : List Addr} {H : Hp} {b : Addr} (h : b ∉ S) : offL S H b = H b := if_neg h
theorem offL_in {S : List Addr} {H : Hp} {b : Addr} (h : b ∈ S) : offL S H b = none := if_pos h
/-- what stands without S stands on without S' -/
theorem offL_same {S S' : List Addr} {H H' : Hp} (h : ∀ b o, H b = some o → b ∉ S → b ∉ S' ∧ H' b = some o) : Same (offL S H) (offL S' H') := fun b o e => by
  by_cases z : b ∈ S
  · rw [offL_in z] at e
    cases e
  · rw [offL_at z] at e
    obtain ⟨h1, h2⟩ := h b o e z
    rw [offL_at h1]
    exact h2
def Tiny (i : Int) : Prop := -2 ≤ i ∧ i ≤ 2
def GoodR (n : Nat) (d : D) : Prop := ∃ ns : List Int, d = .lst (ns.map D.int) ∧ ns.length = n ∧ ∀ i ∈ ns, Tiny i
def GoodT (n : Nat) (d : D) : Prop := ∃ l : List D, d = .lst l ∧ l.length = n ∧ ∀ r ∈ l, GoodR n r
theorem dts_ints {C : Addr} {H : Hp} : ∀ ns : List Int, Dts C H (ns.map V.int) (ns.map D.int)
  | [] => .nil
  | i :: ns => .cons (.int i) (dts_ints ns)
theorem dts_app {C : Addr} {H : Hp} : ∀ {xs ys : List V} {l m : List D}, Dts C H xs l → Dts C H ys m → Dts C H (xs ++ ys) (l ++ m)
  | _, _, _, _, .nil, h => h
  | _, _, _, _, .cons a b, h => .cons a (dts_app b h)
theorem But.free {p a : Addr} {H H' : Hp} (b : But p H H') (e : H' a = none) (ne : a ≠ p) : H a = none := by
  cases z : H a with
  | none => rfl
  | some o =>
    rw [b a o z ne] at e
    cases e
theorem PotAt.upd {p a : Addr} {H : Hp} {o : HO} (h : PotAt H p) (ne : p ≠ a) : PotAt (upd H a o) p := by
  obtain ⟨x, y, hx, hy, e⟩ := h
  exact ⟨x, y, hx, hy, by rw [upd_ne ne]; exact e⟩
theorem mem_app {α : Type} {P : α → Prop} {l : List α} {x : α} (h : ∀ y ∈ l, P y) (hx : P x) : ∀ y ∈ l ++ [x], P y := fun y hy => by
  rcases List.mem_append.mp hy with z | z
  · exact h y z
  · rw [List.mem_singleton.mp z]
    exact hx
def spLetters_ (C : Addr) : Sp := fun vs H Q _ => ∃ (p : Addr) (n m : Nat), vs = [.ref p, .int n, .int m] ∧ PotAt H p ∧ n ≤ 4 ∧ 0 < m ∧ m ≤ 3 ∧
  ∀ f fs l H', But p H H' → PotAt H' p → f ≠ p → H f = none → H' f = some (.lst fs) → Dts C (offL [p, f] H') fs l → 1 ≤ l.length → l.length ≤ m → (∀ d ∈ l, GoodT n d) → Q (.ref f) H'
section
variable {P : Program} {w : World} {K : W.Frag} {mg : Str → Option Value} {base : Heap} {C HC : Addr}
theorem ok_letters {f g h1 : Addr} {fd gd hd1 : FuncData} (F : At K mg "_law_letters" s_letters ["_law_pot_here", "_law_size", "_law_most"] f fd) (T : Txt K mg C HC) (T2 : Txt2 mg) (G : At K mg "_law_draw" s_draw ["_law_pot_here", "_law_many"] g gd)
    (N : FnOk P w K mg base L2.CX0 1 g gd ["_law_pot_here", "_law_many"] spDraw) (G2 : At K mg "_law_pick" s_pick ["_law_pot_here", "_law_some"] h1 hd1) (N2 : FnOk P w K mg base L2.CX0 2 h1 hd1 ["_law_pot_here", "_law_some"] spPick) :
    FnOk P w K mg base L2.CX0 3 f fd ["_law_pot_here", "_law_size", "_law_most"] (spLetters_ C) := by
  refine F.fn.ok sc_letters (fun vs H Q E h => ?_) fun cdv A outer s H vs Q E hr h => ?_
  · obtain ⟨p, n, m, rfl, _⟩ := h
    rfl
  obtain ⟨p, n, m, rfl, hp, hn, m0, m3, q⟩ := h
  have hr1 : Room 1 _ := hr.mono (by decide)
  have nd := sc_letters.nd
  refine ⟨_, (pss_cons (ps_par rfl sc_letters.nd (i := 3) (j := 4) rfl rfl (by decide) rfl rfl (pa_cons (pe_lst pa_nil) (pa_cons (pe_call N hr1 (by rfl) G.mg G.fn.kp G.b .nil pass0 (pa_cons (pv 0) (pa_cons pe_int pa_nil))) pa_nil)) (by rfl)) (pss_cons (ps_for PassesOwn.never rfl (pi_range1 (by rfl) T2.range_ (pa_cons (pe_op op_add pe_int (pe_call N hr1 (by rfl) G.mg G.fn.kp G.b .nil pass0 (pa_cons (pv 0) (pa_cons (pv 2) pa_nil)))) pa_nil)) (pg_name (i := 5) sc_letters.nd rfl (Or.inl rfl)) (pss_cons (ps_set (i := 6) sc_letters.nd rfl (.inl rfl) (pe_lst pa_nil)) (pss_cons (ps_for PassesOwn.never rfl (pi_range1 (by rfl) T2.range_ (pa_cons (pv 1) pa_nil)) (pg_name (i := 7) sc_letters.nd rfl (Or.inl rfl)) (pss_cons (ps_set (i := 8) sc_letters.nd rfl (.inl rfl) (pe_lst pa_nil)) (pss_cons (ps_for PassesOwn.never rfl (pi_range1 (by rfl) T2.range_ (pa_cons (pv 1) pa_nil)) (pg_name (i := 9) sc_letters.nd rfl (Or.inl rfl)) (pss_cons (ps_set (i := 10) sc_letters.nd rfl (.inl rfl) (pe_call N2 hr (by rfl) G2.mg G2.fn.kp G2.b .nil pass0 (pa_cons (pv 0) (pa_cons (pe_lst (pa_cons pe_int (pa_cons pe_int (pa_cons (pe_un un_neg pe_int) (pa_cons pe_int (pa_cons pe_int (pa_cons pe_int (pa_cons (pe_un un_neg pe_int) pa_nil)))))))) pa_nil)))) (pss_one (ps_expr (pe_bm PySem.F.plainAttrs_list PySem.F.slot_list_append PySem.F.type_list_append mt_append (pv 8) (pa_cons (pe_ifExp (PW.pt (pw_or (PW.pt (pw_and (pt_cmp (pc_eqI (pv 4) pe_int)) (pw_and1 (pt_cmp (pc_lt (pv 9) (pv 7)))))) (pw_or1 (PW.pt (pw_and (pt_cmp (pc_eqI (pv 4) pe_int)) (pw_and1 (pt_cmp (pc_neI (pv 9) (pv 7))))))))) pe_int (pv 10)) pa_nil)))))) (pss_one (ps_expr (pe_bm PySem.F.plainAttrs_list PySem.F.slot_list_append PySem.F.type_list_append mt_append (pv 6) (pa_cons (pv 8) pa_nil))))))) (pss_one (ps_expr (pe_bm PySem.F.plainAttrs_list PySem.F.slot_list_append PySem.F.type_list_append mt_append (pv 3) (pa_cons (pv 6) pa_nil))))))) (pss_one (ps_ret (pv 3))))), ?_⟩
  have z62 : ((4 : Int) < 2 ^ 62) := by decide
  have pot_in : ∀ {H' : Hp} {a : Addr}, PotAt H' p → H' a = none → p ≠ a := fun ⟨_, _, _, _, e⟩ h => ne_of_none e h
  -- found, kind
  refine ⟨Nat.zero_le _, fun fo nfo => ?_⟩
  have nfp : p ≠ fo := pot_in hp nfo
  have hp1 : PotAt (upd H fo (.lst [])) p := by
    obtain ⟨x, y, hx, hy, e⟩ := hp
    exact ⟨x, y, hx, hy, by rw [upd_ne nfp]; exact e⟩
  refine ⟨.ref p, rfl, p, 4, rfl, hp1, by decide, by decide, fun kd H1 k0 k1 b1 p1 => ⟨_, _, rfl, ?_⟩⟩
  -- for turn
  refine ⟨.ref p, rfl, .int m, rfl, p, m, rfl, p1, by omega, by omega, fun tn H2 t0 t1 b2 p2 => ⟨1, tn, rfl, rfl, _, rfl, by omega, by omega, ?_⟩⟩
  have hbut : ∀ {H' : Hp}, But p H2 H' → But p H H' := fun b => (((But.of (same_new nfo)).trans b1).trans b2).trans b
  have fo2 : H2 fo = some (.lst []) := b2 _ _ (b1 _ _ upd_same nfp.symm) nfp.symm
  refine for_range (n := (1 + tn).toNat) (fun i σ H' => ∃ o5 o6 o7 o8 o9 o10 l fs, σ = [some (.ref p), some (.int n), some (.int m), some (.ref fo), some (.int kd), o5, o6, o7, o8, o9, o10] ∧ PotAt H' p ∧ But p H H' ∧ H' fo = some (.lst fs) ∧ Dts C (offL [p, fo] H') fs l ∧ l.length = i ∧ ∀ d ∈ l, GoodT n d)
    ⟨none, none, none, none, none, none, [], [], rfl, p2, hbut (But.refl p H2), fo2, .nil, rfl, fun _ z => nomatch z⟩ ?_ ?_
  · rintro i σ H3 hi ⟨o5, o6, o7, o8, o9, o10, l, fs, rfl, p3, b3, ef, df, el, gl⟩
    -- table = []
    refine ⟨Nat.zero_le _, fun t nt => ?_⟩
    have ntp : p ≠ t := pot_in p3 nt
    have ntf : fo ≠ t := ne_of_none ef nt
    refine ⟨.int n, rfl, n, rfl, by omega, by omega, ?_⟩
    have p3' : PotAt (upd H3 t (.lst [])) p := by
      obtain ⟨x, y, hx, hy, e⟩ := p3
      exact ⟨x, y, hx, hy, by rw [upd_ne ntp]; exact e⟩
    have df' : Dts C (offL [p, fo, t] (upd H3 t (.lst []))) fs l := df.same (offL_same fun b o e hb => by
      have z : b ≠ t := ne_of_none e nt
      simp only [List.mem_cons, List.not_mem_nil, or_false, not_or] at hb ⊢
      exact ⟨⟨hb.1, hb.2, z⟩, by rw [upd_ne z]; exact e⟩)
    refine for_range (n := (n : Int).toNat) (fun j σ H' => ∃ o7 o8 o9 o10 rows ts, σ = [some (.ref p), some (.int n), some (.int m), some (.ref fo), some (.int kd), some (.int (0 + i)), some (.ref t), o7, o8, o9, o10] ∧ PotAt H' p ∧ But p H H' ∧ H' fo = some (.lst fs) ∧ Dts C (offL [p, fo, t] H') fs l ∧ H' t = some (.lst ts) ∧ Dts C (offL [p, fo, t] H') ts rows ∧ rows.length = j ∧ ∀ r ∈ rows, GoodR n r)
      ⟨o7, o8, o9, o10, [], [], rfl, p3', b3.trans (But.of (same_new nt)), by rw [upd_ne ntf]; exact ef, df', upd_same, .nil, rfl, fun _ z => nomatch z⟩ ?_ ?_
    · rintro j σ H4 hj ⟨o7, o8, o9, o10, rows, ts, rfl, p4, b4, ef4, df4, et4, dt4, erl, grl⟩
      -- row = []
      refine ⟨Nat.zero_le _, fun r nr => ?_⟩
      have nrp : p ≠ r := pot_in p4 nr
      have nrf : fo ≠ r := ne_of_none ef4 nr
      have nrt : t ≠ r := ne_of_none et4 nr
      refine ⟨.int n, rfl, n, rfl, by omega, by omega, ?_⟩
      have p4' : PotAt (upd H4 r (.lst [])) p := by
        obtain ⟨x, y, hx, hy, e⟩ := p4
        exact ⟨x, y, hx, hy, by rw [upd_ne nrp]; exact e⟩
      have go : Same (offL [p, fo, t] H4) (offL [p, fo, t, r] (upd H4 r (.lst []))) := offL_same fun b o e hb => by
        have z : b ≠ r := ne_of_none e nr
        simp only [List.mem_cons, List.not_mem_nil, or_false, not_or] at hb ⊢
        exact ⟨⟨hb.1, hb.2.1, hb.2.2, z⟩, by rw [upd_ne z]; exact e⟩
      refine for_range (n := (n : Int).toNat) (fun k σ H' => ∃ o9 o10 ns, σ = [some (.ref p), some (.int n), some (.int m), some (.ref fo), some (.int kd), some (.int (0 + i)), some (.ref t), some (.int (0 + j)), some (.ref r), o9, o10] ∧ PotAt H' p ∧ But p H H' ∧ H' fo = some (.lst fs) ∧ Dts C (offL [p, fo, t, r] H') fs l ∧ H' t = some (.lst ts) ∧ Dts C (offL [p, fo, t, r] H') ts rows ∧ H' r = some (.lst (ns.map V.int)) ∧ ns.length = k ∧ ∀ z ∈ ns, Tiny z)
        ⟨o9, o10, [], rfl, p4', b4.trans (But.of (same_new nr)), by rw [upd_ne nrf]; exact ef4, df4.same go, by rw [upd_ne nrt]; exact et4, dt4.same go, upd_same, rfl, fun _ z => nomatch z⟩ ?_ ?_
      · rintro k σ H5 hk ⟨o9, o10, ns, rfl, p5, b5, ef5, df5, et5, dt5, er5, ens, gns⟩
        -- number
        refine ⟨.ref p, rfl, 1, rfl, 2, rfl, by decide, fun q nq => ?_⟩
        have nqp : p ≠ q := pot_in p5 nq
        have p5' : PotAt (upd H5 q (.lst [.int 0, .int 1, .int (-1), .int 2, .int 0, .int 1, .int (-2)])) p := by
          obtain ⟨x, y, hx, hy, e⟩ := p5
          exact ⟨x, y, hx, hy, by rw [upd_ne nqp]; exact e⟩
        refine ⟨p, q, _, rfl, p5', nqp.symm, upd_same, by decide, by decide, fun u H6 hu b6 p6 => ?_⟩
        have b56 : But p H5 H6 := (But.of (same_new nq)).trans b6
        obtain ⟨c, rfl, tc⟩ : ∃ c, u = .int c ∧ Tiny c := by
          simp only [List.mem_cons, List.not_mem_nil, or_false] at hu
          rcases hu with rfl | rfl | rfl | rfl | rfl | rfl | rfl <;> exact ⟨_, rfl, by decide, by decide⟩
        have er6 : H6 r = some (.lst (ns.map V.int)) := b56 _ _ er5 nrp.symm
        refine ⟨.ref r, rfl, .inl ⟨rfl, _, .inl (.inl er6)⟩, ?_⟩
        refine give (te := tIf _ _ _) (S := fun v H' => H' = H6 ∧ ∃ c, v = .int c ∧ Tiny c) (fun R g => ?_) fun v H' hv => ?_
        · have zero : R (.int 0) H6 := g _ _ ⟨rfl, 0, rfl, by decide, by decide⟩
          have numb : R (.int c) H6 := g _ _ ⟨rfl, c, rfl, tc⟩
          have fin : ∀ x : Bool, (if x = true then R (.int 0) H6 else (∃ v, some (some (V.int c)) = some (some v) ∧ R v H6)) := fun x => by
            cases x
            · exact iteF ⟨_, rfl, numb⟩
            · exact iteT zero
          have sec : tAnd (tB (tEqI (tVar 4) (tC (.int 1)))) (tB (tNeI (tVar 9) (tVar 7))) [some (.ref p), some (.int n), some (.int m), some (.ref fo), some (.int kd), some (.int (0 + i)), some (.ref t), some (.int (0 + j)), some (.ref r), some (.int (0 + k)), some (.int c)] H6 (fun x H' => if x = true then R (.int 0) H' else tVar 10 [some (.ref p), some (.int n), some (.int m), some (.ref fo), some (.int kd), some (.int (0 + i)), some (.ref t), some (.int (0 + j)), some (.ref r), some (.int (0 + k)), some (.int c)] H' R) := by
            refine ⟨.int kd, rfl, kd, 1, rfl, rfl, _, rfl, iteB (b := decide (kd = 1)) (fun _ => ⟨.int _, rfl, .int _, rfl, _, _, rfl, rfl, _, rfl, fin _⟩) fun _ => fin false⟩
          refine ⟨.int kd, rfl, kd, 0, rfl, rfl, _, rfl, iteB (b := decide (kd = 0)) (fun _ => ?_) fun _ => iteF sec⟩
          exact ⟨.int (0 + k), rfl, .int (0 + j), rfl, _, _, rfl, rfl, _, rfl, iteB (b := decide ((0 + (k : Int)) < 0 + j)) (fun _ => fin true) fun _ => sec⟩
        · obtain ⟨rfl, c', rfl, tc'⟩ := hv
          refine ⟨r, _, _, rfl, rfl, er6, by rw [List.length_map, ens]; exact small1000 (by omega), ?_⟩
          have st : ∀ b o, H5 b = some o → b ≠ p → b ≠ r → (upd H' r (.lst (ns.map V.int ++ [.int c']))) b = some o := fun b o e h1 h2 => by
            rw [upd_ne h2]
            exact b56 _ _ e h1
          have go2 : Same (offL [p, fo, t, r] H5) (offL [p, fo, t, r] (upd H' r (.lst (ns.map V.int ++ [.int c'])))) := offL_same fun b o e hb => by
            refine ⟨hb, ?_⟩
            simp only [List.mem_cons, List.not_mem_nil, or_false, not_or] at hb
            exact st b o e hb.1 hb.2.2.2
          refine ⟨_, _, ns ++ [c'], rfl, ?_, fun b o e hb => ?_, ?_, df5.same go2, ?_, dt5.same go2, ?_, by rw [List.length_append, ens]; rfl, mem_app gns tc'⟩
          · obtain ⟨x, y, hx, hy, e⟩ := p6
            exact ⟨x, y, hx, hy, by rw [upd_ne nrp]; exact e⟩
          · have r2 : H r = none := b4.free nr nrp.symm
            rw [upd_ne (ne_of_none e r2)]
            exact b56 _ _ (b5 _ _ e hb) hb
          · exact st _ _ ef5 nfp.symm nrf
          · exact st _ _ et5 ntp.symm nrt
          · rw [upd_same, List.map_append]
            rfl
      · -- table.append(row)
        rintro σ H5 ⟨o9, o10, ns, rfl, p5, b5, ef5, df5, et5, dt5, er5, ens, gns⟩
        have lts := dt5.length
        refine ⟨.ref t, rfl, .inl ⟨rfl, _, .inl (.inl et5)⟩, .ref r, rfl, t, _, _, rfl, rfl, et5, small1000 (by omega), ?_⟩
        have go2 : Same (offL [p, fo, t, r] H5) (offL [p, fo, t] (upd H5 t (.lst (ts ++ [.ref r])))) := offL_same fun b o e hb => by
          simp only [List.mem_cons, List.not_mem_nil, or_false, not_or] at hb ⊢
          exact ⟨⟨hb.1, hb.2.1, hb.2.2.1⟩, by rw [upd_ne hb.2.2.1]; exact e⟩
        have rin : r ∉ [p, fo, t] := by
          simp only [List.mem_cons, List.not_mem_nil, or_false, not_or]
          exact ⟨nrp.symm, nrf.symm, nrt.symm⟩
        have dr : Dt C (offL [p, fo, t] (upd H5 t (.lst (ts ++ [.ref r])))) (.ref r) (.lst (ns.map D.int)) := .lst (by rw [offL_at rin, upd_ne nrt.symm]; exact er5) (dts_ints ns)
        refine ⟨_, _, _, _, rows ++ [.lst (ns.map D.int)], _, rfl, p5.upd ntp, fun b o e hb => ?_, ?_, df5.same go2, upd_same, dts_app (dt5.same go2) (.cons dr .nil), by rw [List.length_append, erl]; rfl, mem_app grl ⟨ns, rfl, by omega, gns⟩⟩
        · have t2 : H t = none := b3.free nt ntp.symm
          rw [upd_ne (ne_of_none e t2)]
          exact b5 _ _ e hb
        · rw [upd_ne ntf]
          exact ef5
    · -- found.append(table)
      rintro σ H4 ⟨o7, o8, o9, o10, rows, ts, rfl, p4, b4, ef4, df4, et4, dt4, erl, grl⟩
      have lfs := df4.length
      refine ⟨.ref fo, rfl, .inl ⟨rfl, _, .inl (.inl ef4)⟩, .ref t, rfl, fo, _, _, rfl, rfl, ef4, small1000 (by omega), ?_⟩
      have go2 : Same (offL [p, fo, t] H4) (offL [p, fo] (upd H4 fo (.lst (fs ++ [.ref t])))) := offL_same fun b o e hb => by
        simp only [List.mem_cons, List.not_mem_nil, or_false, not_or] at hb ⊢
        exact ⟨⟨hb.1, hb.2.1⟩, by rw [upd_ne hb.2.1]; exact e⟩
      have tin : t ∉ [p, fo] := by
        simp only [List.mem_cons, List.not_mem_nil, or_false, not_or]
        exact ⟨ntp.symm, ntf.symm⟩
      have dtt : Dt C (offL [p, fo] (upd H4 fo (.lst (fs ++ [.ref t])))) (.ref t) (.lst rows) := .lst (by rw [offL_at tin, upd_ne ntf.symm]; exact et4) (dt4.same go2)
      refine ⟨_, _, _, _, _, _, l ++ [.lst rows], _, rfl, p4.upd nfp, fun b o e hb => ?_, upd_same, dts_app (df4.same go2) (.cons dtt .nil), by rw [List.length_append, el]; rfl, mem_app gl ⟨rows, rfl, by omega, grl⟩⟩
      rw [upd_ne (ne_of_none e nfo)]
      exact b4 _ _ e hb
  · rintro σ H3 ⟨o5, o6, o7, o8, o9, o10, l, fs, rfl, p3, b3, ef, df, el, gl⟩
    exact ⟨.ref fo, rfl, q fo fs l H3 b3 p3 nfp.symm nfo ef df (by omega) (by omega) gl⟩
end
end KT

set_option Elab.async false
set_option linter.all false
set_option maxRecDepth 100000
set_option maxHeartbeats 4000000
namespace KT
open PySem L2 TW
/-! expressions that make data out of a list of ints at w, without a change of what stood -/
/-- x stands in H' as d, without the places S of H -/
def Std (C : Addr) (H : Hp) (w : Addr) (x : V) (d : D) (H' : Hp) : Prop := ∀ S : List Addr, (∀ a ∈ S, H a ≠ none) → w ∉ S → Dt C (offL S H') x d
def Stds (C : Addr) (H : Hp) (w : Addr) (xs : List V) (l : List D) (H' : Hp) : Prop := ∀ S : List Addr, (∀ a ∈ S, H a ≠ none) → w ∉ S → Dts C (offL S H') xs l
def El (C : Addr) (σ : L2.St) (w : Addr) (ns : List Int) (te : TE) (d : D) : Prop := ∀ (H : Hp) (R : VK), H w = some (.lst (ns.map V.int)) → (∀ x H', Same H H' → Std C H w x d H' → R x H') → te σ H R
def Els (C : Addr) (σ : L2.St) (w : Addr) (ns : List Int) (ta : TA) (l : List D) : Prop := ∀ (H : Hp) (R : List V → Hp → Prop), H w = some (.lst (ns.map V.int)) → (∀ xs H', Same H H' → Stds C H w xs l H' → R xs H') → ta σ H R
section
variable {C w : Addr} {σ : L2.St} {ns : List Int}
theorem offL_nil {H : Hp} : offL [] H = H := by
  funext b
  exact offL_at (by simp)
theorem offL_mono {S : List Addr} {H H' : Hp} (s : Same H H') : Same (offL S H) (offL S H') := offL_same fun b o e hb => ⟨hb, s b o e⟩
theorem live {S : List Addr} {H H' : Hp} (s : Same H H') (h : ∀ a ∈ S, H a ≠ none) : ∀ a ∈ S, H' a ≠ none := fun a ha e => by
  cases z : H a with
  | none => exact h a ha z
  | some o =>
    rw [s a o z] at e
    cases e
theorem out_of {S : List Addr} {H : Hp} {p : Addr} (h : ∀ a ∈ S, H a ≠ none) (hp : H p = none) : p ∉ S := fun z => h p z hp
theorem Std.here {H H' : Hp} {x : V} {d : D} (h : Std C H w x d H') : Dt C H' x d := by
  have z := h [] (fun _ z => nomatch z) (fun z => nomatch z)
  rwa [offL_nil] at z
theorem Stds.here {H H' : Hp} {xs : List V} {l : List D} (h : Stds C H w xs l H') : Dts C H' xs l := by
  have z := h [] (fun _ z => nomatch z) (fun z => nomatch z)
  rwa [offL_nil] at z
/-- an object laid over such parts -/
theorem std_new {H H1 : Hp} {p : Addr} {o : HO} {d : D} (s : Same H H1) (hp : H1 p = none) (h : ∀ S, (∀ a ∈ S, H a ≠ none) → w ∉ S → p ∉ S → offL S (upd H1 p o) p = some o → Dt C (offL S (upd H1 p o)) (.ref p) d) : Std C H w (.ref p) d (upd H1 p o) := fun S hS hw => by
  have np : p ∉ S := out_of (live s hS) hp
  exact h S hS hw np (by rw [offL_at np]; exact upd_same)
theorem el_flat {v : V} {d : D} (h : ∀ H, Dt C H v d) : El C σ w ns (tC v) d := fun H R hw k => k v H (Same.refl H) fun S _ _ => h _
theorem el_int {i : Int} : El C σ w ns (tC (.int i)) (.int i) := el_flat fun _ => .int i
theorem el_neg {i : Int} : El C σ w ns (tUn (rU fun i => .int (-i)) (tC (.int i))) (.int (-i)) := fun H R hw k => ⟨i, rfl, k _ H (Same.refl H) fun S _ _ => .int _⟩
theorem el_word {j : Nat} (hj : σ[j]? = some (some (.ref w))) : El C σ w ns (tVar j) (.lst (ns.map D.int)) := fun H R hw k =>
  ⟨.ref w, hj, k _ H (Same.refl H) fun S _ hS => .lst (by rw [offL_at hS]; exact hw) (dts_ints ns)⟩
theorem el_int_at {j : Nat} {i : Int} (hj : σ[j]? = some (some (.int i))) : El C σ w ns (tVar j) (.int i) := fun H R hw k => ⟨.int i, hj, k _ H (Same.refl H) fun S _ _ => .int i⟩
theorem els_nil : Els C σ w ns tNil [] := fun H R hw k => k [] H (Same.refl H) fun S _ _ => .nil
theorem els_cons {te : TE} {ta : TA} {d : D} {l : List D} (h : El C σ w ns te d) (hs : Els C σ w ns ta l) : Els C σ w ns (tCons te ta) (d :: l) := fun H R hw k =>
  h H _ hw fun x H1 s1 st => hs H1 _ (s1 _ _ hw) fun xs H2 s2 sts => k (x :: xs) H2 (s1.trans s2) fun S hS hwS => .cons ((st S hS hwS).same (offL_mono s2)) (sts S (live s1 hS) hwS)
theorem el_lst {ta : TA} {l : List D} (h : Els C σ w ns ta l) (hl : l.length ≤ 1000) : El C σ w ns (tLst ta) (.lst l) := fun H R hw k =>
  h H _ hw fun xs H1 s1 sts => ⟨Nat.le_trans (by rw [(sts.here).length]; exact hl) (by decide : (1000 : Nat) ≤ sizeLine), fun p hp => k _ _ (s1.trans (same_new hp)) (std_new s1 hp fun S hS hwS np e => .lst e ((sts S hS hwS).same (offL_mono (same_new hp))))⟩
theorem el_tup {ta : TA} {l : List D} (h : Els C σ w ns ta l) (hl : l.length ≤ 1000) : El C σ w ns (tTup ta) (.tup l) := fun H R hw k =>
  h H _ hw fun xs H1 s1 sts => ⟨Nat.le_trans (by rw [(sts.here).length]; exact hl) (by decide : (1000 : Nat) ≤ sizeLine), fun p hp => k _ _ (s1.trans (same_new hp)) (std_new s1 hp fun S hS hwS np e => .tup e ((sts S hS hwS).same (offL_mono (same_new hp))))⟩
theorem lst_inv {H : Hp} {x : V} {l : List D} (h : Dt C H x (.lst l)) : ∃ a xs, x = .ref a ∧ H a = some (.lst xs) ∧ Dts C H xs l := by
  cases h with
  | lst h1 h2 => exact ⟨_, _, rfl, h1, h2⟩
theorem tup_inv {H : Hp} {x : V} {l : List D} (h : Dt C H x (.tup l)) : ∃ a xs, x = .ref a ∧ H a = some (.tup xs) ∧ Dts C H xs l := by
  cases h with
  | tup h1 h2 => exact ⟨_, _, rfl, h1, h2⟩
theorem int_inv {H : Hp} {x : V} {i : Int} (h : Dt C H x (.int i)) : x = .int i := by
  cases h
  rfl
/-- where S leaves it out, the same list stands at the same place -/
theorem std_lst {H H' : Hp} {x : V} {l : List D} (h : Std C H w x (.lst l) H') : ∃ a xs, x = .ref a ∧ H' a = some (.lst xs) ∧ ∀ S : List Addr, (∀ a ∈ S, H a ≠ none) → w ∉ S → Dts C (offL S H') xs l := by
  obtain ⟨a, xs, rfl, h1, h2⟩ := lst_inv h.here
  refine ⟨a, xs, rfl, h1, fun S hS hw => ?_⟩
  obtain ⟨b, ys, e, g1, g2⟩ := lst_inv (h S hS hw)
  cases e
  have q := offL_same (S := S) (S' := []) (H := H') (H' := H') (fun b o e _ => ⟨List.not_mem_nil, e⟩) _ _ g1
  rw [offL_nil, h1] at q
  cases q
  exact g2
theorem std_tup {H H' : Hp} {x : V} {l : List D} (h : Std C H w x (.tup l) H') : ∃ a xs, x = .ref a ∧ H' a = some (.tup xs) ∧ ∀ S : List Addr, (∀ a ∈ S, H a ≠ none) → w ∉ S → Dts C (offL S H') xs l := by
  obtain ⟨a, xs, rfl, h1, h2⟩ := tup_inv h.here
  refine ⟨a, xs, rfl, h1, fun S hS hw => ?_⟩
  obtain ⟨b, ys, e, g1, g2⟩ := tup_inv (h S hS hw)
  cases e
  have q := offL_same (S := S) (S' := []) (H := H') (H' := H') (fun b o e _ => ⟨List.not_mem_nil, e⟩) _ _ g1
  rw [offL_nil, h1] at q
  cases q
  exact g2
theorem el_cat {ta tb : TE} {l m : List D} (h : El C σ w ns ta (.lst l)) (h' : El C σ w ns tb (.lst m)) (hz : l.length + m.length ≤ 1000) : El C σ w ns (tOp rCat ta tb) (.lst (l ++ m)) := fun H R hw k =>
  h H _ hw fun x H1 s1 st => h' H1 _ (s1 _ _ hw) fun y H2 s2 st2 => by
    obtain ⟨a, xs, rfl, e1, f1⟩ := std_lst st
    obtain ⟨b, ys, rfl, e2, f2⟩ := std_lst st2
    have z1 := (f1 [] (fun _ z => nomatch z) (fun z => nomatch z)).length
    have z2 := (f2 [] (fun _ z => nomatch z) (fun z => nomatch z)).length
    refine ⟨a, b, xs, ys, rfl, rfl, s2 _ _ e1, e2, Nat.le_trans (by omega) (by decide : (1000 : Nat) ≤ sizeLine), fun p hp => k _ _ ((s1.trans s2).trans (same_new hp)) (std_new (s1.trans s2) hp fun S hS hwS np e => .lst e ?_)⟩
    exact dts_app ((f1 S hS hwS).same (offL_mono (s2.trans (same_new hp)))) ((f2 S (live s1 hS) hwS).same (offL_mono (same_new hp)))
theorem dts_rep {H : Hp} {xs : List V} {l : List D} (h : Dts C H xs l) : ∀ k : Nat, Dts C H (List.replicate k xs).flatten (List.replicate k l).flatten
  | 0 => .nil
  | k + 1 => by
    rw [List.replicate_succ, List.replicate_succ, List.flatten_cons, List.flatten_cons]
    exact dts_app h (dts_rep h k)
theorem el_rep {ta : TE} {l : List D} {k : Nat} (h : El C σ w ns ta (.lst l)) (hk : k ≤ 1000) (hz : l.length * k ≤ 1000) : El C σ w ns (tOp rRep ta (tC (.int k))) (.lst (List.replicate k l).flatten) := fun H R hw q =>
  h H _ hw fun x H1 s1 st => by
    obtain ⟨a, xs, rfl, e1, f1⟩ := std_lst st
    have z1 := (f1 [] (fun _ z => nomatch z) (fun z => nomatch z)).length
    refine ⟨a, k, xs, rfl, rfl, e1, by omega, by omega, Nat.le_trans (by rw [Int.toNat_natCast, z1]; exact hz) (by decide : (1000 : Nat) ≤ sizeLine), fun p hp => q _ _ (s1.trans (same_new hp)) (std_new s1 hp fun S hS hwS np e => .lst e ?_)⟩
    rw [Int.toNat_natCast]
    exact (dts_rep (f1 S hS hwS) k).same (offL_mono (same_new hp))
theorem el_repT {K : W.Frag} {ta : TE} {l : List D} {k : Nat} (h : El C σ w ns ta (.tup l)) (h2 : 2 ≤ k) (hk : k ≤ 1000) (hl : l ≠ []) (hl2 : l.length ≤ 1000) : El C σ w ns (tOp (rRepT K) ta (tC (.int k))) (.tup (List.replicate k l).flatten) := fun H R hw q =>
  h H _ hw fun x H1 s1 st => by
    obtain ⟨a, xs, rfl, e1, f1⟩ := std_tup st
    have z1 := (f1 [] (fun _ z => nomatch z) (fun z => nomatch z)).length
    refine ⟨a, k, xs, rfl, rfl, SqT.of e1, fun z => hl (List.eq_nil_of_length_eq_zero (by rw [← z1, z]; rfl)), by omega, by omega, by omega, fun p hp => q _ _ (s1.trans (same_new hp)) (std_new s1 hp fun S hS hwS np e => .tup e ?_)⟩
    rw [Int.toNat_natCast]
    exact (dts_rep (f1 S hS hwS) k).same (offL_mono (same_new hp))
theorem cut_to (xs : List V) (k : Nat) (h : k ≤ xs.length) : cutV xs none (some (k : Int)) = xs.take k := by
  unfold cutV
  rw [HT.sIx_none, HT.sIx_nat, List.drop_zero, Nat.min_eq_left h, Nat.sub_zero]
theorem cut_from (xs : List V) (k : Nat) (h : k ≤ xs.length) : cutV xs (some (k : Int)) none = xs.drop k := by
  unfold cutV
  rw [HT.sIx_none, HT.sIx_nat, Nat.min_eq_left h]
  exact List.take_of_length_le (by rw [List.length_drop]; omega)
theorem el_to {K : W.Frag} {j : Nat} {th : TE} {k : Nat} (hj : σ[j]? = some (some (.ref w))) (hk : k ≤ ns.length) (h : El C σ w ns th (.int k)) : El C σ w ns (tSl (rSlL K) (tVar j) tNoPart (tPart th)) (.lst ((ns.take k).map D.int)) := fun H R hw q => by
  refine ⟨.ref w, hj, h H _ hw fun x H1 s1 st => ?_⟩
  cases int_inv st.here
  refine ⟨k, rfl, w, _, rfl, SqL.of (s1 _ _ hw), fun p hp => ?_⟩
  rw [cut_to _ _ (by rw [List.length_map]; exact hk), ← List.map_take]
  exact q _ _ (s1.trans (same_new hp)) (std_new s1 hp fun S hS hwS np e => .lst e (dts_ints _))
theorem el_from {K : W.Frag} {j : Nat} {tl : TE} {k : Nat} (hj : σ[j]? = some (some (.ref w))) (hk : k ≤ ns.length) (h : El C σ w ns tl (.int k)) : El C σ w ns (tSl (rSlL K) (tVar j) (tPart tl) tNoPart) (.lst ((ns.drop k).map D.int)) := fun H R hw q => by
  refine ⟨.ref w, hj, h H _ hw fun x H1 s1 st => ?_⟩
  cases int_inv st.here
  refine ⟨k, rfl, w, _, rfl, SqL.of (s1 _ _ hw), fun p hp => ?_⟩
  rw [cut_from _ _ (by rw [List.length_map]; exact hk), ← List.map_drop]
  exact q _ _ (s1.trans (same_new hp)) (std_new s1 hp fun S hS hwS np e => .lst e (dts_ints _))
theorem el_op {f : Int → Int → V} {g : Int → Int → Int} {ta tb : TE} {i j : Int} (hf : ∀ i j, f i j = .int (g i j)) (h : El C σ w ns ta (.int i)) (h' : El C σ w ns tb (.int j)) : El C σ w ns (tOp (rI0 f) ta tb) (.int (g i j)) := fun H R hw q =>
  h H _ hw fun x H1 s1 st => h' H1 _ (s1 _ _ hw) fun y H2 s2 st2 => by
    cases int_inv st.here
    cases int_inv st2.here
    refine ⟨i, j, rfl, rfl, ?_⟩
    rw [hf]
    exact q _ _ (s1.trans s2) fun S _ _ => .int _
theorem el_pow {ta tb : TE} {i j : Int} (hc : CPow i j) (h : El C σ w ns ta (.int i)) (h' : El C σ w ns tb (.int j)) : El C σ w ns (tOp (rI CPow fun i j => .int (i ^ j.toNat)) ta tb) (.int (i ^ j.toNat)) := fun H R hw q =>
  h H _ hw fun x H1 s1 st => h' H1 _ (s1 _ _ hw) fun y H2 s2 st2 => by
    cases int_inv st.here
    cases int_inv st2.here
    exact ⟨i, j, rfl, rfl, hc, q _ _ (s1.trans s2) fun S _ _ => .int _⟩
theorem el_item {K : W.Frag} {j : Nat} {ti : TE} {k : Nat} {z : Int} (hj : σ[j]? = some (some (.ref w))) (hk : ns[k]? = some z) (h : El C σ w ns ti (.int k)) : El C σ w ns (tOp (rIxL K) (tVar j) ti) (.int z) := fun H R hw q => by
  refine ⟨.ref w, hj, h H _ hw fun x H1 s1 st => ?_⟩
  cases int_inv st.here
  exact ⟨w, _, k, .int z, rfl, rfl, SqL.of (s1 _ _ hw), atI_nat (by rw [List.getElem?_map, hk]; rfl), q _ _ s1 fun S _ _ => .int z⟩
theorem el_str {ti : TE} {z : Int} (hz : SmallI z) (h : El C σ w ns ti (.int z)) : El C σ w ns (tCB (fun xs H Q => ∃ i, xs = [.int i] ∧ i.natAbs.log2 < 1920 ∧ Q (.str (toString i)) H) (tCons ti tNil)) (.str (toString z)) := fun H R hw q =>
  h H _ hw fun x H1 s1 st => by
    cases int_inv st.here
    exact ⟨z, rfl, hz, q _ _ s1 fun S _ _ => .str _⟩
theorem el_ratio {ti : TE} {z : Int} (h : El C σ w ns ti (.int z)) : El C σ w ns (tMake C (spInit C) [.int 1] E0 (tCons ti tNil)) (.rat z 1) := fun H R hw q =>
  h H _ hw fun x H1 s1 st => by
    cases int_inv st.here
    intro p dx np ndx ne
    refine ⟨p, dx, z, 1, rfl, upd_same, by decide, ?_, fun H' keep hp => ⟨rfl, q _ H' (s1.trans fun b o e => ?_) fun S hS hwS => ?_⟩⟩
    · show Nat.gcd z.natAbs 1 < _
      rw [Nat.gcd_one_right]
      decide
    · refine keep b o ?_ (ne_of_none e np)
      rw [upd_ne (ne_of_none e np), upd_ne (ne_of_none e ndx)]
      exact e
    · have e1 : cm z 1 = 1 := by
        unfold cm
        rw [if_neg (by decide)]
        show ((Nat.gcd z.natAbs 1 : Nat) : Int) = 1
        rw [Nat.gcd_one_right]
        rfl
      rw [e1] at hp
      have nS : p ∉ S := out_of (live s1 hS) np
      have e2 : z.fdiv 1 = z := by rw [Int.fdiv_eq_ediv_of_nonneg _ (by decide)]; exact Int.ediv_one z
      refine .rat (by rw [offL_at nS]; exact hp) ?_ ?_
      · rw [fsR_top, e2]
      · rw [fsR_bottom]
        rfl
theorem el_tupleOf {K : W.Frag} {ti : TE} {l : List D} (h : El C σ w ns ti (.lst l)) : El C σ w ns (tCB (fun xs H Q => ∃ p ys, xs = [.ref p] ∧ ((SqL K H p ys ∧ ∀ l, H l = none → Q (.ref l) (upd H l (.tup ys))) ∨ (SqT K H p ys ∧ Q (.ref p) H))) (tCons ti tNil)) (.tup l) := fun H R hw q =>
  h H _ hw fun x H1 s1 st => by
    obtain ⟨a, xs, rfl, e1, f1⟩ := std_lst st
    exact ⟨a, xs, rfl, .inl ⟨SqL.of e1, fun p hp => q _ _ (s1.trans (same_new hp)) (std_new s1 hp fun S hS hwS np e => .tup e ((f1 S hS hwS).same (offL_mono (same_new hp))))⟩⟩
theorem el_dict0 : El C σ w ns tDNewK (.dct []) := fun H R hw q p hp => q _ _ (same_new hp) (std_new (Same.refl H) hp fun S hS hwS np e => .dct e)
theorem el_dict1 {a b : Int} : El C σ w ns (tDisp [(tC (.int a), tC (.int b))]) (.dct [(a, b)]) := fun H R hw q p hp => by
  refine ⟨upd_same, [(Sum.inl a, .int b)], rfl, (by show 1 ≤ 15; decide), ?_⟩
  have e : upd (upd H p (.dK [])) p (.dK (mergeK [] [(Sum.inl a, V.int b)])) = upd H p (.dK (kvs [(a, b)])) := upd_upd
  rw [e]
  exact q _ _ (same_new hp) (std_new (Same.refl H) hp fun S hS hwS np e => .dct e)
theorem dts_fv (f : Int → D) (fv : Int → V) (hfv : ∀ z H, Dt C H (fv z) (f z)) (H : Hp) : ∀ ns : List Int, Dts C H (ns.map fv) (ns.map f)
  | [] => .nil
  | n :: r => .cons (hfv n _) (dts_fv f fv hfv H r)
/-- [e for z in word], e out of z alone -/
theorem el_comp {K : W.Frag} {te : TE} {i j : Nat} (f : Int → D) (fv : Int → V) (hfv : ∀ z H, Dt C H (fv z) (f z)) (hj : σ[j]? = some (some (.ref w))) (hl : ns.length ≤ 1000)
    (el : ∀ (z : Int) (H' : Hp) (R : VK), R (fv z) H' → te ((wipe σ [i]).set i (some (.int z))) H' R) : El C σ w ns (tLc (iSeq K (tVar j)) (gName i) tYes te [i]) (.lst (ns.map f)) := fun H R hw q => by
  have ln : (ns.map V.int).length ≤ sizeLine := Nat.le_trans (by rw [List.length_map]; exact hl) (by decide)
  refine comp_vals (fun k => (ns[k]?.map fv).getD .non) hj (.inl (SqL.of hw)) ln (fun k x H' R hx s1 r => ?_) fun p H' hp s1 e => ?_
  · rw [List.getElem?_map] at hx
    cases z : ns[k]? with
    | none => rw [z] at hx; cases hx
    | some n =>
      rw [z] at hx
      cases hx
      refine el n H' R ?_
      have q := r H' (Same.refl H')
      rw [z] at q
      exact q
  · have e2 : (List.range (ns.map V.int).length).map (fun k => (ns[k]?.map fv).getD .non) = ns.map fv := by
      refine List.ext_getElem? fun k => ?_
      rw [List.length_map]
      rcases Nat.lt_or_ge k ns.length with lt | ge
      · rw [List.getElem?_map, List.getElem?_range lt, List.getElem?_map, List.getElem?_eq_getElem lt]
        show some ((ns[k]?.map fv).getD .non) = some (fv ns[k])
        rw [List.getElem?_eq_getElem lt]
        rfl
      · rw [List.getElem?_eq_none (by simp; omega), List.getElem?_eq_none (by simp; omega)]
    rw [e2] at e
    refine q _ H' s1 fun S hS hwS => .lst (by rw [offL_at (out_of hS hp)]; exact e) ?_
    exact dts_fv f fv hfv _ ns
end
end KT

set_option Elab.async false
set_option linter.all false
set_option maxRecDepth 100000
set_option maxHeartbeats 4000000
namespace KT
open PySem L2 TW
abbrev s_values : Stmt := top 50
theorem sc_values : FnScope ["_law_pot_here", "_law_many", "_law_word", "_law_turn", "_law_spot", "_law_found", "_law_letter"] ["_law_pot_here", "_law_many"] (defScope s_values) := ⟨rfl, rfl, rfl, by decide +kernel, rfl, by decide +kernel, by decide +kernel⟩
/-! sizes -/
def Fl (j B : Nat) (d : D) : Prop := d.ok ∧ d.len ≤ B ∧ d.deep ≤ j
def Fs (j B n : Nat) (l : List D) : Prop := (∀ d ∈ l, Fl j B d) ∧ l.length ≤ n
theorem Fl.up {j B j' B' : Nat} {d : D} (h : Fl j B d) (h1 : j ≤ j') (h2 : B ≤ B') : Fl j' B' d := ⟨h.1, Nat.le_trans h.2.1 h2, Nat.le_trans h.2.2 h1⟩
theorem fl_01 {d : D} (h : Fl 0 4000 d) : Fl 1 90000 d := h.up (by decide) (by decide)
theorem fl_12 {d : D} (h : Fl 1 90000 d) : Fl 2 2000000 d := h.up (by decide) (by decide)
theorem fs_all {j B : Nat} : ∀ (l : List D), (∀ d ∈ l, Fl j B d) → oks l ∧ lens l ≤ l.length * (B + 2) ∧ deeps l ≤ j
  | [], _ => ⟨trivial, Nat.zero_le _, Nat.zero_le _⟩
  | d :: l, h => by
    have q := h d List.mem_cons_self
    have r := fs_all l fun x hx => h x (List.mem_cons_of_mem _ hx)
    refine ⟨⟨q.1, r.1⟩, ?_, Nat.max_le.2 ⟨q.2.2, r.2.2⟩⟩
    have e : (d :: l).length * (B + 2) = l.length * (B + 2) + (B + 2) := by rw [List.length_cons, Nat.add_mul, Nat.one_mul]
    rw [e]
    have q2 := q.2.1
    have r2 := r.2.1
    show d.len + 2 + lens l ≤ _
    omega
theorem fl_seq {j B B' n : Nat} {l : List D} (h : Fs j B n l) (hn : n * (B + 2) + 3 ≤ B') : Fl (j + 1) B' (.lst l) ∧ Fl (j + 1) B' (.tup l) := by
  have q := fs_all l h.1
  have z : l.length * (B + 2) ≤ n * (B + 2) := Nat.mul_le_mul_right _ h.2
  have q2 := q.2.1
  refine ⟨⟨q.1, ?_, Nat.succ_le_succ q.2.2⟩, q.1, ?_, Nat.succ_le_succ q.2.2⟩
  · show 2 + lens l ≤ B'
    omega
  · show 3 + lens l ≤ B'
    omega
theorem fl_lst0 {n : Nat} {l : List D} (h : Fs 0 4000 n l) (hn : n ≤ 20) : Fl 1 90000 (.lst l) := (fl_seq (n := n) h (by omega)).1
theorem fl_tup0 {n : Nat} {l : List D} (h : Fs 0 4000 n l) (hn : n ≤ 20) : Fl 1 90000 (.tup l) := (fl_seq (n := n) h (by omega)).2
theorem fl_lst1 {n : Nat} {l : List D} (h : Fs 1 90000 n l) (hn : n ≤ 20) : Fl 2 2000000 (.lst l) := (fl_seq (n := n) h (by omega)).1
theorem fl_tup1 {n : Nat} {l : List D} (h : Fs 1 90000 n l) (hn : n ≤ 20) : Fl 2 2000000 (.tup l) := (fl_seq (n := n) h (by omega)).2
theorem fs_nil {j B : Nat} : Fs j B 0 [] := ⟨fun _ h => (nomatch h), Nat.le_refl _⟩
theorem fs_cons {j B n : Nat} {d : D} {l : List D} (h : Fl j B d) (hs : Fs j B n l) : Fs j B (n + 1) (d :: l) := ⟨fun x hx => by
  rcases List.mem_cons.1 hx with rfl | hx
  · exact h
  · exact hs.1 x hx, Nat.succ_le_succ hs.2⟩
theorem fs_app {j B n n' : Nat} {l m : List D} (h : Fs j B n l) (h' : Fs j B n' m) : Fs j B (n + n') (l ++ m) := ⟨fun x hx => by
  rcases List.mem_append.1 hx with hx | hx
  · exact h.1 x hx
  · exact h'.1 x hx, by rw [List.length_append]; have := h.2; have := h'.2; omega⟩
theorem fs_rep {j B n : Nat} {l : List D} (h : Fs j B n l) : ∀ k : Nat, Fs j B (n * k) (List.replicate k l).flatten
  | 0 => fs_nil
  | k + 1 => by
    rw [List.replicate_succ, List.flatten_cons, Nat.mul_succ, Nat.add_comm]
    exact fs_app h (fs_rep h k)
theorem fs_ints {n : Nat} {ns : List Int} (h : ∀ z ∈ ns, SmallI z) (hn : ns.length ≤ n) : Fs 0 4000 n (ns.map D.int) := ⟨fun d hd => by
  obtain ⟨z, hz, rfl⟩ := List.mem_map.1 hd
  exact ⟨h z hz, by show 1921 ≤ 4000; decide, Nat.le_refl _⟩, by rw [List.length_map]; exact hn⟩
theorem fs_take {n : Nat} {ns : List Int} (h : Fs 0 4000 n (ns.map D.int)) (k : Nat) : Fs 0 4000 n ((ns.take k).map D.int) := ⟨fun d hd => by
  obtain ⟨z, hz, rfl⟩ := List.mem_map.1 hd
  exact h.1 _ (List.mem_map.2 ⟨z, List.mem_of_mem_take hz, rfl⟩), by have q := h.2; rw [List.length_map] at q ⊢; rw [List.length_take]; omega⟩
theorem fs_drop {n : Nat} {ns : List Int} (h : Fs 0 4000 n (ns.map D.int)) (k : Nat) : Fs 0 4000 n ((ns.drop k).map D.int) := ⟨fun d hd => by
  obtain ⟨z, hz, rfl⟩ := List.mem_map.1 hd
  exact h.1 _ (List.mem_map.2 ⟨z, List.mem_of_mem_drop hz, rfl⟩), by have q := h.2; rw [List.length_map] at q ⊢; rw [List.length_drop]; omega⟩
theorem cat_len {j B n j' B' n' : Nat} {l m : List D} (h : Fs j B n l) (h' : Fs j' B' n' m) (hn : n + n' ≤ 1000) : l.length + m.length ≤ 1000 := by
  have := h.2
  have := h'.2
  omega
theorem fl_int {i : Int} (h : SmallI i) : Fl 0 4000 (.int i) := ⟨h, by show 1921 ≤ 4000; decide, Nat.le_refl _⟩
theorem fl_non : Fl 0 4000 .non := ⟨trivial, by show 4 ≤ 4000; decide, Nat.le_refl _⟩
theorem fl_bl {b : Bool} : Fl 0 4000 (.bl b) := ⟨trivial, by show 5 ≤ 4000; decide, Nat.le_refl _⟩
theorem fl_str {x : Str} (h : (reprText x).length ≤ 4000) : Fl 0 4000 (.str x) := ⟨trivial, h, Nat.le_refl _⟩
theorem fl_rat {z : Int} (h : SmallI z) : Fl 0 4000 (.rat z 1) := ⟨⟨h, by show Nat.log2 1 < 1920; decide⟩, Nat.le_refl _, Nat.le_refl _⟩
theorem fl_dct0 : Fl 0 4000 (.dct []) := ⟨fun _ h => (nomatch h), by show 2 + 4000 * 0 ≤ 4000; decide, Nat.le_refl _⟩
theorem fl_dct1 : Fl 2 2000000 (.dct [(0, 0)]) := ⟨fun p h => by
  rw [List.mem_singleton.1 h]
  exact ⟨by show Nat.log2 0 < 1920; decide, by show Nat.log2 0 < 1920; decide⟩, by show 2 + 4000 * 1 ≤ 2000000; decide, Nat.zero_le _⟩
theorem fl_strI {z : Int} (h : z = 0 ∨ z = 1 ∨ z = 2) : Fl 0 4000 (.str (toString z)) := by
  rcases h with rfl | rfl | rfl
  · exact fl_str (by decide +kernel)
  · exact fl_str (by decide +kernel)
  · exact fl_str (by decide +kernel)
theorem fs_map {n : Nat} {ns : List Int} {f : Int → D} (h : ∀ z ∈ ns, Fl 0 4000 (f z)) (hn : ns.length ≤ n) : Fs 0 4000 n (ns.map f) := ⟨fun d hd => by
  obtain ⟨z, hz, rfl⟩ := List.mem_map.1 hd
  exact h z hz, by rw [List.length_map]; exact hn⟩
section
variable {C w : Addr} {o0 o1 o3 o4 o5 o6 : Option V} {ns : List Int} {K : W.Frag}
abbrev σv (o0 o1 : Option V) (w : Addr) (o3 o4 o5 o6 : Option V) : L2.St := [o0, o1, some (.ref w), o3, o4, o5, o6]
theorem el_cn (hl : ns.length ≤ 1000) : El C (σv o0 o1 w o3 o4 o5 o6) w ns (tLc (iSeq K (tVar 2)) (gName 6) tYes (tOp (rI0 fun i j => .int (i - j)) (tC (.int 0)) (tVar 6)) [6]) (.lst (ns.map fun z => .int (0 - z))) :=
  fun H R hw q => el_comp (fun z => .int (0 - z)) (fun z => .int (0 - z)) (fun _ _ => .int _) rfl hl (fun z H' R r => ⟨.int z, rfl, 0, z, rfl, rfl, r⟩) H R hw q
theorem el_cp (hl : ns.length ≤ 1000) : El C (σv o0 o1 w o3 o4 o5 o6) w ns (tLc (iSeq K (tVar 2)) (gName 6) tYes (tOp (rI0 fun i j => .int (i + j)) (tVar 6) (tC (.int 1))) [6]) (.lst (ns.map fun z => .int (z + 1))) :=
  fun H R hw q => el_comp (fun z => .int (z + 1)) (fun z => .int (z + 1)) (fun _ _ => .int _) rfl hl (fun z H' R r => ⟨.int z, rfl, z, 1, rfl, rfl, r⟩) H R hw q
def dcb (z : Int) : D := if z < 2 then .bl (z != 0) else .int z
def vcb (z : Int) : V := if z < 2 then .bl (z != 0) else .int z
abbrev rBool : List V → Hp → VK → Prop := fun xs H Q => (∃ i, xs = [.int i] ∧ Q (.bl (i != 0)) H) ∨ ∃ k, xs = [.bl k] ∧ Q (.bl k) H
theorem el_cb (hl : ns.length ≤ 1000) : El C (σv o0 o1 w o3 o4 o5 o6) w ns (tLc (iSeq K (tVar 2)) (gName 6) tYes (tIf (tB (tLt (tVar 6) (tC (.int 2)))) (tCB rBool (tCons (tVar 6) tNil)) (tVar 6)) [6]) (.lst (ns.map dcb)) :=
  fun H R hw q => el_comp dcb vcb (fun z H => by
    unfold dcb vcb
    split
    · exact .bl _
    · exact .int _) rfl hl (fun z H' R r => by
    unfold vcb at r
    refine ⟨.int z, rfl, z, 2, rfl, rfl, _, rfl, iteB (b := decide (z < 2)) (fun e => ?_) fun e => ?_⟩
    · rw [if_pos (of_decide_eq_true e)] at r
      exact ⟨.int z, rfl, .inl ⟨z, rfl, r⟩⟩
    · rw [if_neg (of_decide_eq_false e)] at r
      exact ⟨.int z, rfl, r⟩) H R hw q
theorem fl_cb {z : Int} (h : SmallI z) : Fl 0 4000 (dcb z) := by
  unfold dcb
  split
  · exact fl_bl
  · exact fl_int h
end
theorem small_of {z : Int} (h : -5 ≤ z) (h' : z ≤ 5) : SmallI z := by
  show Nat.log2 z.natAbs < 1920
  have e : z.natAbs ≤ 5 := by omega
  have q : ∀ n : Nat, n ≤ 5 → Nat.log2 n < 1920 := by decide
  exact q _ e
theorem use_els {C w : Addr} {σ : L2.St} {ns : List Int} {ta : TA} {l : List D} {H : Hp} {R : VK} {n : Nat} (h : Els C σ w ns ta l) (hw : H w = some (.lst (ns.map V.int))) (g : Fs 2 2000000 n l) (hn : n ≤ 40)
    (k : ∀ xs H', Same H H' → Stds C H w xs l H' → ∀ p, H' p = none → R (.ref p) (upd H' p (.lst xs))) : tLst ta σ H R :=
  h H _ hw fun xs H1 s1 st => ⟨Nat.le_trans (by rw [st.here.length]; exact Nat.le_trans g.2 hn) (by decide : (40 : Nat) ≤ sizeLine), fun p hp => k xs H1 s1 st p hp⟩
/-- found.extend(display) -/
theorem use_ext {K : W.Frag} {C w p fo : Addr} {σ : L2.St} {ns : List Int} {ta : TA} {l l2 : List D} {xs : List V} {H : Hp} {R : VK} {n : Nat} (h : Els C σ w ns ta l2) (g : Fs 2 2000000 n l2) (hs : σ[5]? = some (some (.ref fo))) (hw : H w = some (.lst (ns.map V.int)))
    (hp : PotAt H p) (hf : H fo = some (.lst xs)) (hd : Dts C (offL [p, fo] H) xs l) (nwp : w ≠ p) (nwf : w ≠ fo) (npf : p ≠ fo) (hn : l.length + n ≤ 40)
    (k : ∀ xs' H', (∀ b o, H b = some o → b ≠ fo → H' b = some o) → H' fo = some (.lst xs') → Dts C (offL [p, fo] H') xs' (l ++ l2) → R .non H') : tBM K "list" rExtend (tVar 5) (tCons (tLst ta) tNil) σ H R := by
  refine ⟨.ref fo, hs, .inl ⟨rfl, _, .inl (.inl hf)⟩, use_els h hw g (by omega) fun ys H1 s1 st q nq => ?_⟩
  have nfq : fo ≠ q := ne_of_none (s1 _ _ hf) nq
  have lx := hd.length
  have ly := st.here.length
  have gl := g.2
  refine ⟨fo, q, xs, ys, rfl, rfl, by rw [upd_ne nfq]; exact s1 _ _ hf, upd_same, Nat.le_trans (by omega) (by decide : (40 : Nat) ≤ sizeLine), ?_⟩
  have stay : ∀ b o, H1 b = some o → b ≠ fo → upd (upd H1 q (.lst ys)) fo (.lst (xs ++ ys)) b = some o := fun b o e hb => by
    rw [upd_ne hb, upd_ne (ne_of_none e nq)]
    exact e
  refine k _ _ (fun b o e hb => stay b o (s1 b o e) hb) upd_same (dts_app (hd.same (offL_same fun b o e hb => ?_)) ((st [p, fo] (fun a ha => ?_) ?_).same (offL_same fun b o e hb => ?_)))
  · refine ⟨hb, stay b o (s1 b o e) fun z => hb ?_⟩
    rw [z]
    exact List.mem_cons_of_mem _ List.mem_cons_self
  · rcases List.mem_cons.1 ha with rfl | ha
    · rw [hp.choose_spec.choose_spec.2.2]
      exact fun z => nomatch z
    · rw [List.mem_singleton.1 ha, hf]
      exact fun z => nomatch z
  · simp only [List.mem_cons, List.not_mem_nil, or_false, not_or]
    exact ⟨nwp, nwf⟩
  · refine ⟨hb, stay b o e fun z => hb ?_⟩
    rw [z]
    exact List.mem_cons_of_mem _ List.mem_cons_self
def spValues (C : Addr) : Sp := fun vs H Q _ => ∃ (p : Addr) (m : Nat), vs = [.ref p, .int m] ∧ PotAt H p ∧ 1 ≤ m ∧ m ≤ 3 ∧
  ∀ f fs l H', But p H H' → PotAt H' p → f ≠ p → H f = none → H' f = some (.lst fs) → Dts C H' fs l → l.length ≤ 40 → (∀ d ∈ l, Fl 2 2000000 d) → Q (.ref f) H'
section
variable {P : Program} {w : World} {K : W.Frag} {mg : Str → Option Value} {base : Heap} {C HC : Addr}
theorem ok_values {f g f1 f2 : Addr} {fd gd fd1 fd2 : FuncData} (F : At K mg "_law_values" s_values ["_law_pot_here", "_law_many"] f fd) (T : Txt K mg C HC) (T2 : Txt2 mg) (G : At K mg "_law_draw" s_draw ["_law_pot_here", "_law_many"] g gd)
    (N : FnOk P w K mg base L2.CX0 1 g gd ["_law_pot_here", "_law_many"] spDraw) (F1 : At K mg "is_integer" s_is_integer ["value"] f1 fd1) (I : InitAt K f2 fd2) (M : Mk K C f2) :
    FnOk P w K mg base L2.CX0 4 f fd ["_law_pot_here", "_law_many"] (spValues C) := by
  refine F.fn.ok sc_values (fun vs H Q E h => ?_) fun cdv A outer s H vs Q E hr h => ?_
  · obtain ⟨p, m, rfl, _⟩ := h
    rfl
  obtain ⟨p, m, rfl, hp, m1, m3, q⟩ := h
  obtain ⟨ds, vd, bd⟩ := init_binds I
  have hr1 : Room 1 _ := hr.mono (by decide)
  have hr2 : Room 3 _ := hr
  have nd := sc_values.nd
  refine ⟨_, (pss_cons (ps_set (i := 2) sc_values.nd rfl (.inl rfl) (pe_lst pa_nil)) (pss_cons (ps_for PassesOwn.never rfl (pi_range1 (by rfl) T2.range_ (pa_cons (pe_op op_add pe_int (pe_call N hr1 (by rfl) G.mg G.fn.kp G.b .nil pass0 (pa_cons (pv 0) (pa_cons pe_int pa_nil)))) pa_nil)) (pg_name (i := 3) sc_values.nd rfl (Or.inl rfl)) (pss_one (ps_expr (pe_bm PySem.F.plainAttrs_list PySem.F.slot_list_append PySem.F.type_list_append mt_append (pv 2) (pa_cons (pe_call N hr1 (by rfl) G.mg G.fn.kp G.b .nil pass0 (pa_cons (pv 0) (pa_cons (pv 1) pa_nil))) pa_nil))))) (pss_cons (ps_set (i := 4) sc_values.nd rfl (.inl rfl) (pe_call N hr1 (by rfl) G.mg G.fn.kp G.b .nil pass0 (pa_cons (pv 0) (pa_cons (pe_callB call_len_seq (by rfl) T.len_ PySem.boot_len (pa_cons (pv 2) pa_nil)) pa_nil)))) (pss_cons (ps_set (i := 5) sc_values.nd rfl (.inl rfl) (pe_lst (pa_cons (pv 2) (pa_cons (pe_callTy call_tuple_of (by rfl) T.tuple_ (by decide +kernel) (pa_cons (pv 2) pa_nil)) (pa_cons (pe_op op_cat (pv 2) (pe_lst (pa_cons (pv 1) pa_nil))) (pa_cons (pe_op op_rep (pe_lst (pa_cons (pe_op op_sub (pv 1) pe_int) pa_nil)) pe_int) (pa_cons (pe_op op_rep (pe_lst (pa_cons pe_int pa_nil)) pe_int) (pa_cons (pe_op op_repT (pe_tup (pa_cons pe_int pa_nil)) pe_int) (pa_cons (pe_op op_rep (pe_lst (pa_cons (pv 1) pa_nil)) pe_int) (pa_cons (pe_lst (pa_cons (pe_un un_neg pe_int) pa_nil)) (pa_cons (pe_op op_cat (pe_op op_cat (pe_slice sl_list (pv 2) po_none (po_some (pv 4))) (pe_lst (pa_cons pe_non pa_nil))) (pe_slice sl_list (pv 2) (po_some (pv 4)) po_none)) pa_nil))))))))))) (pss_cons (ps_expr (pe_bm PySem.F.plainAttrs_list PySem.F.slot_list_extend PySem.F.type_list_extend mt_extend (pv 5) (pa_cons (pe_lst (pa_cons (pe_op op_cat (pe_op op_cat (pe_slice sl_list (pv 2) po_none (po_some (pv 4))) (pe_lst (pa_cons (pe_make M (ok_init I T F1) hr2 (by rfl) T.mgC bd vd pass0 (pa_cons (pe_ix ix_list (pv 2) (pv 4) (fun _ _ => rfl)) pa_nil)) pa_nil))) (pe_slice sl_list (pv 2) (po_some (pe_op op_add (pv 4) pe_int)) po_none)) (pa_cons (pe_op op_cat (pe_op op_cat (pe_slice sl_list (pv 2) po_none (po_some (pv 4))) (pe_lst (pa_cons (pe_callTy call_str_int (by rfl) T2.str_ (by decide +kernel) (pa_cons (pe_ix ix_list (pv 2) (pv 4) (fun _ _ => rfl)) pa_nil)) pa_nil))) (pe_slice sl_list (pv 2) (po_some (pv 4)) po_none)) (pa_cons (pe_lst (pa_cons (pv 2) pa_nil)) (pa_cons (pe_tup (pa_cons (pv 2) pa_nil)) (pa_cons (pe_lst (pa_cons (pe_callTy call_tuple_of (by rfl) T.tuple_ (by decide +kernel) (pa_cons (pv 2) pa_nil)) pa_nil)) pa_nil)))))) pa_nil))) (pss_cons (ps_expr (pe_bm PySem.F.plainAttrs_list PySem.F.slot_list_extend PySem.F.type_list_extend mt_extend (pv 5) (pa_cons (pe_lst (pa_cons (pe_lc (own := [("_law_letter", 6)]) (g := gName 6) (tt := tYes) rfl sc_values.nd (pi_seq (pv 2)) (blkOk_by (N := ["_law_pot_here", "_law_many", "_law_word", "_law_turn", "_law_spot", "_law_found", "_law_letter"]) (sc := defScope s_values) (by decide +kernel)) (fun _ _ _ _ _ => pg_name (i := 6) sc_values.nd rfl (Or.inl rfl)) (fun _ _ _ _ _ => pts_nil) (fun _ _ _ _ _ => (pe_ifExp (pt_cmp (pc_lt (pv 6) pe_int)) (pe_callTy call_bool1 (by rfl) T.bool_ (by decide +kernel) (pa_cons (pv 6) pa_nil)) (pv 6)))) (pa_cons (pe_disp (pps_cons pe_int pe_int pps_nil) rfl rfl (by simp) (by decide)) (pa_cons pe_str (pa_cons pe_str (pa_cons (pe_lst pa_nil) (pa_cons (pe_tup pa_nil) (pa_cons pe_dnewK (pa_cons pe_non (pa_cons pe_int (pa_cons pe_bl (pa_cons pe_bl (pa_cons (pe_lst (pa_cons pe_bl pa_nil)) (pa_cons (pe_lst (pa_cons (pe_lst pa_nil) pa_nil)) pa_nil)))))))))))))) pa_nil))) (pss_one (ps_ret (pe_op op_cat (pv 5) (pe_lst (pa_cons (pe_ix ix_list (pv 2) pe_int (fun _ _ => rfl)) (pa_cons (pe_lc (own := [("_law_letter", 6)]) (g := gName 6) (tt := tYes) rfl sc_values.nd (pi_seq (pv 2)) (blkOk_by (N := ["_law_pot_here", "_law_many", "_law_word", "_law_turn", "_law_spot", "_law_found", "_law_letter"]) (sc := defScope s_values) (by decide +kernel)) (fun _ _ _ _ _ => pg_name (i := 6) sc_values.nd rfl (Or.inl rfl)) (fun _ _ _ _ _ => pts_nil) (fun _ _ _ _ _ => (pe_op op_sub pe_int (pv 6)))) (pa_cons (pe_lc (own := [("_law_letter", 6)]) (g := gName 6) (tt := tYes) rfl sc_values.nd (pi_seq (pv 2)) (blkOk_by (N := ["_law_pot_here", "_law_many", "_law_word", "_law_turn", "_law_spot", "_law_found", "_law_letter"]) (sc := defScope s_values) (by decide +kernel)) (fun _ _ _ _ _ => pg_name (i := 6) sc_values.nd rfl (Or.inl rfl)) (fun _ _ _ _ _ => pts_nil) (fun _ _ _ _ _ => (pe_op op_add (pv 6) pe_int))) (pa_cons (pe_lst (pa_cons (pe_op op_pow pe_int pe_int) pa_nil)) (pa_cons (pe_make M (ok_init I T F1) hr2 (by rfl) T.mgC bd vd pass0 (pa_cons pe_int pa_nil)) (pa_cons (pe_lst (pa_cons pe_int (pa_cons pe_int pa_nil))) (pa_cons (pe_lst (pa_cons pe_int (pa_cons pe_int (pa_cons pe_int pa_nil)))) (pa_cons (pe_lst (pa_cons pe_int (pa_cons pe_int pa_nil))) pa_nil)))))))))))))))))), ?_⟩
  have pot_in : ∀ {H' : Hp} {a : Addr}, PotAt H' p → H' a = none → p ≠ a := fun ⟨_, _, _, _, e⟩ h => ne_of_none e h
  -- word
  refine ⟨Nat.zero_le _, fun wd nw => ?_⟩
  have nwp : p ≠ wd := pot_in hp nw
  refine ⟨.ref p, rfl, p, 6, rfl, hp.upd nwp, by decide, by decide, fun tn H1 t0 t1 b1 p1 => ⟨1, tn, rfl, rfl, _, rfl, by omega, by omega, ?_⟩⟩
  have ew1 : H1 wd = some (.lst []) := b1 _ _ upd_same nwp.symm
  have b01 : But p H H1 := (But.of (same_new nw)).trans b1
  refine for_range (n := (1 + tn).toNat) (fun i σ H' => ∃ o3 ns, σ = [some (.ref p), some (.int m), some (.ref wd), o3, none, none, none] ∧ PotAt H' p ∧ But p H H' ∧ H' wd = some (.lst (ns.map V.int)) ∧ ns.length = i ∧ ∀ z ∈ ns, 0 ≤ z ∧ z < (m : Int))
    ⟨none, [], rfl, p1, b01, ew1, rfl, fun _ z => nomatch z⟩ ?_ ?_
  · rintro i σ H2 hi ⟨o3, ns, rfl, p2, b2, ew2, eln, gns⟩
    refine ⟨.ref wd, rfl, .inl ⟨rfl, _, .inl (.inl ew2)⟩, .ref p, rfl, .int m, rfl, p, m, rfl, p2, by omega, by omega, fun d H3 d0 d1 b3 p3 => ?_⟩
    have ew3 : H3 wd = some (.lst (ns.map V.int)) := b3 _ _ ew2 nwp.symm
    refine ⟨wd, _, _, rfl, rfl, ew3, by rw [List.length_map, eln]; exact small1000 (by omega), ?_⟩
    refine ⟨_, ns ++ [d], rfl, p3.upd nwp, fun b o e hb => ?_, ?_, by rw [List.length_append, eln]; rfl, mem_app gns ⟨d0, d1⟩⟩
    · rw [upd_ne (ne_of_none e nw)]
      exact b3 _ _ (b2 _ _ e hb) hb
    · rw [upd_same, List.map_append]
      rfl
  rintro σ H2 ⟨o3, ns, rfl, p2, b2, ew2, eln, gns⟩
  have hl6 : ns.length ≤ 6 := by omega
  have hl1 : 1 ≤ ns.length := by omega
  have hlk : ns.length ≤ 1000 := by omega
  -- spot
  refine ⟨.ref p, rfl, .ref wd, rfl, wd, ns.map V.int, rfl, .inl (SqL.of ew2), p, _, rfl, p2, by rw [List.length_map]; omega, by rw [List.length_map]; omega, fun sp H3 s0 s1 b3 p3 => ?_⟩
  rw [List.length_map] at s1
  obtain ⟨s, rfl⟩ := Int.eq_ofNat_of_zero_le s0
  have ew3 : H3 wd = some (.lst (ns.map V.int)) := b3 _ _ ew2 nwp.symm
  have b03 : But p H H3 := b2.trans b3
  have hs : s < ns.length := by omega
  obtain ⟨z, hz⟩ : ∃ z, ns[s]? = some z := ⟨_, List.getElem?_eq_getElem hs⟩
  obtain ⟨z0, hz0⟩ : ∃ z, ns[0]? = some z := ⟨_, List.getElem?_eq_getElem hl1⟩
  have gz := gns z (List.mem_of_getElem? hz)
  have gz0 := gns z0 (List.mem_of_getElem? hz0)
  have hzs : SmallI z := small_of (by omega) (by omega)
  have hz0s : SmallI z0 := small_of (by omega) (by omega)
  have hz_ : z = 0 ∨ z = 1 ∨ z = 2 := by omega
  have hm0 : SmallI (m : Int) := small_of (by omega) (by omega)
  have hm1 : SmallI ((m : Int) - 1) := small_of (by omega) (by omega)
  have hns : Fs 0 4000 6 (ns.map D.int) := fs_ints (fun z hz => small_of (by have := gns z hz; omega) (by have := gns z hz; omega)) hl6
  have hb_ : ∀ z ∈ ns, Fl 0 4000 (dcb z) := fun z hz => fl_cb (small_of (by have := gns z hz; omega) (by have := gns z hz; omega))
  have hn_ : ∀ z ∈ ns, Fl 0 4000 (.int (0 - z)) := fun z hz => fl_int (small_of (by have := gns z hz; omega) (by have := gns z hz; omega))
  have hp_ : ∀ z ∈ ns, Fl 0 4000 (.int (z + 1)) := fun z hz => fl_int (small_of (by have := gns z hz; omega) (by have := gns z hz; omega))
  -- found
  have e1 := ((els_cons (el_word (j := 2) rfl) (els_cons (el_tupleOf (K := K) (el_word (j := 2) rfl)) (els_cons (el_cat (el_word (j := 2) rfl) (el_lst (els_cons (el_int_at (j := 1) (i := (m : Int)) rfl) els_nil) (by show 1 ≤ 1000; decide)) (cat_len hns (fs_cons (fl_int hm0) fs_nil) (by decide))) (els_cons (el_rep (k := 16) (el_lst (els_cons (el_op (f := fun i j => .int (i - j)) (g := fun i j => i - j) (fun _ _ => rfl) (el_int_at (j := 1) (i := (m : Int)) rfl) (el_int (i := 1))) els_nil) (by show 1 ≤ 1000; decide)) (by decide) (by show 1 * 16 ≤ 1000; decide)) (els_cons (el_rep (k := 17) (el_lst (els_cons (el_int (i := 0)) els_nil) (by show 1 ≤ 1000; decide)) (by decide) (by show 1 * 17 ≤ 1000; decide)) (els_cons (el_repT (K := K) (k := 18) (el_tup (els_cons (el_int (i := 0)) els_nil) (by show 1 ≤ 1000; decide)) (by decide) (by decide) (List.cons_ne_nil _ _) (by show 1 ≤ 1000; decide)) (els_cons (el_rep (k := 2) (el_lst (els_cons (el_int_at (j := 1) (i := (m : Int)) rfl) els_nil) (by show 1 ≤ 1000; decide)) (by decide) (by show 1 * 2 ≤ 1000; decide)) (els_cons (el_lst (els_cons (el_neg (i := 1)) els_nil) (by show 1 ≤ 1000; decide)) (els_cons (el_cat (el_cat (el_to (K := K) (k := s) (j := 2) rfl (by omega) (el_int_at (j := 4) (i := (s : Int)) rfl)) (el_lst (els_cons (el_flat (v := .non) (d := .non) fun _ => .non) els_nil) (by show 1 ≤ 1000; decide)) (cat_len (fs_take hns s) (fs_cons fl_non fs_nil) (by decide))) (el_from (K := K) (k := s) (j := 2) rfl (by omega) (el_int_at (j := 4) (i := (s : Int)) rfl)) (cat_len (fs_app (fs_take hns s) (fs_cons fl_non fs_nil)) (fs_drop hns s) (by decide))) els_nil))))))))) : Els C (σv (some (.ref p)) (some (.int m)) wd o3 (some (.int s)) none none) wd ns _ _)
  have g1 := ((fs_cons (fl_12 (fl_lst0 hns (by decide))) (fs_cons (fl_12 (fl_tup0 hns (by decide))) (fs_cons (fl_12 (fl_lst0 (fs_app hns (fs_cons (fl_int hm0) fs_nil)) (by decide))) (fs_cons (fl_12 (fl_lst0 (fs_rep (fs_cons (fl_int hm1) fs_nil) 16) (by decide))) (fs_cons (fl_12 (fl_lst0 (fs_rep (fs_cons (fl_int (i := 0) (small_of (by decide) (by decide))) fs_nil) 17) (by decide))) (fs_cons (fl_12 (fl_tup0 (fs_rep (fs_cons (fl_int (i := 0) (small_of (by decide) (by decide))) fs_nil) 18) (by decide))) (fs_cons (fl_12 (fl_lst0 (fs_rep (fs_cons (fl_int hm0) fs_nil) 2) (by decide))) (fs_cons (fl_12 (fl_lst0 (fs_cons (fl_int (i := -1) (small_of (by decide) (by decide))) fs_nil) (by decide))) (fs_cons (fl_12 (fl_lst0 (fs_app (fs_app (fs_take hns s) (fs_cons fl_non fs_nil)) (fs_drop hns s)) (by decide))) fs_nil))))))))) : Fs 2 2000000 _ _)
  dsimp only [gName, tSeq, tAsg]
  refine use_els e1 ew3 g1 (by decide) fun xs1 H4 s4 st4 fo nfo => ?_
  have nw_fo : wd ≠ fo := ne_of_none (s4 _ _ ew3) nfo
  have np_fo : p ≠ fo := ne_of_none (s4 _ _ p3.choose_spec.choose_spec.2.2) nfo
  have e2 := ((els_cons (el_cat (el_cat (el_to (K := K) (k := s) (j := 2) rfl (by omega) (el_int_at (j := 4) (i := (s : Int)) rfl)) (el_lst (els_cons (el_ratio (el_item (K := K) (k := s) (z := z) (j := 2) rfl hz (el_int_at (j := 4) (i := (s : Int)) rfl))) els_nil) (by show 1 ≤ 1000; decide)) (cat_len (fs_take hns s) (fs_cons (fl_rat hzs) fs_nil) (by decide))) (el_from (K := K) (k := s + 1) (j := 2) rfl (by omega) (el_op (f := fun i j => .int (i + j)) (g := fun i j => i + j) (fun _ _ => rfl) (el_int_at (j := 4) (i := (s : Int)) rfl) (el_int (i := 1)))) (cat_len (fs_app (fs_take hns s) (fs_cons (fl_rat hzs) fs_nil)) (fs_drop hns (s + 1)) (by decide))) (els_cons (el_cat (el_cat (el_to (K := K) (k := s) (j := 2) rfl (by omega) (el_int_at (j := 4) (i := (s : Int)) rfl)) (el_lst (els_cons (el_str hzs (el_item (K := K) (k := s) (z := z) (j := 2) rfl hz (el_int_at (j := 4) (i := (s : Int)) rfl))) els_nil) (by show 1 ≤ 1000; decide)) (cat_len (fs_take hns s) (fs_cons (fl_strI hz_) fs_nil) (by decide))) (el_from (K := K) (k := s) (j := 2) rfl (by omega) (el_int_at (j := 4) (i := (s : Int)) rfl)) (cat_len (fs_app (fs_take hns s) (fs_cons (fl_strI hz_) fs_nil)) (fs_drop hns s) (by decide))) (els_cons (el_lst (els_cons (el_word (j := 2) rfl) els_nil) (by show 1 ≤ 1000; decide)) (els_cons (el_tup (els_cons (el_word (j := 2) rfl) els_nil) (by show 1 ≤ 1000; decide)) (els_cons (el_lst (els_cons (el_tupleOf (K := K) (el_word (j := 2) rfl)) els_nil) (by show 1 ≤ 1000; decide)) els_nil))))) : Els C (σv (some (.ref p)) (some (.int m)) wd o3 (some (.int s)) (some (.ref fo)) none) wd ns _ _)
  have g2 := ((fs_cons (fl_12 (fl_lst0 (fs_app (fs_app (fs_take hns s) (fs_cons (fl_rat hzs) fs_nil)) (fs_drop hns (s + 1))) (by decide))) (fs_cons (fl_12 (fl_lst0 (fs_app (fs_app (fs_take hns s) (fs_cons (fl_strI hz_) fs_nil)) (fs_drop hns s)) (by decide))) (fs_cons (fl_lst1 (fs_cons (fl_lst0 hns (by decide)) fs_nil) (by decide)) (fs_cons (fl_tup1 (fs_cons (fl_lst0 hns (by decide)) fs_nil) (by decide)) (fs_cons (fl_lst1 (fs_cons (fl_tup0 hns (by decide)) fs_nil) (by decide)) fs_nil))))) : Fs 2 2000000 _ _)
  have e3 := ((els_cons (el_cb (K := K) hlk) (els_cons (el_dict1 (a := 0) (b := 0)) (els_cons (el_flat (v := .str "00") (d := .str "00") fun _ => .str _) (els_cons (el_flat (v := .str "") (d := .str "") fun _ => .str _) (els_cons (el_lst els_nil (by show 0 ≤ 1000; decide)) (els_cons (el_tup els_nil (by show 0 ≤ 1000; decide)) (els_cons el_dict0 (els_cons (el_flat (v := .non) (d := .non) fun _ => .non) (els_cons (el_int (i := 0)) (els_cons (el_flat (v := .bl true) (d := .bl true) fun _ => .bl _) (els_cons (el_flat (v := .bl false) (d := .bl false) fun _ => .bl _) (els_cons (el_lst (els_cons (el_flat (v := .bl false) (d := .bl false) fun _ => .bl _) els_nil) (by show 1 ≤ 1000; decide)) (els_cons (el_lst (els_cons (el_lst els_nil (by show 0 ≤ 1000; decide)) els_nil) (by show 1 ≤ 1000; decide)) els_nil))))))))))))) : Els C (σv (some (.ref p)) (some (.int m)) wd o3 (some (.int s)) (some (.ref fo)) none) wd ns _ _)
  have g3 := ((fs_cons (fl_12 (fl_lst0 (fs_map hb_ hl6) (by decide))) (fs_cons fl_dct1 (fs_cons (fl_12 (fl_01 (fl_str (x := "00") (by decide +kernel)))) (fs_cons (fl_12 (fl_01 (fl_str (x := "") (by decide +kernel)))) (fs_cons (fl_12 (fl_lst0 fs_nil (by decide))) (fs_cons (fl_12 (fl_tup0 fs_nil (by decide))) (fs_cons (fl_12 (fl_01 fl_dct0)) (fs_cons (fl_12 (fl_01 fl_non)) (fs_cons (fl_12 (fl_01 (fl_int (i := 0) (small_of (by decide) (by decide))))) (fs_cons (fl_12 (fl_01 (fl_bl (b := true)))) (fs_cons (fl_12 (fl_01 (fl_bl (b := false)))) (fs_cons (fl_12 (fl_lst0 (fs_cons (fl_bl (b := false)) fs_nil) (by decide))) (fs_cons (fl_lst1 (fs_cons (fl_lst0 fs_nil (by decide)) fs_nil) (by decide)) fs_nil))))))))))))) : Fs 2 2000000 _ _)
  have e4 := ((els_cons (el_item (K := K) (k := 0) (z := z0) (j := 2) rfl hz0 (el_int (i := 0))) (els_cons (el_cn (K := K) hlk) (els_cons (el_cp (K := K) hlk) (els_cons (el_lst (els_cons (el_pow (i := 10) (j := 20) ⟨by decide, by decide, by decide⟩ (el_int (i := 10)) (el_int (i := 20))) els_nil) (by show 1 ≤ 1000; decide)) (els_cons (el_ratio (el_int (i := 0))) (els_cons (el_lst (els_cons (el_int (i := 0)) (els_cons (el_int (i := 1)) els_nil)) (by show 2 ≤ 1000; decide)) (els_cons (el_lst (els_cons (el_int (i := 0)) (els_cons (el_int (i := 1)) (els_cons (el_int (i := 2)) els_nil))) (by show 3 ≤ 1000; decide)) (els_cons (el_lst (els_cons (el_int (i := 2)) (els_cons (el_int (i := 1)) els_nil)) (by show 2 ≤ 1000; decide)) els_nil)))))))) : Els C (σv (some (.ref p)) (some (.int m)) wd o3 (some (.int s)) (some (.ref fo)) none) wd ns _ _)
  have g4 := ((fs_cons (fl_12 (fl_01 (fl_int hz0s))) (fs_cons (fl_12 (fl_lst0 (fs_map hn_ hl6) (by decide))) (fs_cons (fl_12 (fl_lst0 (fs_map hp_ hl6) (by decide))) (fs_cons (fl_12 (fl_lst0 (fs_cons (fl_int (i := (10 : Int) ^ (20 : Int).toNat) (by show Nat.log2 _ < 1920; decide +kernel)) fs_nil) (by decide))) (fs_cons (fl_12 (fl_01 (fl_rat (z := 0) (small_of (by decide) (by decide))))) (fs_cons (fl_12 (fl_lst0 (fs_cons (fl_int (i := 0) (small_of (by decide) (by decide))) (fs_cons (fl_int (i := 1) (small_of (by decide) (by decide))) fs_nil)) (by decide))) (fs_cons (fl_12 (fl_lst0 (fs_cons (fl_int (i := 0) (small_of (by decide) (by decide))) (fs_cons (fl_int (i := 1) (small_of (by decide) (by decide))) (fs_cons (fl_int (i := 2) (small_of (by decide) (by decide))) fs_nil))) (by decide))) (fs_cons (fl_12 (fl_lst0 (fs_cons (fl_int (i := 2) (small_of (by decide) (by decide))) (fs_cons (fl_int (i := 1) (small_of (by decide) (by decide))) fs_nil)) (by decide))) fs_nil)))))))) : Fs 2 2000000 _ _)
  have d4 : Dts C (offL [p, fo] (upd H4 fo (.lst xs1))) xs1 _ := (st4 [p] (fun a ha => by
    rw [List.mem_singleton.1 ha, p3.choose_spec.choose_spec.2.2]
    exact fun z => nomatch z) (by rw [List.mem_singleton]; exact nwp.symm)).same (offL_same fun b o e hb => by
      have z : b ≠ fo := ne_of_none e nfo
      simp only [List.mem_cons, List.not_mem_nil, or_false, not_or] at hb ⊢
      exact ⟨⟨hb, z⟩, by rw [upd_ne z]; exact e⟩)
  have p4 : PotAt (upd H4 fo (.lst xs1)) p := by
    obtain ⟨x, y, hx, hy, e⟩ := p3
    exact ⟨x, y, hx, hy, by rw [upd_ne np_fo]; exact s4 _ _ e⟩
  have ew4 : (upd H4 fo (.lst xs1)) wd = some (.lst (ns.map V.int)) := by rw [upd_ne nw_fo]; exact s4 _ _ ew3
  have b4 : ∀ b o, H3 b = some o → (upd H4 fo (.lst xs1)) b = some o := fun b o e => by
    rw [upd_ne (ne_of_none (s4 _ _ e) nfo)]
    exact s4 _ _ e
  have H3fo : H3 fo = none := by
    cases z : H3 fo with
    | none => rfl
    | some o =>
      rw [s4 _ _ z] at nfo
      cases nfo
  dsimp only [tDrop]
  refine use_ext e2 g2 rfl ew4 p4 upd_same d4 nwp.symm nw_fo np_fo (by show 9 + 5 ≤ 40; decide) fun xs5 H5 b5 f5 d5 => ?_
  have p5 : PotAt H5 p := by
    obtain ⟨x, y, hx, hy, e⟩ := p4
    exact ⟨x, y, hx, hy, b5 _ _ e np_fo⟩
  have ew5 := b5 _ _ ew4 nw_fo
  refine use_ext e3 g3 rfl ew5 p5 f5 d5 nwp.symm nw_fo np_fo (by show 14 + 13 ≤ 40; decide) fun xs6 H6 b6 f6 d6 => ?_
  have p6 : PotAt H6 p := by
    obtain ⟨x, y, hx, hy, e⟩ := p5
    exact ⟨x, y, hx, hy, b6 _ _ e np_fo⟩
  have ew6 := b6 _ _ ew5 nw_fo
  refine ⟨.ref fo, rfl, ?_⟩
  refine use_els e4 ew6 g4 (by decide) fun ys H7 s7 st7 t nt => ?_
  have ntf : fo ≠ t := ne_of_none (s7 _ _ f6) nt
  have l6 := d6.length
  have l7 := st7.here.length
  have g7 := g4.2
  refine ⟨fo, t, xs6, ys, rfl, rfl, by rw [upd_ne ntf]; exact s7 _ _ f6, upd_same, ?_, fun r nr => ?_⟩
  · exact Nat.le_trans (by rw [l6, l7]; show 27 + 8 ≤ 40; decide) (by decide : (40 : Nat) ≤ sizeLine)
  have H7t : ∀ b o, H7 b = some o → upd (upd H7 t (.lst ys)) r (.lst (xs6 ++ ys)) b = some o := fun b o e => by
    have z : upd H7 t (.lst ys) b = some o := by rw [upd_ne (ne_of_none e nt)]; exact e
    rw [upd_ne (ne_of_none z nr)]
    exact z
  have all : ∀ b o, H3 b = some o → b ≠ fo → upd (upd H7 t (.lst ys)) r (.lst (xs6 ++ ys)) b = some o := fun b o e hb => H7t _ _ (s7 _ _ (b6 _ _ (b5 _ _ (b4 _ _ e) hb) hb))
  have nrp : r ≠ p := fun z => by
    obtain ⟨x, y, hx, hy, e⟩ := p6
    have q := s7 _ _ e
    have q2 : upd H7 t (.lst ys) p = some (.lst [.int x, .int y]) := by rw [upd_ne (ne_of_none q nt)]; exact q
    rw [z, q2] at nr
    cases nr
  have But3 : But p H (upd (upd H7 t (.lst ys)) r (.lst (xs6 ++ ys))) := fun b o e hb => by
    have e3 := b03 _ _ e hb
    exact all _ _ e3 (ne_of_none e3 H3fo)
  have Hr : H r = none := by
    cases z : H r with
    | none => rfl
    | some o =>
      have q := b03 _ _ z nrp
      have q4 := b4 _ _ q
      have q6 := b6 _ _ (b5 _ _ q4 (ne_of_none q H3fo)) (ne_of_none q H3fo)
      have q7 := s7 _ _ q6
      have q8 : upd H7 t (.lst ys) r = some o := by rw [upd_ne (ne_of_none q7 nt)]; exact q7
      rw [nr] at q8
      cases q8
  refine q r _ _ _ But3 ?_ nrp Hr upd_same (dts_app (d6.same fun b o e => ?_) (st7.here.same fun b o e => H7t b o e)) (by show 35 ≤ 40; decide) (fs_app (fs_app (fs_app g1 g2) g3) g4).1
  · obtain ⟨x, y, hx, hy, e⟩ := p6
    exact ⟨x, y, hx, hy, H7t _ _ (s7 _ _ e)⟩
  · unfold offL at e
    split at e
    · cases e
    · exact H7t _ _ (s7 _ _ e)
end
end KT

set_option Elab.async false
set_option linter.all false
set_option maxRecDepth 100000
set_option maxHeartbeats 4000000
namespace KT
open PySem L2 TW
abbrev s_right : Stmt := top 51
theorem sc_right : FnScope ["_law_pot_here", "_law_letters_here", "_law_house", "_law_number", "_law_value", "_law_shown", "_law_told"] ["_law_pot_here"] (defScope s_right) := ⟨rfl, rfl, rfl, by decide +kernel, rfl, by decide +kernel, by decide +kernel⟩
section
variable {X : Cx} {CX : CXT} {k : Nat} {f : Addr} {fd : FuncData} {ps ks : List Str} {sp : Sp} {E : XK} {x : Str} {p pos : Pos} {kws : List Keyword} {tk : TA} {g : List Value → List Value → List Value} {gV : List V → List V → List V}
/-- f(k = v, ..) -/
theorem pe_callN0 (F : FnOk X.prog X.w X.K X.mg X.base CX k f fd ps sp) (hr : Room k X.A) (hg : Gl X x) (hm : X.mg x = some (.ref f)) (hk : W.keepIn X.K (.ref f) = true) (hb : KBn X.K fd ps 0 ks g gV) (hx : Passes CX X E)
    (hkw : PK X kws tk) (hall : (backToKw pos (keywordEach kws X.env)).all (·.1.isSome) = true := by rfl) (hks : (backToKw pos (keywordEach kws X.env)).filterMap (·.1) = ks := by rfl)
    (hdb : (x == ("__debug__" : Str)) = false := by decide)
    (hpl : ((backTo pos (starEach [] X.env)).any (·.1) || (backToKw pos (keywordEach kws X.env)).any (·.1.isNone)) = false := by rfl) :
    PE X (.Call (.Name x p) [] kws pos) (tCallN 0 ks.length sp gV E tNil tk) := by
  refine ⟨fun pins s σ H Q I h => ?_⟩
  refine wpAny_Call_Name_kw (ld_glob I hg hm ?_ hdb)
  refine W.callWith_KW0 (h₀ := X.base) I.ok.mod.kin hk hall ?_ hpl
  refine thn (hkw.run pos pins s σ H _ I h) fun ws s2 ⟨zs, H2, I2, rz, l1, l2, q2⟩ => ⟨I2.kIn, ?_⟩
  rw [hks]
  exact run_fnN F hr hb hx I2 .nil rz l1 l2 q2
end
theorem HouseAt.but {HC p a : Addr} {n : Nat} {H H' : Hp} (b : But p H H') (h0 : PotAt H p) (h1 : PotAt H' p) (h : HouseAt HC H a n) : HouseAt HC H' a n := by
  obtain ⟨dx, fs, q, ys, e1, e2, e3, e4⟩ := h
  obtain ⟨x, y, _, _, e⟩ := h0
  obtain ⟨x', y', _, _, e'⟩ := h1
  have na : a ≠ p := fun z => by
    rw [z, e] at e1
    cases e1
  by_cases z : q = p
  · rw [z, e] at e3
    cases e3
    exact ⟨dx, fs, q, [.int x', .int y'], b _ _ e1 na, e2, by rw [z]; exact e', e4⟩
  · exact ⟨dx, fs, q, ys, b _ _ e1 na, e2, b _ _ e3 z, e4⟩
theorem goodR_row {n : Nat} {d : D} (h : GoodR n d) : isRow n d = true := by
  obtain ⟨ns, rfl, l, _⟩ := h
  have e : (ns.map D.int).all isN = true := by
    rw [List.all_map]
    exact List.all_eq_true.2 fun z _ => rfl
  unfold isRow areN
  show (true && (ns.map D.int).all isN && decide (((ns.map D.int).length : Int) = n)) = true
  rw [e, List.length_map, l]
  simp
theorem goodT_tab {n : Nat} {d : D} (h1 : 1 ≤ n) (h4 : n ≤ 4) (h : GoodT n d) : isTab d = true ∧ (itemsD d).length = n := by
  obtain ⟨l, rfl, e, g⟩ := h
  refine ⟨?_, e⟩
  have a : l.all (isRow (n : Int)) = true := List.all_eq_true.2 fun r hr => goodR_row (g r hr)
  unfold isTab areRows
  show (true && ((decide ((1 : Int) ≤ l.length) && decide ((l.length : Int) ≤ 4)) && (true && (decide ((l.length : Int) ≤ 4) && l.all (isRow (l.length : Int)))))) = true
  rw [e, a]
  have d1 : decide ((1 : Int) ≤ n) = true := decide_eq_true (by omega)
  have d4 : decide ((n : Int) ≤ 4) = true := decide_eq_true (by omega)
  rw [d1, d4]
  rfl
theorem goodT_fl {n : Nat} {d : D} (h4 : n ≤ 4) (h : GoodT n d) : Fl 2 2000000 d := by
  obtain ⟨l, rfl, e, g⟩ := h
  refine fl_lst1 (n := 4) ⟨fun r hr => ?_, by omega⟩ (by decide)
  obtain ⟨ns, rfl, e2, t⟩ := g r hr
  exact fl_lst0 (n := 4) (fs_ints (fun z hz => small_of (by have := (t z hz).1; omega) (by have := (t z hz).2; omega)) (by omega)) (by decide)
theorem word00 {n : Nat} (h : 1 ≤ n) : isWord n (.lst [.int 0, .int 0]) = true := by
  unfold isWord
  show (true && (decide ((2 : Int) ≤ 16) && ((decide ((0 : Int) ≤ 0) && decide ((0 : Int) < n)) && ((decide ((0 : Int) ≤ 0) && decide ((0 : Int) < n)) && true)))) = true
  have d : decide ((0 : Int) < n) = true := decide_eq_true (by omega)
  rw [d]
  rfl
section
variable {P : Program} {w : World} {K : W.Frag} {mg : Str → Option Value} {base : Heap} {C HC : Addr}
def gKw (us ws : List Value) : List Value := match ws with
  | [a, b] => [b, a]
  | _ => []
def gKwV (us ws : List V) : List V := match ws with
  | [a, b] => [b, a]
  | _ => []
theorem word_kw {x qual : Str} {f : Addr} {fd : FuncData} (F : Fun K x qual s_is_word f fd) : KBn K fd ["house", "value"] 0 ["value", "house"] gKw gKwV := by
  obtain ⟨oc, od, kV, doc, pm, an, cdv, ct, osl, rfl, lk, hcd⟩ := F.ex
  refine ⟨fun s us ws X l1 l2 => ?_, fun r rz => ?_⟩
  · match us, ws, l1, l2 with
    | [], [a, b], _, _ => exact BindsTo.of_looks fun M => W.Looks.of_pure rfl
  · cases rz with
    | nil => exact .nil
    | cons h1 t =>
      cases t with
      | nil => exact .nil
      | cons h2 t =>
        cases t with
        | nil => exact .cons h2 (.cons h1 .nil)
        | cons h3 t => exact .nil
/-- what the check of one pot promises -/
def spRight : Sp := fun vs H Q _ => ∃ p, vs = [.ref p] ∧ PotAt H p ∧ ∀ H', But p H H' → Q (.bl true) H'
theorem ok_right {f g lt hi vl wd se : Addr} {fd gd ltd hid vld wdd sed : FuncData} (F : At K mg "_law_right" s_right ["_law_pot_here"] f fd) (T : Txt K mg C HC) (T2 : Txt2 mg)
    (G : At K mg "_law_draw" s_draw ["_law_pot_here", "_law_many"] g gd) (N : FnOk P w K mg base L2.CX0 1 g gd ["_law_pot_here", "_law_many"] spDraw)
    (Lt : At K mg "_law_letters" s_letters ["_law_pot_here", "_law_size", "_law_most"] lt ltd) (NL : FnOk P w K mg base L2.CX0 3 lt ltd ["_law_pot_here", "_law_size", "_law_most"] (spLetters_ C))
    (MH : Mk K HC hi) (NH : FnOk P w K mg base L2.CX0 8 hi hid ["self", "letters"] (spHInit C HC)) (BH : Binds K hid ["self", "letters"] [])
    (Vl : At K mg "_law_values" s_values ["_law_pot_here", "_law_many"] vl vld) (NV : FnOk P w K mg base L2.CX0 4 vl vld ["_law_pot_here", "_law_many"] (spValues C))
    (Wd : At K mg "is_word" s_is_word ["house", "value"] wd wdd) (NW : FnOk P w K mg base L2.CX0 5 wd wdd ["house", "value"] (spWord C HC))
    (Se : At K mg "_law_seen" s_seen ["_law_many", "_law_value"] se sed) (NS : FnOk P w K mg base L2.CX0 1 se sed ["_law_many", "_law_value"] (fun vs H Q _ => ∃ (n : Nat) (x : V) (d : D), vs = [.int n, x] ∧ Dt C H x d ∧ d.len ≤ sizeLine ∧ ∀ H', Same H H' → Q (.bl (isWord n d)) H'))
    (R : RatR P w K mg base C 1) : FnG P w K mg base L2.CX0 10 f fd ["_law_pot_here"] spRight := by
  refine okG F.fn sc_right (fun vs H Q E h => ?_) fun cdv A outer s H vs Q E gd hr h => ?_
  · obtain ⟨p, rfl, _⟩ := h
    rfl
  obtain ⟨p, rfl, hp, q⟩ := h
  have hr1 : Room 1 _ := hr.mono (by decide)
  have hr3 : Room 3 _ := hr.mono (by decide)
  have hr4 : Room 4 _ := hr.mono (by decide)
  have hr5 : Room 5 _ := hr.mono (by decide)
  have hrR : Room (1 + 2 + 1) _ := hr.mono (by decide)
  have nd := sc_right.nd
  refine ⟨_, (pss_cons (ps_set (i := 1) sc_right.nd rfl (.inl rfl) (pe_call NL hr3 (by rfl) Lt.mg Lt.fn.kp Lt.b .nil pass0 (pa_cons (pv 0) (pa_cons (pe_op op_add pe_int (pe_call N hr1 (by rfl) G.mg G.fn.kp G.b .nil pass0 (pa_cons (pv 0) (pa_cons pe_int pa_nil)))) (pa_cons pe_int pa_nil))))) (pss_cons (ps_set (i := 2) sc_right.nd rfl (.inl rfl) (pe_make MH NH hr (by rfl) T.mgH BH .nil pass0 (pa_cons (pv 1) pa_nil))) (pss_cons (ps_for PassesOwn.never rfl (pi_enum (by rfl) T2.enum_ (pa_cons (pe_call NV hr4 (by rfl) Vl.mg Vl.fn.kp Vl.b .nil pass0 (pa_cons (pv 0) (pa_cons (pe_callB call_len_seq (by rfl) T.len_ PySem.boot_len (pa_cons (pv 1) pa_nil)) pa_nil))) pa_nil)) (pg_tup rfl (pgs_cons (pg_name (i := 3) sc_right.nd rfl (Or.inl rfl)) (pgs_cons (pg_name (i := 4) sc_right.nd rfl (Or.inl rfl)) pgs_nil))) (pss_cons (ps_set (i := 5) sc_right.nd rfl (.inl rfl) (pe_callB (call_repr R gd hrR) (by rfl) T2.repr_ (by decide +kernel) (pa_cons (pv 4) pa_nil))) (pss_cons (ps_set (i := 6) sc_right.nd rfl (.inl rfl) (pe_ifExp (pt_cmp (pc_eqI (pe_op op_mul (pe_op op_fdiv (pv 3) pe_int) pe_int) (pv 3))) (pe_call NW hr5 (by rfl) Wd.mg Wd.fn.kp Wd.b .nil pass0 (pa_cons (pv 2) (pa_cons (pv 4) pa_nil))) (pe_callN0 NW hr5 (by rfl) Wd.mg Wd.fn.kp (word_kw Wd.fn) pass0 (pk_cons (pv 4) (pk_cons (pv 2) pk_nil))))) (pss_one (ps_if (PW.pt (pw_or (pt_cmpR op_ne (pe_callB (call_repr R gd hrR) (by rfl) T2.repr_ (by decide +kernel) (pa_cons (pv 6) pa_nil)) (pe_callB (call_repr R gd hrR) (by rfl) T2.repr_ (by decide +kernel) (pa_cons (pe_call NS hr1 (by rfl) Se.mg Se.fn.kp Se.b .nil pass0 (pa_cons (pe_callB call_len_seq (by rfl) T.len_ PySem.boot_len (pa_cons (pv 1) pa_nil)) (pa_cons (pv 4) pa_nil))) pa_nil)) (nomark _)) (pw_or1 (pt_cmpR op_ne (pe_callB (call_repr R gd hrR) (by rfl) T2.repr_ (by decide +kernel) (pa_cons (pv 4) pa_nil)) (pv 5) (nomark _))))) (pss_one (ps_ret pe_bl)) pss_nil))))) (pss_one (ps_ret (pe_cmpR op_isBl (pe_call NW hr5 (by rfl) Wd.mg Wd.fn.kp Wd.b .nil pass0 (pa_cons (pv 2) (pa_cons (pe_lst (pa_cons pe_int (pa_cons pe_int pa_nil))) pa_nil))) pe_bl (nomark _))))))), ?_⟩
  -- letters
  refine ⟨.ref p, rfl, .ref p, rfl, p, 2, rfl, hp, by decide, by decide, fun dz H1 d0 d1 b1 p1 => ⟨1, dz, rfl, rfl, ?_⟩⟩
  obtain ⟨dn, rfl⟩ := Int.eq_ofNat_of_zero_le d0
  have n1 : 1 ≤ 1 + dn := by omega
  have n4 : 1 + dn ≤ 4 := by omega
  refine ⟨p, 1 + dn, 3, rfl, p1, n4, by decide, by decide, fun lf fs l H2 b2 p2 nlp H1lf elf dlf l1 l3 gl => ?_⟩
  have dl2 : Dts C H2 fs l := dlf.same fun b o e => by
    unfold offL at e
    split at e
    · cases e
    · exact e
  have lfs := dl2.length
  have Hlf : H lf = none := b1.free H1lf nlp
  -- house
  refine ⟨.ref lf, rfl, fun hp_ dx nh ndx nhd => ⟨hp_, dx, l, lf, fs, 1 + dn, rfl, upd_same, ?_, ?_, ?_, ⟨l1, l3, fun d hd => goodT_tab n1 n4 (gl d hd)⟩, fun H3 keep house => ⟨rfl, ?_⟩⟩⟩
  · have z := (fl_seq (n := 3) (j := 2) (B := 2000000) (B' := 7000000) ⟨fun d hd => goodT_fl n4 (gl d hd), l3⟩ (by decide)).1.2.1
    exact Nat.le_trans z (by decide)
  · rw [upd_ne (ne_of_none elf nh), upd_ne (ne_of_none elf ndx)]
    exact elf
  · exact dl2.same fun b o e => by
      rw [upd_ne (ne_of_none e nh), upd_ne (ne_of_none e ndx)]
      exact e
  have s23 : ∀ b o, H2 b = some o → H3 b = some o := fun b o e => keep b o (by rw [upd_ne (ne_of_none e nh), upd_ne (ne_of_none e ndx)]; exact e) (ne_of_none e nh)
  have elf3 := s23 _ _ elf
  have p3 : PotAt H3 p := by
    obtain ⟨x, y, hx, hy, e⟩ := p2
    exact ⟨x, y, hx, hy, s23 _ _ e⟩
  -- values
  refine ⟨.ref p, rfl, .ref lf, rfl, lf, fs, rfl, .inl (SqL.of elf3), p, l.length, by rw [lfs]; rfl, p3, l1, l3, fun vf xs ds H4 b4 p4 nvp H3vf evf dvs lds gds => ⟨vf, xs, rfl, SqL.of evf, ?_⟩⟩
  have house4 := house.but b4 p3 p4
  have elf4 := b4 _ _ elf3 nlp
  have b04 : But p H H4 := fun b o e hb => b4 _ _ (s23 _ _ (b2 _ _ (b1 _ _ e hb) hb)) hb
  have lxs := dvs.length
  refine for_it (walk_enum (xs := xs)) (fun i σ H' => ∃ o3 o4 o5 o6, σ = [some (.ref p), some (.ref lf), some (.ref hp_), o3, o4, o5, o6] ∧ Same H4 H') ⟨none, none, none, none, rfl, Same.refl H4⟩ ?_ ?_ ?_
  · rintro i σ H' hi ⟨o3, o4, o5, o6, rfl, st⟩
    exact SqL.of (st _ _ evf)
  · rintro i x σ H5 H6 hi ⟨o3, o4, o5, o6, rfl, st⟩ ⟨T_, x1, y1, rfl, nT, rfl, e1, e2⟩
    cases e1
    obtain ⟨d, hd, dd⟩ := dvs.at e2
    have gd2 := gds d (List.mem_of_getElem? hd)
    have len2 : d.len ≤ sizeLine := Nat.le_trans gd2.2.1 (by decide)
    have s6 : Same H4 (upd H5 T_ (.tup [.int (i : Nat), y1])) := st.trans (same_new nT)
    have dd6 := dd.same s6
    refine ⟨T_, [.int (i : Nat), y1], rfl, SqT.of upd_same, rfl, .int (i : Nat), [y1], rfl, y1, [], rfl, rfl, ?_⟩
    refine ⟨y1, rfl, y1, d, rfl, dd6, gd2.1, len2, gd2.2.2, ?_⟩
    dsimp only [gName, tSeq, tAsg]
    refine give (te := tIf _ _ _) (S := fun v H' => v = .bl (isWord l.length d) ∧ Same H4 H') (fun Rr g => ?_) fun v H7 hv => ?_
    · refine ⟨.int (i : Nat), rfl, (i : Nat), 2, rfl, rfl, ⟨by decide, by decide⟩, _, _, rfl, rfl, .inr ⟨by decide, by decide⟩, .int (i : Nat), rfl, _, _, rfl, rfl, _, rfl, ?_⟩
      refine iteB (b := decide _) (fun e => ?_) fun e => ?_
      · exact ⟨.ref hp_, rfl, y1, rfl, hp_, l.length, y1, d, rfl, house4.same s6, dd6, len2, fun H7 s7 => g _ _ ⟨rfl, s6.trans s7⟩⟩
      · exact ⟨y1, rfl, .ref hp_, rfl, rfl, rfl, hp_, l.length, y1, d, rfl, house4.same s6, dd6, len2, fun H7 s7 => g _ _ ⟨rfl, s6.trans s7⟩⟩
    · obtain ⟨rfl, s7⟩ := hv
      refine ⟨.bl (isWord l.length d), rfl, .bl _, .bl _, rfl, .bl _, trivial, (by decide : 5 ≤ sizeLine), Nat.zero_le _, ?_⟩
      refine ⟨.ref lf, rfl, lf, fs, rfl, .inl (SqL.of (s7 _ _ elf4)), y1, rfl, l.length, y1, d, by rw [lfs]; rfl, dd.same s7, len2, fun H8 s8 => ?_⟩
      refine ⟨.bl (isWord l.length d), .bl _, rfl, .bl _, trivial, (by decide : 5 ≤ sizeLine), Nat.zero_le _, rfl, ?_⟩
      refine ⟨_, rfl, ?_⟩
      have e0 : ∀ z : Str, (!decide (V.str z = V.str z)) = false := fun z => by simp
      rw [e0]
      refine iteF ⟨y1, rfl, y1, d, rfl, dd.same (s7.trans s8), gd2.1, len2, gd2.2.2, .str d.shown, rfl, rfl, _, rfl, ?_⟩
      rw [e0]
      exact iteF ⟨_, _, _, _, rfl, s7.trans s8⟩
  · rintro σ H5 ⟨o3, o4, o5, o6, rfl, st⟩
    refine ⟨.ref hp_, rfl, by decide, fun a na => ?_⟩
    have s6 := st.trans (same_new (o := .lst [.int 0, .int 0]) na)
    refine ⟨hp_, l.length, .ref a, .lst [.int 0, .int 0], rfl, house4.same s6, .lst upd_same (dts_ints [0, 0]), by decide, fun H6 s7 => ?_⟩
    rw [word00 l1]
    exact ⟨true, true, rfl, rfl, q H6 (b04.trans (But.of (s6.trans s7)))⟩
end
end KT

set_option Elab.async false
set_option linter.all false
set_option maxRecDepth 100000
set_option maxHeartbeats 4000000
namespace KT
open PySem L2 TW
abbrev s_law : Stmt := top 52
theorem sc_law : FnScope ["_law_script", "_law_k"] ["_law_script"] (defScope s_law) := ⟨rfl, rfl, rfl, by decide +kernel, rfl, by decide +kernel, by decide +kernel⟩
def spLaw (K : W.Frag) : Sp := fun vs H Q _ => ∃ (a : Addr) (ns : List Int), vs = [.ref a] ∧ SqL K H a (ns.map V.int) ∧ ns.length ≤ 1000 ∧ ∀ H', Q (.bl true) H'
section
variable {P : Program} {w : World} {K : W.Frag} {mg : Str → Option Value} {base : Heap} {C HC : Addr}
theorem ok_law {f g r : Addr} {fd gd rd : FuncData} (F : Fun K "law" "law" s_law f fd) (T : Txt K mg C HC) (T2 : Txt2 mg)
    (G : At K mg "_law_pot" s_pot ["_law_script", "_law_k"] g gd) (N : FnOk P w K mg base L2.CX0 1 g gd ["_law_script", "_law_k"] (spPot K))
    (Rt : At K mg "_law_right" s_right ["_law_pot_here"] r rd) (NR : FnG P w K mg base L2.CX0 10 r rd ["_law_pot_here"] spRight) : FnG P w K mg base L2.CX0 11 f fd ["_law_script"] (spLaw K) := by
  refine okG F sc_law (fun vs H Q E h => ?_) fun cdv A outer s H vs Q E gd hr h => ?_
  · obtain ⟨a, ns, rfl, _⟩ := h
    rfl
  obtain ⟨a, ns, rfl, hs, hl, q⟩ := h
  have hr1 : Room 1 _ := hr.mono (by decide)
  have nd := sc_law.nd
  refine ⟨_, (pss_one (ps_ret (pe_callB (cr_all rfl) (by rfl) T.all_ (by decide +kernel) (pa_cons (pe_lc (own := [("_law_k", 1)]) (g := gName 1) (tt := tYes) rfl sc_law.nd (pi_range1 (by rfl) T2.range_ (pa_cons (pe_callB (call_max2 rfl) (by rfl) T2.max_ (by decide +kernel) (pa_cons pe_int (pa_cons (pe_callB (call_min2 rfl) (by rfl) T2.min_ (by decide +kernel) (pa_cons pe_int (pa_cons (pe_callB call_len_seq (by rfl) T.len_ PySem.boot_len (pa_cons (pv 0) pa_nil)) pa_nil))) pa_nil))) pa_nil)) (blkOk_by (N := ["_law_script", "_law_k"]) (sc := defScope s_law) (by decide +kernel)) (fun _ _ _ _ _ => pg_name (i := 1) sc_law.nd rfl (Or.inl rfl)) (fun _ _ _ _ _ => pts_nil) (fun _ _ _ _ _ => (pe_callG NR gd hr (by rfl) Rt.mg Rt.fn.kp Rt.b pass0 (pa_cons (pe_call N hr1 (by rfl) G.mg G.fn.kp G.b .nil pass0 (pa_cons (pv 0) (pa_cons (pv 1) pa_nil))) pa_nil)))) pa_nil)))), ?_⟩
  refine ⟨.ref a, rfl, a, ns.map V.int, rfl, .inl hs, _, _, rfl, _, _, rfl, _, rfl, ?_, ?_, fun D nD => ?_⟩
  · split <;> split <;> omega
  · split <;> split <;> omega
  have hn : (if (if ((ns.map V.int).length : Int) < 3 then ((ns.map V.int).length : Int) else 3) > 1 then (if ((ns.map V.int).length : Int) < 3 then ((ns.map V.int).length : Int) else 3) else 1).toNat ≤ 3 := by
    split <;> split <;> omega
  generalize (if (if ((ns.map V.int).length : Int) < 3 then ((ns.map V.int).length : Int) else 3) > 1 then (if ((ns.map V.int).length : Int) < 3 then ((ns.map V.int).length : Int) else 3) else 1).toNat = n at hn ⊢
  refine lc_range (fun k H' => Same H H' ∧ H' D = some (.lst (List.replicate k (V.bl true)))) ⟨same_new nD, upd_same⟩ (fun k H' hk p => ⟨rfl, ?_⟩) fun H' p => ?_
  · obtain ⟨s1, e1⟩ := p
    refine ⟨.ref a, rfl, .int (0 + k), rfl, a, 0 + k, ns, rfl, s1.seq hs, by omega, fun p H2 s2 np pot => ⟨p, rfl, pot, fun H3 b3 => ?_⟩⟩
    have nDp : D ≠ p := ne_of_none e1 np
    refine ⟨_, b3 _ _ (s2 _ _ e1) nDp, by rw [List.length_replicate]; exact small1000 (by omega), fun b o e => ?_, ?_⟩
    · rw [upd_ne (ne_of_none e nD)]
      have e' := s1 _ _ e
      exact b3 _ _ (s2 _ _ e') (ne_of_none e' np)
    · rw [upd_same, List.replicate_succ']
  · refine ⟨D, List.replicate n true, rfl, SqL.of (by rw [p.2, List.map_replicate]), ?_⟩
    rw [show (List.replicate n true).all id = true by simp]
    exact q H'
end
end KT

set_option Elab.async false
set_option linter.all false
set_option maxRecDepth 100000
set_option maxHeartbeats 4000000
namespace KT
open PySem L2 TW
/-! ### what the top has written -/
/-- a def of the top stands -/
def Dn (K : W.Frag) (x : Str) (st : Stmt) : Prop := ∃ (f : Addr) (fd : FuncData), W.nsIn K mainGlobals x = some (some (.ref f)) ∧ Fun K x x st f fd
section
variable {K : W.Frag} {h : Heap} {mg : Str → Option Value}
theorem dn {x : Str} {st : Stmt} {f : Addr} {oc : Value} {od an : Option Addr} {osl : Array (Option Value)} {kV doc pm cdv ct : Value} (n : W.nsIn K mainGlobals x = some (some (.ref f)))
    (l : K.lookup f = some ⟨oc, od, .func (W.fnOf x x (defArgs st) (defBody st) (defScope st) .none kV doc pm an cdv ct), osl⟩) (c : W.codeIn K cdv x = true) (k : W.keepIn K (.ref f) = true) : Dn K x st := ⟨f, _, n, fun_mk l c k⟩
theorem Dn.at_ {x : Str} {st : Stmt} (X : K.In h) (G : h.Ns mainGlobals mg) (d : Dn K x st) (ps : List Str)
    (hb : ∀ (kV doc pm : Value) (an : Option Addr) (cdv ct : Value) (us : List Value), us.length = ps.length → bindArgs (W.fnOf x x (defArgs st) (defBody st) (defScope st) .none kV doc pm an cdv ct) ⟨us, []⟩ = pure (ps.zip us)) : ∃ (f : Addr) (fd : FuncData), At K mg x st ps f fd := by
  obtain ⟨f, fd, n, F⟩ := d
  exact ⟨f, fd, F, W.mg_of X G n, F.binds hb⟩
theorem tx {C HC : Addr} {t1 t2 t3 : Addr} (X : K.In h) (G : h.Ns mainGlobals mg)
    (aC : W.nsIn K mainGlobals "Ratio" = some (some (.ref C))) (aH : W.nsIn K mainGlobals "House" = some (some (.ref HC)))
    (z1 : W.nsIn K mainGlobals "isinstance" = some none) (z2 : W.nsIn K mainGlobals "int" = some none) (z3 : W.nsIn K mainGlobals "bool" = some none) (z4 : W.nsIn K mainGlobals "list" = some none) (z5 : W.nsIn K mainGlobals "tuple" = some none)
    (z6 : W.nsIn K mainGlobals "len" = some none) (z7 : W.nsIn K mainGlobals "all" = some none) (g1 : W.nsIn K mainGlobals "gcd" = some (some (.builtin "math.gcd")))
    (c1 : W.nsIn K mainGlobals "LARGEST" = some (some (.int 4 t1))) (c2 : W.nsIn K mainGlobals "MOST_LETTERS" = some (some (.int 3 t2))) (c3 : W.nsIn K mainGlobals "LONGEST_WORD" = some (some (.int 16 t3)))
    (pg : W.plainGet K C Str.empty = true) (hd : W.hasDictIn K C = true) (po : W.plainOver K C = true) (sa : W.findIn K (.ref C) "__setattr__" = some (some (.builtin "object.__setattr__")))
    (pg' : W.plainGet K HC Str.empty = true) (hd' : W.hasDictIn K HC = true) (po' : W.plainOver K HC = true) (sa' : W.findIn K (.ref HC) "__setattr__" = some (some (.builtin "object.__setattr__")))
    (n1 : W.findIn K (.ref C) "_top" = some none) (n2 : W.findIn K (.ref C) "_bottom" = some none) (n3 : W.findIn K (.ref HC) "_letters" = some none)
    (atC : W.findIn K (.ref C) "__class__" = some (some (.builtin "object.__class__"))) (atH : W.findIn K (.ref HC) "__class__" = some (some (.builtin "object.__class__")))
    (cg : W.specialIn K (.builtin "object.__class__") "__get__" = some (some (.builtin "getset_descriptor.__get__"))) (ct : W.takesIn K (.builtin "object.__class__") = some true)
    (moC : W.mroIn K C (.type "object") = some true) (moH : W.mroIn K HC (.type "object") = some true)
    (k1 : W.kitOne K (.ref C) (.type "int") = some false) (k2 : W.kitOne K (.ref C) (.type "bool") = some false) (k3 : W.kitOne K (.ref C) (.type "list") = some false) (k4 : W.kitOne K (.ref C) (.type "tuple") = some false) (k5 : W.kitOne K (.ref C) (.ref C) = some true)
    (k6 : W.kitOne K (.type "NoneType") (.ref C) = some false) (k7 : W.kitOne K (.type "bool") (.ref C) = some false) (k8 : W.kitOne K (.type "int") (.ref C) = some false) (k9 : W.kitOne K (.type "str") (.ref C) = some false) (k10 : W.kitOne K (.type "list") (.ref C) = some false)
    (k11 : W.kitOne K (.type "tuple") (.ref C) = some false) (k12 : W.kitOne K (.type "dict") (.ref C) = some false) (k13 : W.kitOne K (.ref HC) (.ref HC) = some true) : Txt K mg C HC := by
  exact ⟨W.mg_none_of X G z1, W.mg_none_of X G z2, W.mg_none_of X G z3, W.mg_none_of X G z4, W.mg_none_of X G z5, W.mg_none_of X G z6, W.mg_none_of X G z7, W.mg_of X G g1, ⟨t1, W.mg_of X G c1⟩, ⟨t2, W.mg_of X G c2⟩, ⟨t3, W.mg_of X G c3⟩, W.mg_of X G aC, W.mg_of X G aH,
    ⟨pg, hd, po, sa⟩, ⟨pg', hd', po', sa'⟩, n1, n2, n3, atC, atH, cg, ct, moC, moH, k1, k2, k3, k4, k5, k6, k7, k8, k9, k10, k11, k12, k13⟩
theorem tx2 (X : K.In h) (G : h.Ns mainGlobals mg) (z1 : W.nsIn K mainGlobals "abs" = some none) (z2 : W.nsIn K mainGlobals "max" = some none) (z3 : W.nsIn K mainGlobals "min" = some none) (z4 : W.nsIn K mainGlobals "divmod" = some none)
    (z5 : W.nsIn K mainGlobals "str" = some none) (z6 : W.nsIn K mainGlobals "range" = some none) (z7 : W.nsIn K mainGlobals "enumerate" = some none) (z8 : W.nsIn K mainGlobals "repr" = some none) : Txt2 mg :=
  ⟨W.mg_none_of X G z1, W.mg_none_of X G z2, W.mg_none_of X G z3, W.mg_none_of X G z4, W.mg_none_of X G z5, W.mg_none_of X G z6, W.mg_none_of X G z7, W.mg_none_of X G z8⟩
/-- a method stands -/
theorem me {C : Addr} {x qual : Str} {st : Stmt} {f : Addr} {oc : Value} {od an : Option Addr} {osl : Array (Option Value)} {kV doc pm cdv ct : Value} (a : W.findIn K (.ref C) x = some (some (.ref f))) (i : W.isFn K (.ref f) = true)
    (l : K.lookup f = some ⟨oc, od, .func (W.fnOf x qual (defArgs st) (defBody st) (defScope st) .none kV doc pm an cdv ct), osl⟩) (c : W.codeIn K cdv qual = true) (k : W.keepIn K (.ref f) = true) :
    ∃ (f : Addr) (fd : FuncData), W.findIn K (.ref C) x = some (some (.ref f)) ∧ W.isFn K (.ref f) = true ∧ Fun K x qual st f fd := ⟨f, _, a, i, fun_mk l c k⟩
theorem initR {C f : Addr} {oc : Value} {od an : Option Addr} {osl : Array (Option Value)} {kV doc pm cdv ct : Value} {Td t : Addr} {ot : Value} {odt : Option Addr} {slt : Array (Option Value)} {n : Nat} (a : W.findIn K (.ref C) "__init__" = some (some (.ref f))) (i : W.isFn K (.ref f) = true)
    (l : K.lookup f = some ⟨oc, od, .func (W.fnOf "__init__" "Ratio.__init__" (defArgs s_init) (defBody s_init) (defScope s_init) (.ref Td) kV doc pm an cdv ct), osl⟩) (c : W.codeIn K cdv "Ratio.__init__" = true) (k : W.keepIn K (.ref f) = true)
    (lt : K.lookup Td = some ⟨ot, odt, .seq #[.int 1 t] n, slt⟩) (mk : W.makesIn K C = true) (kc : W.keepIn K (.ref C) = true) : ∃ (f : Addr) (fd : FuncData), InitAt K f fd ∧ Mk K C f :=
  ⟨f, _, ⟨⟨oc, od, .ref Td, kV, doc, pm, an, cdv, ct, osl, rfl, l, c, .inr ⟨by simp, Td, _, [.int 1 t], n, rfl, lt, rfl, .cons ⟨t, rfl⟩ .nil⟩, .inl rfl⟩, k⟩, ⟨mk, a, i, kc⟩⟩
theorem many_ {HC p g : Addr} {oc : Value} {od an : Option Addr} {osl : Array (Option Value)} {kV doc pm cdv ct : Value} {rest : List Value} (a : W.findIn K (.ref HC) "many" = some (some (.ref p))) (s : W.specialIn K (.ref p) "__get__" = some (some (.builtin "property.__get__")))
    (t : W.takesIn K (.ref p) = some true) (r : W.recIn K p "property" = some (.ref g :: rest))
    (l : K.lookup g = some ⟨oc, od, .func (W.fnOf "many" "House.many" (defArgs s_many) (defBody s_many) (defScope s_many) .none kV doc pm an cdv ct), osl⟩) (c : W.codeIn K cdv "House.many" = true) (k : W.keepIn K (.ref g) = true) :
    ∃ (p g : Addr) (gd : FuncData), ManyAt K HC p g gd := by
  have F := fun_mk (st := s_many) l c k
  exact ⟨p, g, _, ⟨⟨a, s, t, rest, r⟩, F, F.binds (ps := ["self"]) fun _ _ _ _ _ _ us hl => match us, hl with | [_], _ => rfl⟩⟩
theorem all_mk {l : W.OpenLaw} {w : World} {fa C HC : Addr} (X : K.In h) (G : h.Ns mainGlobals mg) (hfa : mg "law" = some (.ref fa)) (T : Txt K mg C HC) (T2 : Txt2 mg)
    (I : ∃ (f : Addr) (fd : FuncData), InitAt K f fd ∧ Mk K C f)
    (re : ∃ (f : Addr) (fd : FuncData), W.findIn K (.ref C) "__repr__" = some (some (.ref f)) ∧ W.isFn K (.ref f) = true ∧ Fun K "__repr__" "Ratio.__repr__" s_repr f fd)
    (hi : ∃ (f : Addr) (fd : FuncData), W.findIn K (.ref HC) "__init__" = some (some (.ref f)) ∧ W.isFn K (.ref f) = true ∧ Fun K "__init__" "House.__init__" s_hinit f fd) (mk : W.makesIn K HC = true) (kc : W.keepIn K (.ref HC) = true)
    (M : ∃ (p g : Addr) (gd : FuncData), ManyAt K HC p g gd)
    (d1 : Dn K "is_integer" s_is_integer) (d2 : Dn K "is_count" s_is_count) (d3 : Dn K "is_list" s_is_list) (d4 : Dn K "is_number" s_is_number) (d5 : Dn K "are_numbers" s_are_numbers) (d6 : Dn K "is_row_of" s_is_row_of) (d7 : Dn K "are_rows_of" s_are_rows_of)
    (d8 : Dn K "is_table" s_is_table) (d9 : Dn K "ratio_of" s_ratio_of) (d10 : Dn K "ratio_row" s_ratio_row) (d11 : Dn K "told_table" s_told_table) (d12 : Dn K "are_tables" s_are_letters) (d13 : Dn K "check_house" s_check_house) (d14 : Dn K "is_word" s_is_word) (d15 : Dn K "are_letters_at" s_are_letters_at)
    (e1 : Dn K "_law_seen" s_seen) (e2 : Dn K "_law_pot" s_pot) (e3 : Dn K "_law_draw" s_draw) (e4 : Dn K "_law_pick" s_pick) (e5 : Dn K "_law_letters" s_letters) (e6 : Dn K "_law_values" s_values) (e7 : Dn K "_law_right" s_right) (e8 : Dn K "law" s_law) :
    ∃ fd : FuncData, (∀ (s : Shared) (v : Value), BindsTo s fd ⟨[v], []⟩ [("_law_script", v)]) ∧ ∀ base : Heap, K.In base → base.Ns mainGlobals mg → FnG l.prog w K mg base L2.CX0 11 fa fd ["_law_script"] (spLaw K) := by
  obtain ⟨f1, fd1, A1⟩ := d1.at_ X G ["value"] fun _ _ _ _ _ _ us hl => match us, hl with | [_], _ => rfl
  obtain ⟨f2, fd2, A2⟩ := d2.at_ X G ["value"] fun _ _ _ _ _ _ us hl => match us, hl with | [_], _ => rfl
  obtain ⟨f3, fd3, A3⟩ := d3.at_ X G ["value"] fun _ _ _ _ _ _ us hl => match us, hl with | [_], _ => rfl
  obtain ⟨f4, fd4, A4⟩ := d4.at_ X G ["value"] fun _ _ _ _ _ _ us hl => match us, hl with | [_], _ => rfl
  obtain ⟨f5, fd5, A5⟩ := d5.at_ X G ["value"] fun _ _ _ _ _ _ us hl => match us, hl with | [_], _ => rfl
  obtain ⟨f6, fd6, A6⟩ := d6.at_ X G ["value", "wide"] fun _ _ _ _ _ _ us hl => match us, hl with | [_, _], _ => rfl
  obtain ⟨f7, fd7, A7⟩ := d7.at_ X G ["value", "most", "wide"] fun _ _ _ _ _ _ us hl => match us, hl with | [_, _, _], _ => rfl
  obtain ⟨f8, fd8, A8⟩ := d8.at_ X G ["value"] fun _ _ _ _ _ _ us hl => match us, hl with | [_], _ => rfl
  obtain ⟨f9, fd9, A9⟩ := d9.at_ X G ["number"] fun _ _ _ _ _ _ us hl => match us, hl with | [_], _ => rfl
  obtain ⟨f10, fd10, A10⟩ := d10.at_ X G ["numbers"] fun _ _ _ _ _ _ us hl => match us, hl with | [_], _ => rfl
  obtain ⟨f11, fd11, A11⟩ := d11.at_ X G ["table"] fun _ _ _ _ _ _ us hl => match us, hl with | [_], _ => rfl
  obtain ⟨f12, fd12, A12⟩ := d12.at_ X G ["value", "most"] fun _ _ _ _ _ _ us hl => match us, hl with | [_, _], _ => rfl
  obtain ⟨f13, fd13, A13⟩ := d13.at_ X G ["house"] fun _ _ _ _ _ _ us hl => match us, hl with | [_], _ => rfl
  obtain ⟨f14, fd14, A14⟩ := d14.at_ X G ["house", "value"] fun _ _ _ _ _ _ us hl => match us, hl with | [_, _], _ => rfl
  obtain ⟨f15, fd15, A15⟩ := d15.at_ X G ["value", "many"] fun _ _ _ _ _ _ us hl => match us, hl with | [_, _], _ => rfl
  obtain ⟨g1, gd1, B1⟩ := e1.at_ X G ["_law_many", "_law_value"] fun _ _ _ _ _ _ us hl => match us, hl with | [_, _], _ => rfl
  obtain ⟨g2, gd2, B2⟩ := e2.at_ X G ["_law_script", "_law_k"] fun _ _ _ _ _ _ us hl => match us, hl with | [_, _], _ => rfl
  obtain ⟨g3, gd3, B3⟩ := e3.at_ X G ["_law_pot_here", "_law_many"] fun _ _ _ _ _ _ us hl => match us, hl with | [_, _], _ => rfl
  obtain ⟨g4, gd4, B4⟩ := e4.at_ X G ["_law_pot_here", "_law_some"] fun _ _ _ _ _ _ us hl => match us, hl with | [_, _], _ => rfl
  obtain ⟨g5, gd5, B5⟩ := e5.at_ X G ["_law_pot_here", "_law_size", "_law_most"] fun _ _ _ _ _ _ us hl => match us, hl with | [_, _, _], _ => rfl
  obtain ⟨g6, gd6, B6⟩ := e6.at_ X G ["_law_pot_here", "_law_many"] fun _ _ _ _ _ _ us hl => match us, hl with | [_, _], _ => rfl
  obtain ⟨g7, gd7, B7⟩ := e7.at_ X G ["_law_pot_here"] fun _ _ _ _ _ _ us hl => match us, hl with | [_], _ => rfl
  obtain ⟨g8, gd8, n8, F8⟩ := e8
  obtain ⟨fi, fid, FI, MI⟩ := I
  obtain ⟨fr, frd, ar, ir, FR⟩ := re
  obtain ⟨fh, fhd, ah, ih, FH⟩ := hi
  obtain ⟨pm, gm, gmd, MM⟩ := M
  have e := hfa.symm.trans (W.mg_of X G n8)
  cases e
  have bR := FR.binds (ps := ["self"]) fun _ _ _ _ _ _ us hl => match us, hl with | [_], _ => rfl
  have bH := FH.binds (ps := ["self", "letters"]) fun _ _ _ _ _ _ us hl => match us, hl with | [_, _], _ => rfl
  refine ⟨gd8, ?_, fun base _ _ => ?_⟩
  · obtain ⟨oc, od, kV, doc, pm, an, cdv, ct, osl, rfl, lk, hcd⟩ := F8.ex
    exact fun s v => .of_eq rfl
  have N5 := ok_are_numbers (P := l.prog) (w := w) (base := base) A5 T A1 A3 A4
  have N6 := ok_is_row_of A6 T A5 N5
  have N7 := ok_are_rows_of A7 T A6 N6 A3
  have N8 := ok_is_table A8 T A7 N7 A3
  have N9 := ok_ratio_of (P := l.prog) (w := w) (base := base) A9 T A1 FI MI
  have N10 := ok_ratio_row A10 T A9 N9
  have N11 := ok_told_table A11 T A8 N8 A10 N10
  have N12 := ok_are_letters A12 T A8 N8 A3
  have NH := ok_hinit FH T A12 N12 A11 N11
  have NW := ok_is_word (P := l.prog) (w := w) (base := base) A14 T A3 A13 A2 A1 MM A15
  have NS := ok_seen (P := l.prog) (w := w) (base := base) B1 T
  have Np := ok_pot (P := l.prog) (w := w) (base := base) B2 T T2
  have Nd := ok_draw (P := l.prog) (w := w) (base := base) B3 T T2
  have Nk := ok_pick B4 T B3 Nd
  have NL := ok_letters (C := C) B5 T T2 B3 Nd B4 Nk
  have NV := ok_values B6 T T2 B3 Nd A1 FI MI
  have RR : RatR l.prog w K mg base C 1 := ⟨fr, frd, ar, ir, ok_repr FR T, bR⟩
  exact ok_law F8 T T2 B2 Np B7 (ok_right B7 T T2 B3 Nd B5 NL ⟨mk, ah, ih, kc⟩ NH bH B6 NV A14 NW B1 NS RR)
end
theorem walk {l : W.OpenLaw} {q : Program} {loose : List Str} {XP : (Str → Option Value) → Heap → Prop} {YP : World → Heap → Prop} {d : DefRec} {K : Params → W.Frag} (hn : l.most = some 63) (hdf : d.params.defaults = [])
    (hY : ∀ (w : World) (h : Heap), YP w h → (K w.params).In h)
    (F : ∀ (w : World) (mg : Str → Option Value) (fa : Addr) (h : Heap), (K w.params).In h → h.Ns mainGlobals mg → mg d.name = some (.ref fa) →
      ∃ fd : FuncData, (∀ (s : Shared) (u : Value), BindsTo s fd ⟨[u], []⟩ [("_law_script", u)]) ∧ ∀ base : Heap, (K w.params).In base → base.Ns mainGlobals mg → FnG l.prog w (K w.params) mg base L2.CX0 11 fa fd ["_law_script"] (spLaw (K w.params))) :
    W.WalkO q loose XP YP l.row.toRowW d [] (fun f vs => PySem.call f vs) :=
  walkG (n := 63) (k := 11) (x := "_law_script") (sp := spLaw) hn (by decide) hdf ⟨rfl, by decide, by decide⟩ hY F fun K H a ns hl _ hS => ⟨a, ns, rfl, hS, Nat.le_trans hl (by decide), fun _ => rfl⟩
end KT

set_option Elab.async false
set_option linter.all false
open PySem PySem.W PyProof.Rows
set_option maxRecDepth 100000 in
set_option maxHeartbeats 0 in
theorem PySem.Challenge.cw_tracewords_k22_any_value_as_a_word_holds : PySem.Challenge.rw_tracewords_k22_any_value_as_a_word.Holds := by
  w_on; o_law; k_head; (case hw => w_witness2)
  k_fill
  refine KT.walk (l := PySem.Challenge.rw_tracewords_k22_any_value_as_a_word) rfl rfl (fun w h Y => PySem.W.kIn_of Y) ?F
  case F =>
    intro w mg fa h KX G hmg
    refine' KT.all_mk KX G hmg (KT.tx KX G ?q_aC ?q_aH ?q_z1 ?q_z2 ?q_z3 ?q_z4 ?q_z5 ?q_z6 ?q_z7 ?q_g1 ?q_c1 ?q_c2 ?q_c3 ?q_pg ?q_hd ?q_po ?q_sa ?q_pgh ?q_hdh ?q_poh ?q_sah ?q_n1 ?q_n2 ?q_n3 ?q_atC ?q_atH ?q_cg ?q_ct ?q_moC ?q_moH ?q_k1 ?q_k2 ?q_k3 ?q_k4 ?q_k5 ?q_k6 ?q_k7 ?q_k8 ?q_k9 ?q_k10 ?q_k11 ?q_k12 ?q_k13) (KT.tx2 KX G ?q_y1 ?q_y2 ?q_y3 ?q_y4 ?q_y5 ?q_y6 ?q_y7 ?q_y8) (KT.initR ?q_ia ?q_ii ?q_il ?q_ic ?q_ik ?q_it ?q_im ?q_ikc) (KT.me ?q_ra ?q_ri ?q_rl ?q_rc ?q_rk) (KT.me ?q_ha ?q_hi ?q_hl ?q_hc ?q_hk) ?q_hm ?q_hkc (KT.many_ ?q_ma ?q_ms ?q_mt ?q_mr ?q_ml ?q_mc ?q_mk) (KT.dn ?q_d1n ?q_d1l ?q_d1c ?q_d1k) (KT.dn ?q_d2n ?q_d2l ?q_d2c ?q_d2k) (KT.dn ?q_d3n ?q_d3l ?q_d3c ?q_d3k) (KT.dn ?q_d4n ?q_d4l ?q_d4c ?q_d4k) (KT.dn ?q_d5n ?q_d5l ?q_d5c ?q_d5k) (KT.dn ?q_d6n ?q_d6l ?q_d6c ?q_d6k) (KT.dn ?q_d7n ?q_d7l ?q_d7c ?q_d7k) (KT.dn ?q_d8n ?q_d8l ?q_d8c ?q_d8k) (KT.dn ?q_d9n ?q_d9l ?q_d9c ?q_d9k) (KT.dn ?q_d10n ?q_d10l ?q_d10c ?q_d10k) (KT.dn ?q_d11n ?q_d11l ?q_d11c ?q_d11k) (KT.dn ?q_d12n ?q_d12l ?q_d12c ?q_d12k) (KT.dn ?q_d13n ?q_d13l ?q_d13c ?q_d13k) (KT.dn ?q_d14n ?q_d14l ?q_d14c ?q_d14k) (KT.dn ?q_d15n ?q_d15l ?q_d15c ?q_d15k) (KT.dn ?q_e1n ?q_e1l ?q_e1c ?q_e1k) (KT.dn ?q_e2n ?q_e2l ?q_e2c ?q_e2k) (KT.dn ?q_e3n ?q_e3l ?q_e3c ?q_e3k) (KT.dn ?q_e4n ?q_e4l ?q_e4c ?q_e4k) (KT.dn ?q_e5n ?q_e5l ?q_e5c ?q_e5k) (KT.dn ?q_e6n ?q_e6l ?q_e6c ?q_e6k) (KT.dn ?q_e7n ?q_e7l ?q_e7c ?q_e7k) (KT.dn ?q_e8n ?q_e8l ?q_e8c ?q_e8k)
    (case q_aC => first | k_is | kit_is)
    (case q_aH => first | k_is | kit_is)
    (case q_z1 => first | k_is | kit_is)
    (case q_z2 => first | k_is | kit_is)
    (case q_z3 => first | k_is | kit_is)
    (case q_z4 => first | k_is | kit_is)
    (case q_z5 => first | k_is | kit_is)
    (case q_z6 => first | k_is | kit_is)
    (case q_z7 => first | k_is | kit_is)
    (case q_g1 => first | k_is | kit_is)
    (case q_c1 => first | k_is | kit_is)
    (case q_c2 => first | k_is | kit_is)
    (case q_c3 => first | k_is | kit_is)
    (case q_pg => first | k_is | kit_is)
    (case q_hd => first | k_is | kit_is)
    (case q_po => first | k_is | kit_is)
    (case q_sa => first | k_is | kit_is)
    (case q_pgh => first | k_is | kit_is)
    (case q_hdh => first | k_is | kit_is)
    (case q_poh => first | k_is | kit_is)
    (case q_sah => first | k_is | kit_is)
    (case q_n1 => first | k_is | kit_is)
    (case q_n2 => first | k_is | kit_is)
    (case q_n3 => first | k_is | kit_is)
    (case q_atC => first | k_is | kit_is)
    (case q_atH => first | k_is | kit_is)
    (case q_cg => first | k_is | kit_is)
    (case q_ct => first | k_is | kit_is)
    (case q_moC => first | k_is | kit_is)
    (case q_moH => first | k_is | kit_is)
    (case q_k1 => first | k_is | kit_is)
    (case q_k2 => first | k_is | kit_is)
    (case q_k3 => first | k_is | kit_is)
    (case q_k4 => first | k_is | kit_is)
    (case q_k5 => first | k_is | kit_is)
    (case q_k6 => first | k_is | kit_is)
    (case q_k7 => first | k_is | kit_is)
    (case q_k8 => first | k_is | kit_is)
    (case q_k9 => first | k_is | kit_is)
    (case q_k10 => first | k_is | kit_is)
    (case q_k11 => first | k_is | kit_is)
    (case q_k12 => first | k_is | kit_is)
    (case q_k13 => first | k_is | kit_is)
    (case q_y1 => first | k_is | kit_is)
    (case q_y2 => first | k_is | kit_is)
    (case q_y3 => first | k_is | kit_is)
    (case q_y4 => first | k_is | kit_is)
    (case q_y5 => first | k_is | kit_is)
    (case q_y6 => first | k_is | kit_is)
    (case q_y7 => first | k_is | kit_is)
    (case q_y8 => first | k_is | kit_is)
    (case q_ia => first | k_is | kit_is)
    (case q_ii => first | k_is | kit_is)
    (case q_il => first | k_is | kit_is)
    (case q_ic => first | k_is | kit_is)
    (case q_ik => first | k_is | kit_is)
    (case q_it => first | k_is | kit_is)
    (case q_im => first | k_is | kit_is)
    (case q_ikc => first | k_is | kit_is)
    (case q_ra => first | k_is | kit_is)
    (case q_ri => first | k_is | kit_is)
    (case q_rl => first | k_is | kit_is)
    (case q_rc => first | k_is | kit_is)
    (case q_rk => first | k_is | kit_is)
    (case q_ha => first | k_is | kit_is)
    (case q_hi => first | k_is | kit_is)
    (case q_hl => first | k_is | kit_is)
    (case q_hc => first | k_is | kit_is)
    (case q_hk => first | k_is | kit_is)
    (case q_hm => first | k_is | kit_is)
    (case q_hkc => first | k_is | kit_is)
    (case q_ma => first | k_is | kit_is)
    (case q_ms => first | k_is | kit_is)
    (case q_mt => first | k_is | kit_is)
    (case q_mr => first | k_is | kit_is)
    (case q_ml => first | k_is | kit_is)
    (case q_mc => first | k_is | kit_is)
    (case q_mk => first | k_is | kit_is)
    (case q_d1n => first | k_is | kit_is)
    (case q_d1l => first | k_is | kit_is)
    (case q_d1c => first | k_is | kit_is)
    (case q_d1k => first | k_is | kit_is)
    (case q_d2n => first | k_is | kit_is)
    (case q_d2l => first | k_is | kit_is)
    (case q_d2c => first | k_is | kit_is)
    (case q_d2k => first | k_is | kit_is)
    (case q_d3n => first | k_is | kit_is)
    (case q_d3l => first | k_is | kit_is)
    (case q_d3c => first | k_is | kit_is)
    (case q_d3k => first | k_is | kit_is)
    (case q_d4n => first | k_is | kit_is)
    (case q_d4l => first | k_is | kit_is)
    (case q_d4c => first | k_is | kit_is)
    (case q_d4k => first | k_is | kit_is)
    (case q_d5n => first | k_is | kit_is)
    (case q_d5l => first | k_is | kit_is)
    (case q_d5c => first | k_is | kit_is)
    (case q_d5k => first | k_is | kit_is)
    (case q_d6n => first | k_is | kit_is)
    (case q_d6l => first | k_is | kit_is)
    (case q_d6c => first | k_is | kit_is)
    (case q_d6k => first | k_is | kit_is)
    (case q_d7n => first | k_is | kit_is)
    (case q_d7l => first | k_is | kit_is)
    (case q_d7c => first | k_is | kit_is)
    (case q_d7k => first | k_is | kit_is)
    (case q_d8n => first | k_is | kit_is)
    (case q_d8l => first | k_is | kit_is)
    (case q_d8c => first | k_is | kit_is)
    (case q_d8k => first | k_is | kit_is)
    (case q_d9n => first | k_is | kit_is)
    (case q_d9l => first | k_is | kit_is)
    (case q_d9c => first | k_is | kit_is)
    (case q_d9k => first | k_is | kit_is)
    (case q_d10n => first | k_is | kit_is)
    (case q_d10l => first | k_is | kit_is)
    (case q_d10c => first | k_is | kit_is)
    (case q_d10k => first | k_is | kit_is)
    (case q_d11n => first | k_is | kit_is)
    (case q_d11l => first | k_is | kit_is)
    (case q_d11c => first | k_is | kit_is)
    (case q_d11k => first | k_is | kit_is)
    (case q_d12n => first | k_is | kit_is)
    (case q_d12l => first | k_is | kit_is)
    (case q_d12c => first | k_is | kit_is)
    (case q_d12k => first | k_is | kit_is)
    (case q_d13n => first | k_is | kit_is)
    (case q_d13l => first | k_is | kit_is)
    (case q_d13c => first | k_is | kit_is)
    (case q_d13k => first | k_is | kit_is)
    (case q_d14n => first | k_is | kit_is)
    (case q_d14l => first | k_is | kit_is)
    (case q_d14c => first | k_is | kit_is)
    (case q_d14k => first | k_is | kit_is)
    (case q_d15n => first | k_is | kit_is)
    (case q_d15l => first | k_is | kit_is)
    (case q_d15c => first | k_is | kit_is)
    (case q_d15k => first | k_is | kit_is)
    (case q_e1n => first | k_is | kit_is)
    (case q_e1l => first | k_is | kit_is)
    (case q_e1c => first | k_is | kit_is)
    (case q_e1k => first | k_is | kit_is)
    (case q_e2n => first | k_is | kit_is)
    (case q_e2l => first | k_is | kit_is)
    (case q_e2c => first | k_is | kit_is)
    (case q_e2k => first | k_is | kit_is)
    (case q_e3n => first | k_is | kit_is)
    (case q_e3l => first | k_is | kit_is)
    (case q_e3c => first | k_is | kit_is)
    (case q_e3k => first | k_is | kit_is)
    (case q_e4n => first | k_is | kit_is)
    (case q_e4l => first | k_is | kit_is)
    (case q_e4c => first | k_is | kit_is)
    (case q_e4k => first | k_is | kit_is)
    (case q_e5n => first | k_is | kit_is)
    (case q_e5l => first | k_is | kit_is)
    (case q_e5c => first | k_is | kit_is)
    (case q_e5k => first | k_is | kit_is)
    (case q_e6n => first | k_is | kit_is)
    (case q_e6l => first | k_is | kit_is)
    (case q_e6c => first | k_is | kit_is)
    (case q_e6k => first | k_is | kit_is)
    (case q_e7n => first | k_is | kit_is)
    (case q_e7l => first | k_is | kit_is)
    (case q_e7c => first | k_is | kit_is)
    (case q_e7k => first | k_is | kit_is)
    (case q_e8n => first | k_is | kit_is)
    (case q_e8l => first | k_is | kit_is)
    (case q_e8c => first | k_is | kit_is)
    (case q_e8k => first | k_is | kit_is)
#print axioms PySem.Challenge.cw_tracewords_k22_any_value_as_a_word_holds
