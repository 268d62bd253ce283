import PyProof.Rows.All
import Wide.All
import OpenK.AllK
import Wide.FinOn
import HandS.ForMost
import HandS.IsInst
import HandS.Property
import HandS.Call
import HandS.List
import HandS.Ends
import KE.KOpsOwn
import HandS.Gcd
import HandS.Wide
import HandS.OwnEq
import HandS.MakeKwOnly
import HandS.More
import HandS.Walk
import HandS.ClsMeth
import HandS.Defaults
import HandS.FStr
import HandS.Style
import HandS.TupMul
import HandS.MakeKw
import HandS.Small
import HandS.CallLocal
import HandS.Zip
import PyProof.NeKinds
import HandS.NoneIn
import HandS.TryOnly
import PySem.Challenge.RW_tracewords_k87_any_five_and_its_words
set_option Elab.async false
set_option linter.all false
set_option maxRecDepth 100000
set_option maxHeartbeats 2000000
namespace TW
open PySem L2 Builtin

/-- x is written as t at every place where the frames are ours, no writing of the objects as is under way, and Room lv is left; nothing that is tracked changes -/
def Rp (X : Cx) (H : Hp) (as : List Addr) (lv : Nat) (x : V) (t : Str) : Prop :=
  ∀ (A : Around) (g : List Code) (pins : List (Addr × Obj)) (σ : L2.St) (s : Shared) (u : Value) (b : Nat) (E : Value → Shared → Prop) (Q : Str → Shared → Prop),
    A.frames = some X.stack → A.guards = some g → (∀ a ∈ as, Clear g a) → Room lv A → Inv X pins σ H s → RelV x u → b + t.length ≤ sizeLine →
    (∀ s', Inv X pins σ H s' → Q t s') → wpAny (model X.prog X.w) A (pyReprUnder b u) Q E s

section
variable {X : Cx} {H : Hp}
theorem Rp.leaf {as : List Addr} {lv : Nat} {x : V} {t : Str} (h : ∀ u, RelV x u → ReprIs X.prog X.w u t) : Rp X H as lv x t := by
  intro A g pins σ s u b E Q _ _ _ _ I r hb hQ
  exact h u r b hb A E s Q fun tk => hQ _ (I.tok tk)
theorem Rp.more {as as' : List Addr} {lv lv' : Nat} {x : V} {t : Str} (h : Rp X H as lv x t) (hs : ∀ c ∈ as, c ∈ as') (hl : lv ≤ lv') : Rp X H as' lv' x t :=
  fun A g pins σ s u b E Q hf hg hc hr I r hb hQ => h A g pins σ s u b E Q hf hg (fun c z => hc c (hs c z)) (hr.mono hl) I r hb hQ
theorem Rp.non {as : List Addr} {lv : Nat} : Rp X H as lv .non "None" := Rp.leaf fun u r => by
  cases (show u = Value.none from r)
  exact ReprIs.none
theorem Rp.bl {as : List Addr} {lv : Nat} (y : Bool) : Rp X H as lv (.bl y) (if y then "True" else "False") := Rp.leaf fun u r => by
  cases (show u = Value.bool y from r)
  exact ReprIs.bool y
theorem Rp.int {as : List Addr} {lv : Nat} {i : Int} (h : i.natAbs.log2 < 1920) : Rp X H as lv (.int i) (toString i) := Rp.leaf fun u r => by
  obtain ⟨t, q⟩ := (show ∃ t, u = Value.int i t from r)
  subst q
  exact ReprIs.int t h
theorem Rp.str {as : List Addr} {lv : Nat} {z : Str} (h : (reprText z).length ≤ sizeLine) : Rp X H as lv (.str z) (reprText z) := Rp.leaf fun u r => by
  obtain ⟨t, q⟩ := (show ∃ t, u = Value.str z t from r)
  subst q
  exact ReprIs.str z t h

theorem fr_loop {A : Around} {args : Args} : (A.under (.builtin "list.__repr__.loop" args)).frames = A.frames := by
  first | rfl | simp [Around.under, Code.envs, Code.isFrame, pushEnvs]
theorem dp_loop {A : Around} {args : Args} : (A.under (.builtin "list.__repr__.loop" args)).depth = A.depth + 1 := by
  first | rfl | simp [Around.under, Code.weight, Code.isCreation, Code.isGuard, Code.isCaller, Code.frames, Code.isFrame, guardIds]
theorem hd_loop {A : Around} {args : Args} : (A.under (.builtin "list.__repr__.loop" args)).handled = A.handled := by
  first | rfl | simp [Around.under]
theorem room_loop {A : Around} {lv : Nat} (r : Room (lv + 1) A) (args : Args) : Room lv (A.under (.builtin "list.__repr__.loop" args)) := by
  obtain ⟨h1, h2, h3⟩ := r
  refine ⟨hd_loop.trans h1, ?_, ?_⟩
  · rw [dp_loop]; omega
  · rw [units_under_list_loop]; omega

/-- the loop of a list's writing: P holds the parts written so far -/
theorem loopR {as : List Addr} {lv : Nat} {a P : Addr} {xs : List V} {ts : List Str} {b : Nat} {A : Around} {g : List Code} {R : Result → Shared → Prop} {pins : List (Addr × Obj)} {σ : L2.St}
    (hlen : ts.length = xs.length) (hT : ∀ (i : Nat) (x : V), xs[i]? = some x → ∃ t, ts[i]? = some t ∧ Rp X H as lv x t) (ha : SqL X.K H a xs) (hna : a ∉ as)
    (hf : A.frames = some X.stack) (hg : A.guards = some g) (hcl : ∀ c ∈ as, Clear g c) (hr : Room (lv + 1) A) (hsz : b + (listText ts).length ≤ sizeLine) (fp : FpOk X pins H P)
    (hR : ∀ s' u, Inv X pins σ H s' → R (.ok (.ret (.str (listText ts) u))) s') :
    ∀ (k i : Nat) (s : Shared) (acc : Array Value) (c : Nat) (done : List (Str × Tok)), xs.length - i = k → i ≤ xs.length → Inv X pins σ H s →
      s.heap.get? P = some { cls := .type "list", dict := none, data := .seq acc c, slots := #[] } → acc.toList = strValues done → done.map (·.1) = ts.take i →
      codeAny (model X.prog X.w) A (.builtin "list.__repr__.loop" ⟨[.ref a, rawInt i, .ref P, rawInt ((b + piled (ts.take i) : Nat) : Int)], []⟩) R s := by
  have eL : (listText ts).length = (textFrom 0 "[" ts).length + 1 := by
    show (textFrom 0 "[" ts ++ "]").length = _
    rw [strLen_append]
    rfl
  have tl := textFrom_len ts 0 "["
  have z1 : xs.length ≤ sizeLine := by
    have q := tl.1
    rw [if_neg (Nat.lt_irrefl 0)] at q
    omega
  have z2 : ∀ t ∈ ts, t.length ≤ sizeLine := fun t ht => by
    have q := tl.2.1 t ht
    omega
  have z3 := piled_le_listText ts
  have z5 : (listText ts).length ≤ sizeLine := by omega
  obtain ⟨f0, f1, f2, f3, f4, f5⟩ := fp
  intro k
  induction k with
  | zero =>
    intro i s acc c done hk hi I hP hacc hdone
    have ei : i = xs.length := by omega
    obtain ⟨its, rv, ⟨o, n, e1, _, _, e2⟩, _⟩ := I.list ha
    have li := rv.length
    refine codeAny_builtin F.entry_list_repr_loop ?_
    show wpAny _ _ («list.__repr__.loop» ⟨[.ref a, .int i 0, .ref P, .int ((b + piled (ts.take i) : Nat) : Int) 0], []⟩) _ _ s
    rw [repr_loop_tree]
    refine wpAny_bind (wpAny_listItems e1 e2 ?_)
    have no : its.toArray[(i : Int).toNat]? = none := by simp; omega
    simp only [no]
    unfold reprEnd
    refine wpAny_bind (wpAny_listItems hP rfl ?_)
    rw [hacc, repr_fold]
    refine wpAny_bind (wpAny_pure ?_)
    have ed : done.map (·.1) = ts := by rw [hdone, ei, ← hlen, List.take_length]
    rw [ed]
    exact wpAny_bind (wpAny_mkStr (wpAny_pure (hR _ _ (I.tok _))) z5)
  | succ k ih =>
    intro i s acc c done hk hi I hP hacc hdone
    have lt : i < xs.length := by omega
    obtain ⟨its, rv, ⟨o, n, e1, _, _, e2⟩, _⟩ := I.list ha
    obtain ⟨u, eu, ru⟩ := rv.get (i := i) (x := xs[i]) (by simp [lt])
    obtain ⟨t, et, rp⟩ := hT i xs[i] (by simp [lt])
    have p1 := piled_take_succ et
    have p2 := piled_take_le ts (i + 1)
    refine codeAny_builtin F.entry_list_repr_loop ?_
    show wpAny _ _ («list.__repr__.loop» ⟨[.ref a, .int i 0, .ref P, .int ((b + piled (ts.take i) : Nat) : Int) 0], []⟩) _ _ s
    rw [repr_loop_tree]
    refine wpAny_bind (wpAny_listItems e1 e2 ?_)
    have so : its.toArray[(i : Int).toNat]? = some u := by simpa using eu
    simp only [so]
    rw [Int.toNat_natCast]
    have I1 : Inv X (pins ++ pinsAt [P] s.heap) σ H s := I.pinned (fp := [P]) (fun c hc => by
      cases List.mem_singleton.mp hc
      exact ⟨f0, f1, f2, f3, f4, f5⟩) fun c hc => by
      cases List.mem_singleton.mp hc
      exact ⟨_, hP, fun _ q => nomatch q⟩
    refine wpAny_bind (wpAny_holding (rp _ _ (pins ++ pinsAt [P] s.heap) σ s u _ _ _ (fr_loop.trans hf) (guards_under_guard (isGuard_list_loop _) hg) (fun c hc => (hcl c hc).cons (a := a) fun e => hna (e ▸ hc)) (room_loop hr _) I1 ru (by omega) fun s' I2 => ?_))
    have hP2 : s'.heap.get? P = some { cls := .type "list", dict := none, data := .seq acc c, slots := #[] } := (I2.pin (P, _) (List.mem_append_right _ (List.mem_append_right _ (mem_pinsAt (List.mem_singleton.mpr rfl) hP)))).1
    have I3 := I2.unpinned
    refine wpAny_bind (wpAny_mkStr ?_ (z2 t (List.mem_of_getElem? et)))
    refine wpAny_bind ?_
    show wpAny _ _ (updateSeq P _) _ _ _
    have hasz : acc.size ≤ sizeLine := by
      have q1 : acc.toList.length = acc.size := by simp
      have q2 : (strValues done).length = done.length := by simp [strValues]
      have q3 : done.length = (ts.take i).length := by rw [← hdone, List.length_map]
      have q4 : (ts.take i).length ≤ i := by rw [List.length_take]; omega
      rw [hacc] at q1
      omega
    refine wpAny_updateSeq hP2 rfl (wpAny_pure ⟨F.quiet_list_repr_loop _, ?_⟩) hasz
    have q1 : ((i : Int) + 1) = ((i + 1 : Nat) : Int) := by omega
    have q2 : b + piled (ts.take i) + (t.length + 2) = b + piled (ts.take (i + 1)) := by omega
    rw [q1, q2]
    refine ih (i + 1) _ (acc.push (.str t s'.toks)) _ (done ++ [(t, s'.toks)]) (by omega) lt ?_ (Heap.get?_update_self _ hP2 rfl) (by simp [hacc, strValues]) (by simp [List.take_add_one, et, hdone])
    exact I3.turned (fun c o' hc e => (Heap.get?_update_other _ _ (fun h : P = c => hc h.symm)).trans e) f0 f1 f3 f4 f5

abbrev EndOf (X : Cx) (A : Around) (R : Result → Shared → Prop) : Fin → Shared → Prop := fun fin s' => match fin with
  | .done f => R (.ok f) s'
  | .again c' => c'.quiet = true ∧ codeAny (model X.prog X.w) A c' R s'

theorem no_same {g : List Code} {a : Addr} (h : Clear g a) : ∀ v rest kw, Code.builtin "list.__repr__.loop" ⟨v :: rest, kw⟩ ∈ g → Builtin.List.listSameRef v (.ref a) = false :=
  fun v rest kw hm => listSameRef_of_ne (h _ v rest kw hm)

theorem list_at {as : List Addr} {lv : Nat} {a : Addr} {xs : List V} {ts : List Str} {b : Nat} {A : Around} {g : List Code} {R : Result → Shared → Prop} {pins : List (Addr × Obj)} {σ : L2.St} {s : Shared}
    (hlen : ts.length = xs.length) (hT : ∀ (i : Nat) (x : V), xs[i]? = some x → ∃ t, ts[i]? = some t ∧ Rp X H as lv x t) (ha : SqL X.K H a xs) (hna : a ∉ as)
    (hf : A.frames = some X.stack) (hg : A.guards = some g) (hcl : ∀ c ∈ a :: as, Clear g c) (hr : Room (lv + 1) A) (hsz : b + (listText ts).length ≤ sizeLine) (I : Inv X pins σ H s)
    (hR : ∀ s' u, Inv X pins σ H s' → R (.ok (.ret (.str (listText ts) u))) s') :
    wpAny (model X.prog X.w) A.in1 (Builtin.listReprAt b ⟨[.ref a], []⟩) (EndOf X A R) (fun e s' => R (.error e) s') s := by
  obtain ⟨its, rv, ⟨o, n, e1, _, _, e2⟩, _⟩ := I.list ha
  have li := rv.length
  cases its with
  | nil =>
    obtain rfl : xs = [] := List.eq_nil_of_length_eq_zero li
    obtain rfl : ts = [] := List.eq_nil_of_length_eq_zero hlen
    exact wpAny_list_repr_empty e1 e2 (hR _ _ (I.tok _))
  | cons v l =>
    refine wpAny_list_repr_head (A := A.in1) hg (no_same (hcl a (List.Mem.head _))) e1 e2 ?_
    refine wpAny_bind (m := newList []) (wpAny_newObj_type ?_)
    refine wpAny_pure ⟨F.quiet_list_repr_loop _, ?_⟩
    have I1 : Inv X pins σ H { s with heap := s.heap.push { cls := .type "list", data := .seq #[] } } := I.kept (t' := s.toks) fun b u e => Heap.get?_push_of_some _ e
    exact loopR hlen hT ha hna hf hg (fun c hc => hcl c (List.Mem.tail _ hc)) hr hsz (I.fpOk (Nat.le_refl _) (I.hok.fresh (Nat.le_refl _))) hR xs.length 0 _ #[] _ [] rfl (Nat.zero_le _) I1 (Heap.get?_push_size _ rfl) rfl (by simp)

/-- the same of a whole call of the built-in repr -/
def Rc (X : Cx) (H : Hp) (as : List Addr) (lv : Nat) (x : V) (t : Str) : Prop :=
  ∀ (A : Around) (g : List Code) (pins : List (Addr × Obj)) (σ : L2.St) (s : Shared) (u : Value) (E : Value → Shared → Prop) (Q : Value → Shared → Prop),
    A.frames = some X.stack → A.guards = some g → (∀ a ∈ as, Clear g a) → Room lv A → Inv X pins σ H s → RelV x u → t.length ≤ sizeLine →
    (∀ s' tk, Inv X pins σ H s' → Q (.str t tk) s') → wpAny (model X.prog X.w) A (call (.builtin "repr") [u]) Q E s

theorem Rp.list {as : List Addr} {lv : Nat} {a : Addr} {xs : List V} {ts : List Str} (ha : SqL X.K H a xs) (hna : a ∉ as)
    (hlen : ts.length = xs.length) (hT : ∀ (i : Nat) (x : V), xs[i]? = some x → ∃ t, ts[i]? = some t ∧ Rp X H as lv x t) : Rp X H (a :: as) (lv + 1) (.ref a) (listText ts) := by
  intro A g pins σ s u b E Q hf hg hcl hr I r hb hQ
  cases (show u = Value.ref a from r)
  obtain ⟨its, rv, ⟨o, n, e1, e3, _, e2⟩, _⟩ := I.list ha
  refine wpAny_pyReprUnder_ref (by omega) (wpAny_pyReprObjUnder_twin (twin := "list.__repr__.under") ⟨o, e1, e3⟩ F.slot_list_repr.toG rfl hr.units0 ?_)
  exact call_twin_plain F.plain_list_repr_under F.entry_list_repr_under F.check_list_repr_under ⟨o, e1, e3⟩ F.slot_list_repr.toG (F.args_list_repr_1 _)
    (list_at (R := callEnd (fun v s' => (∃ x u, v = Value.str x u) ∧ ∃ x u, v = Value.str x u ∧ Q x s') E) hlen hT ha hna hf hg hcl hr hb I fun s' u I' => ⟨⟨_, _, rfl⟩, _, _, rfl, hQ s' I'⟩)

theorem Rc.list {as : List Addr} {lv : Nat} {a : Addr} {xs : List V} {ts : List Str} (ha : SqL X.K H a xs) (hna : a ∉ as)
    (hlen : ts.length = xs.length) (hT : ∀ (i : Nat) (x : V), xs[i]? = some x → ∃ t, ts[i]? = some t ∧ Rp X H as lv x t) : Rc X H (a :: as) (lv + 2) (.ref a) (listText ts) := by
  intro A g pins σ s u E Q hf hg hcl hr I r hb hQ
  cases (show u = Value.ref a from r)
  obtain ⟨its, rv, ⟨o, n, e1, e3, _, e2⟩, _⟩ := I.list ha
  refine call_repr_slot (by have := hr.un; omega) ⟨o, e1, e3⟩ F.slot_list_repr.toG ?_
  exact wpAny_call (codeAny_call_builtin F.slot_list_repr.plain F.entry_list_repr (F.slot_list_repr.check _ _ _ _ _ _ _ _ ⟨o, e1, e3⟩ (F.args_list_repr_1 _)
    (list_at (A := A.in1) (b := 0) (R := callEnd (fun v s' => ∃ x u, v = Value.str x u ∧ Q v s') E) hlen hT ha hna hf hg hcl hr.in1 (by omega) I fun s' u I' => ⟨_, _, rfl, hQ s' u I'⟩)))

/-! tuples -/
inductive RpAll (X : Cx) (H : Hp) (as : List Addr) (lv : Nat) : List V → List Str → Prop
  | nil : RpAll X H as lv [] []
  | cons {x : V} {t : Str} {l : List V} {ts : List Str} : Rp X H as lv x t → RpAll X H as lv l ts → RpAll X H as lv (x :: l) (t :: ts)
theorem RpAll.len {as : List Addr} {lv : Nat} : ∀ {l : List V} {ts : List Str}, RpAll X H as lv l ts → ts.length = l.length
  | _, _, .nil => rfl
  | _, _, .cons _ h => by simp [h.len]
theorem RpAll.at {as : List Addr} {lv : Nat} : ∀ {l : List V} {ts : List Str}, RpAll X H as lv l ts → ∀ (i : Nat) (x : V), l[i]? = some x → ∃ t, ts[i]? = some t ∧ Rp X H as lv x t
  | _, _, .nil, _, _, q => by simp at q
  | _, _, .cons h _, 0, _, q => by
    simp at q
    subst q
    exact ⟨_, rfl, h⟩
  | _, _, .cons _ h, i + 1, x, q => by
    obtain ⟨t, e, r⟩ := h.at i x (by simpa using q)
    exact ⟨t, by simpa using e, r⟩

theorem tup_fold {as : List Addr} {lv : Nat} {A : Around} {g : List Code} {E : Value → Shared → Prop} {pins : List (Addr × Obj)} {σ : L2.St} (hf : A.frames = some X.stack) (hg : A.guards = some g) (hcl : ∀ c ∈ as, Clear g c) (hr : Room lv A) :
    ∀ (xs : List V) (us : List Value) (ts : List Str) (acc : Array Str) (n : Nat) (s : Shared) (Q : (Array Str × Nat) → Shared → Prop), Vals xs us → RpAll X H as lv xs ts → n + piled ts ≤ sizeLine → Inv X pins σ H s →
      (∀ s', Inv X pins σ H s' → Q ⟨acc ++ ts.toArray, n + piled ts⟩ s') → wpAny (model X.prog X.w) A (forIn us (⟨acc, n⟩ : (Array Str × Nat)) tupBody) Q E s := by
  intro xs
  induction xs with
  | nil =>
    intro us ts acc n s Q rv hT _ I h
    cases rv
    cases hT
    simp only [List.forIn_nil]
    exact wpAny_pure (by simpa [piled] using h s I)
  | cons x l ih =>
    intro us ts acc n s Q rv hT hn I h
    cases rv with
    | cons r1 r2 =>
      cases hT with
      | cons hx hl =>
        rename_i u us' t ts'
        rw [piled_cons] at hn
        rw [List.forIn_cons]
        refine wpAny_bind (wpAny_bind (hx A g pins σ s _ (n + 1) _ _ hf hg hcl hr I r1 (by omega) fun s' I' => wpAny_pure ?_))
        refine ih us' ts' (acc.push t) (n + (t.length + 2)) _ Q r2 hl (by omega) I' fun s2 I2 => ?_
        have q := h s2 I2
        have e : n + piled (t :: ts') = n + (t.length + 2) + piled ts' := by rw [piled_cons]; omega
        rw [e] at q
        simpa using q

theorem fr_id {A : Around} {id : String} {args : Args} (h1 : id = "tuple.__repr__" ∨ id = "tuple.__repr__.under") : (A.under (.builtin id args)).frames = A.frames ∧ (A.under (.builtin id args)).handled = A.handled ∧ (A.under (.builtin id args)).depth = A.depth + 1 ∧ (A.under (.builtin id args)).units = A.units + 1 := by
  rcases h1 with rfl | rfl
  · refine ⟨?_, ?_, ?_, ?_⟩ <;> first | rfl | simp [Around.under, Code.envs, Code.isFrame, pushEnvs, Code.weight, Code.isCreation, Code.isGuard, Code.isCaller, Code.frames, guardIds, Code.cUnits]
  · refine ⟨?_, ?_, ?_, ?_⟩ <;> first | rfl | simp [Around.under, Code.envs, Code.isFrame, pushEnvs, Code.weight, Code.isCreation, Code.isGuard, Code.isCaller, Code.frames, guardIds, Code.cUnits]

theorem tup_at {as : List Addr} {lv : Nat} {a : Addr} {xs : List V} {ts : List Str} {b : Nat} {A : Around} {g : List Code} {R : Result → Shared → Prop} {pins : List (Addr × Obj)} {σ : L2.St} {s : Shared} {id : String} {rest : List Value}
    (hid : id = "tuple.__repr__" ∨ id = "tuple.__repr__.under") (hgd : (Code.builtin id ⟨.ref a :: rest, []⟩).isGuard = true)
    (hT : RpAll X H as lv xs ts) (ha : SqT X.K H a xs) (hna : a ∉ as)
    (hf : A.frames = some X.stack) (hg : A.guards = some g) (hcl : ∀ c ∈ a :: as, Clear g c) (hr : Room (lv + 1) A) (hsz : b + (tupleText ts).length ≤ sizeLine) (I : Inv X pins σ H s)
    (hR : ∀ s' u, Inv X pins σ H s' → R (.ok (.ret (.str (tupleText ts) u))) s') :
    wpOwn (model X.prog X.w) A (.builtin id ⟨.ref a :: rest, []⟩) (Builtin.tupleReprAt b ⟨[.ref a], []⟩) (EndOf X A R) (fun e s' => R (.error e) s') s := by
  obtain ⟨its, rv, ⟨o, e1, e3, n, e2⟩, _⟩ := I.tuple ha
  obtain ⟨q1, q2, q3, q4⟩ := fr_id (A := A) (args := ⟨.ref a :: rest, []⟩) hid
  have hlen : ts.length = its.toArray.size := by rw [hT.len, rv.length]; simp
  have hp := piled_le_tupleText ts
  have clr : Clear g a := hcl a (List.Mem.head _)
  rw [tuple_repr_tree, tupleReprUnderWay_eq]
  refine wpOwn_bind (wpOwn_stackTailAny hg (tupGuardF_off _) (tupGuardF_pos _) ?_)
  have no : (g.any fun c => tupGuardF (.ref a) (c, default)) = false := List.any_eq_false.mpr fun c hc => by
    rw [tupGuardF_of_clear clr c hc]
    exact Bool.false_ne_true
  rw [no]
  refine wpOwn_of_wpAny ?_
  show wpAny _ _ (tupleReprRest b (.ref a)) _ _ s
  unfold tupleReprRest Builtin.Tuple.tupleItemsOf
  refine wpAny_bind (wpAny_bind (wpAny_seqItems e1 e2 (wpAny_pure ?_)))
  rw [← Array.forIn_toList]
  have rm : Room lv (A.under (.builtin id ⟨.ref a :: rest, []⟩)) := ⟨q2.trans hr.hd, by have := hr.dp; rw [q3]; omega, by have := hr.un; rw [q4]; omega⟩
  refine wpAny_bind (tup_fold (pins := pins) (σ := σ) (q1.trans hf) (guards_under_guard hgd hg) (fun c hc => (hcl c (List.Mem.tail _ hc)).cons (a := a) fun e => hna (e ▸ hc)) rm xs its ts _ _ s _ (by simpa using rv) hT (by omega) I fun s' I' => ?_)
  refine wpAny_bind (wpAny_mkStr (wpAny_pure ?_) (by have z : (tupleText ts).length ≤ sizeLine := by omega
                                                     simpa [tupleText, hlen] using z))
  have q := hR _ s'.toks (I'.tok (s'.toks + 1))
  simpa [tupleText, hlen] using q

theorem Rp.tup {as : List Addr} {lv : Nat} {a : Addr} {xs : List V} {ts : List Str} (ha : SqT X.K H a xs) (hna : a ∉ as) (hT : RpAll X H as lv xs ts) : Rp X H (a :: as) (lv + 1) (.ref a) (tupleText ts) := by
  intro A g pins σ s u b E Q hf hg hcl hr I r hb hQ
  cases (show u = Value.ref a from r)
  obtain ⟨its, rv, ⟨o, e1, e3, n, e2⟩, _⟩ := I.tuple ha
  refine wpAny_pyReprUnder_ref (by omega) (wpAny_pyReprObjUnder_twin (twin := "tuple.__repr__.under") ⟨o, e1, e3⟩ F.slot_tuple_repr rfl hr.units0 ?_)
  exact call_twin_own (F.quiet_tuple_repr_under _) F.entry_tuple_repr_under F.check_tuple_repr_under ⟨o, e1, e3⟩ F.slot_tuple_repr (F.args_tuple_repr_1 _)
    (tup_at (R := callEnd (fun v s' => (∃ x u, v = Value.str x u) ∧ ∃ x u, v = Value.str x u ∧ Q x s') E) (.inr rfl) (isGuard_tuple_repr_under _) hT ha hna hf hg hcl hr hb I fun s' u I' => ⟨⟨_, _, rfl⟩, _, _, rfl, hQ s' I'⟩)

theorem Rc.tup {as : List Addr} {lv : Nat} {a : Addr} {xs : List V} {ts : List Str} (ha : SqT X.K H a xs) (hna : a ∉ as) (hT : RpAll X H as lv xs ts) : Rc X H (a :: as) (lv + 2) (.ref a) (tupleText ts) := by
  intro A g pins σ s u E Q hf hg hcl hr I r hb hQ
  cases (show u = Value.ref a from r)
  obtain ⟨its, rv, ⟨o, e1, e3, n, e2⟩, _⟩ := I.tuple ha
  refine call_repr_slot (by have := hr.un; omega) ⟨o, e1, e3⟩ F.slot_tuple_repr ?_
  exact wpAny_call (codeAny_call_builtin_own (Code.quiet_builtin _ (by decide +kernel)) F.entry_tuple_repr (F.slot_tuple_repr.check _ _ _ _ _ _ _ _ ⟨o, e1, e3⟩ (F.args_tuple_repr_1 _)
    (tup_at (A := A.in1) (b := 0) (R := callEnd (fun v s' => ∃ x u, v = Value.str x u ∧ Q v s') E) (.inl rfl) (isGuard_tuple_repr _) hT ha hna hf hg hcl hr.in1 (by omega) I fun s' u I' => ⟨_, _, rfl, hQ s' u I'⟩)))

/-! dicts of ints -/
def kvText : List (Key × V) → List Str
  | [] => []
  | (Sum.inl k, .int v) :: r => (toString k ++ ": " ++ toString v : Str) :: kvText r
  | _ :: r => "" :: kvText r
def KvSmall : List (Key × V) → Prop
  | [] => True
  | (Sum.inl k, .int v) :: r => k.natAbs.log2 < 1920 ∧ v.natAbs.log2 < 1920 ∧ (toString k : Str).length ≤ sizeLine ∧ KvSmall r
  | _ :: _ => False
theorem entries_of {as : List Addr} {h₀ : Heap} : ∀ (kvs : List (Key × V)) (vs : List (Key × Value)) (es : List DictEntry), KV kvs vs → Pairs (mixKind X.prog X.w) es vs → KvSmall kvs → ReprEntriesK X.prog X.w as h₀ 0 es (kvText kvs)
  | [], _, _, .nil, .nil, _ => .nil
  | (k, v) :: r, _, _, .cons ⟨e1, e2⟩ t, .cons (e := e) p1 p2 p3, z => by
    rename_i kv _ _
    obtain ⟨k', v'⟩ := kv
    simp only at e1 e2 p1 p2
    subst e1
    rcases k with k | k
    · cases v with
      | int i =>
        obtain ⟨z1, z2, z3, z4⟩ := z
        rcases keyIs_shape (show keyIs (Sum.inl k) e.key = true from p1) with ⟨j, t1, q1, q2⟩ | ⟨x, t1, q1, q2⟩
        · cases q1
          obtain ⟨t2, q3⟩ := e2
          obtain ⟨ek, ev, eh⟩ := e
          simp only at p1 p2 q2
          subst q2
          subst p2
          subst q3
          exact .cons (ReprK.of_is (ReprIs.int t1 z1) _ _ _) (ReprK.of_is (ReprIs.int t2 z2) _ _ _) (entries_of r _ _ t p3 z4)
        · cases q1
      | _ => exact z.elim
    · exact z.elim
theorem Rp.of_K {as : List Addr} {lv d : Nat} {x : V} {t : Str} (hd : d ≤ 16 * lv + 200) (h : ∀ pins σ s u, Inv X pins σ H s → RelV x u → ReprK X.prog X.w as s.heap d u t) : Rp X H as lv x t := by
  intro A g pins σ s u b E Q hf hg hcl hr I r hb hQ
  exact h pins σ s u I r b hb A g E s Q hg hcl (by have := hr.un; omega) (fun _ _ e => e) fun h' tk hk => hQ _ (I.kept hk)
theorem Rp.dct {as : List Addr} {lv : Nat} {a : Addr} {kvs : List (Key × V)} (hd : H a = some (.dK kvs)) (hna : a ∉ as) (hz : KvSmall kvs) : Rp X H (a :: as) lv (.ref a) (dictText (kvText kvs)) :=
  Rp.of_K (d := 1) (by omega) fun pins σ s u I r => by
    cases (show u = Value.ref a from r)
    obtain ⟨z, hs, vs, kv, o, es, ep, e1, ⟨e2, _, _⟩, e3, _, pr, _⟩ := (show ObjOk X.prog X.w H s.heap a (.dK kvs) from I.hok a _ hd)
    exact ReprK.dict e1 e2 e3 hs hna (entries_of kvs vs es.toList kv pr hz)
theorem Rc.dct {as : List Addr} {lv : Nat} {a : Addr} {kvs : List (Key × V)} (hd : H a = some (.dK kvs)) (hna : a ∉ as) (hz : KvSmall kvs) : Rc X H (a :: as) lv (.ref a) (dictText (kvText kvs)) := by
  intro A g pins σ s u E Q hf hg hcl hr I r hb hQ
  cases (show u = Value.ref a from r)
  obtain ⟨z, hs, vs, kv, o, es, ep, e1, ⟨e2, _, _⟩, e3, _, pr, _⟩ := (show ObjOk X.prog X.w H s.heap a (.dK kvs) from I.hok a _ hd)
  refine call_repr_slot (by have := hr.un; omega) ⟨o, e1, e2⟩ F.slot_dict_repr ?_
  exact call_dict_reprK (h₀ := s.heap) (d := 0) e1 e2 e3 hs hna (entries_of kvs vs es.toList kv pr hz) hg hcl (by have := hr.un; show A.units + 1 + 1 < cLine; omega) (fun _ _ e => e) (fun h' u tk hk => ⟨_, _, rfl, hQ _ _ (I.kept hk)⟩) hb

/-! a dict of one list of an int -/
theorem entries_dl {as : List Addr} {pins : List (Addr × Obj)} {σ : L2.St} {sh : Shared} {b : Addr} {i j : Int} {vs : List (Key × Value)} {es : List DictEntry} (I : Inv X pins σ H sh) (hb : H b = some (.lst [.int j])) (hba : b ∉ as)
    (kv : KV [((Sum.inl i : Key), V.ref b)] vs) (pr : Pairs (mixKind X.prog X.w) es vs) (hi : i.natAbs.log2 < 1920) (hj : j.natAbs.log2 < 1920) : ReprEntriesK X.prog X.w (b :: as) sh.heap 1 es [(toString i ++ ": " ++ listText [toString j] : Str)] := by
  cases kv with
  | cons e12 t =>
    rename_i kv' _
    obtain ⟨k', v'⟩ := kv'
    obtain ⟨e1, e2⟩ := e12
    cases t
    cases pr with
    | cons p1 p2 p3 =>
      rename_i e _
      cases p3
      simp only at e1 e2 p1 p2
      subst e1
      rcases keyIs_shape (show keyIs (Sum.inl i) e.key = true from p1) with ⟨m, t1, q1, q2⟩ | ⟨x, t1, q1, q2⟩
      · cases q1
        cases (show v' = Value.ref b from e2)
        obtain ⟨ek, ev, eh⟩ := e
        simp only at p1 p2 q2
        subst q2
        subst p2
        obtain ⟨z, its, n, r, hl, eb⟩ := I.lstM hb
        cases r with
        | cons r1 r2 =>
          cases r2
          obtain ⟨t2, q3⟩ := r1
          subst q3
          have one : ∀ (m : Nat) (y : Value), ([Value.int j t2]).toArray[m]? = some y → ∃ t, [(toString j : Str)][m]? = some t ∧ ReprK X.prog X.w as sh.heap 0 y t := fun m y hy => by
            match m with
            | 0 =>
              have : Value.int j t2 = y := by simpa using hy
              subst this
              exact ⟨_, rfl, ReprK.of_is (ReprIs.int t2 hj) _ _ _⟩
            | m + 1 => simp at hy
          exact .cons (ReprK.of_is (ReprIs.int t1 hi) _ _ _) (ReprK.list eb rfl rfl hba rfl one) .nil
      · cases q1
theorem Rp.dl {as : List Addr} {lv : Nat} {a b : Addr} {i j : Int} (hd : H a = some (.dK [((Sum.inl i : Key), V.ref b)])) (hb : H b = some (.lst [.int j])) (hna : a ∉ b :: as) (hba : b ∉ as) (hi : i.natAbs.log2 < 1920) (hj : j.natAbs.log2 < 1920) :
    Rp X H (a :: b :: as) lv (.ref a) (dictText [(toString i ++ ": " ++ listText [toString j] : Str)]) :=
  Rp.of_K (d := 2) (by omega) fun pins σ s u I r => by
    cases (show u = Value.ref a from r)
    obtain ⟨z, hs, vs, kv, o, es, ep, e1, ⟨e2, _, _⟩, e3, _, pr, _⟩ := (show ObjOk X.prog X.w H s.heap a (.dK [((Sum.inl i : Key), V.ref b)]) from I.hok a _ hd)
    exact ReprK.dict e1 e2 e3 hs hna (entries_dl I hb hba kv pr hi hj)
theorem Rc.dl {as : List Addr} {lv : Nat} {a b : Addr} {i j : Int} (hd : H a = some (.dK [((Sum.inl i : Key), V.ref b)])) (hb : H b = some (.lst [.int j])) (hna : a ∉ b :: as) (hba : b ∉ as) (hi : i.natAbs.log2 < 1920) (hj : j.natAbs.log2 < 1920) :
    Rc X H (a :: b :: as) lv (.ref a) (dictText [(toString i ++ ": " ++ listText [toString j] : Str)]) := by
  intro A g pins σ s u E Q hf hg hcl hr I r hz hQ
  cases (show u = Value.ref a from r)
  obtain ⟨z, hs, vs, kv, o, es, ep, e1, ⟨e2, _, _⟩, e3, _, pr, _⟩ := (show ObjOk X.prog X.w H s.heap a (.dK [((Sum.inl i : Key), V.ref b)]) from I.hok a _ hd)
  refine call_repr_slot (by have := hr.un; omega) ⟨o, e1, e2⟩ F.slot_dict_repr ?_
  exact call_dict_reprK (h₀ := s.heap) (d := 1) e1 e2 e3 hs hna (entries_dl I hb hba kv pr hi hj) hg hcl (by have := hr.un; show A.units + 1 + 1 + 1 < cLine; omega) (fun _ _ e => e) (fun h' u tk hk => ⟨_, _, rfl, hQ _ _ (I.kept hk)⟩) hz

/-! leaves -/
theorem Rc.leaf {as : List Addr} {lv : Nat} {x : V} {t : Str} (h : ∀ u, RelV x u → ∀ (A : Around) (E : Value → Shared → Prop) (s : Shared) (Q : Value → Shared → Prop), t.length ≤ sizeLine → (∀ tk tk', Q (.str t tk) { s with toks := tk' }) → wpAny (model X.prog X.w) A (call (.builtin "repr") [u]) Q E s) : Rc X H as lv x t := by
  intro A g pins σ s u E Q _ _ _ _ I r hb hQ
  exact h u r A E s Q hb fun tk tk' => hQ _ _ (I.tok _)
theorem Rc.int {as : List Addr} {lv : Nat} {i : Int} (h : i.natAbs.log2 < 1920) : Rc X H as lv (.int i) (toString i) := Rc.leaf fun u r A E s Q hb hQ => by
  obtain ⟨t, q⟩ := (show ∃ t, u = Value.int i t from r)
  subst q
  exact PySem.P.repr_of_int h (hQ _ _)

theorem Rc.bl {as : List Addr} {lv : Nat} (y : Bool) : Rc X H as lv (.bl y) (if y then "True" else "False") := Rc.leaf fun u r A E s Q hb hQ => by
  cases (show u = Value.bool y from r)
  exact PySem.P.repr_of_bool (hQ _ _)
theorem Rc.non {as : List Addr} {lv : Nat} : Rc X H as lv .non "None" := Rc.leaf fun u r A E s Q hb hQ => by
  cases (show u = Value.none from r)
  exact PySem.P.repr_of_none (hQ _ _)
theorem Rc.str {as : List Addr} {lv : Nat} {z : Str} : Rc X H as lv (.str z) (reprText z) := Rc.leaf fun u r A E s Q hb hQ => by
  obtain ⟨t, q⟩ := (show ∃ t, u = Value.str z t from r)
  subst q
  exact PySem.P.repr_of_str (hQ _ _) hb

/-! an instance with a __repr__ of its own -/
theorem own_call {a f : Addr} {k : Nat} {fd : FuncData} {sp : Sp} {t : Str} {A : Around} {pins : List (Addr × Obj)} {σ : L2.St} {s : Shared} {E : Value → Shared → Prop} {Q : Value → Shared → Prop}
    (F : FnOk X.prog X.w X.K X.mg X.base CX0 k f fd ["self"] sp) (hb : Binds X.K fd ["self"] []) (hq : ∀ (Q : VK) (E : XK), Q (.str t) H → sp [.ref a] H Q E)
    (I : Inv X pins σ H s) (hf : A.frames = some X.stack) (hr : Room k A) (hQ : ∀ s' tk, Inv X pins σ H s' → Q (.str t tk) s') : wpAny (model X.prog X.w) A (call (.ref f) [.ref a]) Q E s := by
  refine wpAny_call (codeAny_mono (F.run A X.stack s H ⟨[.ref a], []⟩ [.ref a] [.ref a] (fun v H' => v = .str t ∧ H' = H) (fun _ _ _ => False) hr { I.env0 with frames := hf } (hb s [.ref a] I.kIn rfl) (.cons rfl .nil) (hq _ _ ⟨rfl, rfl⟩)) fun r s' h => ?_)
  cases r with
  | error e => exact False.elim h
  | ok fl =>
    cases fl with
    | ret u =>
      obtain ⟨v, H', I3, rv, ev, eh⟩ := I.after h
      subst ev
      subst eh
      obtain ⟨tk, q⟩ := (show ∃ tk, u = Value.str t tk from rv)
      subst q
      exact hQ s' tk I3
    | next => exact False.elim h
    | brk => exact False.elim h
    | cont => exact False.elim h

theorem bound_by {M : Model} {A : Around} {E : Value → Shared → Prop} {s : Shared} {K : PySem.W.Frag} {x C f : Addr} {ox : Obj} {od : Option Obj} {name : Str} {last : Value → List Value → Sem Value} {Q : Option Value → Shared → Prop}
    (kin : K.In s.heap) (at_ : PySem.W.InstAt s.heap x ox C od) (hs : PySem.W.findIn K (.ref C) name = some (some (.ref f))) (fn : PySem.W.isFn K (.ref f) = true)
    (h : wpAny M A (last (.ref f) [.ref x]) (fun v => Q (some v)) E s) : wpAny M A (callSpecialIfBoundBy? last (.ref x) name) Q E s := by
  have fin : wpAny M A (last (.ref f) [.ref x] >>= fun v => pure (some v)) Q E s := wpAny_bind (wpAny_mono h (fun _ _ z => wpAny_pure z) fun _ _ z => z)
  have bnd := PySem.W.bind_fn (M := M) kin (.ref x) (beq_iff_eq.mp fn)
  simp only [callSpecialIfBoundBy?, bindSpecialIfBound?]
  refine wpAny_holding (wpAny_bind (wpAny_bind (wpAny_bind (at_.type.here ((PySem.W.looks_findIn kin hs).here ?_)))))
  refine wpAny_bind (wpAny_askSetting (wpAny_ite ?_))
  split
  · exact wpAny_bind (bnd.here (wpAny_pure (by exact fin)))
  · exact wpAny_tryCatch (wpAny_bind (bnd.here (wpAny_pure (by exact fin))))

theorem Rp.own {as : List Addr} {C a f dx : Addr} {fs : List (Str × V)} {k : Nat} {fd : FuncData} {sp : Sp} {t : Str} (ha : H a = some (.ins C dx fs)) (hs : PySem.W.findIn X.K (.ref C) "__repr__" = some (some (.ref f))) (fn : PySem.W.isFn X.K (.ref f) = true)
    (F : FnOk X.prog X.w X.K X.mg X.base CX0 k f fd ["self"] sp) (hb : Binds X.K fd ["self"] []) (hq : ∀ (Q : VK) (E : XK), Q (.str t) H → sp [.ref a] H Q E) : Rp X H as k (.ref a) t := by
  intro A g pins σ s u b E Q hf hg hcl hr I r hz hQ
  cases (show u = Value.ref a from r)
  obtain ⟨mA, O, _⟩ := ins_get I.hok ha
  obtain ⟨od, J, _⟩ := O.look
  refine wpAny_pyReprUnder_ref (by omega) ?_
  unfold pyReprObjUnder pyReprObjBy
  refine wpAny_bind (wpAny_cRoomFor hr.units0 ?_)
  refine wpAny_bind (wpAny_bind (J.type.here ((PySem.W.looks_findIn I.kIn hs).here ?_)))
  show wpAny _ _ (if (some (Value.ref f)).isNone = true then _ else _) _ _ _
  rw [if_neg (by simp)]
  refine wpAny_bind (bound_by (name := Str.ofString "__repr__") I.kIn J hs fn ?_)
  refine own_call F hb hq I hf hr fun s' tk I' => ?_
  exact wpAny_bind (wpAny_isInstance (T := "str") (b := true) rfl isSubtype_str_str (wpAny_pure ⟨_, _, rfl, hQ s' I'⟩))
theorem Rc.own {as : List Addr} {C a f dx : Addr} {fs : List (Str × V)} {k : Nat} {fd : FuncData} {sp : Sp} {t : Str} (ha : H a = some (.ins C dx fs)) (hs : PySem.W.findIn X.K (.ref C) "__repr__" = some (some (.ref f))) (fn : PySem.W.isFn X.K (.ref f) = true)
    (F : FnOk X.prog X.w X.K X.mg X.base CX0 k f fd ["self"] sp) (hb : Binds X.K fd ["self"] []) (hq : ∀ (Q : VK) (E : XK), Q (.str t) H → sp [.ref a] H Q E) : Rc X H as (k + 1) (.ref a) t := by
  intro A g pins σ s u E Q hf hg hcl hr I r hz hQ
  cases (show u = Value.ref a from r)
  obtain ⟨mA, O, _⟩ := ins_get I.hok ha
  obtain ⟨od, J, _⟩ := O.look
  obtain ⟨m, Fm⟩ := I.fr
  refine PySem.W.repr_K hr.in1.units0 Fm I.ok.mod.kin J hs fn ?_
  exact own_call F hb hq I hf hr.in1 fun s' tk I' => hQ s' tk I'
end
end TW

set_option Elab.async false
set_option linter.all false
set_option maxRecDepth 100000
set_option maxHeartbeats 2000000
namespace TW
open PySem PySem.Spec L2

/-- a def's promise, as FnOk, where it is known that no writing of an object is under way -/
structure FnG (P : Program) (w : World) (K : W.Frag) (mg : Str → Option Value) (base : Heap) (CX : CXT) (k : Nat) (f : Addr) (fd : FuncData) (ps : List Str) (sp : Sp) : Prop where
  len : ∀ vs H Q E, sp vs H Q E → vs.length = ps.length
  go : ∀ (A : Around) (outer : List Env) (s : Shared) (H : Hp) (args : Args) (us : List Value) (vs : List V) (Q : VK) (E : XK), A.guards = some [] → Room k A → Env0 P w K mg base A outer s H →
    BindsTo s fd args (ps.zip us) → Vals vs us → sp vs H Q E → codeAny (model P w) A (.call (.ref f) args) (CR CX outer P w H s Q E) s

section
variable {P : Program} {w : World} {K : W.Frag} {mg : Str → Option Value} {base : Heap}
theorem FnG.mono {CX : CXT} {j k : Nat} {f : Addr} {fd : FuncData} {ps : List Str} {sp : Sp} (F : FnG P w K mg base CX j f fd ps sp) (h : j ≤ k) : FnG P w K mg base CX k f fd ps sp :=
  ⟨F.len, fun A o s H a us vs Q E g r => F.go A o s H a us vs Q E g (r.mono h)⟩

theorem okG {x qual : Str} {st : Stmt} {f : Addr} {fd : FuncData} {N ps : List Str} {k : Nat} {sp : Sp} (F : Fun K x qual st f fd) (S : FnScope N ps (defScope st))
    (len : ∀ vs H Q E, sp vs H Q E → vs.length = ps.length)
    (body : ∀ (cdv : Value) (A : Around) (outer : List Env) (s : Shared) (H : Hp) (vs : List V) (Q : VK) (E : XK), A.guards = some [] → Room k (A.deeper (PyProof.Rows.envOfC qual (defScope st) s.heap.objs.size f cdv)) → sp vs H Q E →
      ∃ t, PSs (cxOf L2.CX0 P w K mg base N qual (defScope st) f cdv A outer s H E).nox (defBody st) t ∧ t { nx := fun _ H' => Q .non H', rt := Q } (start N vs) H) : FnG P w K mg base L2.CX0 (k + 1) f fd ps sp := by
  obtain ⟨oc, od, kV, doc, pm, an, cdv, ct, osl, rfl, lk, hcd⟩ := F.ex
  refine ⟨len, fun A outer s H args us vs Q E gd room e0 bnd rv want => ?_⟩
  have lenV := len _ _ _ _ want
  have there : K.In s.heap := e0.mod.kin.keeps fun b o e => (e0.bs b o e).1
  have nolim : s.heap.NoLimit := e0.mod.nolimit.keeps fun b o e => (e0.bs b o e).1
  have kinds : ∀ y ∈ ps.zip us, (defScope st).names.lookup y.1 = some .local ∨ ((defScope st).names.lookup y.1 = some .cell ∧ ((cellsFrom (s.heap.objs.size + 1) (defScope st).names []).lookup y.1).isSome = true) := by
    rintro ⟨n, v⟩ hy
    rcases S.par n (List.of_mem_zip hy).1 with q | q
    · exact .inl q
    · exact .inr ⟨q, W.cellsFrom_some _ _ _ (.inl q)⟩
  obtain ⟨t, ht, hq⟩ := body cdv A outer s H vs Q E gd (room.deeper _) want
  refine codeAny_call_function room.depth (there _ _ lk) rfl S.co S.gen rfl (W.codeRec_of there hcd) (bnd _ _ _ _ ?_)
  refine wpAny_newFunctionEnv_cells S.kind kinds fun env he s1 x => ?_
  subst he
  refine ⟨nolim.keeps x.toInCall.keep, codeAny_func ?_⟩
  have I := inv_start (CX := L2.CX0) (E := E) S room.hd e0 lenV rv x
  refine wpAny_mono (ht.nox.run [] s1 (start N vs) H _ I hq) (fun fl s' hs => ?_) fun e s' hs => hs
  cases fl with
  | ret u =>
    obtain ⟨v, σ', H', J, r, q⟩ := hs
    exact ⟨v, H', J.os, J.bare, J.base, J.hok, r, q⟩
  | next =>
    obtain ⟨σ', H', J, q⟩ := hs
    exact ⟨V.non, H', J.os, J.bare, J.base, J.hok, rfl, q⟩
  | brk =>
    obtain ⟨_, _, _, q⟩ := hs
    exact q.elim
  | cont =>
    obtain ⟨_, _, _, q⟩ := hs
    exact q.elim
end

section
variable {X : Cx} {CX : CXT} {k : Nat} {f : Addr} {fd : FuncData} {ps : List Str} {sp : Sp} {E : XK} {x : Str} {p pos : Pos} {e : Expr} {es : List Expr} {t : TA}
/-- a call of such a def -/
theorem pe_callG (F : FnG X.prog X.w X.K X.mg X.base CX k f fd ps sp) (gd : X.A.guards = some []) (hr : Room k X.A) (hg : Gl X x) (hm : X.mg x = some (.ref f)) (hk : W.keepIn X.K (.ref f) = true) (hb : Binds X.K fd ps []) (hx : Passes CX X E)
    (ha : PA X (e :: es) t) (hdb : (x == ("__debug__" : Str)) = false := by decide) (he : starEach (e :: es) X.env = (false, eval e X.env) :: starEach es X.env := by rfl) (hpl : (backTo pos (starEach es X.env)).any (·.1) = false := by rfl) :
    PE X (.Call (.Name x p) (e :: es) [] pos) (tCall sp [] E t) := by
  refine ⟨fun pins s σ H Q I h => ?_⟩
  refine wpAny_Call_Name_kw (ld_glob I hg hm ?_ hdb)
  refine W.callWith_K (h₀ := X.base) I.ok.mod.kin hk (thn (ha.run pos pins s σ H _ I h) fun us s1 ⟨vs, H1, I1, r, q⟩ => ⟨I1.kIn, ?_⟩) he hpl
  have q' : sp vs H1 Q E := by simpa using q
  have hl : us.length = ps.length := by rw [← r.length]; exact F.len _ _ _ _ q'
  have bd := hb s1 us I1.kIn (by simpa using hl)
  rw [List.append_nil] at bd
  refine wpAny_call (codeAny_mono (F.go X.A X.stack s1 H1 ⟨us, []⟩ us vs Q E gd hr I1.env0 bd r q') fun rs s' hq => ?_)
  cases rs with
  | error e => exact hx pins σ H1 s1 e s' I1 hq
  | ok fl =>
    cases fl with
    | ret u => exact I1.after hq
    | next => exact False.elim hq
    | brk => exact False.elim hq
    | cont => exact False.elim hq
end

/-! the law's own call, from such a promise -/
section
variable {P : Program} {w : World} {K : W.Frag} {mg mb : Str → Option Value} {CX : CXT} {k : Nat} {fa a : Addr} {fd : FuncData} {x : Str} {sp : Sp} {s₁ : Shared} {vs : List Value} {ns : List Int}
abbrev EndT (s₁ : Shared) : Result → Shared → Prop := fun r s' => r = .ok (.ret (.bool true)) ∧ OldK s₁.heap s'.heap ∧ s'.os = s₁.os ∧ PyProof.Rows.AllBare s'.gens

/-- where at most the script is tracked -/
theorem go_from (KX : K.In s₁.heap) (hns : s₁.heap.Ns mainGlobals mg) (hb : s₁.heap.Ns builtinsNs mb) (hbb : ∀ x : Str, x ≠ "__name__" → mb x = bootBuiltins x) (lim : s₁.heap.NoLimit) (hg : s₁.gens = #[])
    (ha : s₁.heap.get? a = some { cls := .type "list", data := .seq vs.toArray }) (hr : Room k callerA)
    (F : ∀ base : Heap, K.In base → base.Ns mainGlobals mg → FnG P w K mg base CX k fa fd [x] sp) (hbind : ∀ (s : Shared) (u : Value), BindsTo s fd ⟨[u], []⟩ [(x, u)])
    (hCX : ∀ H e s', CX [] H s₁ (fun _ _ _ => False) e s' → False) (H : Hp) (only : Only H) (hsp : sp [.ref a] H (fun v _ => v = .bl true) fun _ _ _ => False)
    (hok : HOk P w H s₁.heap) (sole : ∀ b u, H b = some u → b = a) (out : ∀ u, H a = some u → K.lookup a = none) :
    codeAny (model P w) callerA (.call (.ref fa) ⟨[.ref a], []⟩) (EndT s₁) s₁ := by
  have untracked : ∀ {b : Addr} {o : Obj} {es : Array DictEntry} {ep : Nat}, s₁.heap.get? b = some o → o.data = .dict es ep → H b = none := by
    intro b o es ep e d
    match q : H b with
    | none => rfl
    | some u =>
      cases sole b u q
      rw [ha] at e
      cases e
      exact nomatch d
  have carry : ∀ {b : Addr} {m : Str → Option Value}, s₁.heap.Ns b m → (hidT s₁.heap H).Ns b m := by
    rintro b m ⟨o, es, ep, e, d, r⟩
    exact ⟨o, es, ep, hidT_get e (untracked e d), d, r⟩
  have inB : K.In (hidT s₁.heap H) := by
    intro b o e
    refine hidT_get (KX b o e) ?_
    match q : H b with
    | none => rfl
    | some u =>
      cases sole b u q
      rw [out u q] at e
      cases e
  obtain ⟨mc, l1, l2⟩ := lim
  have M : L2.Mod K mg (hidT s₁.heap H) := ⟨inB, carry hns, ⟨mb, carry hb, hbb⟩, ⟨mc, carry l1, l2⟩⟩
  have e0 : Env0 P w K mg (hidT s₁.heap H) callerA [] s₁ H :=
    { frames := rfl, mod := M, bs := fun b o e => of_hidT e, bsz := Nat.le_of_eq (hidT_size _ _), funs := trivial, frf := fun b z => (by cases z), hok := hok, bare := .of_eq hg }
  refine codeAny_mono ((F _ inB (carry hns)).go callerA [] s₁ H ⟨[.ref a], []⟩ [.ref a] [.ref a] _ _ rfl hr e0 (hbind s₁ (.ref a)) (.cons rfl .nil) hsp) fun r s' h => ?_
  cases r with
  | error e => exact (hCX H e s' h).elim
  | ok fl =>
    cases fl with
    | next => exact h.elim
    | brk => exact h.elim
    | cont => exact h.elim
    | ret u =>
      obtain ⟨v, H', os, bare, un, hok', rv, q⟩ := h
      cases (show v = V.bl true from q)
      cases (show u = Value.bool true from rv)
      refine ⟨rfl, OldK.of_keep fun b o e => ?_, os, bare⟩
      match q : H b with
      | none => exact un.keep b o e q (by intro z; cases z) (by intro z; cases z)
      | some u =>
        rcases only b with z | ⟨ob, xs, z⟩
        · rw [q] at z
          cases z
        · obtain ⟨k1, _⟩ := hok b _ z
          obtain ⟨k2, _⟩ := hok' b _ (un.frzs b ob _ z)
          rw [e] at k1
          cases k1
          exact k2

theorem law_go (KX : K.In s₁.heap) (hns : s₁.heap.Ns mainGlobals mg) (hb : s₁.heap.Ns builtinsNs mb) (hbb : ∀ x : Str, x ≠ "__name__" → mb x = bootBuiltins x) (lim : s₁.heap.NoLimit) (hg : s₁.gens = #[])
    (ha : s₁.heap.get? a = some { cls := .type "list", data := .seq vs.toArray }) (hi : PyProof.Rows.IntsAre vs ns) (hl : ns.length ≤ sizeLine) (hr : Room k callerA)
    (F : ∀ base : Heap, K.In base → base.Ns mainGlobals mg → FnG P w K mg base CX k fa fd [x] sp) (hbind : ∀ (s : Shared) (u : Value), BindsTo s fd ⟨[u], []⟩ [(x, u)])
    (hsp : ∀ H : Hp, Only H → SqL K H a (ns.map V.int) → sp [.ref a] H (fun v _ => v = .bl true) fun _ _ _ => False)
    (hCX : ∀ H e s', CX [] H s₁ (fun _ _ _ => False) e s' → False) : codeAny (model P w) callerA (.call (.ref fa) ⟨[.ref a], []⟩) (EndT s₁) s₁ := by
  have rv := vals_ints hi
  match hk : K.lookup a with
  | some o =>
    have e := KX a o hk
    rw [ha] at e
    cases e
    have S : SqL K (fun _ => none) a (ns.map V.int) := .inr ⟨_, vs.toArray, _, hk, rfl, rfl, rfl, by rw [List.size_toArray, hi.length]; exact hl, by simpa using rv⟩
    have O : Only (fun _ => none) := fun _ => .inl rfl
    exact go_from KX hns hb hbb lim hg ha hr F hbind hCX _ O (hsp _ O S) (fun b u z => nomatch (show (none : Option HO) = some u from z)) (fun b u z => nomatch (show (none : Option HO) = some u from z)) fun u z => nomatch (show (none : Option HO) = some u from z)
  | none =>
    let ob : Obj := { cls := .type "list", data := .seq vs.toArray }
    let H : Hp := fun b => if b = a then some (.frz ob (.lst (ns.map V.int))) else none
    have at_ : H a = some (.frz ob (.lst (ns.map V.int))) := if_pos rfl
    have off : ∀ b, b ≠ a → H b = none := fun b z => if_neg z
    have O : Only H := fun b => by
      by_cases z : b = a
      · exact .inr ⟨ob, ns.map V.int, z ▸ at_⟩
      · exact .inl (off b z)
    have S : SqL K H a (ns.map V.int) := .inl (.inr ⟨ob, at_⟩)
    refine go_from KX hns hb hbb lim hg ha hr F hbind hCX H O (hsp H O S) (fun b u z => ?_) (fun b u z => ?_) fun _ _ => hk
    · by_cases y : b = a
      · subst y
        rw [at_] at z
        cases z
        exact ⟨ha, by rw [List.length_map]; exact hl, vs, _, rv, ha⟩
      · rw [off b y] at z
        cases z
    · by_cases y : b = a
      · exact y
      · rw [off b y] at z
        cases z
end

theorem walkG {l : W.OpenLaw} {n k : Nat} {q : Program} {loose : List Str} {XP : (Str → Option Value) → Heap → Prop} {YP : World → Heap → Prop} {d : DefRec} {K : Params → W.Frag} {sp : W.Frag → Sp} {x : Str}
    (hn : l.most = some n) (hn2 : n ≤ sizeLine) (hdf : d.params.defaults = []) (hr : Room k callerA) (hY : ∀ (w : World) (h : Heap), YP w h → (K w.params).In h)
    (F : ∀ (w : World) (mg : Str → Option Value) (fa : Addr) (h : Heap), (K w.params).In h → h.Ns mainGlobals mg → mg d.name = some (.ref fa) →
      ∃ fd : FuncData, (∀ (s : Shared) (u : Value), BindsTo s fd ⟨[u], []⟩ [(x, u)]) ∧ ∀ base : Heap, (K w.params).In base → base.Ns mainGlobals mg → FnG l.prog w (K w.params) mg base L2.CX0 k fa fd [x] (sp (K w.params)))
    (hsp : ∀ (K : W.Frag) (H : Hp) (a : Addr) (ns : List Int), ns.length ≤ n → Only H → SqL K H a (ns.map V.int) → sp K [.ref a] H (fun v _ => v = .bl true) fun _ _ _ => False) :
    W.WalkO q loose XP YP l.row.toRowW d [] (fun f vs => PySem.call f vs) := by
  refine Att.attach_call hn hdf fun w s₀ s₁ mg mb fa o pm cd doc a vs ns G Y ho hd hcd hmg hobj hints hlen hg => ?_
  have there := hY w _ Y
  obtain ⟨fd, hb, hF⟩ := F w mg fa _ there G.T.g hmg
  exact law_go there G.T.g G.T.b G.T.builtins G.T.nolimit hg hobj hints (Nat.le_trans hlen hn2) hr hF hb (fun H hO hS => hsp _ H a ns hlen hO hS) fun H e s' z => z
end TW

set_option Elab.async false
set_option linter.all false
set_option maxRecDepth 100000
set_option maxHeartbeats 2000000
namespace TW
open PySem L2

/-- what a value is, without the heap -/
inductive D where
  | non | bl (b : Bool) | int (i : Int) | str (z : Str) | rat (t b : Int) | lst (l : List D) | tup (l : List D) | dct (l : List (Int × Int)) | dl (i : Int) (l : List D)

def ratText (t b : Int) : Str := Str.empty ++ "Ratio(" ++ toString t ++ ", " ++ toString b ++ ")"
def kvs (l : List (Int × Int)) : List (Key × V) := l.map fun p => (Sum.inl p.1, V.int p.2)
mutual
def D.shown : D → Str
  | .non => "None"
  | .bl b => if b then "True" else "False"
  | .int i => toString i
  | .str z => reprText z
  | .rat t b => ratText t b
  | .lst l => listText (showns l)
  | .tup l => tupleText (showns l)
  | .dct l => dictText (kvText (kvs l))
  | .dl i l => dictText [(toString i ++ ": " ++ listText (showns l) : Str)]
def showns : List D → List Str
  | [] => []
  | d :: l => d.shown :: showns l
end
def SmallI (i : Int) : Prop := i.natAbs.log2 < 1920
mutual
/-- at most so many signs -/
def D.len : D → Nat
  | .non => 4
  | .bl _ => 5
  | .int _ => 1921
  | .str z => (reprText z).length
  | .rat _ _ => 4000
  | .lst l => 2 + lens l
  | .tup l => 3 + lens l
  | .dct l => 2 + 4000 * l.length
  | .dl _ _ => 8000
def lens : List D → Nat
  | [] => 0
  | d :: l => d.len + 2 + lens l
end
mutual
def D.ok : D → Prop
  | .int i => SmallI i
  | .rat t b => SmallI t ∧ SmallI b
  | .lst l => oks l
  | .tup l => oks l
  | .dct l => ∀ p ∈ l, SmallI p.1 ∧ SmallI p.2
  | .dl i l => SmallI i ∧ ∃ j : Int, l = [.int j] ∧ SmallI j
  | _ => True
def oks : List D → Prop
  | [] => True
  | d :: l => d.ok ∧ oks l
end
mutual
def D.deep : D → Nat
  | .lst l => deeps l + 1
  | .tup l => deeps l + 1
  | _ => 0
def deeps : List D → Nat
  | [] => 0
  | d :: l => max d.deep (deeps l)
end

mutual
inductive Dt (C : Addr) (H : Hp) : V → D → Prop
  | non : Dt C H .non .non
  | bl (b : Bool) : Dt C H (.bl b) (.bl b)
  | int (i : Int) : Dt C H (.int i) (.int i)
  | str (z : Str) : Dt C H (.str z) (.str z)
  | rat {a dx : Addr} {fs : List (Str × V)} {t b : Int} : H a = some (.ins C dx fs) → fs.lookup ("_top" : Str) = some (V.int t) → fs.lookup ("_bottom" : Str) = some (V.int b) → Dt C H (.ref a) (.rat t b)
  | lst {a : Addr} {xs : List V} {l : List D} : H a = some (.lst xs) → Dts C H xs l → Dt C H (.ref a) (.lst l)
  | tup {a : Addr} {xs : List V} {l : List D} : H a = some (.tup xs) → Dts C H xs l → Dt C H (.ref a) (.tup l)
  | dct {a : Addr} {l : List (Int × Int)} : H a = some (.dK (kvs l)) → Dt C H (.ref a) (.dct l)
  | dl {a b : Addr} {xs : List V} {i : Int} {l : List D} : H a = some (.dK [((Sum.inl i : Key), V.ref b)]) → H b = some (.lst xs) → Dts C H xs l → Dt C H (.ref a) (.dl i l)
inductive Dts (C : Addr) (H : Hp) : List V → List D → Prop
  | nil : Dts C H [] []
  | cons {v : V} {d : D} {xs : List V} {l : List D} : Dt C H v d → Dts C H xs l → Dts C H (v :: xs) (d :: l)
end
theorem Dts.length {C : Addr} {H : Hp} : ∀ {xs : List V} {l : List D}, Dts C H xs l → xs.length = l.length
  | _, _, .nil => rfl
  | _, _, .cons _ h => by simp [h.length]
theorem Dts.at {C : Addr} {H : Hp} : ∀ {xs : List V} {l : List D}, Dts C H xs l → ∀ {i : Nat} {x : V}, xs[i]? = some x → ∃ d, l[i]? = some d ∧ Dt C H x d
  | _, _, .nil, _, _, e => by simp at e
  | _, _, .cons h _, 0, _, e => by
    simp at e
    subst e
    exact ⟨_, rfl, h⟩
  | _, _, .cons _ h, i + 1, x, e => by
    obtain ⟨d, q, r⟩ := h.at (i := i) (x := x) (by simpa using e)
    exact ⟨d, by simpa using q, r⟩
mutual
theorem Dt.same {C : Addr} {H H' : Hp} (s : Same H H') : ∀ {d : D} {v : V}, Dt C H v d → Dt C H' v d
  | _, _, .non => .non
  | _, _, .bl b => .bl b
  | _, _, .int i => .int i
  | _, _, .str z => .str z
  | _, _, .rat h1 h2 h3 => .rat (s _ _ h1) h2 h3
  | _, _, .lst h1 h2 => .lst (s _ _ h1) (h2.same s)
  | _, _, .tup h1 h2 => .tup (s _ _ h1) (h2.same s)
  | _, _, .dct h1 => .dct (s _ _ h1)
  | _, _, .dl h1 h2 h3 => .dl (s _ _ h1) (s _ _ h2) (h3.same s)
theorem Dts.same {C : Addr} {H H' : Hp} (s : Same H H') : ∀ {l : List D} {xs : List V}, Dts C H xs l → Dts C H' xs l
  | _, _, .nil => .nil
  | _, _, .cons h1 h2 => .cons (h1.same s) (h2.same s)
end
theorem kvs_ref {l : List (Int × Int)} {i : Int} {b : Addr} (h : kvs l = [((Sum.inl i : Key), V.ref b)]) : False := by
  match l with
  | [] => simp [kvs] at h
  | (c, d) :: l => simp [kvs] at h
theorem kvs_inj : ∀ {l l' : List (Int × Int)}, kvs l = kvs l' → l = l'
  | [], [], _ => rfl
  | [], _ :: _, h => by simp [kvs] at h
  | _ :: _, [], h => by simp [kvs] at h
  | (a, b) :: l, (c, d) :: l', h => by
    simp only [kvs, List.map_cons, List.cons.injEq, Prod.mk.injEq, Sum.inl.injEq, V.int.injEq] at h
    obtain ⟨⟨rfl, rfl⟩, h⟩ := h
    rw [kvs_inj (l := l) (l' := l') h]
mutual
theorem Dt.uniq {C : Addr} {H : Hp} : ∀ {d d' : D} {v : V}, Dt C H v d → Dt C H v d' → d = d'
  | _, _, _, .non, h => by cases h; rfl
  | _, _, _, .bl b, h => by cases h; rfl
  | _, _, _, .int i, h => by cases h; rfl
  | _, _, _, .str z, h => by cases h; rfl
  | _, _, _, .rat h1 h2 h3, h => by
    cases h with
    | rat g1 g2 g3 =>
      rw [h1] at g1; cases g1
      rw [h2] at g2; cases g2
      rw [h3] at g3; cases g3
      rfl
    | lst g1 _ => rw [h1] at g1; cases g1
    | tup g1 _ => rw [h1] at g1; cases g1
    | dct g1 => rw [h1] at g1; cases g1
    | dl g1 g2 g3 => rw [h1] at g1; cases g1
  | _, _, _, .lst h1 h2, h => by
    cases h with
    | rat g1 g2 g3 => rw [h1] at g1; cases g1
    | lst g1 g2 =>
      rw [h1] at g1; cases g1
      rw [h2.uniq g2]
    | tup g1 _ => rw [h1] at g1; cases g1
    | dct g1 => rw [h1] at g1; cases g1
    | dl g1 g2 g3 => rw [h1] at g1; cases g1
  | _, _, _, .tup h1 h2, h => by
    cases h with
    | rat g1 g2 g3 => rw [h1] at g1; cases g1
    | tup g1 g2 =>
      rw [h1] at g1; cases g1
      rw [h2.uniq g2]
    | lst g1 _ => rw [h1] at g1; cases g1
    | dct g1 => rw [h1] at g1; cases g1
    | dl g1 g2 g3 => rw [h1] at g1; cases g1
  | _, _, _, .dct h1, h => by
    cases h with
    | rat g1 g2 g3 => rw [h1] at g1; cases g1
    | tup g1 g2 => rw [h1] at g1; cases g1
    | lst g1 _ => rw [h1] at g1; cases g1
    | dct g1 =>
      rw [h1] at g1
      have e : kvs _ = kvs _ := HO.dK.inj (Option.some.inj g1)
      rw [kvs_inj e]
    | dl g1 g2 g3 =>
      rw [h1] at g1
      exact (kvs_ref (HO.dK.inj (Option.some.inj g1))).elim
  | _, _, _, .dl h1 h2 h3, h => by
    cases h with
    | rat g1 g2 g3 => rw [h1] at g1; cases g1
    | tup g1 g2 => rw [h1] at g1; cases g1
    | lst g1 _ => rw [h1] at g1; cases g1
    | dct g1 =>
      rw [h1] at g1
      exact (kvs_ref (HO.dK.inj (Option.some.inj g1)).symm).elim
    | dl g1 g2 g3 =>
      rw [h1] at g1; cases g1
      rw [h2] at g2; cases g2
      rw [h3.uniq g3]
theorem Dts.uniq {C : Addr} {H : Hp} : ∀ {l l' : List D} {xs : List V}, Dts C H xs l → Dts C H xs l' → l = l'
  | _, _, _, .nil, h => by cases h; rfl
  | _, _, _, .cons h1 h2, h => by
    cases h with
    | cons g1 g2 => rw [h1.uniq g1, h2.uniq g2]
end

/-! lengths -/
theorem len_int {i : Int} (h : SmallI i) : (toString i : Str).length ≤ 1921 := PyProof.Rows.int_text_len_1921 h
theorem len_list (ts : List Str) : (listText ts).length ≤ 2 + piled ts := by
  cases ts with
  | nil => decide
  | cons t r =>
    have q := textFrom_length_pos r 1 (("[" : Str) ++ (if (0 : Nat) > 0 then ", " else "" : String) ++ t) (Nat.succ_pos 0)
    have e1 : (listText (t :: r)).length = (textFrom 1 (("[" : Str) ++ (if (0 : Nat) > 0 then ", " else "" : String) ++ t) r).length + 1 := by
      show (textFrom 1 (("[" : Str) ++ (if (0 : Nat) > 0 then ", " else "" : String) ++ t) r ++ "]").length = _
      rw [strLen_append]
      rfl
    have e2 : (("[" : Str) ++ (if (0 : Nat) > 0 then ", " else "" : String) ++ t).length = 1 + t.length := by
      rw [strLen_append, strLen_append]
      rfl
    rw [e1, q, e2, piled_cons]
    omega
theorem len_join (ts : List Str) : (Str.join ", " ts).length ≤ piled ts := by
  by_cases h : ts = []
  · subst h
    exact Nat.zero_le _
  · have := join_length_add ts h
    omega
theorem len_tup (ts : List Str) : (tupleText ts).length ≤ 3 + piled ts := by
  unfold tupleText
  rw [strLen_append, strLen_append]
  have q := len_join ts
  have e1 : (("(" : Str)).length = 1 := rfl
  have e3 : ((if ts.length == 1 then ",)" else ")" : String) : Str).length ≤ 2 := by split <;> decide
  rw [e1]
  omega
theorem len_dict (ts : List Str) : (dictText ts).length ≤ 2 + piled ts := by
  unfold dictText
  rw [strLen_append, strLen_append]
  have q := len_join ts
  have e1 : (("{" : Str)).length = 1 := rfl
  have e3 : (("}" : Str)).length = 1 := rfl
  rw [e1, e3]
  omega
theorem len_kv : ∀ (l : List (Int × Int)), (∀ p ∈ l, SmallI p.1 ∧ SmallI p.2) → piled (kvText (kvs l)) ≤ 4000 * l.length
  | [], _ => Nat.zero_le _
  | (a, b) :: l, h => by
    have h1 := h (a, b) (List.Mem.head _)
    have h2 := len_kv l fun p hp => h p (List.Mem.tail _ hp)
    have e : piled (kvText (kvs ((a, b) :: l))) = ((toString a ++ ": " ++ toString b : Str).length + 2) + piled (kvText (kvs l)) := piled_cons _ _
    rw [e, strLen_append, strLen_append]
    have e1 : ((": " : String) : Str).length = 2 := rfl
    have q1 : (toString a : Str).length ≤ 1921 := len_int h1.1
    have q2 : (toString b : Str).length ≤ 1921 := len_int h1.2
    rw [e1, List.length_cons]
    omega
theorem len_rat {t b : Int} (h1 : SmallI t) (h2 : SmallI b) : (ratText t b).length ≤ 4000 := by
  unfold ratText
  rw [strLen_append, strLen_append, strLen_append, strLen_append, strLen_append]
  have q1 := len_int h1
  have q2 := len_int h2
  have e0 : (Str.empty).length = 0 := rfl
  have e1 : (("Ratio(" : String) : Str).length = 6 := rfl
  have e2 : ((", " : String) : Str).length = 2 := rfl
  have e3 : ((")" : String) : Str).length = 1 := rfl
  rw [e0, e1, e2, e3]
  omega
mutual
theorem len_shown : ∀ (d : D), d.ok → d.shown.length ≤ d.len
  | .non, _ => by decide
  | .bl b, _ => by cases b <;> decide
  | .int i, h => len_int h
  | .str z, _ => Nat.le_refl _
  | .rat t b, h => len_rat h.1 h.2
  | .lst l, h => by
    have q := len_showns l h
    have z := len_list (showns l)
    simp only [D.shown, D.len]
    omega
  | .tup l, h => by
    have q := len_showns l h
    have z := len_tup (showns l)
    simp only [D.shown, D.len]
    omega
  | .dct l, h => by
    have q := len_kv l h
    have z := len_dict (kvText (kvs l))
    simp only [D.shown, D.len]
    omega
  | .dl i l, h => by
    obtain ⟨hi, j, rfl, hj⟩ := h
    show (dictText [(toString i ++ ": " ++ listText [(toString j : Str)] : Str)]).length ≤ 8000
    have z := len_dict [(toString i ++ ": " ++ listText [(toString j : Str)] : Str)]
    have z2 := len_list [(toString j : Str)]
    rw [piled_cons] at z z2
    rw [strLen_append, strLen_append] at z
    have e1 : ((": " : String) : Str).length = 2 := rfl
    have e0 : piled ([] : List Str) = 0 := rfl
    have q1 := len_int hi
    have q2 := len_int hj
    rw [e1] at z
    rw [e0] at z z2
    omega
theorem len_showns : ∀ (l : List D), oks l → piled (showns l) ≤ lens l
  | [], _ => Nat.le_refl _
  | d :: l, h => by
    have q1 := len_shown d h.1
    have q2 := len_showns l h.2
    simp only [showns, lens, piled_cons]
    omega
end

/-! writing such values -/
/-- what Ratio's __repr__ promises -/
def spRepr (C : Addr) : Sp := fun vs H Q _ => ∃ (a dx : Addr) (fs : List (Str × V)) (t b : Int), vs = [.ref a] ∧ H a = some (.ins C dx fs) ∧ fs.lookup ("_top" : Str) = some (V.int t) ∧ fs.lookup ("_bottom" : Str) = some (V.int b) ∧ SmallI t ∧ SmallI b ∧ Q (.str (ratText t b)) H
/-- that it stands there -/
structure RatR (P : Program) (w : World) (K : W.Frag) (mg : Str → Option Value) (base : Heap) (C : Addr) (k : Nat) : Prop where
  ex : ∃ (f : Addr) (fd : FuncData), W.findIn K (.ref C) "__repr__" = some (some (.ref f)) ∧ W.isFn K (.ref f) = true ∧ FnOk P w K mg base L2.CX0 k f fd ["self"] (spRepr C) ∧ Binds K fd ["self"] []

section
variable {X : Cx} {C : Addr} {H : Hp} {k : Nat}
def Within_ (C : Addr) (H : Hp) (as : List Addr) (n : Nat) : Prop := ∀ c ∈ as, ∃ d, Dt C H (.ref c) d ∧ sizeOf d ≤ n
theorem Within_.out {as : List Addr} {n : Nat} {a : Addr} {d : D} (h : Within_ C H as n) (ha : Dt C H (.ref a) d) (lt : n < sizeOf d) : a ∉ as := fun hm => by
  obtain ⟨d', h1, h2⟩ := h a hm
  rw [ha.uniq h1] at lt
  omega
theorem Within_.cons {as : List Addr} {n m : Nat} {a : Addr} {d : D} (h : Within_ C H as n) (ha : Dt C H (.ref a) d) (h1 : n ≤ m) (h2 : sizeOf d ≤ m) : Within_ C H (a :: as) m := fun c hc => by
  rcases List.mem_cons.mp hc with rfl | hc
  · exact ⟨d, ha, h2⟩
  · obtain ⟨d', q1, q2⟩ := h c hc
    exact ⟨d', q1, by omega⟩
theorem Within_.nil {n : Nat} : Within_ C H [] n := fun _ h => nomatch h
theorem Within_.append {as bs : List Addr} {n m l : Nat} (h1 : Within_ C H as n) (h2 : Within_ C H bs m) (q1 : n ≤ l) (q2 : m ≤ l) : Within_ C H (as ++ bs) l := fun c hc => by
  rcases List.mem_append.mp hc with hc | hc
  · obtain ⟨d', z1, z2⟩ := h1 c hc
    exact ⟨d', z1, by omega⟩
  · obtain ⟨d', z1, z2⟩ := h2 c hc
    exact ⟨d', z1, by omega⟩
theorem RpAll.more {as as' : List Addr} {lv lv' : Nat} : ∀ {xs : List V} {ts : List Str}, RpAll X H as lv xs ts → (∀ c ∈ as, c ∈ as') → lv ≤ lv' → RpAll X H as' lv' xs ts
  | _, _, .nil, _, _ => .nil
  | _, _, .cons h t, a, b => .cons (h.more a b) (t.more a b)
theorem kv_small : ∀ {l : List (Int × Int)}, (∀ p ∈ l, SmallI p.1 ∧ SmallI p.2) → KvSmall (kvs l)
  | [], _ => trivial
  | (a, b) :: l, h => ⟨(h (a, b) (List.Mem.head _)).1, (h (a, b) (List.Mem.head _)).2, Nat.le_trans (len_int (h (a, b) (List.Mem.head _)).1) (by decide), kv_small fun p hp => h p (List.Mem.tail _ hp)⟩
mutual
theorem rpD (R : RatR X.prog X.w X.K X.mg X.base C k) : ∀ (d : D) (v : V), Dt C H v d → d.ok → d.len ≤ sizeLine → ∃ as, Within_ C H as (sizeOf d) ∧ Rp X H as (k + d.deep) v d.shown
  | .non, _, .non, _, _ => ⟨[], Within_.nil, Rp.non⟩
  | .bl b, _, .bl _, _, _ => ⟨[], Within_.nil, Rp.bl b⟩
  | .int i, _, .int _, h, _ => ⟨[], Within_.nil, Rp.int h⟩
  | .str z, _, .str _, _, h => ⟨[], Within_.nil, Rp.str h⟩
  | .rat t b, _, .rat (a := a) h1 h2 h3, h, _ => by
    obtain ⟨f, fd, r1, r2, r3, r4⟩ := R.ex
    exact ⟨[], Within_.nil, Rp.own h1 r1 r2 r3 r4 fun Q E q => ⟨_, _, _, _, _, rfl, h1, h2, h3, h.1, h.2, q⟩⟩
  | .lst l, _, .lst (a := a) (xs := xs) h1 h2, h, hz => by
    have z : lens l ≤ sizeLine := by simp only [D.len] at hz; omega
    obtain ⟨as, w1, r⟩ := rpL R l xs h2 h z
    have me : Dt C H (.ref a) (.lst l) := .lst h1 h2
    have lt : sizeOf l < sizeOf (D.lst l) := by simp
    refine ⟨a :: as, w1.cons me (Nat.le_of_lt lt) (Nat.le_refl _), ?_⟩
    exact Rp.list (SqL.of h1) (w1.out me lt) r.len r.at
  | .tup l, _, .tup (a := a) (xs := xs) h1 h2, h, hz => by
    have z : lens l ≤ sizeLine := by simp only [D.len] at hz; omega
    obtain ⟨as, w1, r⟩ := rpL R l xs h2 h z
    have me : Dt C H (.ref a) (.tup l) := .tup h1 h2
    have lt : sizeOf l < sizeOf (D.tup l) := by simp
    refine ⟨a :: as, w1.cons me (Nat.le_of_lt lt) (Nat.le_refl _), ?_⟩
    exact Rp.tup (SqT.of h1) (w1.out me lt) r
  | .dct l, _, .dct (a := a) h1, h, _ => ⟨[a], Within_.nil.cons (n := 0) (.dct h1) (Nat.zero_le _) (Nat.le_refl _), Rp.dct h1 (fun z => nomatch z) (kv_small h)⟩
  | .dl i l, _, .dl (a := a) (b := b) h1 h2 h3, h, _ => by
    obtain ⟨hi, j, rfl, hj⟩ := h
    have me : Dt C H (.ref a) (.dl i [.int j]) := .dl h1 h2 h3
    have inn : Dt C H (.ref b) (.lst [.int j]) := .lst h2 h3
    have le : sizeOf (D.lst [.int j]) ≤ sizeOf (D.dl i [.int j]) := by simp
    have nab : a ∉ [b] := fun z => by
      rw [List.mem_singleton.1 z, h2] at h1
      cases h1
    have hx : H b = some (.lst [.int j]) := by
      cases h3 with
      | cons g t =>
        cases t
        cases g
        exact h2
    exact ⟨[a, b], (Within_.nil.cons (n := 0) (m := sizeOf (D.dl i [.int j])) inn (Nat.zero_le _) le).cons me (Nat.le_refl _) (Nat.le_refl _), Rp.dl h1 hx nab (fun z => nomatch z) hi hj⟩
theorem rpL (R : RatR X.prog X.w X.K X.mg X.base C k) : ∀ (l : List D) (xs : List V), Dts C H xs l → oks l → lens l ≤ sizeLine → ∃ as, Within_ C H as (sizeOf l) ∧ RpAll X H as (k + deeps l) xs (showns l)
  | [], _, .nil, _, _ => ⟨[], Within_.nil, .nil⟩
  | d :: l, _, .cons (v := v) (xs := xs) h1 h2, h, hz => by
    have z1 : d.len ≤ sizeLine := by simp only [lens] at hz; omega
    have z2 : lens l ≤ sizeLine := by simp only [lens] at hz; omega
    obtain ⟨as, w1, r1⟩ := rpD R d v h1 h.1 z1
    obtain ⟨bs, w2, r2⟩ := rpL R l xs h2 h.2 z2
    have q1 : sizeOf d ≤ sizeOf (d :: l) := by simp; omega
    have q2 : sizeOf l ≤ sizeOf (d :: l) := by simp
    refine ⟨as ++ bs, w1.append w2 q1 q2, .cons (r1.more (fun c hc => List.mem_append_left _ hc) ?_) (r2.more (fun c hc => List.mem_append_right _ hc) ?_)⟩
    · simp only [deeps]; omega
    · simp only [deeps]; omega
end
theorem rcD (R : RatR X.prog X.w X.K X.mg X.base C k) : ∀ (d : D) (v : V), Dt C H v d → d.ok → d.len ≤ sizeLine → ∃ as, Rc X H as (k + d.deep + 1) v d.shown
  | .non, _, .non, _, _ => ⟨[], Rc.non⟩
  | .bl b, _, .bl _, _, _ => ⟨[], Rc.bl b⟩
  | .int i, _, .int _, h, _ => ⟨[], Rc.int h⟩
  | .str z, _, .str _, _, h => ⟨[], Rc.str⟩
  | .rat t b, _, .rat (a := a) h1 h2 h3, h, _ => by
    obtain ⟨f, fd, r1, r2, r3, r4⟩ := R.ex
    exact ⟨[], Rc.own h1 r1 r2 r3 r4 fun Q E q => ⟨_, _, _, _, _, rfl, h1, h2, h3, h.1, h.2, q⟩⟩
  | .lst l, _, .lst (a := a) (xs := xs) h1 h2, h, hz => by
    have z : lens l ≤ sizeLine := by simp only [D.len] at hz; omega
    obtain ⟨as, w1, r⟩ := rpL R l xs h2 h z
    exact ⟨a :: as, Rc.list (SqL.of h1) (w1.out (.lst h1 h2) (by simp)) r.len r.at⟩
  | .tup l, _, .tup (a := a) (xs := xs) h1 h2, h, hz => by
    have z : lens l ≤ sizeLine := by simp only [D.len] at hz; omega
    obtain ⟨as, w1, r⟩ := rpL R l xs h2 h z
    exact ⟨a :: as, Rc.tup (SqT.of h1) (w1.out (.tup h1 h2) (by simp)) r⟩
  | .dct l, _, .dct (a := a) h1, h, _ => ⟨[a], Rc.dct h1 (fun z => nomatch z) (kv_small h)⟩
  | .dl i l, _, .dl (a := a) (b := b) h1 h2 h3, h, _ => by
    obtain ⟨hi, j, rfl, hj⟩ := h
    have me : Dt C H (.ref a) (.dl i [.int j]) := .dl h1 h2 h3
    have inn : Dt C H (.ref b) (.lst [.int j]) := .lst h2 h3
    have le : sizeOf (D.lst [.int j]) ≤ sizeOf (D.dl i [.int j]) := by simp
    have nab : a ∉ [b] := fun z => by
      rw [List.mem_singleton.1 z, h2] at h1
      cases h1
    have hx : H b = some (.lst [.int j]) := by
      cases h3 with
      | cons g t =>
        cases t
        cases g
        exact h2
    exact ⟨[a, b], Rc.dl h1 hx nab (fun z => nomatch z) hi hj⟩

/-- repr(x) in a body, where no writing is under way -/
def rRepr (C : Addr) (n : Nat) : List V → Hp → VK → Prop := fun xs H Q => ∃ x d, xs = [x] ∧ Dt C H x d ∧ d.ok ∧ d.len ≤ sizeLine ∧ d.deep ≤ n ∧ Q (.str d.shown) H
theorem call_repr {n : Nat} (R : RatR X.prog X.w X.K X.mg X.base C k) (gd : X.A.guards = some []) (hr : Room (k + n + 1) X.A) : CallR X (.builtin "repr") (rRepr C n) := by
  intro pins s σ H xs us Q I r h
  obtain ⟨x, d, rfl, hd, ho, hl, hn, q⟩ := h
  obtain ⟨u, rfl, ru⟩ := vals1 r
  obtain ⟨as, rc⟩ := rcD R d x hd ho hl
  exact rc X.A [] pins σ s u _ _ I.ok.frames gd (fun a _ => Clear.nil a) (hr.mono (by omega)) I ru (Nat.le_trans (len_shown d ho) hl) fun s' tk I' => ⟨.str d.shown, H, I', ⟨tk, rfl⟩, q⟩
end
end TW

set_option Elab.async false
set_option linter.all false
set_option maxRecDepth 100000
set_option maxHeartbeats 2000000
namespace TW
open PySem L2

theorem same_new {H : Hp} {p : Addr} {o : HO} (h : H p = none) : Same H (upd H p o) := fun b x e => by
  rw [upd_ne (ne_of_none e h)]
  exact e
theorem Same.tup {K : W.Frag} {H H' : Hp} {a : Addr} {xs : List V} (e : Same H H') (h : SqT K H a xs) : SqT K H' a xs := by
  rcases h with (h | ⟨o, h⟩) | h
  · exact .inl (.inl (e _ _ h))
  · exact .inl (.inr ⟨o, e _ _ h⟩)
  · exact .inr h
/-- a list or a tuple -/
def Sq (K : W.Frag) (H : Hp) (a : Addr) (xs : List V) : Prop := SqL K H a xs ∨ SqT K H a xs
theorem Sq.same {K : W.Frag} {H H' : Hp} {a : Addr} {xs : List V} (e : Same H H') (h : Sq K H a xs) : Sq K H' a xs := h.elim (fun z => .inl (e.seq z)) fun z => .inr (Same.tup e z)

/-! walking what is a list or a tuple -/
section
variable {X : Cx} {tg it : Expr} {tl : TE}
theorem PI.or {wi wi' : TI} (h : PI X tg it wi) (h' : PI X tg it wi') : PI X tg it (fun σ H R => wi σ H R ∨ wi' σ H R) :=
  ⟨fun pins s σ H R I q => q.elim (h.run pins s σ H R I) (h'.run pins s σ H R I)⟩
abbrev iSeq (K : W.Frag) (tl : TE) : TI := fun σ H R => iList K tl σ H R ∨ iTup K tl σ H R
theorem pi_seq (h : PE X it tl) : PI X tg it (iSeq X.K tl) := PI.or (pi_list h) (pi_tup h)
end


/-- the heap without D -/
def off (D : Addr) (H : Hp) : Hp := fun b => if b = D then none else H b
theorem off_ne {D b : Addr} {H : Hp} (h : b ≠ D) : off D H b = H b := if_neg h
theorem off_same {D : Addr} {H : Hp} : Same (off D H) H := fun b o e => by
  by_cases z : b = D
  · rw [show off D H b = none from if_pos z] at e
    cases e
  · rw [off_ne z] at e
    exact e
theorem off_off {D : Addr} {H1 H2 : Hp} (h : ∀ b o, H1 b = some o → b ≠ D → H2 b = some o) : Same (off D H1) (off D H2) := fun b o e => by
  by_cases z : b = D
  · rw [show off D H1 b = none from if_pos z] at e
    cases e
  · rw [off_ne z] at e
    rw [off_ne z]
    exact h b o e z

section
variable {te : TE} {i : Nat} {σ : L2.St} {H : Hp} {xs : List V} {D : Addr}
def PvC (H : Hp) (P : Nat → V → Hp → Prop) (D : Addr) (k : Nat) (H' : Hp) : Prop := Same H H' ∧ ∃ ys, H' D = some (.lst ys) ∧ ys.length = k ∧ ∀ m y, ys[m]? = some y → P m y (off D H')
theorem comp_turn (P : Nat → V → Hp → Prop) (mono : ∀ k y H1 H2, Same H1 H2 → P k y H1 → P k y H2) (hD : H D = none) (hl : xs.length ≤ sizeLine)
    (el : ∀ (k : Nat) (x : V) (H' : Hp) (R : VK), xs[k]? = some x → Same H H' → (∀ y H2, Same H' H2 → (∀ D, H D = none → H' D ≠ none → P k y (off D H2)) → R y H2) → te ((wipe σ [i]).set i (some x)) H' R) :
    ∀ k x H', xs[k]? = some x → PvC H P D k H' → gName i x (wipe σ [i]) H' fun σ2 H2 => wipe σ2 [i] = wipe σ [i] ∧ tYes σ2 H2 fun b H3 =>
      if b = true then te σ2 H3 fun y H4 => ∃ acc, H4 D = some (.lst acc) ∧ acc.length < sizeLine ∧ PvC H P D (k + 1) (upd H4 D (.lst (acc ++ [y]))) else PvC H P D (k + 1) H3 := by
  rintro k x H' hx ⟨s1, ys, e1, e2, e3⟩
  have hk : k < xs.length := by
    rcases Nat.lt_or_ge k xs.length with z | z
    · exact z
    · rw [List.getElem?_eq_none z] at hx; cases hx
  refine ⟨?_, ?_⟩
  · show (((σ.set i none).set i (some x)).set i none) = (σ.set i none)
    rw [List.set_set, List.set_set]
  · show if true = true then te ((wipe σ [i]).set i (some x)) H' (fun y H4 => ∃ acc, H4 D = some (.lst acc) ∧ acc.length < sizeLine ∧ PvC H P D (k + 1) (upd H4 D (.lst (acc ++ [y])))) else PvC H P D (k + 1) H'
    rw [if_pos rfl]
    refine el k x H' _ hx s1 fun y H2 s2 p => ?_
    refine ⟨ys, s2 _ _ e1, by omega, fun b o e => ?_, ys ++ [y], upd_same, by simp [e2], fun m z hz => ?_⟩
    · rw [upd_ne (ne_of_none e hD)]
      exact s2 _ _ (s1 _ _ e)
    · rcases Nat.lt_or_ge m ys.length with lt | ge
      · rw [List.getElem?_append_left lt] at hz
        refine mono _ _ _ _ (off_off fun b o e hb => ?_) (e3 m z hz)
        rw [upd_ne hb]
        exact s2 _ _ e
      · rw [List.getElem?_append_right ge] at hz
        have em : m - ys.length = 0 := by
          rcases Nat.eq_zero_or_pos (m - ys.length) with q | q
          · exact q
          · rw [List.getElem?_eq_none (by simp; omega)] at hz; cases hz
        rw [em] at hz
        cases (show some y = some z from hz)
        have ek : m = k := by omega
        subst ek
        refine mono _ _ _ _ (off_off fun b o e hb => ?_) (p D hD (by rw [e1]; simp))
        rw [upd_ne hb]
        exact e

/-- [e for x in l], l a list or tuple at slot j: each element by P, which stays; nothing that stood is changed -/
theorem comp_seq {K : W.Frag} {j : Nat} {Q : VK} {a : Addr} (P : Nat → V → Hp → Prop) (mono : ∀ k y H1 H2, Same H1 H2 → P k y H1 → P k y H2)
    (hj : σ[j]? = some (some (.ref a))) (hs : Sq K H a xs) (hl : xs.length ≤ sizeLine)
    (el : ∀ (k : Nat) (x : V) (H' : Hp) (R : VK), xs[k]? = some x → Same H H' → (∀ y H2, Same H' H2 → (∀ D, H D = none → H' D ≠ none → P k y (off D H2)) → R y H2) → te ((wipe σ [i]).set i (some x)) H' R)
    (fin : ∀ (D : Addr) (ys : List V) (H' : Hp), H D = none → Same H H' → H' D = some (.lst ys) → ys.length = xs.length → (∀ k y, ys[k]? = some y → P k y H') → Q (.ref D) H') :
    tLc (iSeq K (tVar j)) (gName i) tYes te [i] σ H Q := by
  have start : ∀ D, H D = none → PvC H P D 0 (upd H D (.lst [])) := fun D hD => ⟨same_new hD, [], upd_same, rfl, fun m y e => by simp at e⟩
  have done : ∀ D, H D = none → ∀ H', PvC H P D xs.length H' → Q (.ref D) H' := fun D hD H' ⟨s1, ys, e1, e2, e3⟩ => fin D ys H' hD s1 e1 e2 fun k y e => mono _ _ _ _ off_same (e3 k y e)
  rcases hs with hs | hs
  · exact .inl ⟨.ref a, hj, a, rfl, ⟨xs, hs⟩, fun D hD => lc_list (K := K) (a := a) (xs := xs) (PvC H P D) (start D hD) (fun k H' _ p => p.1.seq hs) (comp_turn P mono hD hl el) (done D hD)⟩
  · exact .inr ⟨.ref a, hj, a, rfl, ⟨xs, hs⟩, fun D hD => lc_tup (K := K) (a := a) (xs := xs) (PvC H P D) (start D hD) (fun k H' _ p => Same.tup p.1 hs) (comp_turn P mono hD hl el) (done D hD)⟩
end

/-- a comprehension whose elements are written values, by their place -/
theorem comp_vals {te : TE} {i : Nat} {σ : L2.St} {H : Hp} {xs : List V} {K : W.Frag} {j : Nat} {Q : VK} {a : Addr} (f : Nat → V)
    (hj : σ[j]? = some (some (.ref a))) (hs : Sq K H a xs) (hl : xs.length ≤ sizeLine)
    (el : ∀ (k : Nat) (x : V) (H' : Hp) (R : VK), xs[k]? = some x → Same H H' → (∀ H2, Same H' H2 → R (f k) H2) → te ((wipe σ [i]).set i (some x)) H' R)
    (fin : ∀ (D : Addr) (H' : Hp), H D = none → Same H H' → H' D = some (.lst ((List.range xs.length).map f)) → Q (.ref D) H') :
    tLc (iSeq K (tVar j)) (gName i) tYes te [i] σ H Q := by
  refine comp_seq (fun k y _ => y = f k) (fun _ _ _ _ _ h => h) hj hs hl (fun k x H' R hx s1 q => el k x H' R hx s1 fun H2 s2 => q _ H2 s2 fun _ _ _ => rfl) fun D ys H' hD s1 e1 e2 e3 => ?_
  have e : ys = (List.range xs.length).map f := by
    refine List.ext_getElem? fun k => ?_
    rcases Nat.lt_or_ge k ys.length with lt | ge
    · have q : ys[k]? = some ys[k] := List.getElem?_eq_getElem lt
      rw [q, List.getElem?_map, List.getElem?_range (by omega), e3 k _ q]
      rfl
    · rw [List.getElem?_eq_none ge, List.getElem?_eq_none (by simp; omega)]
  rw [e] at e1
  exact fin D H' hD s1 e1
end TW

set_option Elab.async false
set_option linter.all false
set_option maxRecDepth 100000
set_option maxHeartbeats 2000000
namespace TW
open PySem L2 Builtin
/-! an operator by the class's own method -/
/-- the class C does this by the def at f -/
structure Own (K : W.Frag) (C f : Addr) (name : Str) : Prop where
  at_ : W.findIn K (.ref C) name = some (some (.ref f))
  fn : W.isFn K (.ref f) = true
def rOwn (C : Addr) (sp : Sp) (E : XK) : R2 := fun x y H Q => ∃ a b dx dy fs gs, x = .ref a ∧ y = .ref b ∧ H a = some (.ins C dx fs) ∧ H b = some (.ins C dy gs) ∧ sp [x, y] H (fun v H' => (∃ p, v = .ref p) ∧ Q v H') E
def rOwnI (C : Addr) (sp : Sp) (E : XK) : R2 := fun x y H Q => ∃ a i dx fs, x = .ref a ∧ y = .int i ∧ H a = some (.ins C dx fs) ∧ sp [x, y] H (fun v H' => (∃ p, v = .ref p) ∧ Q v H') E
def rOwnU (C : Addr) (sp : Sp) (E : XK) : V → Hp → VK → Prop := fun x H Q => ∃ a dx fs, x = .ref a ∧ H a = some (.ins C dx fs) ∧ sp [x] H Q E
section
variable {X : Cx} {CX : CXT} {k : Nat} {f C : Addr} {fd : FuncData} {sp : Sp} {E : XK}
theorem op_own {op : Operator} (O : Own X.K C f (PySem.dunder op.info.2)) (hc : W.selfFirst X.K C = true) (F : FnOk X.prog X.w X.K X.mg X.base CX k f fd ["self", "other"] sp) (hr : Room k X.A) (hb : Binds X.K fd ["self", "other"] []) (hx : Passes CX X E) :
    OpR X (binaryOp op) (rOwn C sp E) := by
  intro pins s σ H x y v u Q I rx ry h
  obtain ⟨a, b, dx, dy, fs, gs, rfl, rfl, ha, hbb, q⟩ := h
  cases (show v = Value.ref a from rx)
  cases (show u = Value.ref b from ry)
  obtain ⟨mA, Oa, _⟩ := ins_get I.hok ha
  obtain ⟨od, J, _⟩ := Oa.look
  obtain ⟨mB, Ob, _⟩ := ins_get I.hok hbb
  obtain ⟨od', J', _⟩ := Ob.look
  obtain ⟨m, Fm⟩ := I.fr
  refine W.binop_K Fm I.ok.mod.kin J J'.type hc O.at_ O.fn ?_
  refine wpAny_mono (run_fn (vs := [.ref a, .ref b]) F hr hb .nil hx I (.cons rfl (.cons rfl .nil)) q) (fun r s' z => ?_) fun _ _ z => z
  obtain ⟨w, H', I', rw', ⟨p, rfl⟩, q'⟩ := z
  cases (show r = Value.ref p from rw')
  exact ⟨.ref p, H', I', rfl, q'⟩
/-- the other one an INTEGER -/
structure OwnI (K : W.Frag) (C : Addr) (nm : String) : Prop where
  r : ∃ rc, W.findIn K (.ref C) (PySem.dunderR nm) = some rc ∧ (rc = none ∨ ∃ g : Addr, rc = some (.ref g))
  i : ∃ fo, W.findIn K (.type "int") (PySem.dunder nm) = some fo
  j : ∃ ro, W.findIn K (.type "int") (PySem.dunderR nm) = some ro
  s : W.subIn K (.type "int") (.ref C) = some false
theorem op_ownI {op : Operator} (O : Own X.K C f (PySem.dunder op.info.2)) (OI : OwnI X.K C op.info.2) (hc : W.selfFirst X.K C = true) (F : FnOk X.prog X.w X.K X.mg X.base CX k f fd ["self", "other"] sp) (hr : Room k X.A) (hb : Binds X.K fd ["self", "other"] []) (hx : Passes CX X E) :
    OpR X (binaryOp op) (rOwnI C sp E) := by
  intro pins s σ H x y v u Q I rx ry h
  obtain ⟨a, i, dx, fs, rfl, rfl, ha, q⟩ := h
  cases (show v = Value.ref a from rx)
  obtain ⟨t, rfl⟩ := (show ∃ t, u = Value.int i t from ry)
  obtain ⟨mA, Oa, _⟩ := ins_get I.hok ha
  obtain ⟨od, J, _⟩ := Oa.look
  obtain ⟨m, Fm⟩ := I.fr
  obtain ⟨rc, e1, e2⟩ := OI.r
  obtain ⟨fo, e3⟩ := OI.i
  obtain ⟨ro, e4⟩ := OI.j
  refine W.ksp_binT Fm I.ok.mod.kin J rfl hc O.at_ O.fn e1 e2 e3 e4 OI.s ?_
  refine wpAny_mono (run_fn (vs := [.ref a, .int i]) F hr hb .nil hx I (.cons rfl (.cons ⟨t, rfl⟩ .nil)) q) (fun r s' z => ?_) fun _ _ z => z
  obtain ⟨w, H', I', rw', ⟨p, rfl⟩, q'⟩ := z
  cases (show r = Value.ref p from rw')
  exact ⟨.ref p, H', I', rfl, q'⟩
theorem un_ownNeg (O : Own X.K C f "__neg__") (F : FnOk X.prog X.w X.K X.mg X.base CX k f fd ["self"] sp) (hr : Room k X.A) (hb : Binds X.K fd ["self"] []) (hx : Passes CX X E) : UnR X (unaryOp .USub) (rOwnU C sp E) := by
  intro pins s σ H x v Q I rx h
  obtain ⟨a, dx, fs, rfl, ha, q⟩ := h
  cases (show v = Value.ref a from rx)
  obtain ⟨mA, Oa, _⟩ := ins_get I.hok ha
  obtain ⟨od, J, _⟩ := Oa.look
  obtain ⟨m, Fm⟩ := I.fr
  exact W.ksp_neg Fm I.ok.mod.kin J O.at_ O.fn (run_fn (vs := [.ref a]) F hr hb .nil hx I (.cons rfl .nil) q)
end
end TW

set_option Elab.async false
set_option linter.all false
set_option maxRecDepth 100000
set_option maxHeartbeats 2000000
namespace TW
open PySem L2
/-! fractions: what a division by the common part, with the bottom's sign, brings -/
def comm (t b : Int) : Int := if b < 0 then -((Nat.gcd t.natAbs b.natAbs : Nat) : Int) else ((Nat.gcd t.natAbs b.natAbs : Nat) : Int)
theorem num_comm {t b : Int} (h : b ≠ 0) : t.fdiv (comm t b) = (Rat.divInt t b).num := by
  rw [Rat.num_divInt]
  have g : Int.gcd b t = Nat.gcd t.natAbs b.natAbs := Nat.gcd_comm _ _
  rw [g]
  unfold comm
  by_cases c : b < 0
  · rw [if_pos c, Int.sign_eq_neg_one_of_neg c]
    have e := Int.neg_fdiv_neg (-t) ((Nat.gcd t.natAbs b.natAbs : Nat) : Int)
    rw [Int.neg_neg] at e
    rw [e, Int.fdiv_eq_ediv_of_nonneg _ (Int.natCast_nonneg _)]
    congr 1
    omega
  · rw [if_neg c, Int.sign_eq_one_of_pos (by omega), Int.one_mul, Int.fdiv_eq_ediv_of_nonneg _ (Int.natCast_nonneg _)]
theorem den_comm {t b : Int} (h : b ≠ 0) : b.fdiv (comm t b) = ((Rat.divInt t b).den : Int) := by
  rw [Rat.den_divInt, if_neg h]
  have g : Int.gcd b t = Nat.gcd t.natAbs b.natAbs := Nat.gcd_comm _ _
  rw [g]
  unfold comm
  by_cases c : b < 0
  · rw [if_pos c]
    have e := Int.neg_fdiv_neg (b.natAbs : Int) ((Nat.gcd t.natAbs b.natAbs : Nat) : Int)
    have e2 : -(b.natAbs : Int) = b := by omega
    rw [e2] at e
    rw [e, ← Int.ofNat_fdiv]
  · rw [if_neg c]
    have e2 : (b.natAbs : Int) = b := by omega
    rw [← e2, ← Int.ofNat_fdiv]
    rw [Int.natAbs_natCast]
theorem comm_ne {t b : Int} (h : b ≠ 0) : comm t b ≠ 0 := by
  have : 0 < Nat.gcd t.natAbs b.natAbs := Nat.gcd_pos_of_pos_right _ (by omega)
  unfold comm
  split <;> omega
theorem comm_le {t b : Int} (h : b ≠ 0) : (comm t b).natAbs ≤ b.natAbs := by
  have := Nat.gcd_le_right t.natAbs (n := b.natAbs) (by omega)
  unfold comm
  split <;> omega
theorem log2_mono {m n : Nat} (h : m ≤ n) : m.log2 ≤ n.log2 := by
  by_cases z : m = 0
  · rw [z]
    exact Nat.zero_le _
  · exact (Nat.le_log2 (by omega)).2 (Nat.le_trans (Nat.log2_self_le z) h)
theorem rat_add (p q : Rat) : p + q = Rat.divInt (p.num * q.den + q.num * p.den) (p.den * q.den) := by
  have hp : (p.den : Int) ≠ 0 := Int.natCast_ne_zero.2 p.den_nz
  have hq : (q.den : Int) ≠ 0 := Int.natCast_ne_zero.2 q.den_nz
  have e := Rat.divInt_add_divInt p.num q.num hp hq
  rw [Rat.num_divInt_den, Rat.num_divInt_den] at e
  exact e
theorem rat_mul (p q : Rat) : p * q = Rat.divInt (p.num * q.num) (p.den * q.den) := by
  have e := Rat.divInt_mul_divInt p.num q.num (d₁ := p.den) (d₂ := q.den)
  rw [Rat.num_divInt_den, Rat.num_divInt_den] at e
  exact e
/-- // by any divisor of at most 9000 bits -/
def CDivS (_ j : Int) : Prop := j ≠ 0 ∧ j.natAbs.log2 < 9000
section
variable {X : Cx}
open PySem.Spec PyProof.Rows in
theorem op_fdivS : OpR X (binaryOp .FloorDiv) (rI CDivS fun i j => .int (i.fdiv j)) := opI fun _ _ _ _ _ _ _ hc q => floordiv_int hc.1 q (.inl (PyProof.noPylong_of_log2 hc.2))
end
/-- the instance of C at a is the fraction q -/
def RatAt (C : Addr) (H : Hp) (a : Addr) (q : Rat) : Prop := ∃ dx fs, H a = some (.ins C dx fs) ∧ fs.lookup ("_top" : Str) = some (V.int q.num) ∧ fs.lookup ("_bottom" : Str) = some (V.int q.den) ∧ ∀ m : Str, m ≠ "_top" → m ≠ "_bottom" → fs.lookup m = none
theorem RatAt.same {C : Addr} {H H' : Hp} {a : Addr} {q : Rat} (s : Same H H') (h : RatAt C H a q) : RatAt C H' a q := by
  obtain ⟨dx, fs, e, t, b, z⟩ := h
  exact ⟨dx, fs, s _ _ e, t, b, z⟩
/-- a NUMBER and its worth -/
def NumAt (C : Addr) (H : Hp) (x : V) (q : Rat) : Prop := (∃ i : Int, x = .int i ∧ q = (i : Rat)) ∨ ∃ a, x = .ref a ∧ RatAt C H a q
theorem NumAt.same {C : Addr} {H H' : Hp} {x : V} {q : Rat} (s : Same H H') (h : NumAt C H x q) : NumAt C H' x q := h.elim .inl fun ⟨a, e, r⟩ => .inr ⟨a, e, r.same s⟩
/-- so many bits at most, above and below -/
def Bits (n : Nat) (q : Rat) : Prop := q.num.natAbs < 2 ^ n ∧ q.den < 2 ^ n
theorem Bits.mono {n m : Nat} {q : Rat} (h : Bits n q) (hm : n ≤ m) : Bits m q := ⟨Nat.lt_of_lt_of_le h.1 (Nat.pow_le_pow_right (by decide) hm), Nat.lt_of_lt_of_le h.2 (Nat.pow_le_pow_right (by decide) hm)⟩
theorem divInt_bits {n : Nat} {t b : Int} (h : b ≠ 0) (ht : t.natAbs < 2 ^ n) (hb : b.natAbs < 2 ^ n) : Bits n (Rat.divInt t b) := by
  refine ⟨?_, ?_⟩
  · rw [Rat.num_divInt]
    refine Nat.lt_of_le_of_lt (Int.natAbs_ediv_le_natAbs _ _) (Nat.lt_of_le_of_lt ?_ ht)
    rw [Int.natAbs_mul]
    have : b.sign.natAbs = 1 := Int.natAbs_sign_of_ne_zero h
    rw [this]
    omega
  · rw [Rat.den_divInt, if_neg h]
    exact Nat.lt_of_le_of_lt (Nat.div_le_self _ _) hb
theorem lt_log2 {x n : Nat} (h : x < 2 ^ n) (hn : 0 < n) : x.log2 < n := by
  by_cases z : x = 0
  · rw [z]
    exact hn
  · exact (Nat.log2_lt z).2 h
theorem pow_mul_lt {x y a b : Nat} (hx : x < 2 ^ a) (hy : y < 2 ^ b) : x * y < 2 ^ (a + b) := by
  rw [Nat.pow_add]
  rcases Nat.eq_zero_or_pos y with z | z
  · rw [z, Nat.mul_zero]
    exact Nat.mul_pos (Nat.pow_pos (by decide)) (Nat.pow_pos (by decide))
  · exact Nat.lt_of_lt_of_le (Nat.mul_lt_mul_of_pos_right hx z) (Nat.mul_le_mul_left _ (Nat.le_of_lt hy))
theorem bits_add {n m : Nat} {p q : Rat} (hp : Bits n p) (hq : Bits m q) : Bits (n + m + 1) (p + q) := by
  rw [rat_add]
  have d : (p.den : Int) * q.den ≠ 0 := Int.mul_ne_zero (Int.natCast_ne_zero.2 p.den_nz) (Int.natCast_ne_zero.2 q.den_nz)
  refine divInt_bits d ?_ ?_
  · have h1 : (p.num * q.den).natAbs < 2 ^ (n + m) := by
      rw [Int.natAbs_mul, Int.natAbs_natCast]
      exact pow_mul_lt hp.1 hq.2
    have h2 : (q.num * p.den).natAbs < 2 ^ (n + m) := by
      rw [Int.natAbs_mul, Int.natAbs_natCast, Nat.add_comm]
      exact pow_mul_lt hq.1 hp.2
    have h3 := Int.natAbs_add_le (p.num * q.den) (q.num * p.den)
    have h4 : 2 ^ (n + m + 1) = 2 ^ (n + m) * 2 := Nat.pow_succ ..
    omega
  · rw [Int.natAbs_mul, Int.natAbs_natCast, Int.natAbs_natCast]
    have := pow_mul_lt hp.2 hq.2
    have h4 : 2 ^ (n + m + 1) = 2 ^ (n + m) * 2 := Nat.pow_succ ..
    omega
theorem bits_mul {n m : Nat} {p q : Rat} (hp : Bits n p) (hq : Bits m q) : Bits (n + m) (p * q) := by
  rw [rat_mul]
  have d : (p.den : Int) * q.den ≠ 0 := Int.mul_ne_zero (Int.natCast_ne_zero.2 p.den_nz) (Int.natCast_ne_zero.2 q.den_nz)
  refine divInt_bits d ?_ ?_
  · rw [Int.natAbs_mul]
    exact pow_mul_lt hp.1 hq.1
  · rw [Int.natAbs_mul, Int.natAbs_natCast, Int.natAbs_natCast]
    exact pow_mul_lt hp.2 hq.2
end TW

set_option Elab.async false
set_option linter.all false
set_option maxRecDepth 100000
set_option maxHeartbeats 2000000
namespace TW
open PySem L2
/-! an int on the left, an instance on the right -/
section
variable {prog : Program} {w : World} {A : Around} {E : Value → Shared → Prop} {s : Shared} {i : Int} {t : Tok} {x C dx : Addr}
theorem asInt_inst {Q : Option Int → Shared → Prop} (hx : s.heap.get? x = some (W.instObj C dx)) (q : Q none s) : wpAny (model prog w) A (asInt? (.ref x)) Q E s := by
  unfold asInt?
  refine wpAny_bind ?_
  refine (W.Looks.ld (part := none) hx) A _ E s (fun _ _ e => e) ?_
  exact wpAny_pure q
theorem intBin_no {nm : String} {f : Int → Int → Sem Fin} {Q : Fin → Shared → Prop} (hx : s.heap.get? x = some (W.instObj C dx)) (q : Q (.done (.ret .notImplemented)) s) :
    wpAny (model prog w) A (Builtin.Int.intBinary nm f false { pos := [.int i t, .ref x] }) Q E s := by
  unfold Builtin.Int.intBinary
  refine wpAny_bind ?_
  refine wpAny_mono (Q := fun r s' => r = (Value.int i t, [Value.ref x]) ∧ s' = s) (E := E) ?_ (fun r s' h => ?_) fun _ _ z => z
  · exact wpAny_pure ⟨rfl, rfl⟩
  obtain ⟨rfl, rfl⟩ := h
  refine wpAny_bind ?_
  refine wpAny_mono (Q := fun r s'' => s'' = s') (E := E) ?_ (fun r s'' h => ?_) fun _ _ z => z
  · exact wpAny_pure rfl
  subst h
  refine wpAny_bind ?_
  refine asInt_inst hx ?_
  refine wpAny_bind (wpAny_rule ?_)
  exact wpAny_pure q
theorem add_no {Q : Value → Shared → Prop} (hx : s.heap.get? x = some (W.instObj C dx)) (q : Q .notImplemented s) : wpAny (model prog w) A (call (.builtin "int.__add__") [.int i t, .ref x]) Q E s :=
  wpAny_call_entry F.slot_int_add rfl F.entry_int_add (intBin_no hx ⟨_, rfl, q⟩)
theorem sub_no {Q : Value → Shared → Prop} (hx : s.heap.get? x = some (W.instObj C dx)) (q : Q .notImplemented s) : wpAny (model prog w) A (call (.builtin "int.__sub__") [.int i t, .ref x]) Q E s :=
  wpAny_call_entry F.slot_int_sub rfl F.entry_int_sub (intBin_no hx ⟨_, rfl, q⟩)
theorem mul_no {Q : Value → Shared → Prop} (hx : s.heap.get? x = some (W.instObj C dx)) (q : Q .notImplemented s) : wpAny (model prog w) A (call (.builtin "int.__mul__") [.int i t, .ref x]) Q E s :=
  wpAny_call_entry F.slot_int_mul rfl F.entry_int_mul (intBin_no hx ⟨_, rfl, q⟩)
theorem bin1_refl {K : W.Frag} {od : Obj} {nm id : String} {f g : Addr} {fo ro : Option Value} {Q : Value → Shared → Prop} (hK : K.In s.heap) (hx : s.heap.get? x = some (W.instObj C dx)) (J : W.InstAt s.heap x (W.instObj C dx) C (some od)) (hf : W.selfFirst K C = true)
    (hl : W.findIn K (.ref C) (dunder nm) = some (some (.ref g))) (hr : W.findIn K (.ref C) (dunderR nm) = some (some (.ref f))) (fn : W.isFn K (.ref f) = true)
    (hi : W.findIn K (.type "int") (dunder nm) = some fo) (hj : W.findIn K (.type "int") (dunderR nm) = some ro) (hb : (fo.isSome && !isSeqSlot fo || ro.isSome && !isSeqSlot ro) = true) (sub : W.subIn K (.ref C) (.type "int") = some false)
    (slot : Slot "int" (dunder nm) id) (no : ∀ {A : Around} {s : Shared} {Q : Value → Shared → Prop}, s.heap.get? x = some (W.instObj C dx) → Q .notImplemented s → wpAny (model prog w) A (call (.builtin id) [.int i t, .ref x]) Q E s)
    (h : wpAny (model prog w) A (call (.ref f) [.ref x, .int i t]) (W.CmpBack Q) E s) : wpAny (model prog w) A (binaryOp1 nm (.int i t) (.ref x)) (fun r s' => ∃ v, r = some v ∧ Q v s') E s := by
  obtain ⟨cd, rest, h1, h2⟩ := W.ksp_first hf
  have id' : ∀ (b : Addr) (o : Obj), s.heap.get? b = some o → s.heap.get? b = some o := fun _ _ e => e
  unfold binaryOp1
  refine wpAny_bind (wpAny_pure (a := Value.type "int") ?_)
  refine wpAny_bind (J.type A _ E s id' ?_)
  refine wpAny_bind (W.ksp_fillsT hK hi hj A _ E s id' ?_)
  rw [hb]
  dsimp only
  have e0 : (Value.type "int" == Value.ref C) = false := rfl
  rw [e0, if_neg Bool.false_ne_true]
  refine wpAny_bind (W.fills_K hK h1 h2 hl A _ E s id' ?_)
  simp only [Bool.and_self, Bool.not_false, Bool.and_true, Bool.true_and, ↓reduceIte, Bool.false_eq_true]
  refine wpAny_bind (W.looks_subIn hK sub A _ E s id' ?_)
  simp only [Bool.and_self, Bool.not_false, Bool.and_true, Bool.true_and, ↓reduceIte, Bool.false_eq_true]
  refine wpAny_bind (wpAny_pure (a := false) ?_)
  simp only [Bool.and_self, Bool.not_false, Bool.and_true, Bool.true_and, ↓reduceIte, Bool.false_eq_true]
  refine wpAny_bind (wpAny_tryMethod_declines rfl slot (no hx ⟨rfl, ?_⟩))
  dsimp only
  refine wpAny_bind (wpAny_mono (W.ksp_try hK J hr fn h) (fun r s' z => ?_) fun _ _ z => z)
  obtain ⟨v, rfl, q⟩ := z
  exact wpAny_bind (wpAny_rule (wpAny_pure ⟨v, rfl, q⟩))
/-- int op instance, by the class's own reflected method -/
theorem bin_refl {K : W.Frag} {od : Obj} {op : Operator} {id : String} {f g : Addr} {fo ro : Option Value} {Q : Value → Shared → Prop} (hK : K.In s.heap) (hx : s.heap.get? x = some (W.instObj C dx)) (J : W.InstAt s.heap x (W.instObj C dx) C (some od)) (hf : W.selfFirst K C = true)
    (hl : W.findIn K (.ref C) (dunder op.info.2) = some (some (.ref g))) (hr : W.findIn K (.ref C) (dunderR op.info.2) = some (some (.ref f))) (fn : W.isFn K (.ref f) = true)
    (hi : W.findIn K (.type "int") (dunder op.info.2) = some fo) (hj : W.findIn K (.type "int") (dunderR op.info.2) = some ro) (hb : (fo.isSome && !isSeqSlot fo || ro.isSome && !isSeqSlot ro) = true) (sub : W.subIn K (.ref C) (.type "int") = some false)
    (slot : Slot "int" (dunder op.info.2) id) (no : ∀ {A : Around} {s : Shared} {Q : Value → Shared → Prop}, s.heap.get? x = some (W.instObj C dx) → Q .notImplemented s → wpAny (model prog w) A (call (.builtin id) [.int i t, .ref x]) Q E s)
    (h : wpAny (model prog w) A (call (.ref f) [.ref x, .int i t]) (W.CmpBack Q) E s) : wpAny (model prog w) A (binaryOp op (.int i t) (.ref x)) Q E s := by
  unfold binaryOp
  refine wpAny_holding ?_
  dsimp only
  refine wpAny_bind (wpAny_mono (bin1_refl hK hx J hf hl hr fn hi hj hb sub slot no h) (fun r s' z => ?_) fun _ _ z => z)
  obtain ⟨v, rfl, q⟩ := z
  exact wpAny_pure q
end
end TW

set_option Elab.async false
set_option linter.all false
set_option maxRecDepth 100000
set_option maxHeartbeats 2000000
namespace TW
open PySem L2
section
variable {prog : Program} {w : World} {A : Around} {E : Value → Shared → Prop} {s : Shared} {i : Int} {t : Tok} {x C dx : Addr}
theorem eq_no {Q : Value → Shared → Prop} (hx : s.heap.get? x = some (W.instObj C dx)) (q : Q .notImplemented s) : wpAny (model prog w) A (call (.builtin "int.__eq__") [.int i t, .ref x]) Q E s :=
  wpAny_call_entry F.slot_int_eq rfl F.entry_int_eq (intBin_no (nm := "__eq__") (f := fun x y => ret (Value.bool (x == y))) hx ⟨_, rfl, q⟩)
/-- int == instance, by the class's own __eq__ -/
theorem eq_refl_own {K : W.Frag} {od : Obj} {f : Addr} {Q : Value → Shared → Prop} (hu : A.units < cLine) (hK : K.In s.heap) (hx : s.heap.get? x = some (W.instObj C dx)) (J : W.InstAt s.heap x (W.instObj C dx) C (some od))
    (he : W.findIn K (.ref C) "__eq__" = some (some (.ref f))) (fn : W.isFn K (.ref f) = true) (sub : W.subIn K (.ref C) (.type "int") = some false)
    (h : wpAny (model prog w) A (call (.ref f) [.ref x, .int i t]) (W.CmpBack Q) E s) : wpAny (model prog w) A (richCompare .Eq (.int i t) (.ref x)) Q E s := by
  have id' : ∀ (b : Addr) (o : Obj), s.heap.get? b = some o → s.heap.get? b = some o := fun _ _ e => e
  unfold richCompare
  refine wpAny_holding (wpAny_bind (wpAny_cRoomFor hu ?_))
  refine wpAny_bind (wpAny_pure (a := Value.type "int") ?_)
  refine wpAny_bind (J.type A _ E s id' ?_)
  have e0 : (Value.type "int" != Value.ref C) = true := rfl
  dsimp only
  rw [e0]
  simp only [↓reduceIte]
  refine wpAny_bind (W.looks_subIn hK sub A _ E s id' ?_)
  simp only [Bool.and_self, Bool.not_false, Bool.and_true, Bool.true_and, ↓reduceIte, Bool.false_eq_true]
  refine wpAny_bind (wpAny_tryCompare_declines rfl F.slot_int_eq (eq_no hx ⟨rfl, ?_⟩))
  dsimp only
  refine wpAny_bind ?_
  unfold tryCompare
  refine wpAny_bind (W.ifBound_K hK J he fn (wpAny_mono h (fun r s' z => ?_) fun _ _ z => z))
  cases r <;> first | exact False.elim z | exact wpAny_pure (wpAny_pure z)
end
/-- an own method run at another Around -/
theorem own_run {X : Cx} {H : Hp} {f : Addr} {k : Nat} {fd : FuncData} {ps : List Str} {sp : Sp} {A : Around} {pins : List (Addr × Obj)} {σ : L2.St} {s : Shared} {E : Value → Shared → Prop} {Q : Value → Shared → Prop} {us : List Value} {vs : List V} {Q' : VK}
    (F : FnOk X.prog X.w X.K X.mg X.base L2.CX0 k f fd ps sp) (hb : Binds X.K fd ps []) (h : sp vs H Q' fun _ _ _ => False) (I : Inv X pins σ H s) (hv : Vals vs us) (hl : us.length = ps.length) (hf : A.frames = some X.stack) (hr : Room k A)
    (hQ : ∀ v u s' H', Inv X pins σ H' s' → RelV v u → Q' v H' → Q u s') : wpAny (model X.prog X.w) A (call (.ref f) us) Q E s := by
  refine wpAny_call (codeAny_mono (F.run A X.stack s H ⟨us, []⟩ us vs Q' (fun _ _ _ => False) hr { I.env0 with frames := hf } (by
    have z := hb s us I.kIn (by rw [List.append_nil]; exact hl)
    simpa using z) hv h) fun r s' h => ?_)
  cases r with
  | error e => exact False.elim h
  | ok fl =>
    cases fl with
    | ret u =>
      obtain ⟨v, H', I3, rv, q⟩ := I.after h
      exact hQ v u s' H' I3 rv q
    | next => exact False.elim h
    | brk => exact False.elim h
    | cont => exact False.elim h
def rOwnEq (C : Addr) (sp : Sp) : R2 := fun x y H Q => ∃ a dx fs, x = .ref a ∧ H a = some (.ins C dx fs) ∧ ((∃ i, y = .int i) ∨ ∃ b dy gs, y = .ref b ∧ H b = some (.ins C dy gs)) ∧ sp [x, y] H (fun v H' => ∃ c, v = .bl c ∧ Q (.bl c) H') fun _ _ _ => False
def rEqOwnR (C : Addr) (sp : Sp) : R2 := fun x y H Q => ∃ i a dx fs, x = .int i ∧ y = .ref a ∧ H a = some (.ins C dx fs) ∧ sp [y, x] H (fun v H' => ∃ c, v = .bl c ∧ Q (.bl c) H') fun _ _ _ => False
def rOwnNe (C : Addr) (sp : Sp) : R2 := fun x y H Q => ∃ a dx fs b dy gs, x = .ref a ∧ H a = some (.ins C dx fs) ∧ y = .ref b ∧ H b = some (.ins C dy gs) ∧ sp [x, y] H (fun v H' => ∃ c, v = .bl c ∧ Q (.bl !c) H') fun _ _ _ => False
/-- what the class's own __eq__, without a __ne__, wants -/
structure NeK (K : W.Frag) (C f : Addr) : Prop where
  ex : ∃ nm q N bs hd sn sub ab col dd k0 k1 k2 k3 k5 ni oc od es ep sl y of, K.lookup C = some (excClassObj nm q C N bs [.type "object"] hd sn sub ab col dd k0 k1 k2 k3 k5 ni) ∧ K.lookup N = some ⟨oc, od, .dict es ep, sl⟩ ∧ StrKeys es ∧
    nsFind es "__eq__" = some (.ref f) ∧ nsFind es "__ne__" = none ∧ K.lookup f = some of ∧ of.cls = .type "function" ∧ mroOf (.type "object") = pure [.type "object"] ∧ typeLookup (.type "object") "__eq__" = pure y
section
variable {X : Cx} {k : Nat} {f C : Addr} {fd : FuncData} {sp : Sp}
theorem op_eqOwn (O : Own X.K C f "__eq__") (si : W.subIn X.K (.type "int") (.ref C) = some false) (F : FnOk X.prog X.w X.K X.mg X.base L2.CX0 k f fd ["self", "other"] sp) (hr : Room k X.A) (hb : Binds X.K fd ["self", "other"] []) : OpR X (compareOp .Eq) (rOwnEq C sp) := by
  intro pins s σ H x y v u Q I rx ry h
  obtain ⟨a, dx, fs, rfl, ha, hy, q⟩ := h
  cases (show v = Value.ref a from rx)
  obtain ⟨mA, Oa, _⟩ := ins_get I.hok ha
  obtain ⟨od, J, _⟩ := Oa.look
  obtain ⟨m, Fm⟩ := I.fr
  have go : ∀ tb : Value, W.Looks (model X.prog X.w) s.heap (typeOf u) tb → W.notFirst X.K C tb = true → wpAny (model X.prog X.w) X.A (compareOp .Eq (.ref a) u) (EP X pins σ Q) X.xe s := fun tb hl hn => by
    refine W.cmp_ofEq (W.cmp_K (by have := hr.un; omega) Fm I.ok.mod.kin J hl hn O.at_ O.fn ?_)
    refine own_run F hb q I (.cons rfl (.cons ry .nil)) rfl I.ok.frames hr fun v u s' H' I' r z => ?_
    obtain ⟨c, rfl, z⟩ := z
    cases (show u = Value.bool c from r)
    exact ⟨.bl c, H', I', rfl, z⟩
  rcases hy with ⟨i, rfl⟩ | ⟨b, dy, gs, rfl, hb'⟩
  · obtain ⟨t, rfl⟩ := (show ∃ t, u = Value.int i t from ry)
    refine go (.type "int") (W.Looks.of_pure rfl) ?_
    unfold W.notFirst
    rw [si]
    rfl
  · cases (show u = Value.ref b from ry)
    obtain ⟨mB, Ob, _⟩ := ins_get I.hok hb'
    obtain ⟨od', J', _⟩ := Ob.look
    refine go (.ref C) J'.type ?_
    unfold W.notFirst
    simp
theorem op_eqOwnR (O : Own X.K C f "__eq__") (sc : W.subIn X.K (.ref C) (.type "int") = some false) (F : FnOk X.prog X.w X.K X.mg X.base L2.CX0 k f fd ["self", "other"] sp) (hr : Room k X.A) (hb : Binds X.K fd ["self", "other"] []) : OpR X (compareOp .Eq) (rEqOwnR C sp) := by
  intro pins s σ H x y v u Q I rx ry h
  obtain ⟨i, a, dx, fs, rfl, rfl, ha, q⟩ := h
  cases (show u = Value.ref a from ry)
  obtain ⟨t, rfl⟩ := (show ∃ t, v = Value.int i t from rx)
  obtain ⟨mA, Oa, _⟩ := ins_get I.hok ha
  obtain ⟨od, J, _⟩ := Oa.look
  refine W.cmp_ofEq (eq_refl_own (by have := hr.un; omega) I.kIn Oa.obj J O.at_ O.fn sc ?_)
  refine own_run F hb q I (.cons rfl (.cons ⟨t, rfl⟩ .nil)) rfl I.ok.frames hr fun v u s' H' I' r z => ?_
  obtain ⟨c, rfl, z⟩ := z
  cases (show u = Value.bool c from r)
  exact ⟨.bl c, H', I', rfl, z⟩
theorem op_neOwn (N : NeK X.K C f) (F : FnOk X.prog X.w X.K X.mg X.base L2.CX0 k f fd ["self", "other"] sp) (hr : Room (k + 1) X.A) (hb : Binds X.K fd ["self", "other"] []) : OpR X (compareOp .NotEq) (rOwnNe C sp) := by
  intro pins s σ H x y v u Q I rx ry h
  obtain ⟨a, dx, fs, b, dy, gs, rfl, ha, rfl, hb', q⟩ := h
  cases (show v = Value.ref a from rx)
  cases (show u = Value.ref b from ry)
  obtain ⟨mA, Oa, _⟩ := ins_get I.hok ha
  obtain ⟨mB, Ob, _⟩ := ins_get I.hok hb'
  obtain ⟨nm, qn, N', bs, hd, sn, sub, ab, col, dd, k0, k1, k2, k3, k5, ni, oc, od, es, ep, sl, y, of, lC, lN, sk, n1, n2, lf, cf, mo, tl⟩ := N.ex
  have kin := I.kIn
  have own : s.heap.OwnEqNoNe a C f "object" [.type "object"] := ⟨_, of, nm, qn, N', bs, hd, sn, sub, ab, col, dd, k0, k1, k2, k3, k5, ni, _, y, Oa.obj, rfl, kin _ _ lC, ⟨_, es, ep, kin _ _ lN, rfl, sk, fun _ => rfl⟩, n1, kin _ _ lf, cf, mo, tl, n2⟩
  refine compareOp_ne_ownEq PySem.F.cmp_object own Ob.obj rfl ?_ ?_
  · have := hr.un
    omega
  · refine own_run F hb q I (.cons rfl (.cons rfl .nil)) rfl I.ok.frames hr.in1 fun v u s' H' I' r z => ?_
    obtain ⟨c, rfl, z⟩ := z
    cases (show u = Value.bool c from r)
    exact ⟨c, rfl, .bl !c, H', I', rfl, z⟩
end
end TW

set_option Elab.async false
set_option linter.all false
set_option maxRecDepth 100000
set_option maxHeartbeats 2000000
namespace TW
open PySem L2
def tMethN (C : Addr) (m : Str) (n : Nat) (sp : Sp) (gV : List V → List V → List V) (E : XK) (ta : TE) (tk : TA) : TE := fun σ H Q => ta σ H fun x H1 => ∃ a dx fs, x = .ref a ∧ H1 a = some (.ins C dx fs) ∧ fs.lookup m = none ∧ tk σ H1 fun zs H2 => zs.length = n ∧ sp (gV [x] zs) H2 Q E
section
variable {X : Cx} {CX : CXT} {k : Nat} {f C : Addr} {fd : FuncData} {ps ks : List Str} {sp : Sp} {E : XK} {m : Str} {apos pos : Pos} {o : Expr} {ta : TE} {kws : List Keyword} {tk : TA} {g : List Value → List Value → List Value} {gV : List V → List V → List V} {pl : Sem Bool}
/-- o.m(k = v) -/
theorem pe_methN0 (ho : PE X o ta) (c : Cls X.K C) (hm : Meth X.K C m f) (F : FnOk X.prog X.w X.K X.mg X.base CX k f fd ps sp) (hr : Room k X.A) (hb : KBn X.K fd ps 1 ks g gV) (hx : Passes CX X E) (hkw : PK X kws tk)
    (hall : (backToKw pos (keywordEach kws X.env)).all (·.1.isSome) = true := by rfl) (hks : (backToKw pos (keywordEach kws X.env)).filterMap (·.1) = ks := by rfl)
    (hpl : ((backTo pos (starEach [] X.env)).any (·.1) || (backToKw pos (keywordEach kws X.env)).any (·.1.isNone)) = false := by rfl)
    (hev : eval (.Call (.Attribute o m apos) [] kws pos) X.env = (do
      let ov ← eval o X.env
      standAt apos.atName
      let (f, first) ← holding [ov] (getMethod ov m pl)
      callWith pos f first (backTo pos (starEach [] X.env)) (backToKw pos (keywordEach kws X.env))) := by rfl) :
    PE X (.Call (.Attribute o m apos) [] kws pos) (tMethN C m ks.length sp gV E ta tk) := by
  refine ⟨fun pins s σ H Q I h => ?_⟩
  refine W.methodCall_KW (pl := pl) (thn (ho.run pins s σ H _ I h) fun ov s1 ⟨v, H1, I1, r1, q1⟩ => ?_) hev
  obtain ⟨a, dx, fs, rfl, ha, hl, q1⟩ := q1
  cases (show ov = Value.ref a from r1)
  refine getmeth_ok I1 ha c hm hl ?_
  refine W.callWith_KW0 (h₀ := X.base) I1.ok.mod.kin hm.kp hall ?_ hpl
  refine thn (hkw.run pos pins s1 σ H1 _ I1 q1) fun ws s2 ⟨zs, H2, I2, rz, l1, q2⟩ => ⟨I2.kIn, ?_⟩
  rw [hks]
  exact run_fnN F hr hb hx I2 (show Vals [V.ref a] [Value.ref a] from .cons rfl .nil) rz rfl l1 q2
end
/-- str(x), x of a class with a __str__ of its own -/
def rStrOwn (C : Addr) (sp : Sp) : List V → Hp → VK → Prop := fun xs H Q => ∃ a dx fs, xs = [.ref a] ∧ H a = some (.ins C dx fs) ∧ sp [.ref a] H (fun v H' => ∃ z, v = .str z ∧ Q (.str z) H') fun _ _ _ => False
theorem call_strOwn {X : Cx} {k : Nat} {f C : Addr} {fd : FuncData} {sp : Sp} (O : Own X.K C f "__str__") (F : FnOk X.prog X.w X.K X.mg X.base L2.CX0 k f fd ["self"] sp) (hr : Room (k + 2) X.A) (hb : Binds X.K fd ["self"] []) : CallR X (.type "str") (rStrOwn C sp) := by
  intro pins s σ H xs us Q I r h
  obtain ⟨a, dx, fs, rfl, ha, q⟩ := h
  obtain ⟨u, rfl, ru⟩ := vals1 r
  cases (show u = Value.ref a from ru)
  obtain ⟨mA, Oa, _⟩ := ins_get I.hok ha
  obtain ⟨od, J, _⟩ := Oa.look
  refine W.kso_call (by have := hr.in1.in1.un; omega) I.kIn J O.at_ O.fn ?_
  refine own_run F hb q I (.cons rfl .nil) rfl I.ok.frames hr.in1.in1 fun v u s' H' I' r z => ?_
  obtain ⟨c, rfl, z⟩ := z
  obtain ⟨tk, rfl⟩ := (show ∃ tk, u = Value.str c tk from r)
  exact ⟨.str c, H', I', ⟨tk, rfl⟩, z⟩
/-! an int on the left of + - * -/
structure OwnR (K : W.Frag) (C f : Addr) (nm : String) : Prop where
  l : ∃ g : Addr, W.findIn K (.ref C) (dunder nm) = some (some (.ref g))
  r : W.findIn K (.ref C) (dunderR nm) = some (some (.ref f))
  fn : W.isFn K (.ref f) = true
  i : ∃ fo ro, W.findIn K (.type "int") (dunder nm) = some fo ∧ W.findIn K (.type "int") (dunderR nm) = some ro ∧ (fo.isSome && !isSeqSlot fo || ro.isSome && !isSeqSlot ro) = true
  s : W.subIn K (.ref C) (.type "int") = some false
  first : W.selfFirst K C = true
/-- int's own method declines -/
structure IntNo (nm id : String) : Prop where
  slot : Slot "int" (dunder nm) id
  no : ∀ {prog : Program} {w : World} {A : Around} {E : Value → Shared → Prop} {s : Shared} {i : Int} {t : Tok} {x C dx : Addr} {Q : Value → Shared → Prop}, s.heap.get? x = some (W.instObj C dx) → Q .notImplemented s → wpAny (model prog w) A (call (.builtin id) [.int i t, .ref x]) Q E s
theorem no_add : IntNo "add" "int.__add__" := ⟨PySem.F.slot_int_add, add_no⟩
theorem no_sub : IntNo "sub" "int.__sub__" := ⟨PySem.F.slot_int_sub, sub_no⟩
theorem no_mul : IntNo "mul" "int.__mul__" := ⟨PySem.F.slot_int_mul, mul_no⟩
def rOwnR (C : Addr) (sp : Sp) : R2 := fun x y H Q => ∃ i a dx fs, x = .int i ∧ y = .ref a ∧ H a = some (.ins C dx fs) ∧ sp [y, x] H (fun v H' => (∃ p, v = .ref p) ∧ Q v H') fun _ _ _ => False
theorem op_ownR {X : Cx} {k : Nat} {f C : Addr} {fd : FuncData} {sp : Sp} {op : Operator} {id : String} (O : OwnR X.K C f op.info.2) (N : IntNo op.info.2 id) (F : FnOk X.prog X.w X.K X.mg X.base L2.CX0 k f fd ["self", "other"] sp) (hr : Room k X.A) (hb : Binds X.K fd ["self", "other"] []) :
    OpR X (binaryOp op) (rOwnR C sp) := by
  intro pins s σ H x y v u Q I rx ry h
  obtain ⟨i, a, dx, fs, rfl, rfl, ha, q⟩ := h
  cases (show u = Value.ref a from ry)
  obtain ⟨t, rfl⟩ := (show ∃ t, v = Value.int i t from rx)
  obtain ⟨mA, Oa, _⟩ := ins_get I.hok ha
  obtain ⟨od, J, _⟩ := Oa.look
  obtain ⟨g, hl⟩ := O.l
  obtain ⟨fo, ro, i1, i2, i3⟩ := O.i
  refine bin_refl I.kIn Oa.obj J O.first hl O.r O.fn i1 i2 i3 O.s N.slot (fun hx q => N.no hx q) ?_
  refine own_run F hb q I (.cons rfl (.cons ⟨t, rfl⟩ .nil)) rfl I.ok.frames hr fun v u s' H' I' r z => ?_
  obtain ⟨⟨p, rfl⟩, z⟩ := z
  cases (show u = Value.ref p from r)
  exact ⟨.ref p, H', I', rfl, z⟩
end TW

set_option Elab.async false
set_option linter.all false
set_option maxRecDepth 100000
set_option maxHeartbeats 2000000
namespace TW
open PySem L2
theorem unpin {X : Cx} {pins : List (Addr × Obj)} {p : Addr × Obj} {σ : L2.St} {H : Hp} {s : Shared} (I : Inv X (p :: pins) σ H s) : Inv X pins σ H s :=
  { I with pin := fun q hq => I.pin q (by
      rcases List.mem_append.1 hq with h | h
      · exact List.mem_append_left _ h
      · exact List.mem_append_right _ (List.mem_cons_of_mem _ h)) }
def tCMethN (C : Addr) (n : Nat) (sp : Sp) (gV : List V → List V → List V) (ta : TE) (tk : TA) : TE := fun σ H Q => ta σ H fun x H1 => x = .ref C ∧ tk σ H1 fun zs H2 => zs.length = n ∧ sp (gV [.ref C] zs) H2 Q fun _ _ _ => False
section
variable {X : Cx} {k : Nat} {p g C : Addr} {fd : FuncData} {ps ks : List Str} {sp : Sp} {m : Str} {mc : Value} {apos pos : Pos} {o : Expr} {ta : TE} {kws : List Keyword} {tk : TA} {gg : List Value → List Value → List Value} {gV : List V → List V → List V} {pl : Sem Bool}
/-- C.m(k = v), m a class method -/
theorem pe_cmethN0 (ho : PE X o ta) (cr : ClX.CRead X.K C mc) (cm : ClX.CMet X.K C mc m p g) (F : FnOk X.prog X.w X.K X.mg X.base L2.CX0 k g fd ps sp) (hr : Room k X.A) (hb : KBn X.K fd ps 1 ks gg gV) (hkw : PK X kws tk)
    (hall : (backToKw pos (keywordEach kws X.env)).all (·.1.isSome) = true := by rfl) (hks : (backToKw pos (keywordEach kws X.env)).filterMap (·.1) = ks := by rfl)
    (hpl : ((backTo pos (starEach [] X.env)).any (·.1) || (backToKw pos (keywordEach kws X.env)).any (·.1.isNone)) = false := by rfl)
    (hst : backTo pos (starEach [] X.env) = [] := by rfl)
    (hev : eval (.Call (.Attribute o m apos) [] kws pos) X.env = (do
      let ov ← eval o X.env
      standAt apos.atName
      let (f, first) ← holding [ov] (getMethod ov m pl)
      callWith pos f first (backTo pos (starEach [] X.env)) (backToKw pos (keywordEach kws X.env))) := by rfl) :
    PE X (.Call (.Attribute o m apos) [] kws pos) (tCMethN C ks.length sp gV ta tk) := by
  refine ⟨fun pins s σ H Q I h => ?_⟩
  refine W.methodCall_KW (pl := pl) (thn (ho.run pins s σ H _ I h) fun ov s1 ⟨v, H1, I1, r1, q1⟩ => ?_) hev
  obtain ⟨rfl, q1⟩ := q1
  cases (show ov = Value.ref C from r1)
  refine ClX.getmethcm_ok I1 cr cm fun s2 I2 => ?_
  refine callwith_met (a := C) hpl cm.fi ?_
  rw [hst]
  unfold evalArgs
  refine wpAny_bind (wpAny_pure (a := ([] : List Value)) ?_)
  refine wpAny_bind (wpAny_pure (a := (([] : List Value), (none : Option Value))) ?_)
  refine wpAny_holding ?_
  rw [if_pos hall]
  refine wpAny_bind (thn (hkw.run pos _ s2 σ H1 _ I2 q1) fun ws s3 ⟨zs, H3, I3, rz, l1, q2⟩ => ?_)
  rw [hks]
  refine wpAny_bind (wpAny_pure (a := ([] : List Value)) ?_)
  refine wpAny_pure ?_
  have pin := (I3.pin (_, W.methodObj (Value.ref g) (Value.ref C)) (List.mem_append_right _ List.mem_cons_self)).1
  refine ⟨⟨pin, I3.kIn⟩, ?_⟩
  have lw : ws.length = ks.length := by rw [← l1]; exact rz.length.symm
  refine wpAny_call (W.method_call pin ?_)
  refine codeAny_mono (F.run X.A X.stack s3 H3 ⟨[.ref C], ks.zip ws⟩ (gg [.ref C] ws) (gV [.ref C] zs) Q (fun _ _ _ => False) hr { I3.env0 with frames := I3.ok.frames } (hb.1 s3 [.ref C] ws I3.kIn rfl lw) (hb.2 (show Vals [V.ref C] [Value.ref C] from .cons rfl .nil) rz) q2) fun r s' h => ?_
  cases r with
  | error e => exact False.elim h
  | ok fl =>
    cases fl with
    | ret u =>
      obtain ⟨v, H', I4, rv, q⟩ := I3.after h
      exact ⟨v, H', unpin I4, rv, q⟩
    | next => exact False.elim h
    | brk => exact False.elim h
    | cont => exact False.elim h
end
end TW

set_option Elab.async false
set_option linter.all false
set_option maxRecDepth 100000
set_option maxHeartbeats 4000000
namespace KT
open PySem L2 TW
def top (i : Nat) : Stmt := PySem.Challenge.pw_tracewords_k87_any_five_and_its_words.main.body.getD i (.Pass ⟨0, 0, 0, 0⟩)
abbrev s_is_integer : Stmt := top 9
abbrev s_is_count : Stmt := top 10
abbrev s_is_list : Stmt := top 11
abbrev s_is_number : Stmt := top 14

structure Txt (K : W.Frag) (mg : Str → Option Value) (C HC : Addr) : Prop where
  isi : mg "isinstance" = none
  int_ : mg "int" = none
  bool_ : mg "bool" = none
  list_ : mg "list" = none
  tuple_ : mg "tuple" = none
  len_ : mg "len" = none
  all_ : mg "all" = none
  gcd_ : mg "gcd" = some (.builtin "math.gcd")
  mgC : mg "Ratio" = some (.ref C)
  clC : Cls K C
  nTop : NoAttr K C "_top"
  nBot : NoAttr K C "_bottom"
  atC : W.findIn K (.ref C) "__class__" = some (some (.builtin "object.__class__"))
  cg : W.specialIn K (.builtin "object.__class__") "__get__" = some (some (.builtin "getset_descriptor.__get__"))
  ct : W.takesIn K (.builtin "object.__class__") = some true
  moC : W.mroIn K C (.type "object") = some true
  kCi : W.kitOne K (.ref C) (.type "int") = some false
  kCb : W.kitOne K (.ref C) (.type "bool") = some false
  kCl : W.kitOne K (.ref C) (.type "list") = some false
  kCt : W.kitOne K (.ref C) (.type "tuple") = some false
  kCC : W.kitOne K (.ref C) (.ref C) = some true
  kTC1 : W.kitOne K (.type "NoneType") (.ref C) = some false
  kTC2 : W.kitOne K (.type "bool") (.ref C) = some false
  kTC3 : W.kitOne K (.type "int") (.ref C) = some false
  kTC4 : W.kitOne K (.type "str") (.ref C) = some false
  kTC5 : W.kitOne K (.type "list") (.ref C) = some false
  kTC6 : W.kitOne K (.type "tuple") (.ref C) = some false
  kTC7 : W.kitOne K (.type "dict") (.ref C) = some false

/-- the type of such a value -/
def tyD (C : Addr) : D → Value
  | .non => .type "NoneType"
  | .bl _ => .type "bool"
  | .int _ => .type "int"
  | .str _ => .type "str"
  | .rat _ _ => .ref C
  | .lst _ => .type "list"
  | .tup _ => .type "tuple"
  | .dct _ => .type "dict"
  | .dl _ _ => .type "dict"
section
variable {K : W.Frag} {mg : Str → Option Value} {C HC : Addr} {H : Hp}
theorem tyx (T : Txt K mg C HC) : ∀ {d : D} {v : V}, Dt C H v d → TyX K H v (tyD C d)
  | _, _, .non => .base .non
  | _, _, .bl b => .base (.bl b)
  | _, _, .int i => .base (.int i)
  | _, _, .str z => .base (.str z)
  | _, _, .rat h _ _ => .base (.ins h T.clC T.atC T.cg T.ct T.moC)
  | _, _, .lst h _ => .base (.lst h)
  | _, _, .tup h _ => .base (.tup h)
  | _, _, .dct h => .base (.dK h)
  | _, _, .dl h _ _ => .base (.dK h)
end
def isIB : D → Bool
  | .int _ => true
  | .bl _ => true
  | _ => false
def isB : D → Bool
  | .bl _ => true
  | _ => false
def isI : D → Bool
  | .int _ => true
  | _ => false
def isC : D → Bool
  | .int i => decide (0 ≤ i)
  | _ => false
def isL : D → Bool
  | .lst _ => true
  | .tup _ => true
  | _ => false
def isR : D → Bool
  | .rat _ _ => true
  | _ => false
def isN : D → Bool
  | .int _ => true
  | .rat _ _ => true
  | _ => false
def itemsD : D → List D
  | .lst l => l
  | .tup l => l
  | _ => []
def areN (d : D) : Bool := isL d && (itemsD d).all isN
section
variable {K : W.Frag} {mg : Str → Option Value} {C HC : Addr} {H : Hp}
theorem kit_int (T : Txt K mg C HC) (d : D) : W.kitOne K (tyD C d) (.type "int") = some (isIB d) := by
  cases d with
  | rat _ _ => exact T.kCi
  | _ => first | exact kit_ty (show kitB _ _ = some true by decide +kernel) | exact kit_ty (show kitB _ _ = some false by decide +kernel)
theorem kit_bool (T : Txt K mg C HC) (d : D) : W.kitOne K (tyD C d) (.type "bool") = some (isB d) := by
  cases d with
  | rat _ _ => exact T.kCb
  | _ => first | exact kit_ty (show kitB _ _ = some true by decide +kernel) | exact kit_ty (show kitB _ _ = some false by decide +kernel)
theorem kit_rat (T : Txt K mg C HC) (d : D) : W.kitOne K (tyD C d) (.ref C) = some (isR d) := by
  cases d with
  | rat _ _ => exact T.kCC
  | non => exact T.kTC1
  | bl _ => exact T.kTC2
  | int _ => exact T.kTC3
  | str _ => exact T.kTC4
  | lst _ => exact T.kTC5
  | tup _ => exact T.kTC6
  | dct _ => exact T.kTC7
  | dl _ _ => exact T.kTC7
theorem kit_seq (T : Txt K mg C HC) (d : D) : W.kitAny K (tyD C d) [.type "list", .type "tuple"] = some (isL d) := by
  cases d with
  | rat _ _ => exact kitAny_cons (b := false) T.kCl (fun _ => kitAny_cons (b := false) T.kCt (fun _ => kitAny_nil) fun z => nomatch z) fun z => nomatch z
  | lst _ => exact kitAny_cons (b := true) (kit_ty (by decide +kernel)) (fun z => nomatch z) fun _ => rfl
  | tup _ => exact kitAny_cons (b := false) (kit_ty (by decide +kernel)) (fun _ => kitAny_cons (b := true) (kit_ty (by decide +kernel)) (fun z => nomatch z) fun _ => rfl) fun z => nomatch z
  | _ => exact kitAny_cons (b := false) (kit_ty (by decide +kernel)) (fun _ => kitAny_cons (b := false) (kit_ty (by decide +kernel)) (fun _ => kitAny_nil) fun z => nomatch z) fun z => nomatch z
end

/-- a judge of any value: nothing that stood is changed -/
def spB (C : Addr) (p : D → Bool) : Sp := fun vs H Q _ => ∃ x d, vs = [x] ∧ Dt C H x d ∧ d.len ≤ sizeLine ∧ ∀ H', Same H H' → Q (.bl (p d)) H'
theorem spB_len {C : Addr} {p : D → Bool} {x : Str} : ∀ vs H Q E, spB C p vs H Q E → vs.length = [x].length := by
  rintro vs H Q E ⟨x, d, rfl, _⟩
  rfl
/-- a def of the top, by its name -/
structure At (K : W.Frag) (mg : Str → Option Value) (x : Str) (st : Stmt) (ps : List Str) (f : Addr) (fd : FuncData) : Prop where
  fn : Fun K x x st f fd
  mg : mg x = some (.ref f)
  b : Binds K fd ps []

theorem sc_is_integer : FnScope ["value"] ["value"] (defScope s_is_integer) := ⟨rfl, rfl, rfl, by decide +kernel, rfl, by decide +kernel, by decide +kernel⟩
theorem sc_is_count : FnScope ["value"] ["value"] (defScope s_is_count) := ⟨rfl, rfl, rfl, by decide +kernel, rfl, by decide +kernel, by decide +kernel⟩
theorem sc_is_list : FnScope ["value"] ["value"] (defScope s_is_list) := ⟨rfl, rfl, rfl, by decide +kernel, rfl, by decide +kernel, by decide +kernel⟩
theorem sc_is_number : FnScope ["value"] ["value"] (defScope s_is_number) := ⟨rfl, rfl, rfl, by decide +kernel, rfl, by decide +kernel, by decide +kernel⟩
section
variable {P : Program} {w : World} {K : W.Frag} {mg : Str → Option Value} {base : Heap} {C HC : Addr}
theorem ok_is_integer {f : Addr} {fd : FuncData} (F : At K mg "is_integer" s_is_integer ["value"] f fd) (T : Txt K mg C HC) : FnOk P w K mg base L2.CX0 1 f fd ["value"] (spB C isI) := by
  refine F.fn.ok sc_is_integer spB_len fun cdv A outer s H vs Q E hr h => ?_
  obtain ⟨x, d, rfl, hd, hl, q⟩ := h
  refine ⟨_, pss_one (ps_ret (pe_and (pe_callB call_isi (by rfl) T.isi (by decide +kernel) (pa_cons (pv 0) (pa_cons (pe_bltn (v := .ty "int") (by rfl) T.int_ (by decide +kernel) rfl) pa_nil)))
    (pe_one (pe_not (pe_callB call_isi (by rfl) T.isi (by decide +kernel) (pa_cons (pv 0) (pa_cons (pe_bltn (v := .ty "bool") (by rfl) T.bool_ (by decide +kernel) rfl) pa_nil))))))), ?_⟩
  refine ⟨x, rfl, x, .ty "int", _, _, _, rfl, .ty "int", tyx T hd, kit_int T d, _, rfl, ?_⟩
  cases e : isIB d with
  | false =>
    refine iteF ?_
    have z := q H (Same.refl H)
    cases d <;> first | exact z | cases e
  | true =>
    refine iteT ⟨x, rfl, x, .ty "bool", _, _, _, rfl, .ty "bool", tyx T hd, kit_bool T d, _, rfl, ?_⟩
    have z := q H (Same.refl H)
    cases d <;> first | exact z | cases e
theorem ok_is_count {f f1 : Addr} {fd fd1 : FuncData} (F : At K mg "is_count" s_is_count ["value"] f fd) (T : Txt K mg C HC) (F1 : At K mg "is_integer" s_is_integer ["value"] f1 fd1) : FnOk P w K mg base L2.CX0 2 f fd ["value"] (spB C isC) := by
  refine F.fn.ok sc_is_count spB_len fun cdv A outer s H vs Q E hr h => ?_
  obtain ⟨x, d, rfl, hd, hl, q⟩ := h
  refine ⟨_, pss_one (ps_ret (pe_and (pe_call (ok_is_integer F1 T) hr (by rfl) F1.mg F1.fn.kp F1.b .nil pass0 (pa_cons (pv 0) pa_nil)) (pe_one (pe_cmp (pc_ge (pv 0) pe_int) rfl)))), ?_⟩
  refine ⟨x, rfl, x, d, rfl, hd, hl, fun H' s1 => ⟨_, rfl, ?_⟩⟩
  have z := q H' s1
  cases hd with
  | int i => exact ⟨_, rfl, i, 0, rfl, rfl, z⟩
  | _ => exact z
theorem ok_is_list {f : Addr} {fd : FuncData} (F : At K mg "is_list" s_is_list ["value"] f fd) (T : Txt K mg C HC) : FnOk P w K mg base L2.CX0 1 f fd ["value"] (spB C isL) := by
  refine F.fn.ok sc_is_list spB_len fun cdv A outer s H vs Q E hr h => ?_
  obtain ⟨x, d, rfl, hd, hl, q⟩ := h
  refine ⟨_, pss_one (ps_ret (pe_callB call_isiT (by rfl) T.isi (by decide +kernel) (pa_cons (pv 0) (pa_cons (pe_tup (pa_cons (pe_bltn (v := .ty "list") (by rfl) T.list_ (by decide +kernel) rfl)
    (pa_cons (pe_bltn (v := .ty "tuple") (by rfl) T.tuple_ (by decide +kernel) rfl) pa_nil))) pa_nil)))), ?_⟩
  refine ⟨x, rfl, by decide, fun p hp => ?_⟩
  have s1 : Same H (upd H p (.tup [.ty "list", .ty "tuple"])) := same_new hp
  exact ⟨x, p, _, _, _, _, rfl, upd_same, .cons (.ty _) (.cons (.ty _) .nil), tyx T (hd.same s1), kit_seq T d, q _ s1⟩
theorem ok_is_number {f f1 : Addr} {fd fd1 : FuncData} (F : At K mg "is_number" s_is_number ["value"] f fd) (T : Txt K mg C HC) (F1 : At K mg "is_integer" s_is_integer ["value"] f1 fd1) : FnOk P w K mg base L2.CX0 2 f fd ["value"] (spB C isN) := by
  refine F.fn.ok sc_is_number spB_len fun cdv A outer s H vs Q E hr h => ?_
  obtain ⟨x, d, rfl, hd, hl, q⟩ := h
  refine ⟨_, pss_one (ps_ret (pe_or (pe_call (ok_is_integer F1 T) hr (by rfl) F1.mg F1.fn.kp F1.b .nil pass0 (pa_cons (pv 0) pa_nil))
    (pe_one (pe_callB call_isi (by rfl) T.isi (by decide +kernel) (pa_cons (pv 0) (pa_cons (pe_glob (v := .ref C) (by rfl) T.mgC rfl) pa_nil)))))), ?_⟩
  refine ⟨x, rfl, x, d, rfl, hd, hl, fun H' s1 => ⟨_, rfl, ?_⟩⟩
  have z := q H' s1
  cases e : isI d with
  | true =>
    refine iteT ?_
    cases d <;> first | exact z | cases e
  | false =>
    refine iteF ⟨x, rfl, x, .ref C, _, _, _, rfl, .own C, tyx T (hd.same s1), kit_rat T d, ?_⟩
    cases d <;> first | exact z | cases e

theorem all_range {p : D → Bool} : ∀ (l : List D) (f : Nat → Bool), (∀ k d, l[k]? = some d → f k = p d) → ((List.range l.length).map f).all id = l.all p
  | [], _, _ => rfl
  | d :: l, f, h => by
    have h0 : f 0 = p d := h 0 d rfl
    have h1 := all_range (p := p) l (fun k => f (k + 1)) fun k d e => h (k + 1) d (by simpa using e)
    rw [List.length_cons, List.range_succ_eq_map, List.map_cons, List.map_map, List.all_cons, List.all_cons, ← h1, h0]
    rfl
theorem seq_of {H : Hp} {x : V} {d : D} (h : Dt C H x d) (e : isL d = true) : ∃ a xs, x = .ref a ∧ Sq K H a xs ∧ Dts C H xs (itemsD d) := by
  cases h with
  | lst h1 h2 => exact ⟨_, _, rfl, .inl (SqL.of h1), h2⟩
  | tup h1 h2 => exact ⟨_, _, rfl, .inr (SqT.of h1), h2⟩
  | _ => cases e
theorem lens_len : ∀ (l : List D), l.length ≤ lens l
  | [] => Nat.le_refl _
  | d :: l => by
    have := lens_len l
    simp only [lens, List.length_cons]
    omega
theorem lens_item : ∀ {l : List D} {k : Nat} {d : D}, l[k]? = some d → d.len ≤ lens l
  | [], _, _, h => by simp at h
  | e :: l, 0, d, h => by
    simp at h
    subst h
    simp only [lens]
    omega
  | e :: l, k + 1, d, h => by
    have := lens_item (l := l) (k := k) (d := d) (by simpa using h)
    simp only [lens]
    omega
theorem items_len {d : D} (h : d.len ≤ sizeLine) : lens (itemsD d) ≤ sizeLine := by
  cases d with
  | lst l => simp only [D.len] at h; show lens l ≤ _; omega
  | tup l => simp only [D.len] at h; show lens l ≤ _; omega
  | _ => exact Nat.zero_le _
theorem iteB {b : Bool} {A B : Prop} (h1 : b = true → A) (h2 : b = false → B) : if b = true then A else B := by
  cases b with
  | true => exact iteT (h1 rfl)
  | false => exact iteF (h2 rfl)
/-- all([.. for one in l]) where each is a judge's answer -/
theorem all_comp {te : TE} {i j : Nat} {σ : L2.St} {H1 : Hp} {Q : VK} {a : Addr} {xs : List V} {l : List D} (p : D → Bool) (hj : σ[j]? = some (some (.ref a))) (hs : Sq K H1 a xs) (hds : Dts C H1 xs l) (hl : lens l ≤ sizeLine)
    (el : ∀ y dy H2 R, dy ∈ l → Dt C H2 y dy → dy.len ≤ sizeLine → Same H1 H2 → (∀ H3, Same H2 H3 → R (.bl (p dy)) H3) → te ((wipe σ [i]).set i (some y)) H2 R)
    (fin : ∀ H3, Same H1 H3 → Q (.bl (l.all p)) H3) : tLc (iSeq K (tVar j)) (gName i) tYes te [i] σ H1 (fun z H2 => rAll K [z] H2 Q) := by
  have hll := lens_len l
  have hxl := hds.length
  refine comp_vals (xs := xs) (fun k => V.bl ((l[k]?.map p).getD false)) hj hs (by omega) (fun k y H2 R hy s2 r => ?_) fun A H2 hD s2 e2 => ?_
  · obtain ⟨dy, e3, hdy⟩ := hds.at hy
    refine el y dy H2 R (List.mem_of_getElem? e3) (hdy.same s2) (Nat.le_trans (lens_item e3) hl) s2 fun H3 s3 => ?_
    have z := r H3 s3
    rw [e3] at z
    exact z
  · refine ⟨A, (List.range xs.length).map fun k => (l[k]?.map p).getD false, rfl, SqL.of ?_, ?_⟩
    · rw [e2, List.map_map]
      rfl
    · rw [hxl, all_range (p := p) l _ fun k dy e3 => by rw [e3]; rfl]
      exact fin H2 s2

end
end KT

set_option Elab.async false
set_option linter.all false
set_option maxRecDepth 100000
set_option maxHeartbeats 4000000
namespace KT
open PySem L2 TW
abbrev s_init : Stmt := inClass (top 13) 0
abbrev s_repr : Stmt := inClass (top 13) 19
abbrev s_ratio_of : Stmt := top 16
/-- a method of a class -/
structure Me (K : W.Frag) (qual x : Str) (st : Stmt) (f : Addr) (fd : FuncData) : Prop where
  fn : Fun K x qual st f fd
  b : Binds K fd ["self"] []

/-! Ratio.__init__ -/
def fsR (x y : Int) : List (Str × V) := putF "_bottom" (.int y) (putF "_top" (.int x) [])
theorem kTB : ¬ (("_top" : Str) = "_bottom") := by decide +kernel
theorem fsR_top (x y : Int) : (fsR x y).lookup ("_top" : Str) = some (V.int x) := by
  unfold fsR
  rw [lookup_putF, if_neg kTB, lookup_putF, if_pos rfl]
theorem fsR_bottom (x y : Int) : (fsR x y).lookup ("_bottom" : Str) = some (V.int y) := by
  unfold fsR
  rw [lookup_putF, if_pos rfl]
/-- the common part, with the bottom's sign -/
def cm (t b : Int) : Int := if b < 0 then -((Nat.gcd t.natAbs b.natAbs : Nat) : Int) else ((Nat.gcd t.natAbs b.natAbs : Nat) : Int)
def spInit (C : Addr) : Sp := fun vs H Q _ => ∃ (p dx : Addr) (t b : Int), vs = [.ref p, .int t, .int b] ∧ H p = some (.ins C dx []) ∧ b ≠ 0 ∧ Nat.gcd t.natAbs b.natAbs < 1073741824 ∧
  ∀ H', (∀ q o, H q = some o → q ≠ p → H' q = some o) → H' p = some (.ins C dx (fsR (t.fdiv (cm t b)) (b.fdiv (cm t b)))) → Q .non H'
theorem sc_init : FnScope ["self", "top", "bottom", "common"] ["self", "top", "bottom"] (defScope s_init) := ⟨rfl, rfl, rfl, by decide +kernel, rfl, by decide +kernel, by decide +kernel⟩
theorem sc_repr : FnScope ["self"] ["self"] (defScope s_repr) := ⟨rfl, rfl, rfl, by decide +kernel, rfl, by decide +kernel, by decide +kernel⟩
theorem sc_ratio_of : FnScope ["number"] ["number"] (defScope s_ratio_of) := ⟨rfl, rfl, rfl, by decide +kernel, rfl, by decide +kernel, by decide +kernel⟩
section
variable {P : Program} {w : World} {K : W.Frag} {mg : Str → Option Value} {base : Heap} {C HC : Addr}
abbrev InitAt (K : W.Frag) (f : Addr) (fd : FuncData) : Prop := FunD K "__init__" "Ratio.__init__" (defArgs s_init) (defBody s_init) (defScope s_init) [.int 1] [] f fd
theorem ok_init {f f1 : Addr} {fd fd1 : FuncData} (F : InitAt K f fd) (T : Txt K mg C HC) (F1 : At K mg "is_integer" s_is_integer ["value"] f1 fd1) : FnOk P w K mg base L2.CX0 2 f fd ["self", "top", "bottom"] (spInit C) := by
  refine F.ok sc_init (fun vs H Q E h => ?_) fun cdv A outer s H vs Q E hr h => ?_
  · obtain ⟨p, dx, t, b, rfl, _⟩ := h
    rfl
  obtain ⟨p, dx, t, b, rfl, hp, hb, hz, q⟩ := h
  have G := ok_is_integer (P := P) (w := w) (base := base) F1 T
  refine ⟨_, pss_cons (ps_if (pt_not (pt_val (pe_call G hr (by rfl) F1.mg F1.fn.kp F1.b .nil pass0 (pa_cons (pv 1) pa_nil)))) (pss_one ps_never) pss_nil)
    (pss_cons (ps_if (PW.pt (pw_or (pt_not (pt_val (pe_call G hr (by rfl) F1.mg F1.fn.kp F1.b .nil pass0 (pa_cons (pv 2) pa_nil)))) (pw_or1 (pt_cmp (pc_eqI (pv 2) pe_int))))) (pss_one ps_never) pss_nil)
    (pss_cons (ps_set (i := 3) sc_init.nd rfl (.inl rfl) (pe_callBfun cr_gcd (by rfl) T.gcd_ (pa_cons (pv 1) (pa_cons (pv 2) pa_nil))))
    (pss_cons (ps_if (pt_cmp (pc_lt (pv 2) pe_int)) (pss_one (ps_set (i := 3) sc_init.nd rfl (.inl rfl) (pe_un un_neg (pv 3)))) pss_nil)
    (pss_cons (ps_fld (pv 0) (pe_op op_fdivN (pv 1) (pv 3)) rfl) (pss_one (ps_fld (pv 0) (pe_op op_fdivN (pv 2) (pv 3)) rfl)))))), ?_⟩
  have len1 : ∀ i : Int, (D.int i).len ≤ sizeLine := fun i => by show 1921 ≤ 2 ^ 24; decide
  refine ⟨.int t, rfl, .int t, .int t, rfl, .int t, len1 _, fun H1 s1 => ⟨_, rfl, iteF ?_⟩⟩
  refine ⟨.int b, rfl, .int b, .int b, rfl, .int b, len1 _, fun H2 s2 => ⟨_, rfl, iteF ⟨.int b, rfl, b, 0, rfl, rfl, _, rfl, ?_⟩⟩⟩
  refine iteB (b := decide (b = 0)) (fun e => absurd (of_decide_eq_true e) hb) fun _ => ?_
  refine ⟨.int t, rfl, .int b, rfl, t, b, rfl, .int b, rfl, b, 0, rfl, rfl, _, rfl, ?_⟩
  have s12 : Same H H2 := s1.trans s2
  -- the two stores
  have rest : ∀ c : Int, c = cm t b → c ≠ 0 → c.natAbs < 1073741824 →
      tSeq (sFld K (tVar 0) (tOp (rI CDivN fun i j => .int (i.fdiv j)) (tVar 1) (tVar 3)) "_top") (sFld K (tVar 0) (tOp (rI CDivN fun i j => .int (i.fdiv j)) (tVar 2) (tVar 3)) "_bottom") { nx := fun _ H' => Q .non H', rt := Q } [some (.ref p), some (.int t), some (.int b), some (.int c)] H2 := by
    rintro c rfl c0 cz
    refine ⟨.int t, rfl, .int _, rfl, t, _, rfl, rfl, ⟨c0, cz⟩, .ref p, rfl, p, C, dx, [], rfl, s12 _ _ hp, T.clC, T.nTop, by show 0 < 1000; decide, ?_⟩
    refine ⟨.int b, rfl, .int _, rfl, b, _, rfl, rfl, ⟨c0, cz⟩, .ref p, rfl, p, C, dx, _, rfl, upd_same, T.clC, T.nBot, by show 1 < 1000; decide, ?_⟩
    refine q _ (fun z o e hz => ?_) upd_same
    rw [upd_ne hz, upd_ne hz]
    exact s12 _ _ e
  have gpos : (0 : Int) < ((Nat.gcd t.natAbs b.natAbs : Nat) : Int) := by
    have : 0 < Nat.gcd t.natAbs b.natAbs := Nat.gcd_pos_of_pos_right _ (by omega)
    omega
  refine iteB (b := decide (b < 0)) (fun e => ?_) fun e => ?_
  · have e' : b < 0 := of_decide_eq_true e
    refine ⟨.int _, rfl, _, rfl, rest _ ?_ ?_ ?_⟩
    · unfold cm
      rw [if_pos e']
    · omega
    · omega
  · have e' : ¬ b < 0 := of_decide_eq_false e
    refine rest _ ?_ ?_ ?_
    · unfold cm
      rw [if_neg e']
    · omega
    · omega
/-! Ratio.__repr__ -/
theorem ok_repr {f : Addr} {fd : FuncData} (F : Fun K "__repr__" "Ratio.__repr__" s_repr f fd) (T : Txt K mg C HC) : FnOk P w K mg base L2.CX0 1 f fd ["self"] (spRepr C) := by
  refine F.ok sc_repr (fun vs H Q E h => ?_) fun cdv A outer s H vs Q E hr h => ?_
  · obtain ⟨a, dx, fs, t, b, rfl, _⟩ := h
    rfl
  obtain ⟨a, dx, fs, t, b, rfl, ha, ht, hb, zt, zb, q⟩ := h
  refine ⟨_, pss_one (ps_ret (pe_joined (.cons pe_str (.cons (pe_fmt (pe_fld (pv 0) rfl)) (.cons pe_str (.cons (pe_fmt (pe_fld (pv 0) rfl)) (.cons pe_str .nil))))))), ?_⟩
  have q1 := len_int zt
  have q2 := len_int zb
  have e0 : (Str.empty).length = 0 := rfl
  have e1 : (("Ratio(" : String) : Str).length = 6 := rfl
  have e2 : ((", " : String) : Str).length = 2 := rfl
  have e3 : ((")" : String) : Str).length = 1 := rfl
  have z : (6000 : Nat) ≤ sizeLine := by decide
  refine ⟨_, rfl, by rw [strLen_append, e0, e1]; omega, .ref a, rfl, a, C, dx, fs, _, rfl, ha, T.clC, T.nTop, ht, .inr ⟨t, rfl, zt, _, rfl, by rw [strLen_append, strLen_append, e0, e1]; omega, ?_⟩⟩
  refine ⟨_, rfl, by rw [strLen_append, strLen_append, strLen_append, e0, e1, e2]; omega, .ref a, rfl, a, C, dx, fs, _, rfl, ha, T.clC, T.nBot, hb, .inr ⟨b, rfl, zb, _, rfl, by rw [strLen_append, strLen_append, strLen_append, strLen_append, e0, e1, e2]; omega, ?_⟩⟩
  exact ⟨_, rfl, by rw [strLen_append, strLen_append, strLen_append, strLen_append, strLen_append, e0, e1, e2, e3]; omega, q⟩
end
end KT

set_option Elab.async false
set_option linter.all false
set_option maxRecDepth 100000
set_option maxHeartbeats 4000000
namespace KT
open PySem L2 TW
abbrev r_init : Stmt := inClass (top 13) 0
abbrev r_top : Stmt := inClass (top 13) 1
abbrev r_bottom : Stmt := inClass (top 13) 2
abbrev r_add : Stmt := inClass (top 13) 5
abbrev r_sub : Stmt := inClass (top 13) 7
abbrev r_mul : Stmt := inClass (top 13) 9
abbrev r_neg : Stmt := inClass (top 13) 11
abbrev r_of : Stmt := top 16
theorem sr_init : FnScope ["self", "top", "bottom", "common"] ["self", "top", "bottom"] (defScope r_init) := ⟨rfl, rfl, rfl, by decide +kernel, rfl, by decide +kernel, by decide +kernel⟩
theorem sr_top : FnScope ["self"] ["self"] (defScope r_top) := ⟨rfl, rfl, rfl, by decide +kernel, rfl, by decide +kernel, by decide +kernel⟩
theorem sr_bottom : FnScope ["self"] ["self"] (defScope r_bottom) := ⟨rfl, rfl, rfl, by decide +kernel, rfl, by decide +kernel, by decide +kernel⟩
theorem sr_add : FnScope ["self", "other", "right"] ["self", "other"] (defScope r_add) := ⟨rfl, rfl, rfl, by decide +kernel, rfl, by decide +kernel, by decide +kernel⟩
theorem sr_mul : FnScope ["self", "other", "right"] ["self", "other"] (defScope r_mul) := ⟨rfl, rfl, rfl, by decide +kernel, rfl, by decide +kernel, by decide +kernel⟩
theorem sr_sub : FnScope ["self", "other"] ["self", "other"] (defScope r_sub) := ⟨rfl, rfl, rfl, by decide +kernel, rfl, by decide +kernel, by decide +kernel⟩
theorem sr_neg : FnScope ["self"] ["self"] (defScope r_neg) := ⟨rfl, rfl, rfl, by decide +kernel, rfl, by decide +kernel, by decide +kernel⟩
theorem sr_of : FnScope ["number"] ["number"] (defScope r_of) := ⟨rfl, rfl, rfl, by decide +kernel, rfl, by decide +kernel, by decide +kernel⟩
/-- a new one is t / b -/
def spMk (C : Addr) : Sp := fun vs H Q _ => ∃ (p dx : Addr) (t b : Int), vs = [.ref p, .int t, .int b] ∧ H p = some (.ins C dx []) ∧ b ≠ 0 ∧ b.natAbs < 2 ^ 9000 ∧
  ∀ H', (∀ q o, H q = some o → q ≠ p → H' q = some o) → RatAt C H' p (Rat.divInt t b) → Q .non H'
def spOf (C : Addr) : Sp := fun vs H Q _ => ∃ x q, vs = [x] ∧ NumAt C H x q ∧ ∀ p H', Same H H' → RatAt C H' p q → Q (.ref p) H'
def spNum (C : Addr) : Sp := fun vs H Q _ => ∃ a q, vs = [.ref a] ∧ RatAt C H a q ∧ Q (.int q.num) H
def spDen (C : Addr) : Sp := fun vs H Q _ => ∃ a q, vs = [.ref a] ∧ RatAt C H a q ∧ Q (.int q.den) H
def spOp2 (C : Addr) (g : Rat → Rat → Rat) : Sp := fun vs H Q _ => ∃ a y p r, vs = [.ref a, y] ∧ RatAt C H a p ∧ NumAt C H y r ∧ Bits 4000 p ∧ Bits 4000 r ∧ ∀ c H', Same H H' → RatAt C H' c (g p r) → Q (.ref c) H'
def spOp1 (C : Addr) (g : Rat → Rat) : Sp := fun vs H Q _ => ∃ a p, vs = [.ref a] ∧ RatAt C H a p ∧ Bits 4000 p ∧ ∀ c H', Same H H' → RatAt C H' c (g p) → Q (.ref c) H'
section
variable {P : Program} {w : World} {K : W.Frag} {mg : Str → Option Value} {base : Heap} {C HC : Addr}
abbrev InitR (K : W.Frag) (f : Addr) (fd : FuncData) : Prop := FunD K "__init__" "Ratio.__init__" (defArgs r_init) (defBody r_init) (defScope r_init) [.int 1] [] f fd
theorem initR_binds {f : Addr} {fd : FuncData} (F : InitR K f fd) : ∃ ds, Vals [V.int 1] ds ∧ Binds K fd ["self", "top", "bottom"] ds :=
  F.binds1 (n := 2) (j := 0) (by simp) rfl fun T kV doc pm an cdv ct us its h1 h2 => match us, its, h1, h2 with
    | [_, _], [_], _, _ => ⟨_, rfl, rfl⟩
theorem ok_mk {f f1 : Addr} {fd fd1 : FuncData} (F : InitR K f fd) (T : Txt K mg C HC) (F1 : At K mg "is_integer" s_is_integer ["value"] f1 fd1) : FnOk P w K mg base L2.CX0 2 f fd ["self", "top", "bottom"] (spMk C) := by
  refine F.ok sr_init (fun vs H Q E h => ?_) fun cdv A outer s H vs Q E hr h => ?_
  · obtain ⟨p, dx, t, b, rfl, _⟩ := h
    rfl
  obtain ⟨p, dx, t, b, rfl, hp, hb, hz, q⟩ := h
  have G := ok_is_integer (P := P) (w := w) (base := base) F1 T
  refine ⟨_, pss_cons (ps_if (pt_not (pt_val (pe_call G hr (by rfl) F1.mg F1.fn.kp F1.b .nil pass0 (pa_cons (pv 1) pa_nil)))) (pss_one ps_never) pss_nil)
    (pss_cons (ps_if (PW.pt (pw_or (pt_not (pt_val (pe_call G hr (by rfl) F1.mg F1.fn.kp F1.b .nil pass0 (pa_cons (pv 2) pa_nil)))) (pw_or1 (pt_cmp (pc_eqI (pv 2) pe_int))))) (pss_one ps_never) pss_nil)
    (pss_cons (ps_set (i := 3) sr_init.nd rfl (.inl rfl) (pe_callBfun cr_gcd (by rfl) T.gcd_ (pa_cons (pv 1) (pa_cons (pv 2) pa_nil))))
    (pss_cons (ps_if (pt_cmp (pc_lt (pv 2) pe_int)) (pss_one (ps_set (i := 3) sr_init.nd rfl (.inl rfl) (pe_un un_neg (pv 3)))) pss_nil)
    (pss_cons (ps_fld (pv 0) (pe_op op_fdivS (pv 1) (pv 3)) rfl) (pss_one (ps_fld (pv 0) (pe_op op_fdivS (pv 2) (pv 3)) rfl)))))), ?_⟩
  have len1 : ∀ i : Int, (D.int i).len ≤ sizeLine := fun i => by show 1921 ≤ 2 ^ 24; decide
  refine ⟨.int t, rfl, .int t, .int t, rfl, .int t, len1 _, fun H1 s1 => ⟨_, rfl, iteF ?_⟩⟩
  refine ⟨.int b, rfl, .int b, .int b, rfl, .int b, len1 _, fun H2 s2 => ⟨_, rfl, iteF ⟨.int b, rfl, b, 0, rfl, rfl, _, rfl, ?_⟩⟩⟩
  refine iteB (b := decide (b = 0)) (fun e => absurd (of_decide_eq_true e) hb) fun _ => ?_
  refine ⟨.int t, rfl, .int b, rfl, t, b, rfl, .int b, rfl, b, 0, rfl, rfl, _, rfl, ?_⟩
  have s12 : Same H H2 := s1.trans s2
  have c0 := comm_ne (t := t) hb
  have cz : (comm t b).natAbs.log2 < 9000 := lt_log2 (Nat.lt_of_le_of_lt (comm_le hb) hz) (by decide)
  -- the two stores
  have rest : ∀ c : Int, c = comm t b →
      tSeq (sFld K (tVar 0) (tOp (rI CDivS fun i j => .int (i.fdiv j)) (tVar 1) (tVar 3)) "_top") (sFld K (tVar 0) (tOp (rI CDivS fun i j => .int (i.fdiv j)) (tVar 2) (tVar 3)) "_bottom") { nx := fun _ H' => Q .non H', rt := Q } [some (.ref p), some (.int t), some (.int b), some (.int c)] H2 := by
    rintro c rfl
    refine ⟨.int t, rfl, .int _, rfl, t, _, rfl, rfl, ⟨c0, cz⟩, .ref p, rfl, p, C, dx, [], rfl, s12 _ _ hp, T.clC, T.nTop, by show 0 < 1000; decide, ?_⟩
    refine ⟨.int b, rfl, .int _, rfl, b, _, rfl, rfl, ⟨c0, cz⟩, .ref p, rfl, p, C, dx, _, rfl, upd_same, T.clC, T.nBot, by show 1 < 1000; decide, ?_⟩
    refine q _ (fun z o e hz => ?_) ⟨dx, _, upd_same, ?_, ?_, fun m h1 h2 => ?_⟩
    · rw [upd_ne hz, upd_ne hz]
      exact s12 _ _ e
    · rw [lookup_putF, if_neg (by decide +kernel), lookup_putF, if_pos rfl]
      exact congrArg (fun z => some (V.int z)) (num_comm hb)
    · rw [lookup_putF, if_pos rfl]
      exact congrArg (fun z => some (V.int z)) (den_comm hb)
    · rw [lookup_putF, if_neg h2, lookup_putF, if_neg h1]
      rfl
  refine iteB (b := decide (b < 0)) (fun e => ?_) fun e => ?_
  · have e' : b < 0 := of_decide_eq_true e
    refine ⟨.int _, rfl, _, rfl, rest _ ?_⟩
    unfold comm
    rw [if_pos e']
  · have e' : ¬ b < 0 := of_decide_eq_false e
    refine rest _ ?_
    unfold comm
    rw [if_neg e']
theorem num_dt {C : Addr} {H : Hp} {x : V} {q : Rat} (h : NumAt C H x q) : ∃ d : D, Dt C H x d ∧ isN d = true ∧ ∀ i : Int, x = .int i → d = .int i := by
  rcases h with ⟨i, rfl, _⟩ | ⟨a, rfl, dx, fs, e, t, b, _⟩
  · exact ⟨.int i, .int i, rfl, fun j e => by cases e; rfl⟩
  · exact ⟨_, .rat e t b, rfl, fun j e => by cases e⟩
theorem divInt_one (i : Int) : Rat.divInt i 1 = (i : Rat) := by
  refine Rat.ext ?_ ?_
  · rw [Rat.num_divInt, Rat.num_intCast]
    have e : Int.gcd 1 i = 1 := Int.gcd_one_left _
    rw [e]
    show 1 * i / 1 = i
    rw [Int.one_mul]
    exact Int.ediv_one i
  · rw [Rat.den_divInt, if_neg (by decide), Rat.den_intCast]
    have e : Int.gcd 1 i = 1 := Int.gcd_one_left _
    rw [e]
    rfl
theorem initR_all {f : Addr} {fd : FuncData} (F : InitR K f fd) : ∃ ds, Vals [] ds ∧ Binds K fd ["self", "top", "bottom"] ds :=
  F.binds1 (n := 3) (j := 1) (by simp) rfl fun T kV doc pm an cdv ct us its h1 h2 => match us, its, h1, h2 with
    | [_, _, _], [_], _, _ => ⟨_, rfl, rfl⟩
theorem ok_of {f f1 f2 : Addr} {fd fd1 fd2 : FuncData} (F : At K mg "ratio_of" r_of ["number"] f fd) (T : Txt K mg C HC) (F1 : At K mg "is_integer" s_is_integer ["value"] f1 fd1)
    (I : InitR K f2 fd2) (M : Mk K C f2) : FnOk P w K mg base L2.CX0 4 f fd ["number"] (spOf C) := by
  refine F.fn.ok sr_of (fun vs H Q E h => ?_) fun cdv A outer s H vs Q E hr h => ?_
  · obtain ⟨x, q, rfl, _⟩ := h
    rfl
  obtain ⟨x, p, rfl, hx, q⟩ := h
  obtain ⟨ds, vd, bd⟩ := initR_binds I
  obtain ⟨d, hd, hn, hi⟩ := num_dt hx
  refine ⟨_, pss_one (ps_ret (pe_ifExp (pt_val (pe_callB call_isi (by rfl) T.isi (by decide +kernel) (pa_cons (pv 0) (pa_cons (pe_glob (v := .ref C) (by rfl) T.mgC rfl) pa_nil)))) (pv 0)
    (pe_make M (ok_mk I T F1) hr (by rfl) T.mgC bd vd pass0 (pa_cons (pv 0) pa_nil)))), ?_⟩
  refine ⟨x, rfl, x, .ref C, _, _, _, rfl, .own C, tyx T hd, kit_rat T d, _, rfl, ?_⟩
  rcases hx with ⟨i, rfl, rfl⟩ | ⟨a, rfl, ha⟩
  · obtain rfl := hi i rfl
    refine iteF ⟨.int i, rfl, fun p dx np ndx ne => ?_⟩
    refine ⟨p, dx, i, 1, rfl, upd_same, by decide, by decide, fun H' keep hp => ⟨rfl, q p H' (fun b o e => ?_) ?_⟩⟩
    · refine keep b o ?_ (ne_of_none e np)
      rw [upd_ne (ne_of_none e np), upd_ne (ne_of_none e ndx)]
      exact e
    · rw [← divInt_one]
      exact hp
  · have e : isR d = true := by
      cases hd with
      | rat _ _ _ => rfl
      | _ => cases hn
    rw [e]
    exact iteT ⟨.ref a, rfl, q a H (Same.refl H) ha⟩
/-- a property of it -/
structure PrAt (K : W.Frag) (C : Addr) (x qual : Str) (st : Stmt) (p g : Addr) (gd : FuncData) : Prop where
  pr : PropOf K C x p g
  fn : Fun K x qual st g gd
  b : Binds K gd ["self"] []
theorem ok_top {f : Addr} {fd : FuncData} (F : Fun K "top" "Ratio.top" r_top f fd) (T : Txt K mg C HC) : FnOk P w K mg base L2.CX0 1 f fd ["self"] (spNum C) := by
  refine F.ok sr_top (fun vs H Q E h => ?_) fun cdv A outer s H vs Q E hr h => ?_
  · obtain ⟨a, q, rfl, _⟩ := h
    rfl
  obtain ⟨a, p, rfl, ⟨dx, fs, e, t, b, _⟩, q⟩ := h
  exact ⟨_, pss_one (ps_ret (pe_fld (pv 0) rfl)), ⟨.ref a, rfl, a, C, dx, fs, _, rfl, e, T.clC, T.nTop, t, q⟩⟩
theorem ok_bottom {f : Addr} {fd : FuncData} (F : Fun K "bottom" "Ratio.bottom" r_bottom f fd) (T : Txt K mg C HC) : FnOk P w K mg base L2.CX0 1 f fd ["self"] (spDen C) := by
  refine F.ok sr_bottom (fun vs H Q E h => ?_) fun cdv A outer s H vs Q E hr h => ?_
  · obtain ⟨a, q, rfl, _⟩ := h
    rfl
  obtain ⟨a, p, rfl, ⟨dx, fs, e, t, b, _⟩, q⟩ := h
  exact ⟨_, pss_one (ps_ret (pe_fld (pv 0) rfl)), ⟨.ref a, rfl, a, C, dx, fs, _, rfl, e, T.clC, T.nBot, b, q⟩⟩
/-- what the operators lean on -/
structure Ops (P : Program) (w : World) (K : W.Frag) (mg : Str → Option Value) (base : Heap) (C : Addr) : Prop where
  of : ∃ f fd, At K mg "ratio_of" r_of ["number"] f fd ∧ FnOk P w K mg base L2.CX0 4 f fd ["number"] (spOf C)
  mk_ : ∃ f fd ds, Mk K C f ∧ FnOk P w K mg base L2.CX0 2 f fd ["self", "top", "bottom"] (spMk C) ∧ Vals [] ds ∧ Binds K fd ["self", "top", "bottom"] ds
  top_ : ∃ p g gd, PrAt K C "top" "Ratio.top" r_top p g gd
  bot_ : ∃ p g gd, PrAt K C "bottom" "Ratio.bottom" r_bottom p g gd
theorem ok_add {f : Addr} {fd : FuncData} (F : Fun K "__add__" "Ratio.__add__" r_add f fd) (T : Txt K mg C HC) (O : Ops P w K mg base C) : FnOk P w K mg base L2.CX0 5 f fd ["self", "other"] (spOp2 C (· + ·)) := by
  refine F.ok sr_add (fun vs H Q E h => ?_) fun cdv A outer s H vs Q E hr h => ?_
  · obtain ⟨a, y, p, r, rfl, _⟩ := h
    rfl
  obtain ⟨a, y, p, r, rfl, ha, hy, bp, br, q⟩ := h
  obtain ⟨fo, fdo, Ao, No⟩ := O.of
  obtain ⟨fm, fdm, ds, M, Nm, vd, bd⟩ := O.mk_
  obtain ⟨pt, gt, gdt, Pt⟩ := O.top_
  obtain ⟨pb, gb, gdb, Pb⟩ := O.bot_
  have hr2 : Room 2 _ := hr.mono (by decide)
  have hr3 : Room 3 _ := hr.mono (by decide)
  refine ⟨_, (pss_cons (ps_set (i := 2) sr_add.nd rfl (.inl rfl) (pe_call No hr (by rfl) Ao.mg Ao.fn.kp Ao.b .nil pass0 (pa_cons (pv 1) pa_nil))) (pss_one (ps_ret (pe_make M Nm hr3 (by rfl) T.mgC bd vd pass0 (pa_cons (pe_op op_add (pe_op op_mulW (pe_fld (pv 0) rfl) (pe_prop (pv 2) T.clC Pb.pr (ok_bottom Pb.fn T) hr2 Pb.b .nil pass0 rfl)) (pe_op op_mulW (pe_prop (pv 2) T.clC Pt.pr (ok_top Pt.fn T) hr2 Pt.b .nil pass0 rfl) (pe_fld (pv 0) rfl))) (pa_cons (pe_op op_mulW (pe_fld (pv 0) rfl) (pe_prop (pv 2) T.clC Pb.pr (ok_bottom Pb.fn T) hr2 Pb.b .nil pass0 rfl)) pa_nil)))))), ?_⟩
  refine ⟨y, rfl, y, r, rfl, hy, fun c H1 s1 hc => ?_⟩
  obtain ⟨dx, fs, e, t, b, _⟩ := ha.same s1
  obtain ⟨dx2, fs2, e2, t2, b2, _⟩ := id hc
  have m1 : CMulW p.num r.den := wide_mul bp.1 (by rw [Int.natAbs_natCast]; exact br.2) (by decide) (by decide) (by decide)
  have m2 : CMulW r.num p.den := wide_mul br.1 (by rw [Int.natAbs_natCast]; exact bp.2) (by decide) (by decide) (by decide)
  have m3 : CMulW (p.den : Int) r.den := wide_mul (by rw [Int.natAbs_natCast]; exact bp.2) (by rw [Int.natAbs_natCast]; exact br.2) (by decide) (by decide) (by decide)
  refine ⟨.ref a, rfl, a, C, dx, fs, _, rfl, e, T.clC, T.nTop, t, .ref c, rfl, c, dx2, fs2, rfl, e2, c, r, rfl, hc, _, _, rfl, rfl, m1, ?_⟩
  refine ⟨.ref c, rfl, c, dx2, fs2, rfl, e2, c, r, rfl, hc, .ref a, rfl, a, C, dx, fs, _, rfl, e, T.clC, T.nBot, b, _, _, rfl, rfl, m2, _, _, rfl, rfl, ?_⟩
  refine ⟨.ref a, rfl, a, C, dx, fs, _, rfl, e, T.clC, T.nBot, b, .ref c, rfl, c, dx2, fs2, rfl, e2, c, r, rfl, hc, _, _, rfl, rfl, m3, fun x dz nx ndz ne => ?_⟩
  have nz : (p.den : Int) * r.den ≠ 0 := Int.mul_ne_zero (Int.natCast_ne_zero.2 p.den_nz) (Int.natCast_ne_zero.2 r.den_nz)
  refine ⟨x, dz, _, _, rfl, upd_same, nz, ?_, fun H' keep hx => ⟨rfl, q x H' (fun b o e => ?_) ?_⟩⟩
  · rw [Int.natAbs_mul, Int.natAbs_natCast, Int.natAbs_natCast]
    exact Nat.lt_of_lt_of_le (pow_mul_lt bp.2 br.2) (Nat.pow_le_pow_right (by decide) (by decide))
  · have e1 := s1 _ _ e
    refine keep b o ?_ (ne_of_none e1 nx)
    rw [upd_ne (ne_of_none e1 nx), upd_ne (ne_of_none e1 ndz)]
    exact e1
  · rw [show (fun x1 x2 : Rat => x1 + x2) p r = p + r from rfl, rat_add]
    exact hx
theorem ok_mul {f : Addr} {fd : FuncData} (F : Fun K "__mul__" "Ratio.__mul__" r_mul f fd) (T : Txt K mg C HC) (O : Ops P w K mg base C) : FnOk P w K mg base L2.CX0 5 f fd ["self", "other"] (spOp2 C (· * ·)) := by
  refine F.ok sr_mul (fun vs H Q E h => ?_) fun cdv A outer s H vs Q E hr h => ?_
  · obtain ⟨a, y, p, r, rfl, _⟩ := h
    rfl
  obtain ⟨a, y, p, r, rfl, ha, hy, bp, br, q⟩ := h
  obtain ⟨fo, fdo, Ao, No⟩ := O.of
  obtain ⟨fm, fdm, ds, M, Nm, vd, bd⟩ := O.mk_
  obtain ⟨pt, gt, gdt, Pt⟩ := O.top_
  obtain ⟨pb, gb, gdb, Pb⟩ := O.bot_
  have hr2 : Room 2 _ := hr.mono (by decide)
  have hr3 : Room 3 _ := hr.mono (by decide)
  refine ⟨_, (pss_cons (ps_set (i := 2) sr_mul.nd rfl (.inl rfl) (pe_call No hr (by rfl) Ao.mg Ao.fn.kp Ao.b .nil pass0 (pa_cons (pv 1) pa_nil))) (pss_one (ps_ret (pe_make M Nm hr3 (by rfl) T.mgC bd vd pass0 (pa_cons (pe_op op_mulW (pe_fld (pv 0) rfl) (pe_prop (pv 2) T.clC Pt.pr (ok_top Pt.fn T) hr2 Pt.b .nil pass0 rfl)) (pa_cons (pe_op op_mulW (pe_fld (pv 0) rfl) (pe_prop (pv 2) T.clC Pb.pr (ok_bottom Pb.fn T) hr2 Pb.b .nil pass0 rfl)) pa_nil)))))), ?_⟩
  refine ⟨y, rfl, y, r, rfl, hy, fun c H1 s1 hc => ?_⟩
  obtain ⟨dx, fs, e, t, b, _⟩ := ha.same s1
  obtain ⟨dx2, fs2, e2, t2, b2, _⟩ := id hc
  have m1 : CMulW p.num r.num := wide_mul bp.1 br.1 (by decide) (by decide) (by decide)
  have m3 : CMulW (p.den : Int) r.den := wide_mul (by rw [Int.natAbs_natCast]; exact bp.2) (by rw [Int.natAbs_natCast]; exact br.2) (by decide) (by decide) (by decide)
  refine ⟨.ref a, rfl, a, C, dx, fs, _, rfl, e, T.clC, T.nTop, t, .ref c, rfl, c, dx2, fs2, rfl, e2, c, r, rfl, hc, _, _, rfl, rfl, m1, ?_⟩
  refine ⟨.ref a, rfl, a, C, dx, fs, _, rfl, e, T.clC, T.nBot, b, .ref c, rfl, c, dx2, fs2, rfl, e2, c, r, rfl, hc, _, _, rfl, rfl, m3, fun x dz nx ndz ne => ?_⟩
  have nz : (p.den : Int) * r.den ≠ 0 := Int.mul_ne_zero (Int.natCast_ne_zero.2 p.den_nz) (Int.natCast_ne_zero.2 r.den_nz)
  refine ⟨x, dz, _, _, rfl, upd_same, nz, ?_, fun H' keep hx => ⟨rfl, q x H' (fun b o e => ?_) ?_⟩⟩
  · rw [Int.natAbs_mul, Int.natAbs_natCast, Int.natAbs_natCast]
    exact Nat.lt_of_lt_of_le (pow_mul_lt bp.2 br.2) (Nat.pow_le_pow_right (by decide) (by decide))
  · have e1 := s1 _ _ e
    refine keep b o ?_ (ne_of_none e1 nx)
    rw [upd_ne (ne_of_none e1 nx), upd_ne (ne_of_none e1 ndz)]
    exact e1
  · rw [show (fun x1 x2 : Rat => x1 * x2) p r = p * r from rfl, rat_mul]
    exact hx
theorem ok_neg {f : Addr} {fd : FuncData} (F : Fun K "__neg__" "Ratio.__neg__" r_neg f fd) (T : Txt K mg C HC) (O : Ops P w K mg base C) : FnOk P w K mg base L2.CX0 5 f fd ["self"] (spOp1 C (fun p => -p)) := by
  refine F.ok sr_neg (fun vs H Q E h => ?_) fun cdv A outer s H vs Q E hr h => ?_
  · obtain ⟨a, p, rfl, _⟩ := h
    rfl
  obtain ⟨a, p, rfl, ha, bp, q⟩ := h
  obtain ⟨fm, fdm, ds, M, Nm, vd, bd⟩ := O.mk_
  have hr3 : Room 3 _ := hr.mono (by decide)
  refine ⟨_, (pss_one (ps_ret (pe_make M Nm hr3 (by rfl) T.mgC bd vd pass0 (pa_cons (pe_un un_neg (pe_fld (pv 0) rfl)) (pa_cons (pe_fld (pv 0) rfl) pa_nil))))), ?_⟩
  obtain ⟨dx, fs, e, t, b, _⟩ := ha
  refine ⟨.ref a, rfl, a, C, dx, fs, _, rfl, e, T.clC, T.nTop, t, _, rfl, .ref a, rfl, a, C, dx, fs, _, rfl, e, T.clC, T.nBot, b, fun x dz nx ndz ne => ?_⟩
  have nz : (p.den : Int) ≠ 0 := Int.natCast_ne_zero.2 p.den_nz
  refine ⟨x, dz, _, _, rfl, upd_same, nz, ?_, fun H' keep hx => ⟨rfl, q x H' (fun b o e1 => ?_) ?_⟩⟩
  · rw [Int.natAbs_natCast]
    exact Nat.lt_of_lt_of_le bp.2 (Nat.pow_le_pow_right (by decide) (by decide))
  · refine keep b o ?_ (ne_of_none e1 nx)
    rw [upd_ne (ne_of_none e1 nx), upd_ne (ne_of_none e1 ndz)]
    exact e1
  · have e2 := Rat.neg_divInt p.num p.den
    rw [Rat.num_divInt_den] at e2
    rw [show (fun p : Rat => -p) p = -p from rfl, e2]
    exact hx
theorem bits_neg {n : Nat} {p : Rat} (h : Bits n p) : Bits n (-p) := ⟨by rw [Rat.neg_num, Int.natAbs_neg]; exact h.1, by rw [Rat.neg_den]; exact h.2⟩
/-- an operator of the class stands -/
structure OpAt (P : Program) (w : World) (K : W.Frag) (mg : Str → Option Value) (base : Heap) (C : Addr) (name : Str) (ps : List Str) (sp : Sp) : Prop where
  ex : ∃ f fd, Own K C f name ∧ FnOk P w K mg base L2.CX0 5 f fd ps sp ∧ Binds K fd ps []
theorem ok_sub {f : Addr} {fd : FuncData} (F : Fun K "__sub__" "Ratio.__sub__" r_sub f fd) (T : Txt K mg C HC) (O : Ops P w K mg base C) (sf : W.selfFirst K C = true)
    (Ad : OpAt P w K mg base C "__add__" ["self", "other"] (spOp2 C (· + ·))) (Ne : OpAt P w K mg base C "__neg__" ["self"] (spOp1 C fun p => -p)) : FnOk P w K mg base L2.CX0 6 f fd ["self", "other"] (spOp2 C (· - ·)) := by
  refine F.ok sr_sub (fun vs H Q E h => ?_) fun cdv A outer s H vs Q E hr h => ?_
  · obtain ⟨a, y, p, r, rfl, _⟩ := h
    rfl
  obtain ⟨a, y, p, r, rfl, ha, hy, bp, br, q⟩ := h
  obtain ⟨fo, fdo, Ao, No⟩ := O.of
  obtain ⟨fa, fda, Oa, Na, Ba⟩ := Ad.ex
  obtain ⟨fn, fdn, On, Nn, Bn⟩ := Ne.ex
  have hr4 : Room 4 _ := hr.mono (by decide)
  refine ⟨_, pss_one (ps_ret (pe_op (op_own (op := .Add) Oa sf Na hr Ba pass0) (pv 0) (pe_un (un_ownNeg On Nn hr Bn pass0) (pe_call No hr4 (by rfl) Ao.mg Ao.fn.kp Ao.b .nil pass0 (pa_cons (pv 1) pa_nil))))), ?_⟩
  refine ⟨.ref a, rfl, y, rfl, y, r, rfl, hy, fun c H1 s1 hc => ?_⟩
  obtain ⟨dx2, fs2, e2, t2, b2, _⟩ := id hc
  refine ⟨c, dx2, fs2, rfl, e2, c, r, rfl, hc, br, fun d H2 s2 hd => ?_⟩
  have ha2 := (ha.same s1).same s2
  obtain ⟨dx, fs, e, t, b, _⟩ := id ha2
  obtain ⟨dx3, fs3, e3, t3, b3, _⟩ := id hd
  refine ⟨a, d, dx, dx3, fs, fs3, rfl, rfl, e, e3, a, .ref d, p, -r, rfl, ha2, .inr ⟨d, rfl, hd⟩, bp, bits_neg br, fun x H3 s3 hx => ⟨⟨x, rfl⟩, q x H3 ((s1.trans s2).trans s3) ?_⟩⟩
  rw [show (fun x1 x2 : Rat => x1 - x2) p r = p - r from rfl, Rat.sub_eq_add_neg]
  exact hx
end
end KT

set_option Elab.async false
set_option linter.all false
set_option maxRecDepth 100000
set_option maxHeartbeats 4000000
namespace KT
open PySem L2 TW
abbrev r_total : Stmt := inClass (top 13) 17
theorem sr_total : FnScope ["cls", "numbers", "found", "number"] ["cls", "numbers"] (defScope r_total) := ⟨rfl, rfl, rfl, by decide +kernel, rfl, by decide +kernel, by decide +kernel⟩
/-- the i-th slot holds the class at C -/
def tMakeL (i : Nat) (C : Addr) (sp : Sp) (dvs : List V) (E : XK) (t : TA) : TE := fun σ H Q => σ[i]? = some (some (.ref C)) ∧ tMake C sp dvs E t σ H Q
section
variable {X : Cx} {CX : CXT} {k i : Nat} {f C : Addr} {fd : FuncData} {ps : List Str} {sp : Sp} {dvs : List V} {ds : List Value} {E : XK} {x : Str} {p pos : Pos} {e : Expr} {es : List Expr} {t : TA}
theorem pe_makeL (M : Mk X.K C f) (F : FnOk X.prog X.w X.K X.mg X.base CX k f fd ps sp) (hr : Room (k + 1) X.A) (hN : X.N[i]? = some x) (hv : Vis X.env.scope x) (hb : Binds X.K fd ps ds) (hd : Vals dvs ds) (hx : Passes CX X E) (ha : PA X (e :: es) t)
    (hdb : (x == ("__debug__" : Str)) = false := by decide) (hcd : (x == ("__classdict__" : Str)) = false := by decide)
    (he : starEach (e :: es) X.env = (false, eval e X.env) :: starEach es X.env := by rfl) (hpl : (backTo pos (starEach es X.env)).any (·.1) = false := by rfl) : PE X (.Call (.Name x p) (e :: es) [] pos) (tMakeL i C sp dvs E t) := by
  refine ⟨fun pins s σ H Q I h => ?_⟩
  obtain ⟨hs, ht⟩ := h
  refine wpAny_Call_Name_kw (thn ((pe_var (pos := p) hN hv hdb hcd).run pins s σ H (fun v H1 => v = .ref C ∧ H1 = H) I ⟨.ref C, hs, rfl, rfl⟩) fun u s1 ⟨v, H1, I1, r1, q1⟩ => ?_)
  obtain ⟨rfl, rfl⟩ := q1
  cases r1
  refine W.callWith_K (h₀ := X.base) I.ok.mod.kin M.kp (thn (ha.run pos pins s1 σ _ _ I1 ht) fun us s2 ⟨vs, H2, I2, r, q⟩ => ⟨I2.kIn, ?_⟩) he hpl
  exact run_make M F hr hb hd hx I2 r q
end
/-- NUMBERS and their worths -/
inductive Nums (C : Addr) (H : Hp) : List V → List Rat → Prop
  | nil : Nums C H [] []
  | cons {x : V} {q : Rat} {xs : List V} {l : List Rat} : NumAt C H x q → Nums C H xs l → Nums C H (x :: xs) (q :: l)
theorem Nums.same {C : Addr} {H H' : Hp} (s : Same H H') : ∀ {xs : List V} {l : List Rat}, Nums C H xs l → Nums C H' xs l
  | _, _, .nil => .nil
  | _, _, .cons h t => .cons (h.same s) (t.same s)
theorem Nums.length {C : Addr} {H : Hp} : ∀ {xs : List V} {l : List Rat}, Nums C H xs l → xs.length = l.length
  | _, _, .nil => rfl
  | _, _, .cons _ t => congrArg Nat.succ t.length
theorem Nums.at {C : Addr} {H : Hp} : ∀ {xs : List V} {l : List Rat}, Nums C H xs l → ∀ {i : Nat} {x : V}, xs[i]? = some x → ∃ q, l[i]? = some q ∧ NumAt C H x q
  | _, _, .cons h t, 0, x, e => ⟨_, rfl, by cases e; exact h⟩
  | _, _, .cons h t, i + 1, x, e => t.at (i := i) e
theorem Nums.dts {C : Addr} {H : Hp} : ∀ {xs : List V} {l : List Rat}, Nums C H xs l → ∃ ds, Dts C H xs ds ∧ lens ds ≤ 4002 * l.length ∧ ∀ d ∈ ds, isN d = true
  | _, _, .nil => ⟨[], .nil, Nat.zero_le _, fun _ h => nomatch h⟩
  | _, _, .cons (l := l) h t => by
    obtain ⟨ds, h1, h2, h3⟩ := t.dts
    obtain ⟨d, g1, g2, _⟩ := num_dt h
    refine ⟨d :: ds, .cons g1 h1, ?_, fun x hx => ?_⟩
    · have z : d.len ≤ 4000 := by
        cases d <;> first | (cases g2; done) | (show 1921 ≤ 4000; decide) | exact Nat.le_refl _
      show d.len + 2 + lens ds ≤ 4002 * (l.length + 1)
      omega
    · rcases List.mem_cons.1 hx with rfl | hx
      · exact g2
      · exact h3 x hx
def sumQ (l : List Rat) : Rat := l.foldl (· + ·) 0
/-- partial sums are not too long -/
def Short (l : List Rat) : Prop := (∀ q ∈ l, Bits 4000 q) ∧ ∀ k, Bits 4000 (sumQ (l.take k))
theorem sumQ_more {l : List Rat} {i : Nat} {q : Rat} (h : l[i]? = some q) : sumQ (l.take (i + 1)) = sumQ (l.take i) + q := by
  unfold sumQ
  rw [List.take_add_one, h, List.foldl_append]
  rfl
def spTotal (K : W.Frag) (C : Addr) : Sp := fun vs H Q _ => ∃ a xs l, vs = [.ref C, .ref a] ∧ Sq K H a xs ∧ (H a = some (.lst xs) ∨ H a = some (.tup xs)) ∧ Nums C H xs l ∧ l.length ≤ 1000 ∧ Short l ∧ ∀ p H', Same H H' → RatAt C H' p (sumQ l) → Q (.ref p) H'
section
variable {P : Program} {w : World} {K : W.Frag} {mg : Str → Option Value} {base : Heap} {C HC : Addr}
theorem ok_total {f f1 fi : Addr} {fd fd1 fid : FuncData} (F : Fun K "total" "Ratio.total" r_total f fd) (T : Txt K mg C HC) (L : At K mg "is_list" s_is_list ["value"] f1 fd1) (I : InitR K fi fid) (M : Mk K C fi) (F1 : ∃ g gd, At K mg "is_integer" s_is_integer ["value"] g gd)
    (sf : W.selfFirst K C = true) (OI : OwnI K C "add") (Ad : OpAt P w K mg base C "__add__" ["self", "other"] (spOp2 C (· + ·))) : FnOk P w K mg base L2.CX0 6 f fd ["cls", "numbers"] (spTotal K C) := by
  refine F.ok sr_total (fun vs H Q E h => ?_) fun cdv A outer s H vs Q E hr h => ?_
  · obtain ⟨a, xs, l, rfl, _⟩ := h
    rfl
  obtain ⟨a, xs, l, rfl, hs, hat, hn, hl, hsh, q⟩ := h
  obtain ⟨g1, gd1, G1⟩ := F1
  obtain ⟨fa, fda, Oa, Na, Ba⟩ := Ad.ex
  obtain ⟨ds, vd, bd⟩ := initR_binds I
  have hr1 : Room 1 _ := hr.mono (by decide)
  have hr3 : Room 3 _ := hr.mono (by decide)
  refine ⟨_, (pss_cons (ps_if (pt_not (pt_val (pe_call (ok_is_list (base := base) L T) hr1 (by rfl) L.mg L.fn.kp L.b .nil pass0 (pa_cons (pv 1) pa_nil)))) (pss_one ps_never) pss_nil) (pss_cons (ps_set (i := 2) sr_total.nd rfl (.inl rfl) (pe_makeL M (ok_mk I T G1) hr3 (i := 0) rfl (.inl rfl) bd vd pass0 (pa_cons pe_int pa_nil))) (pss_cons (ps_for PassesOwn.never rfl (pi_seq (pv 1)) (pg_name (i := 3) sr_total.nd rfl (Or.inl rfl)) (pss_one (ps_set (i := 2) sr_total.nd rfl (.inl rfl) (pe_op (OpR.or (op_own (op := .Add) Oa sf Na hr Ba pass0) (op_ownI (op := .Add) Oa OI sf Na hr Ba pass0)) (pv 2) (pv 3))))) (pss_one (ps_ret (pv 2)))))), ?_⟩
  obtain ⟨ds', hds, hlen, _⟩ := hn.dts
  have big : 4002 * 1000 + 3 ≤ sizeLine := by decide
  obtain ⟨d, hd, hdl, hdi⟩ : ∃ d, Dt C H (.ref a) d ∧ d.len ≤ sizeLine ∧ isL d = true := by
    rcases hat with e | e
    · exact ⟨.lst ds', .lst e hds, by show 2 + lens ds' ≤ _; omega, rfl⟩
    · exact ⟨.tup ds', .tup e hds, by show 3 + lens ds' ≤ _; omega, rfl⟩
  refine ⟨.ref a, rfl, .ref a, d, rfl, hd, hdl, fun H1 s1 => ⟨_, rfl, ?_⟩⟩
  rw [hdi]
  refine iteF ⟨rfl, fun p dx np ndx ne => ⟨p, dx, 0, 1, rfl, upd_same, by decide, by decide, fun H2 keep hx => ⟨rfl, ?_⟩⟩⟩
  have s2 : Same H H2 := fun b o e => by
    have e1 := s1 _ _ e
    refine keep b o ?_ (ne_of_none e1 np)
    rw [upd_ne (ne_of_none e1 np), upd_ne (ne_of_none e1 ndx)]
    exact e1
  rw [divInt_one] at hx
  have lx := hn.length
  have start : ∃ o3 c, [some (.ref C), some (.ref a), some (.ref p), none] = [some (V.ref C), some (.ref a), some (.ref c), o3] ∧ Same H H2 ∧ RatAt C H2 c (sumQ (l.take 0)) := ⟨none, p, rfl, s2, hx⟩
  have turn : ∀ (i : Nat) (y : V) (σ : L2.St) (H3 : Hp) (Nx : L2.St → Hp → Prop), xs[i]? = some y → (∃ o3 c, σ = [some (V.ref C), some (.ref a), some (.ref c), o3] ∧ Same H H3 ∧ RatAt C H3 c (sumQ (l.take i))) →
      (∀ σ' H', (∃ o3 c, σ' = [some (V.ref C), some (.ref a), some (.ref c), o3] ∧ Same H H' ∧ RatAt C H' c (sumQ (l.take (i + 1)))) → Nx σ' H') →
      gName 3 y σ H3 fun σ2 H2 => tAsg (tOp (fun x y H Q => rOwn C (spOp2 C (· + ·)) E0 x y H Q ∨ rOwnI C (spOp2 C (· + ·)) E0 x y H Q) (tVar 2) (tVar 3)) (gName 2) { nx := Nx, rt := Q, ct := Nx, bk := Nx } σ2 H2 := by
    rintro i y σ H3 Nx hy ⟨o3, c, rfl, s3, hc⟩ nx
    obtain ⟨r, hr', hny⟩ := hn.at hy
    have hny3 := hny.same s3
    obtain ⟨dc, fc, e, t, b, _⟩ := id hc
    have bs := hsh.2 i
    have br := hsh.1 r (List.mem_of_getElem? hr')
    refine ⟨.ref c, rfl, y, rfl, ?_⟩
    have fin : ∀ x H4, Same H3 H4 → RatAt C H4 x (sumQ (l.take i) + r) → (∃ p, V.ref x = .ref p) ∧ Nx [some (.ref C), some (.ref a), some (.ref x), some y] H4 := fun x H4 s4 hx => ⟨⟨x, rfl⟩, nx _ _ ⟨some y, x, rfl, s3.trans s4, by rw [sumQ_more hr']; exact hx⟩⟩
    rcases hny3 with ⟨j, rfl, ej⟩ | ⟨z, rfl, hz⟩
    · exact .inr ⟨c, j, dc, fc, rfl, rfl, e, c, .int j, _, r, rfl, hc, .inl ⟨j, rfl, ej⟩, bs, br, fin⟩
    · obtain ⟨dz, fz, ez, tz, bz, _⟩ := id hz
      exact .inl ⟨c, z, dc, dz, fc, fz, rfl, rfl, e, ez, c, .ref z, _, r, rfl, hc, .inr ⟨z, rfl, hz⟩, bs, br, fin⟩
  have done : ∀ (σ : L2.St) (H3 : Hp), (∃ o3 c, σ = [some (V.ref C), some (.ref a), some (.ref c), o3] ∧ Same H H3 ∧ RatAt C H3 c (sumQ (l.take xs.length))) → tRet (tVar 2) { nx := fun _ H' => Q .non H', rt := Q } σ H3 := by
    rintro σ H3 ⟨o3, c, rfl, s3, hc⟩
    rw [lx, List.take_length] at hc
    exact ⟨.ref c, rfl, q c H3 s3 hc⟩
  rcases hs with hs | hs
  · refine .inl ⟨.ref a, rfl, a, rfl, ⟨xs, s2.seq hs⟩, for_list (K := K) (a := a) (xs := xs) (fun i σ H' => ∃ o3 c, σ = [some (V.ref C), some (.ref a), some (.ref c), o3] ∧ Same H H' ∧ RatAt C H' c (sumQ (l.take i))) start (fun i σ H' _ ⟨_, _, _, s, _⟩ => s.seq hs) (fun i y σ H' hy p => turn i y σ H' _ hy p fun _ _ z => z) done⟩
  · refine .inr ⟨.ref a, rfl, a, rfl, ⟨xs, Same.tup s2 hs⟩, for_tup (K := K) (a := a) (xs := xs) (fun i σ H' => ∃ o3 c, σ = [some (V.ref C), some (.ref a), some (.ref c), o3] ∧ Same H H' ∧ RatAt C H' c (sumQ (l.take i))) start (fun i σ H' _ ⟨_, _, _, s, _⟩ => Same.tup s hs) (fun i y σ H' hy p => turn i y σ H' _ hy p fun _ _ z => z) done⟩
end
end KT

set_option Elab.async false
set_option linter.all false
set_option maxRecDepth 100000
set_option maxHeartbeats 4000000
namespace KT
open PySem L2 TW
abbrev m_radd : Stmt := inClass (top 13) 6
abbrev m_rsub : Stmt := inClass (top 13) 8
abbrev m_rmul : Stmt := inClass (top 13) 10
abbrev m_over : Stmt := inClass (top 13) 12
abbrev m_size : Stmt := inClass (top 13) 13
abbrev m_below : Stmt := inClass (top 13) 14
abbrev m_most : Stmt := inClass (top 13) 15
abbrev m_eq : Stmt := inClass (top 13) 16
abbrev m_str : Stmt := inClass (top 13) 18
abbrev m_sign : Stmt := inClass (top 13) 3
abbrev m_whole : Stmt := inClass (top 13) 4
theorem mc_radd : FnScope ["self", "other"] ["self", "other"] (defScope m_radd) := ⟨rfl, rfl, rfl, by decide +kernel, rfl, by decide +kernel, by decide +kernel⟩
theorem mc_rsub : FnScope ["self", "other"] ["self", "other"] (defScope m_rsub) := ⟨rfl, rfl, rfl, by decide +kernel, rfl, by decide +kernel, by decide +kernel⟩
theorem mc_rmul : FnScope ["self", "other"] ["self", "other"] (defScope m_rmul) := ⟨rfl, rfl, rfl, by decide +kernel, rfl, by decide +kernel, by decide +kernel⟩
theorem mc_over : FnScope ["self", "other", "right"] ["self", "other"] (defScope m_over) := ⟨rfl, rfl, rfl, by decide +kernel, rfl, by decide +kernel, by decide +kernel⟩
theorem mc_size : FnScope ["self"] ["self"] (defScope m_size) := ⟨rfl, rfl, rfl, by decide +kernel, rfl, by decide +kernel, by decide +kernel⟩
theorem mc_eq : FnScope ["self", "other"] ["self", "other"] (defScope m_eq) := ⟨rfl, rfl, rfl, by decide +kernel, rfl, by decide +kernel, by decide +kernel⟩
theorem mc_str : FnScope ["self"] ["self"] (defScope m_str) := ⟨rfl, rfl, rfl, by decide +kernel, rfl, by decide +kernel, by decide +kernel⟩
theorem mc_sign : FnScope ["self"] ["self"] (defScope m_sign) := ⟨rfl, rfl, rfl, by decide +kernel, rfl, by decide +kernel, by decide +kernel⟩
/-- an int on the left: g i p -/
def spOpR (C : Addr) (g : Rat → Rat → Rat) : Sp := fun vs H Q _ => ∃ (a : Addr) (i : Int) (p : Rat), vs = [.ref a, .int i] ∧ RatAt C H a p ∧ Bits 4000 p ∧ Bits 4000 (i : Rat) ∧ ∀ c H', Same H H' → RatAt C H' c (g i p) → Q (.ref c) H'
def spOver (C : Addr) : Sp := fun vs H Q _ => ∃ (a : Addr) (y : V) (p r : Rat), vs = [.ref a, y] ∧ RatAt C H a p ∧ NumAt C H y r ∧ Bits 4000 p ∧ Bits 4000 r ∧ r ≠ 0 ∧ ∀ c H', Same H H' → RatAt C H' c (Rat.divInt (p.num * r.den) (p.den * r.num)) → Q (.ref c) H'
def spSize (C : Addr) : Sp := fun vs H Q _ => ∃ a p, vs = [.ref a] ∧ RatAt C H a p ∧ Bits 4000 p ∧ ∀ c H', Same H H' → RatAt C H' c (Rat.divInt (if p.num < 0 then -p.num else p.num) p.den) → Q (.ref c) H'
def spLt (C : Addr) (f : Int → Int → Bool) : Sp := fun vs H Q _ => ∃ a y p r, vs = [.ref a, y] ∧ RatAt C H a p ∧ NumAt C H y r ∧ Bits 4000 p ∧ Bits 4000 r ∧ ∀ H', Same H H' → Q (.bl (f (p.num * r.den) (r.num * p.den))) H'
def spEq (C : Addr) : Sp := fun vs H Q _ => ∃ (a : Addr) (y : V) (p : Rat), vs = [.ref a, y] ∧ RatAt C H a p ∧ ((∃ i, y = .int i ∧ Q (.bl false) H) ∨ ∃ b r, y = .ref b ∧ RatAt C H b r ∧ Q (.bl (decide (p = r))) H)
def strQ (p : Rat) : Str := if p.den = 1 then toString p.num else Str.empty ++ toString p.num ++ "/" ++ toString (p.den : Int)
def spStr (C : Addr) : Sp := fun vs H Q _ => ∃ a p, vs = [.ref a] ∧ RatAt C H a p ∧ Bits 1900 p ∧ Q (.str (strQ p)) H
def sgn (i : Int) : Int := if i = 0 then 0 else if 0 < i then 1 else -1
def spSign (C : Addr) : Sp := fun vs H Q _ => ∃ a p, vs = [.ref a] ∧ RatAt C H a p ∧ Q (.int (sgn p.num)) H
def spWhole (C : Addr) : Sp := fun vs H Q _ => ∃ a p, vs = [.ref a] ∧ RatAt C H a p ∧ Q (.bl (decide ((p.den : Int) = 1))) H
section
variable {P : Program} {w : World} {K : W.Frag} {mg : Str → Option Value} {base : Heap} {C HC : Addr}
theorem ok_sign {f : Addr} {fd : FuncData} (F : Fun K "sign" "Ratio.sign" m_sign f fd) (T : Txt K mg C HC) : FnOk P w K mg base L2.CX0 1 f fd ["self"] (spSign C) := by
  refine F.ok mc_sign (fun vs H Q E h => ?_) fun cdv A outer s H vs Q E hr h => ?_
  · obtain ⟨a, q, rfl, _⟩ := h
    rfl
  obtain ⟨a, p, rfl, ⟨dx, fs, e, t, b, _⟩, q⟩ := h
  refine ⟨_, (pss_cons (ps_if (pt_cmp (pc_eqI (pe_fld (pv 0) rfl) pe_int)) (pss_one (ps_ret pe_int)) pss_nil) (pss_one (ps_ret (pe_ifExp (pt_cmp (pc_gt (pe_fld (pv 0) rfl) pe_int)) pe_int (pe_un un_neg pe_int))))), ?_⟩
  refine ⟨.ref a, rfl, a, C, dx, fs, _, rfl, e, T.clC, T.nTop, t, _, _, rfl, rfl, _, rfl, iteB (b := decide (p.num = 0)) (fun z => ?_) fun z => ?_⟩
  · unfold sgn at q
    rw [if_pos (of_decide_eq_true z)] at q
    exact q
  · unfold sgn at q
    rw [if_neg (of_decide_eq_false z)] at q
    refine ⟨.ref a, rfl, a, C, dx, fs, _, rfl, e, T.clC, T.nTop, t, _, _, rfl, rfl, _, rfl, iteB (b := decide (0 < p.num)) (fun z => ?_) fun z => ?_⟩
    · rw [if_pos (of_decide_eq_true z)] at q
      exact q
    · rw [if_neg (of_decide_eq_false z)] at q
      exact ⟨1, rfl, q⟩

theorem ok_eq {f : Addr} {fd : FuncData} (F : Fun K "__eq__" "Ratio.__eq__" m_eq f fd) (T : Txt K mg C HC) : FnOk P w K mg base L2.CX0 1 f fd ["self", "other"] (spEq C) := by
  refine F.ok mc_eq (fun vs H Q E h => ?_) fun cdv A outer s H vs Q E hr h => ?_
  · obtain ⟨a, y, q, rfl, _⟩ := h
    rfl
  obtain ⟨a, y, p, rfl, ⟨dx, fs, e, t, b, _⟩, q⟩ := h
  refine ⟨_, (pss_one (ps_ret (pe_and (pe_callB call_isi (by rfl) T.isi (by decide +kernel) (pa_cons (pv 1) (pa_cons (pe_glob (v := .ref C) (by rfl) T.mgC rfl) pa_nil))) (pe_and (pe_cmp (pc_eqI (pe_fld (pv 0) rfl) (pe_fld (pv 1) rfl)) rfl) (pe_one (pe_cmp (pc_eqI (pe_fld (pv 0) rfl) (pe_fld (pv 1) rfl)) rfl)))))), ?_⟩
  rcases q with ⟨i, rfl, q⟩ | ⟨c, r, rfl, ⟨dx2, fs2, e2, t2, b2, _⟩, q⟩
  · refine ⟨.int i, rfl, .int i, .ref C, _, _, _, rfl, .own C, tyx T (.int i), kit_rat T (.int i), _, rfl, ?_⟩
    exact iteF q
  · refine ⟨.ref c, rfl, .ref c, .ref C, _, _, _, rfl, .own C, tyx T (.rat e2 t2 b2), kit_rat T (.rat r.num r.den), _, rfl, ?_⟩
    refine iteT ⟨.ref a, rfl, a, C, dx, fs, _, rfl, e, T.clC, T.nTop, t, .ref c, rfl, c, C, dx2, fs2, _, rfl, e2, T.clC, T.nTop, t2, _, _, rfl, rfl, _, rfl, iteB (b := decide (p.num = r.num)) (fun z => ?_) fun z => ?_⟩
    · refine ⟨.ref a, rfl, a, C, dx, fs, _, rfl, e, T.clC, T.nBot, b, .ref c, rfl, c, C, dx2, fs2, _, rfl, e2, T.clC, T.nBot, b2, _, _, rfl, rfl, ?_⟩
      have z1 := of_decide_eq_true z
      have : decide (p = r) = decide ((p.den : Int) = r.den) := by
        refine decide_eq_decide.2 ⟨fun h => by rw [h], fun h => Rat.ext z1 (by exact_mod_cast h)⟩
      rw [this] at q
      exact q
    · have : decide (p = r) = false := decide_eq_false fun h => (of_decide_eq_false z) (by rw [h])
      rw [this] at q
      exact q
end
end KT

set_option Elab.async false
set_option linter.all false
set_option maxRecDepth 100000
set_option maxHeartbeats 4000000
namespace KT
open PySem L2 TW
section
variable {P : Program} {w : World} {K : W.Frag} {mg : Str → Option Value} {base : Heap} {C HC : Addr}
theorem ok_radd {f : Addr} {fd : FuncData} (F : Fun K "__radd__" "Ratio.__radd__" m_radd f fd) (O : Ops P w K mg base C) (sf : W.selfFirst K C = true) (Ad : OpAt P w K mg base C "__add__" ["self", "other"] (spOp2 C (· + ·))) : FnOk P w K mg base L2.CX0 6 f fd ["self", "other"] (spOpR C (· + ·)) := by
  refine F.ok mc_radd (fun vs H Q E h => ?_) fun cdv A outer s H vs Q E hr h => ?_
  · obtain ⟨a, i, p, rfl, _⟩ := h
    rfl
  obtain ⟨a, i, p, rfl, ha, bp, bi, q⟩ := h
  obtain ⟨fo, fdo, Ao, No⟩ := O.of
  obtain ⟨fa, fda, Oa, Na, Ba⟩ := Ad.ex
  have hr4 : Room 4 _ := hr.mono (by decide)
  refine ⟨_, pss_one (ps_ret (pe_op (op_own (op := .Add) Oa sf Na hr Ba pass0) (pe_call No hr4 (by rfl) Ao.mg Ao.fn.kp Ao.b .nil pass0 (pa_cons (pv 1) pa_nil)) (pv 0))), ?_⟩
  refine ⟨.int i, rfl, .int i, (i : Rat), rfl, .inl ⟨i, rfl, rfl⟩, fun c H1 s1 hc => ?_⟩
  have ha1 := ha.same s1
  obtain ⟨dx, fs, e, t, b, _⟩ := id ha1
  obtain ⟨dx2, fs2, e2, t2, b2, _⟩ := id hc
  exact ⟨.ref a, rfl, c, a, dx2, dx, fs2, fs, rfl, rfl, e2, e, c, .ref a, i, p, rfl, hc, .inr ⟨a, rfl, ha1⟩, bi, bp, fun x H3 s3 hx => ⟨⟨x, rfl⟩, q x H3 (s1.trans s3) hx⟩⟩
theorem ok_rsub {f : Addr} {fd : FuncData} (F : Fun K "__rsub__" "Ratio.__rsub__" m_rsub f fd) (O : Ops P w K mg base C) (sf : W.selfFirst K C = true) {fa : Addr} {fda : FuncData} (Oa : Own K C fa "__sub__") (Na : FnOk P w K mg base L2.CX0 6 fa fda ["self", "other"] (spOp2 C (· - ·))) (Ba : Binds K fda ["self", "other"] []) :
    FnOk P w K mg base L2.CX0 7 f fd ["self", "other"] (spOpR C (· - ·)) := by
  refine F.ok mc_rsub (fun vs H Q E h => ?_) fun cdv A outer s H vs Q E hr h => ?_
  · obtain ⟨a, i, p, rfl, _⟩ := h
    rfl
  obtain ⟨a, i, p, rfl, ha, bp, bi, q⟩ := h
  obtain ⟨fo, fdo, Ao, No⟩ := O.of
  have hr4 : Room 4 _ := hr.mono (by decide)
  refine ⟨_, pss_one (ps_ret (pe_op (op_own (op := .Sub) Oa sf Na hr Ba pass0) (pe_call No hr4 (by rfl) Ao.mg Ao.fn.kp Ao.b .nil pass0 (pa_cons (pv 1) pa_nil)) (pv 0))), ?_⟩
  refine ⟨.int i, rfl, .int i, (i : Rat), rfl, .inl ⟨i, rfl, rfl⟩, fun c H1 s1 hc => ?_⟩
  have ha1 := ha.same s1
  obtain ⟨dx, fs, e, t, b, _⟩ := id ha1
  obtain ⟨dx2, fs2, e2, t2, b2, _⟩ := id hc
  exact ⟨.ref a, rfl, c, a, dx2, dx, fs2, fs, rfl, rfl, e2, e, c, .ref a, i, p, rfl, hc, .inr ⟨a, rfl, ha1⟩, bi, bp, fun x H3 s3 hx => ⟨⟨x, rfl⟩, q x H3 (s1.trans s3) hx⟩⟩
theorem ok_rmul {f : Addr} {fd : FuncData} (F : Fun K "__rmul__" "Ratio.__rmul__" m_rmul f fd) (O : Ops P w K mg base C) (sf : W.selfFirst K C = true) (Ad : OpAt P w K mg base C "__mul__" ["self", "other"] (spOp2 C (· * ·))) : FnOk P w K mg base L2.CX0 6 f fd ["self", "other"] (spOpR C (· * ·)) := by
  refine F.ok mc_rmul (fun vs H Q E h => ?_) fun cdv A outer s H vs Q E hr h => ?_
  · obtain ⟨a, i, p, rfl, _⟩ := h
    rfl
  obtain ⟨a, i, p, rfl, ha, bp, bi, q⟩ := h
  obtain ⟨fo, fdo, Ao, No⟩ := O.of
  obtain ⟨fa, fda, Oa, Na, Ba⟩ := Ad.ex
  have hr4 : Room 4 _ := hr.mono (by decide)
  refine ⟨_, pss_one (ps_ret (pe_op (op_own (op := .Mult) Oa sf Na hr Ba pass0) (pe_call No hr4 (by rfl) Ao.mg Ao.fn.kp Ao.b .nil pass0 (pa_cons (pv 1) pa_nil)) (pv 0))), ?_⟩
  refine ⟨.int i, rfl, .int i, (i : Rat), rfl, .inl ⟨i, rfl, rfl⟩, fun c H1 s1 hc => ?_⟩
  have ha1 := ha.same s1
  obtain ⟨dx, fs, e, t, b, _⟩ := id ha1
  obtain ⟨dx2, fs2, e2, t2, b2, _⟩ := id hc
  exact ⟨.ref a, rfl, c, a, dx2, dx, fs2, fs, rfl, rfl, e2, e, c, .ref a, i, p, rfl, hc, .inr ⟨a, rfl, ha1⟩, bi, bp, fun x H3 s3 hx => ⟨⟨x, rfl⟩, q x H3 (s1.trans s3) hx⟩⟩
theorem ok_over {f ps gs : Addr} {fd gds : FuncData} (F : Fun K "over" "Ratio.over" m_over f fd) (T : Txt K mg C HC) (O : Ops P w K mg base C) (Ps : PrAt K C "sign" "Ratio.sign" m_sign ps gs gds) : FnOk P w K mg base L2.CX0 5 f fd ["self", "other"] (spOver C) := by
  refine F.ok mc_over (fun vs H Q E h => ?_) fun cdv A outer s H vs Q E hr h => ?_
  · obtain ⟨a, y, p, r, rfl, _⟩ := h
    rfl
  obtain ⟨a, y, p, r, rfl, ha, hy, bp, br, r0, q⟩ := h
  obtain ⟨fo, fdo, Ao, No⟩ := O.of
  obtain ⟨fm, fdm, ds, M, Nm, vd, bd⟩ := O.mk_
  obtain ⟨pt, gt, gdt, Pt⟩ := O.top_
  obtain ⟨pb, gb, gdb, Pb⟩ := O.bot_
  have hr2 : Room 2 _ := hr.mono (by decide)
  have hr3 : Room 3 _ := hr.mono (by decide)
  refine ⟨_, (pss_cons (ps_set (i := 2) mc_over.nd rfl (.inl rfl) (pe_call No hr (by rfl) Ao.mg Ao.fn.kp Ao.b .nil pass0 (pa_cons (pv 1) pa_nil))) (pss_cons (ps_if (pt_cmp (pc_eqI (pe_prop (pv 2) T.clC Ps.pr (ok_sign Ps.fn T) hr2 Ps.b .nil pass0 rfl) pe_int)) (pss_one ps_never) pss_nil) (pss_one (ps_ret (pe_make M Nm hr3 (by rfl) T.mgC bd vd pass0 (pa_cons (pe_op op_mulW (pe_fld (pv 0) rfl) (pe_prop (pv 2) T.clC Pb.pr (ok_bottom Pb.fn T) hr2 Pb.b .nil pass0 rfl)) (pa_cons (pe_op op_mulW (pe_fld (pv 0) rfl) (pe_prop (pv 2) T.clC Pt.pr (ok_top Pt.fn T) hr2 Pt.b .nil pass0 rfl)) pa_nil))))))), ?_⟩
  refine ⟨y, rfl, y, r, rfl, hy, fun c H1 s1 hc => ?_⟩
  obtain ⟨dx, fs, e, t, b, _⟩ := ha.same s1
  obtain ⟨dx2, fs2, e2, t2, b2, _⟩ := id hc
  have n0 : r.num ≠ 0 := fun z => r0 (Rat.num_eq_zero.1 z)
  have sg : sgn r.num ≠ 0 := by
    unfold sgn
    rw [if_neg n0]
    split <;> decide
  refine ⟨.ref c, rfl, c, dx2, fs2, rfl, e2, c, r, rfl, hc, _, _, rfl, rfl, _, rfl, iteB (b := decide (sgn r.num = 0)) (fun z => absurd (of_decide_eq_true z) sg) fun _ => ?_⟩
  have m1 : CMulW p.num r.den := wide_mul bp.1 (by rw [Int.natAbs_natCast]; exact br.2) (by decide) (by decide) (by decide)
  have m3 : CMulW (p.den : Int) r.num := wide_mul (by rw [Int.natAbs_natCast]; exact bp.2) br.1 (by decide) (by decide) (by decide)
  refine ⟨.ref a, rfl, a, C, dx, fs, _, rfl, e, T.clC, T.nTop, t, .ref c, rfl, c, dx2, fs2, rfl, e2, c, r, rfl, hc, _, _, rfl, rfl, m1, ?_⟩
  refine ⟨.ref a, rfl, a, C, dx, fs, _, rfl, e, T.clC, T.nBot, b, .ref c, rfl, c, dx2, fs2, rfl, e2, c, r, rfl, hc, _, _, rfl, rfl, m3, fun x dz nx ndz ne => ?_⟩
  have nz : (p.den : Int) * r.num ≠ 0 := Int.mul_ne_zero (Int.natCast_ne_zero.2 p.den_nz) n0
  refine ⟨x, dz, _, _, rfl, upd_same, nz, ?_, fun H' keep hx => ⟨rfl, q x H' (fun b o e => ?_) hx⟩⟩
  · rw [Int.natAbs_mul, Int.natAbs_natCast]
    exact Nat.lt_of_lt_of_le (pow_mul_lt bp.2 br.1) (Nat.pow_le_pow_right (by decide) (by decide))
  · have e1 := s1 _ _ e
    refine keep b o ?_ (ne_of_none e1 nx)
    rw [upd_ne (ne_of_none e1 nx), upd_ne (ne_of_none e1 ndz)]
    exact e1
theorem ok_size {f : Addr} {fd : FuncData} (F : Fun K "size" "Ratio.size" m_size f fd) (T : Txt K mg C HC) (habs : mg "abs" = none) (O : Ops P w K mg base C) : FnOk P w K mg base L2.CX0 5 f fd ["self"] (spSize C) := by
  refine F.ok mc_size (fun vs H Q E h => ?_) fun cdv A outer s H vs Q E hr h => ?_
  · obtain ⟨a, p, rfl, _⟩ := h
    rfl
  obtain ⟨a, p, rfl, ha, bp, q⟩ := h
  obtain ⟨fm, fdm, ds, M, Nm, vd, bd⟩ := O.mk_
  have hr3 : Room 3 _ := hr.mono (by decide)
  refine ⟨_, (pss_one (ps_ret (pe_make M Nm hr3 (by rfl) T.mgC bd vd pass0 (pa_cons (pe_callB call_abs (by rfl) habs (by decide +kernel) (pa_cons (pe_fld (pv 0) rfl) pa_nil)) (pa_cons (pe_fld (pv 0) rfl) pa_nil))))), ?_⟩
  obtain ⟨dx, fs, e, t, b, _⟩ := ha
  refine ⟨.ref a, rfl, a, C, dx, fs, _, rfl, e, T.clC, T.nTop, t, _, rfl, .ref a, rfl, a, C, dx, fs, _, rfl, e, T.clC, T.nBot, b, fun x dz nx ndz ne => ?_⟩
  have nz : (p.den : Int) ≠ 0 := Int.natCast_ne_zero.2 p.den_nz
  refine ⟨x, dz, _, _, rfl, upd_same, nz, ?_, fun H' keep hx => ⟨rfl, q x H' (fun b o e1 => ?_) hx⟩⟩
  · rw [Int.natAbs_natCast]
    exact Nat.lt_of_lt_of_le bp.2 (Nat.pow_le_pow_right (by decide) (by decide))
  · refine keep b o ?_ (ne_of_none e1 nx)
    rw [upd_ne (ne_of_none e1 nx), upd_ne (ne_of_none e1 ndz)]
    exact e1


theorem ok_str {f : Addr} {fd : FuncData} (F : Fun K "__str__" "Ratio.__str__" m_str f fd) (T : Txt K mg C HC) (hstr : mg "str" = none) : FnOk P w K mg base L2.CX0 1 f fd ["self"] (spStr C) := by
  refine F.ok mc_str (fun vs H Q E h => ?_) fun cdv A outer s H vs Q E hr h => ?_
  · obtain ⟨a, p, rfl, _⟩ := h
    rfl
  obtain ⟨a, p, rfl, ⟨dx, fs, e, t, b, _⟩, bp, q⟩ := h
  have z1 : SmallI p.num := Nat.lt_trans (lt_log2 bp.1 (by decide)) (by decide)
  have z2 : SmallI (p.den : Int) := Nat.lt_trans (lt_log2 (by rw [Int.natAbs_natCast]; exact bp.2) (by decide)) (by decide)
  have q1 := len_int z1
  have q2 := len_int z2
  have e0 : (Str.empty).length = 0 := rfl
  have e1 : (("/" : String) : Str).length = 1 := rfl
  have z : (6000 : Nat) ≤ sizeLine := by decide
  refine ⟨_, (pss_cons (ps_if (pt_cmp (pc_eqI (pe_fld (pv 0) rfl) pe_int)) (pss_one (ps_ret (pe_callTy call_str_int (by rfl) hstr (by decide +kernel) (pa_cons (pe_fld (pv 0) rfl) pa_nil)))) pss_nil) (pss_one (ps_ret (pe_joined (.cons (pe_fmt (pe_fld (pv 0) rfl)) (.cons pe_str (.cons (pe_fmt (pe_fld (pv 0) rfl)) .nil))))))), ?_⟩
  refine ⟨.ref a, rfl, a, C, dx, fs, _, rfl, e, T.clC, T.nBot, b, _, _, rfl, rfl, _, rfl, iteB (b := decide ((p.den : Int) = 1)) (fun y => ?_) fun y => ?_⟩
  · have y' : p.den = 1 := by exact_mod_cast of_decide_eq_true y
    unfold strQ at q
    rw [if_pos y'] at q
    exact ⟨.ref a, rfl, a, C, dx, fs, _, rfl, e, T.clC, T.nTop, t, _, rfl, z1, q⟩
  · have y' : p.den ≠ 1 := fun h => of_decide_eq_false y (by rw [h]; rfl)
    unfold strQ at q
    rw [if_neg y'] at q
    refine ⟨.ref a, rfl, a, C, dx, fs, _, rfl, e, T.clC, T.nTop, t, .inr ⟨p.num, rfl, z1, _, rfl, by rw [strLen_append, e0]; omega, ?_⟩⟩
    refine ⟨_, rfl, by rw [strLen_append, strLen_append, e0, e1]; omega, .ref a, rfl, a, C, dx, fs, _, rfl, e, T.clC, T.nBot, b, .inr ⟨p.den, rfl, z2, _, rfl, by rw [strLen_append, strLen_append, strLen_append, e0, e1]; omega, q⟩⟩
end
end KT

set_option Elab.async false
set_option linter.all false
set_option maxRecDepth 100000
set_option maxHeartbeats 2000000
/-! values as trees, owned lists, what the slots hold -/
namespace EN
open PySem L2 TW

theorem same_new {H : Hp} {p : Addr} {o : HO} (h : H p = none) : Same H (upd H p o) := fun b x e => by
  rw [upd_ne (ne_of_none e h)]
  exact e
theorem Same.tup {K : W.Frag} {H H' : Hp} {a : Addr} {xs : List V} (e : Same H H') (h : SqT K H a xs) : SqT K H' a xs := by
  rcases h with (h | ⟨o, h⟩) | h
  · exact .inl (.inl (e _ _ h))
  · exact .inl (.inr ⟨o, e _ _ h⟩)
  · exact .inr h

/-- what a value is, without the heap -/
inductive D where
  | non | bl (b : Bool) | int (i : Int) | str (z : Str) | rat (q : Rat) | lst (l : List D) | tup (l : List D) | obj (c : Nat) (l : List D) | pot (k : Nat)
/-- owned lists, to leaves that are shared -/
inductive OT where
  | leaf (d : D) | node (l : List OT)
mutual
def OT.d : OT → D
  | .leaf d => d
  | .node l => .lst (dsO l)
def dsO : List OT → List D
  | [] => []
  | t :: l => t.d :: dsO l
end
theorem dsO_map : ∀ l : List OT, dsO l = l.map OT.d
  | [] => rfl
  | t :: l => by simp [dsO, dsO_map l]
/-- what stands around: Ratio's class, the classes with their fields, the pots -/
structure Gw where
  K : W.Frag
  rat : Addr
  cls : Nat → Addr
  fld : Nat → List Str
  pots : List Addr

/-- the heap without the places of S -/
def offL (S : List Addr) (H : Hp) : Hp := fun b => if b ∈ S then none else H b
theorem offL_at {S : List Addr} {H : Hp} {b : Addr} (h : b ∉ S) : offL S H b = H b := if_neg h
theorem offL_in {S : List Addr} {H : Hp} {b : Addr} (h : b ∈ S) : offL S H b = none := if_pos h
theorem offL_some {S : List Addr} {H : Hp} {b : Addr} {o : HO} (e : offL S H b = some o) : b ∉ S ∧ H b = some o := by
  by_cases z : b ∈ S
  · rw [offL_in z] at e; cases e
  · rw [offL_at z] at e; exact ⟨z, e⟩
theorem offL_same {S S' : List Addr} {H H' : Hp} (h : ∀ b o, H b = some o → b ∉ S → b ∉ S' ∧ H' b = some o) : Same (offL S H) (offL S' H') := fun b o e => by
  obtain ⟨z, e⟩ := offL_some e
  obtain ⟨h1, h2⟩ := h b o e z
  rw [offL_at h1]
  exact h2
theorem offL_all {S : List Addr} {H : Hp} : Same (offL S H) H := fun b o e => (offL_some e).2

mutual
inductive Dt (G : Gw) (H : Hp) : V → D → Prop
  | non : Dt G H .non .non
  | bl (b : Bool) : Dt G H (.bl b) (.bl b)
  | int (i : Int) : Dt G H (.int i) (.int i)
  | str (z : Str) : Dt G H (.str z) (.str z)
  | rat {a : Addr} {q : Rat} : RatAt G.rat H a q → Dt G H (.ref a) (.rat q)
  | lst {a : Addr} {xs : List V} {l : List D} : H a = some (.lst xs) → Dts G H xs l → Dt G H (.ref a) (.lst l)
  | tup {a : Addr} {xs : List V} {l : List D} : SqT G.K H a xs → Dts G H xs l → Dt G H (.ref a) (.tup l)
  | obj {a dx : Addr} {c : Nat} {xs : List V} {l : List D} : H a = some (.ins (G.cls c) dx ((G.fld c).zip xs)) → xs.length = (G.fld c).length → Dts G H xs l → Dt G H (.ref a) (.obj c l)
  | pot {k : Nat} {a : Addr} : G.pots[k]? = some a → Dt G H (.ref a) (.pot k)
inductive Dts (G : Gw) (H : Hp) : List V → List D → Prop
  | nil : Dts G H [] []
  | cons {v : V} {d : D} {xs : List V} {l : List D} : Dt G H v d → Dts G H xs l → Dts G H (v :: xs) (d :: l)
end
theorem Dts.length {G : Gw} {H : Hp} : ∀ {xs : List V} {l : List D}, Dts G H xs l → xs.length = l.length
  | _, _, .nil => rfl
  | _, _, .cons _ h => by simp [h.length]
theorem Dts.at {G : Gw} {H : Hp} : ∀ {xs : List V} {l : List D}, Dts G H xs l → ∀ {i : Nat} {x : V}, xs[i]? = some x → ∃ d, l[i]? = some d ∧ Dt G H x d
  | _, _, .nil, _, _, e => by simp at e
  | _, _, .cons h _, 0, _, e => by
    simp at e
    subst e
    exact ⟨_, rfl, h⟩
  | _, _, .cons _ h, i + 1, x, e => by
    obtain ⟨d, q, r⟩ := h.at (i := i) (x := x) (by simpa using e)
    exact ⟨d, by simpa using q, r⟩
theorem Dts.to {G : Gw} {H : Hp} : ∀ {xs : List V} {l : List D}, Dts G H xs l → ∀ {i : Nat} {d : D}, l[i]? = some d → ∃ x, xs[i]? = some x ∧ Dt G H x d
  | _, _, .nil, _, _, e => by simp at e
  | _, _, .cons h _, 0, _, e => by
    simp at e
    subst e
    exact ⟨_, rfl, h⟩
  | _, _, .cons _ h, i + 1, x, e => by
    obtain ⟨d, q, r⟩ := h.to (i := i) (d := x) (by simpa using e)
    exact ⟨d, by simpa using q, r⟩
theorem Dts.of {G : Gw} {H : Hp} : ∀ {xs : List V} {l : List D}, xs.length = l.length → (∀ (i : Nat) x d, xs[i]? = some x → l[i]? = some d → Dt G H x d) → Dts G H xs l
  | [], [], _, _ => .nil
  | [], _ :: _, e, _ => by simp at e
  | _ :: _, [], e, _ => by simp at e
  | x :: xs, d :: l, e, h => .cons (h 0 x d rfl rfl) (Dts.of (by simpa using e) fun i y d' e1 e2 => h (i + 1) y d' (by simpa using e1) (by simpa using e2))
theorem Dts.app {G : Gw} {H : Hp} : ∀ {xs ys : List V} {l m : List D}, Dts G H xs l → Dts G H ys m → Dts G H (xs ++ ys) (l ++ m)
  | _, _, _, _, .nil, h => h
  | _, _, _, _, .cons a b, h => .cons a (b.app h)
theorem Dts.take {G : Gw} {H : Hp} : ∀ {xs : List V} {l : List D} (n : Nat), Dts G H xs l → Dts G H (xs.take n) (l.take n)
  | _, _, 0, _ => by simp; exact .nil
  | _, _, _ + 1, .nil => .nil
  | _, _, n + 1, .cons a b => .cons a (b.take n)
theorem Dts.drop {G : Gw} {H : Hp} : ∀ {xs : List V} {l : List D} (n : Nat), Dts G H xs l → Dts G H (xs.drop n) (l.drop n)
  | _, _, 0, h => by simpa using h
  | _, _, _ + 1, .nil => .nil
  | _, _, n + 1, .cons _ b => b.drop n
mutual
theorem Dt.same {G : Gw} {H H' : Hp} (s : Same H H') : ∀ {d : D} {v : V}, Dt G H v d → Dt G H' v d
  | _, _, .non => .non
  | _, _, .bl b => .bl b
  | _, _, .int i => .int i
  | _, _, .str z => .str z
  | _, _, .rat h => .rat (h.same s)
  | _, _, .lst h1 h2 => .lst (s _ _ h1) (h2.same s)
  | _, _, .tup h1 h2 => .tup (Same.tup s h1) (h2.same s)
  | _, _, .obj h1 h2 h3 => .obj (s _ _ h1) h2 (h3.same s)
  | _, _, .pot h => .pot h
theorem Dts.same {G : Gw} {H H' : Hp} (s : Same H H') : ∀ {l : List D} {xs : List V}, Dts G H xs l → Dts G H' xs l
  | _, _, .nil => .nil
  | _, _, .cons h1 h2 => .cons (h1.same s) (h2.same s)
end

/-- a pot: a list of two ints from 0 on -/
def PotAt (H : Hp) (p : Addr) : Prop := ∃ x y : Int, 0 ≤ x ∧ 0 ≤ y ∧ H p = some (.lst [.int x, .int y])
theorem PotAt.live {H : Hp} {p : Addr} (h : PotAt H p) : H p ≠ none := fun z => by
  obtain ⟨_, _, _, _, e⟩ := h
  rw [z] at e; cases e
theorem PotAt.same {H H' : Hp} {p : Addr} (h : PotAt H p) (s : ∀ o, H p = some o → H' p = some o) : PotAt H' p := by
  obtain ⟨x, y, h1, h2, e⟩ := h
  exact ⟨x, y, h1, h2, s _ e⟩
def IsL (H : Hp) (a : Addr) : Prop := ∃ xs, H a = some (.lst xs)
theorem IsL.live {H : Hp} {a : Addr} (h : IsL H a) : H a ≠ none := fun z => by
  obtain ⟨_, e⟩ := h
  rw [z] at e; cases e
theorem PotAt.isl {H : Hp} {a : Addr} (h : PotAt H a) : IsL H a := let ⟨_, _, _, _, e⟩ := h; ⟨_, e⟩
/-- all but the pots stays -/
structure Stp (ps : List Addr) (H H' : Hp) : Prop where
  keep : ∀ b o, H b = some o → b ∉ ps → H' b = some o
  pot : ∀ p ∈ ps, PotAt H p → PotAt H' p
section
variable {ps S : List Addr} {H H1 H' : Hp}
theorem Stp.refl (ps : List Addr) (H : Hp) : Stp ps H H := ⟨fun _ _ e _ => e, fun _ _ e => e⟩
theorem Stp.trans (a : Stp ps H H1) (b : Stp ps H1 H') : Stp ps H H' := ⟨fun c o e h => b.keep c o (a.keep c o e h) h, fun p h e => b.pot p h (a.pot p h e)⟩
theorem Stp.of (s : Same H H') : Stp ps H H' := ⟨fun b o e _ => s b o e, fun p _ e => e.same fun o q => s p o q⟩
theorem Stp.new {p : Addr} {o : HO} (h : H p = none) : Stp ps H (upd H p o) := .of (same_new h)
theorem Stp.live (s : Stp ps H H') (hp : ∀ p ∈ ps, PotAt H p) {a : Addr} (h : H a ≠ none) : H' a ≠ none := fun z => by
  by_cases m : a ∈ ps
  · exact (s.pot a m (hp a m)).live z
  · cases e : H a with
    | none => exact h e
    | some o => rw [s.keep a o e m] at z; cases z
theorem Stp.isl (s : Stp ps H H') (hp : ∀ p ∈ ps, PotAt H p) {a : Addr} (h : IsL H a) : IsL H' a := by
  by_cases m : a ∈ ps
  · exact (s.pot a m (hp a m)).isl
  · obtain ⟨xs, e⟩ := h
    exact ⟨xs, s.keep a _ e m⟩
theorem Stp.off (s : Stp ps H H') (h : ∀ p ∈ ps, p ∈ S) : Same (offL S H) (offL S H') := offL_same fun b o e hb => ⟨hb, s.keep b o e fun z => hb (h b z)⟩
/-- what stands already lies apart from places that are free -/
theorem off_more {f : List Addr} (h : ∀ a ∈ f, H a = none) : Same (offL S H) (offL (S ++ f) H) := offL_same fun b o e hb => ⟨fun z => (List.mem_append.1 z).elim hb fun z => (by rw [h b z] at e; cases e), e⟩
theorem off_sub {S' : List Addr} (h : ∀ a ∈ S', a ∈ S) : Same (offL S H) (offL S' H) := offL_same fun b o e hb => ⟨fun z => hb (h b z), e⟩
end

mutual
inductive Ow (G : Gw) (O : List Addr) (H : Hp) : V → OT → List Addr → Prop
  | leaf {v : V} {d : D} : Dt G (offL O H) v d → Ow G O H v (.leaf d) []
  | node {a : Addr} {xs : List V} {l : List OT} {f : List Addr} : H a = some (.lst xs) → Ows G O H xs l f → Ow G O H (.ref a) (.node l) (a :: f)
inductive Ows (G : Gw) (O : List Addr) (H : Hp) : List V → List OT → List Addr → Prop
  | nil : Ows G O H [] [] []
  | cons {v : V} {t : OT} {f : List Addr} {xs : List V} {l : List OT} {f' : List Addr} : Ow G O H v t f → Ows G O H xs l f' → Ows G O H (v :: xs) (t :: l) (f ++ f')
end
section
variable {G : Gw} {O O' : List Addr} {H H' : Hp}
theorem Ows.length : ∀ {xs : List V} {l : List OT} {f : List Addr}, Ows G O H xs l f → xs.length = l.length
  | _, _, _, .nil => rfl
  | _, _, _, .cons _ h => by simp [h.length]
mutual
/-- owned lists elsewhere: their own places are kept, what is shared too -/
theorem Ow.go (s : Same (offL O H) (offL O' H')) : ∀ {t : OT} {v : V} {f : List Addr}, Ow G O H v t f → (∀ a ∈ f, ∀ o, H a = some o → H' a = some o) → Ow G O' H' v t f
  | _, _, _, .leaf h, _ => .leaf (h.same s)
  | _, _, _, .node h1 h2, k => .node (k _ List.mem_cons_self _ h1) (h2.go s fun a ha => k a (List.mem_cons_of_mem _ ha))
theorem Ows.go (s : Same (offL O H) (offL O' H')) : ∀ {l : List OT} {xs : List V} {f : List Addr}, Ows G O H xs l f → (∀ a ∈ f, ∀ o, H a = some o → H' a = some o) → Ows G O' H' xs l f
  | _, _, _, .nil, _ => .nil
  | _, _, _, .cons h1 h2, k => .cons (h1.go s fun a ha => k a (List.mem_append_left _ ha)) (h2.go s fun a ha => k a (List.mem_append_right _ ha))
end
mutual
/-- owned lists, seen as shared ones -/
theorem Ow.see : ∀ {t : OT} {v : V} {f : List Addr}, Ow G O H v t f → ∀ {S : List Addr}, Same (offL O H) (offL S H) → (∀ a ∈ f, a ∉ S) → Dt G (offL S H) v t.d
  | _, _, _, .leaf h, _, s, _ => h.same s
  | _, _, _, .node h1 h2, _, s, k => .lst (by rw [offL_at (k _ List.mem_cons_self)]; exact h1) (h2.see s fun a ha => k a (List.mem_cons_of_mem _ ha))
theorem Ows.see : ∀ {l : List OT} {xs : List V} {f : List Addr}, Ows G O H xs l f → ∀ {S : List Addr}, Same (offL O H) (offL S H) → (∀ a ∈ f, a ∉ S) → Dts G (offL S H) xs (dsO l)
  | _, _, _, .nil, _, _, _ => .nil
  | _, _, _, .cons h1 h2, _, s, k => .cons (h1.see s fun a ha => k a (List.mem_append_left _ ha)) (h2.see s fun a ha => k a (List.mem_append_right _ ha))
end
mutual
theorem Ow.live : ∀ {t : OT} {v : V} {f : List Addr}, Ow G O H v t f → ∀ a ∈ f, ∃ xs, H a = some (.lst xs)
  | _, _, _, .leaf _, _, z => nomatch z
  | _, _, _, .node h1 h2, a, z => by
    rcases List.mem_cons.1 z with z | z
    · exact ⟨_, z ▸ h1⟩
    · exact h2.live a z
theorem Ows.live : ∀ {l : List OT} {xs : List V} {f : List Addr}, Ows G O H xs l f → ∀ a ∈ f, ∃ xs, H a = some (.lst xs)
  | _, _, _, .nil, _, z => nomatch z
  | _, _, _, .cons h1 h2, a, z => by
    rcases List.mem_append.1 z with z | z
    · exact h1.live a z
    · exact h2.live a z
end
theorem Ows.at : ∀ {l : List OT} {xs : List V} {f : List Addr}, Ows G O H xs l f → ∀ {i : Nat} {x : V}, xs[i]? = some x → ∃ t g, l[i]? = some t ∧ Ow G O H x t g ∧ g.Sublist f
  | _, _, _, .nil, _, _, e => by simp at e
  | _, _, _, .cons h h', 0, _, e => by
    simp at e
    subst e
    exact ⟨_, _, rfl, h, List.sublist_append_left _ _⟩
  | _, _, _, .cons h h', i + 1, x, e => by
    obtain ⟨t, g, q, r, s⟩ := h'.at (i := i) (x := x) (by simpa using e)
    exact ⟨t, g, by simpa using q, r, s.trans (List.sublist_append_right _ _)⟩
theorem Ows.app : ∀ {xs ys : List V} {l m : List OT} {f g : List Addr}, Ows G O H xs l f → Ows G O H ys m g → Ows G O H (xs ++ ys) (l ++ m) (f ++ g)
  | _, _, _, _, _, _, .nil, h => h
  | _, _, _, _, _, _, .cons a b, h => by
    rw [List.append_assoc]
    exact .cons a (b.app h)
theorem Ows.one {v : V} {t : OT} {f : List Addr} (h : Ow G O H v t f) : Ows G O H [v] [t] f := by
  have := Ows.cons h .nil
  rwa [List.append_nil] at this
theorem Ows.leaves : ∀ {xs : List V} {l : List D}, Dts G (offL O H) xs l → Ows G O H xs (l.map .leaf) []
  | _, _, .nil => .nil
  | _, _, .cons a b => .cons (.leaf a) (Ows.leaves b)
end

/-- what a slot holds: nothing that is known, a shared value, owned lists -/
inductive Sl where
  | un | va (d : D) | ow (t : OT)
abbrev Ev := List Sl
inductive Reps (G : Gw) (O : List Addr) (H : Hp) : L2.St → Ev → List Addr → Prop
  | nil : Reps G O H [] [] []
  | un {x : Option V} {σ : L2.St} {ρ : Ev} {F : List Addr} : Reps G O H σ ρ F → Reps G O H (x :: σ) (.un :: ρ) F
  | va {v : V} {d : D} {σ : L2.St} {ρ : Ev} {F : List Addr} : Dt G (offL O H) v d → Reps G O H σ ρ F → Reps G O H (some v :: σ) (.va d :: ρ) F
  | ow {v : V} {t : OT} {f : List Addr} {σ : L2.St} {ρ : Ev} {F : List Addr} : Ow G O H v t f → Reps G O H σ ρ F → Reps G O H (some v :: σ) (.ow t :: ρ) (f ++ F)
section
variable {G : Gw} {O O' : List Addr} {H H' : Hp}
theorem Reps.go (s : Same (offL O H) (offL O' H')) : ∀ {σ : L2.St} {ρ : Ev} {F : List Addr}, Reps G O H σ ρ F → (∀ a ∈ F, ∀ o, H a = some o → H' a = some o) → Reps G O' H' σ ρ F
  | _, _, _, .nil, _ => .nil
  | _, _, _, .un h, k => .un (h.go s k)
  | _, _, _, .va d h, k => .va (d.same s) (h.go s k)
  | _, _, _, .ow t h, k => .ow (t.go s fun a ha => k a (List.mem_append_left _ ha)) (h.go s fun a ha => k a (List.mem_append_right _ ha))
theorem Reps.live : ∀ {σ : L2.St} {ρ : Ev} {F : List Addr}, Reps G O H σ ρ F → ∀ a ∈ F, ∃ xs, H a = some (.lst xs)
  | _, _, _, .nil, _, z => nomatch z
  | _, _, _, .un h, a, z => h.live a z
  | _, _, _, .va _ h, a, z => h.live a z
  | _, _, _, .ow t h, a, z => by
    rcases List.mem_append.1 z with z | z
    · exact t.live a z
    · exact h.live a z
theorem Reps.va_at : ∀ {σ : L2.St} {ρ : Ev} {F : List Addr} {i : Nat} {d : D}, Reps G O H σ ρ F → ρ[i]? = some (.va d) → ∃ v, σ[i]? = some (some v) ∧ Dt G (offL O H) v d
  | _, _, _, _, _, .nil, e => by simp at e
  | _, _, _, 0, _, .un _, e => by simp at e
  | _, _, _, i + 1, _, .un h, e => by simpa using h.va_at (i := i) (by simpa using e)
  | _, _, _, 0, _, .va d _, e => by
    simp at e
    subst e
    exact ⟨_, rfl, d⟩
  | _, _, _, i + 1, _, .va _ h, e => by simpa using h.va_at (i := i) (by simpa using e)
  | _, _, _, 0, _, .ow _ _, e => by simp at e
  | _, _, _, i + 1, _, .ow _ h, e => by simpa using h.va_at (i := i) (by simpa using e)
theorem Reps.ow_at : ∀ {σ : L2.St} {ρ : Ev} {F : List Addr} {i : Nat} {t : OT}, Reps G O H σ ρ F → ρ[i]? = some (.ow t) → ∃ v f, σ[i]? = some (some v) ∧ Ow G O H v t f ∧ f.Sublist F
  | _, _, _, _, _, .nil, e => by simp at e
  | _, _, _, 0, _, .un _, e => by simp at e
  | _, _, _, i + 1, _, .un h, e => by simpa using h.ow_at (i := i) (by simpa using e)
  | _, _, _, 0, _, .va _ _, e => by simp at e
  | _, _, _, i + 1, _, .va _ h, e => by simpa using h.ow_at (i := i) (by simpa using e)
  | _, _, _, 0, _, .ow h _, e => by
    simp at e
    subst e
    exact ⟨_, _, rfl, h, List.sublist_append_left _ _⟩
  | _, _, _, i + 1, _, .ow _ h, e => by
    obtain ⟨v, f, h1, h2, h3⟩ := h.ow_at (i := i) (by simpa using e)
    exact ⟨v, f, by simpa using h1, h2, h3.trans (List.sublist_append_right _ _)⟩
/-- a slot is set to a shared value, or forgotten: the places that its lists owned are free -/
theorem Reps.set_va : ∀ {σ : L2.St} {ρ : Ev} {F : List Addr} {i : Nat} {v : V} {d : D}, Reps G O H σ ρ F → Dt G (offL O H) v d → ∃ F', Reps G O H (σ.set i (some v)) (ρ.set i (.va d)) F' ∧ F'.Sublist F
  | _, _, _, _, _, _, .nil, _ => ⟨[], .nil, .refl _⟩
  | _, _, _, 0, _, _, .un h, d => ⟨_, .va d h, .refl _⟩
  | _, _, _, 0, _, _, .va _ h, d => ⟨_, .va d h, .refl _⟩
  | _, _, _, 0, _, _, .ow _ h, d => ⟨_, .va d h, List.sublist_append_right _ _⟩
  | _, _, _, i + 1, _, _, .un h, d => let ⟨F', r, s⟩ := h.set_va (i := i) d; ⟨F', .un r, s⟩
  | _, _, _, i + 1, _, _, .va e h, d => let ⟨F', r, s⟩ := h.set_va (i := i) d; ⟨F', .va e r, s⟩
  | _, _, _, i + 1, _, _, .ow e h, d => let ⟨F', r, s⟩ := h.set_va (i := i) d; ⟨_, .ow e r, (List.Sublist.refl _).append s⟩
theorem Reps.set_un : ∀ {σ : L2.St} {ρ : Ev} {F : List Addr} {i : Nat} {x : Option V}, Reps G O H σ ρ F → ∃ F', Reps G O H (σ.set i x) (ρ.set i .un) F' ∧ F'.Sublist F
  | _, _, _, _, _, .nil => ⟨[], .nil, .refl _⟩
  | _, _, _, 0, _, .un h => ⟨_, .un h, .refl _⟩
  | _, _, _, 0, _, .va _ h => ⟨_, .un h, .refl _⟩
  | _, _, _, 0, _, .ow _ h => ⟨_, .un h, List.sublist_append_right _ _⟩
  | _, _, _, i + 1, _, .un h => let ⟨F', r, s⟩ := h.set_un (i := i); ⟨F', .un r, s⟩
  | _, _, _, i + 1, _, .va e h => let ⟨F', r, s⟩ := h.set_un (i := i); ⟨F', .va e r, s⟩
  | _, _, _, i + 1, _, .ow e h => let ⟨F', r, s⟩ := h.set_un (i := i); ⟨_, .ow e r, (List.Sublist.refl _).append s⟩
/-- a slot is set to owned lists -/
theorem Reps.set_ow : ∀ {σ : L2.St} {ρ : Ev} {F : List Addr} {i : Nat} {v : V} {t : OT} {f : List Addr}, Reps G O H σ ρ F → Ow G O H v t f → i < ρ.length → ∃ F1 F2, Reps G O H (σ.set i (some v)) (ρ.set i (.ow t)) (F1 ++ (f ++ F2)) ∧ (F1 ++ F2).Sublist F
  | _, _, _, _, _, _, _, .nil, _, e => by simp at e
  | _, _, _, 0, _, _, _, .un h, t, _ => ⟨[], _, by rw [List.nil_append]; exact .ow t h, .refl _⟩
  | _, _, _, 0, _, _, _, .va _ h, t, _ => ⟨[], _, by rw [List.nil_append]; exact .ow t h, .refl _⟩
  | _, _, _, 0, _, _, _, .ow _ h, t, _ => ⟨[], _, by rw [List.nil_append]; exact .ow t h, List.sublist_append_right _ _⟩
  | _, _, _, i + 1, _, _, _, .un h, t, e => let ⟨F1, F2, r, s⟩ := h.set_ow (i := i) t (by simpa using e); ⟨F1, F2, .un r, s⟩
  | _, _, _, i + 1, _, _, _, .va d h, t, e => let ⟨F1, F2, r, s⟩ := h.set_ow (i := i) t (by simpa using e); ⟨F1, F2, .va d r, s⟩
  | _, _, _, i + 1, _, _, _, .ow (f := g) d h, t, e => by
    obtain ⟨F1, F2, r, s⟩ := h.set_ow (i := i) t (by simpa using e)
    refine ⟨g ++ F1, F2, ?_, ?_⟩
    · have := Reps.ow d r
      rwa [← List.append_assoc] at this
    · rw [List.append_assoc]
      exact (List.Sublist.refl _).append s
theorem Reps.length : ∀ {σ : L2.St} {ρ : Ev} {F : List Addr}, Reps G O H σ ρ F → σ.length = ρ.length
  | _, _, _, .nil => rfl
  | _, _, _, .un h => by simp [h.length]
  | _, _, _, .va _ h => by simp [h.length]
  | _, _, _, .ow _ h => by simp [h.length]
end

/-- what is fixed while a body runs: the heap at its entry, values that are kept (what loops walk) -/
structure Mono where
  P : Hp → Prop
  m : ∀ {H H' : Hp}, Same H H' → P H → P H'
structure Fx where
  h : Hp
  g : List Mono
/-- the slots hold ρ: B are places that others own (the pots among them), F those that are owned here, all of them laid since H0 -/
structure Rep (G : Gw) (H0 : Fx) (B F : List Addr) (σ : L2.St) (H : Hp) (ρ : Ev) : Prop where
  reps : Reps G (B ++ F) H σ ρ F
  nd : F.Nodup
  dj : ∀ a ∈ F, a ∉ B
  lv : ∀ a ∈ B, IsL H a
  pots : ∀ p ∈ G.pots, p ∈ B ∧ PotAt H p
  st : Stp G.pots H0.h H
  new : ∀ a ∈ F, H0.h a = none
  gh : ∀ p ∈ H0.g, p.P (offL (B ++ F) H)
section
variable {G : Gw} {H0 : Fx} {B F : List Addr} {σ : L2.St} {H H' : Hp} {ρ : Ev}
theorem Rep.live (r : Rep G H0 B F σ H ρ) : ∀ a ∈ B, H a ≠ none := fun a h => (r.lv a h).live
theorem Rep.li (r : Rep G H0 B F σ H ρ) : ∀ a ∈ B ++ F, IsL H a := fun a h => (List.mem_append.1 h).elim (r.lv a) (r.reps.live a)
theorem Rep.fl (r : Rep G H0 B F σ H ρ) : ∀ a ∈ B ++ F, H a ≠ none := fun a h => by
  rcases List.mem_append.1 h with h | h
  · exact r.live a h
  · obtain ⟨xs, e⟩ := r.reps.live a h
    rw [e]; exact nofun
theorem Rep.np (r : Rep G H0 B F σ H ρ) : ∀ p ∈ G.pots, p ∈ B ++ F := fun p h => List.mem_append_left _ (r.pots p h).1
theorem Rep.pa (r : Rep G H0 B F σ H ρ) : ∀ p ∈ G.pots, PotAt H p := fun p h => (r.pots p h).2
theorem Rep.fp (r : Rep G H0 B F σ H ρ) {a : Addr} (h : a ∈ F) : a ∉ G.pots := fun z => r.dj a h (r.pots a z).1
/-- an expression has been read -/
theorem Rep.stp (r : Rep G H0 B F σ H ρ) (s : Stp G.pots H H') : Rep G H0 B F σ H' ρ where
  reps := r.reps.go (s.off r.np) fun a ha o e => s.keep a o e (r.fp ha)
  nd := r.nd
  dj := r.dj
  lv := fun a h => s.isl r.pa (r.lv a h)
  pots := fun p h => ⟨(r.pots p h).1, s.pot p h (r.pots p h).2⟩
  st := r.st.trans s
  new := r.new
  gh := fun p h => p.m (s.off r.np) (r.gh p h)
/-- more places are owned by others -/
theorem Rep.more (r : Rep G H0 B F σ H ρ) {f : List Addr} (hf : ∀ a ∈ f, IsL H a) (hd : ∀ a ∈ f, a ∉ F) (s : Same (offL (B ++ F) H) (offL (B ++ f ++ F) H)) : Rep G H0 (B ++ f) F σ H ρ where
  reps := r.reps.go s fun _ _ _ e => e
  nd := r.nd
  dj := fun a h z => (List.mem_append.1 z).elim (r.dj a h) fun z => hd a z h
  lv := fun a h => (List.mem_append.1 h).elim (r.lv a) (hf a)
  pots := fun p h => ⟨List.mem_append_left _ (r.pots p h).1, (r.pots p h).2⟩
  st := r.st
  new := r.new
  gh := fun p h => p.m s (r.gh p h)
theorem Rep.less (r : Rep G H0 B F σ H ρ) {F' : List Addr} {σ' : L2.St} {ρ' : Ev} (h : Reps G (B ++ F) H σ' ρ' F') (s : F'.Sublist F) : Rep G H0 B F' σ' H ρ' where
  reps := h.go (off_sub fun a ha => (List.mem_append.1 ha).elim (List.mem_append_left _) fun z => List.mem_append_right _ (s.subset z)) fun _ _ _ e => e
  nd := r.nd.sublist s
  dj := fun a h => r.dj a (s.subset h)
  lv := r.lv
  pots := r.pots
  st := r.st
  new := fun a h => r.new a (s.subset h)
  gh := fun p h' => p.m (off_sub fun a ha => (List.mem_append.1 ha).elim (List.mem_append_left _) fun z => List.mem_append_right _ (s.subset z)) (r.gh p h')
theorem Rep.len (r : Rep G H0 B F σ H ρ) : σ.length = ρ.length := r.reps.length
end
end EN

set_option Elab.async false
set_option linter.all false
set_option maxRecDepth 100000
set_option maxHeartbeats 2000000
/-! what an expression brings, read on trees -/
namespace EN
open PySem L2 TW

/-- a result: what stood already (shared, or lists owned by a slot), or lists that are new -/
inductive R where
  | old (t : OT) | nw (t : OT)
abbrev R.cl (d : D) : R := .old (.leaf d)
def R.t : R → OT
  | .old t => t
  | .nw t => t
/-- what may be kept elsewhere -/
def R.c? : R → Option D
  | .old (.leaf d) => some d
  | .old (.node _) => none
  | .nw t => some t.d
/-- what may be owned -/
def R.o? : R → Option OT
  | .old (.leaf d) => some (.leaf d)
  | .old (.node _) => none
  | .nw t => some t
/-- v is the result r, reckoned from Hs on -/
def Res (G : Gw) (B F : List Addr) (Hs H : Hp) (v : V) : R → Prop
  | .old t => ∃ f, Ow G (B ++ F) H v t f ∧ f.Sublist F
  | .nw t => ∃ f, Ow G (B ++ f ++ F) H v t f ∧ f.Nodup ∧ ∀ a ∈ f, Hs a = none
structure At (G : Gw) (B F : List Addr) (Hs H : Hp) : Prop where
  ls : ∀ a ∈ B ++ F, Hs a ≠ none
  np : ∀ p ∈ G.pots, p ∈ B ++ F ∧ PotAt H p
  ps : ∀ p ∈ G.pots, PotAt Hs p
  nf : ∀ a ∈ F, a ∉ G.pots
  st : Stp G.pots Hs H
  li : ∀ a ∈ B ++ F, IsL H a
section
variable {G : Gw} {H0 : Fx} {B F : List Addr} {σ : L2.St} {Hs H H1 H' : Hp} {ρ : Ev} {v : V} {d : D} {r : R} {t : OT}
theorem Rep.at (r : Rep G H0 B F σ H ρ) : At G B F H H := ⟨r.fl, fun p h => ⟨r.np p h, r.pa p h⟩, r.pa, fun a h => r.fp h, .refl _ _, r.li⟩
theorem At.stp (A : At G B F Hs H) (s : Stp G.pots H H') : At G B F Hs H' := ⟨A.ls, fun p h => ⟨(A.np p h).1, s.pot p h (A.np p h).2⟩, A.ps, A.nf, A.st.trans s, fun a h => s.isl (fun p h => (A.np p h).2) (A.li a h)⟩
theorem At.lh (A : At G B F Hs H) : ∀ a ∈ B ++ F, H a ≠ none := fun a h => A.st.live A.ps (A.ls a h)
/-- what is free now was free ahead -/
theorem At.free (A : At G B F Hs H) {a : Addr} (h : H a = none) : Hs a = none := by
  cases e : Hs a with
  | none => rfl
  | some o => exact absurd h (A.st.live A.ps (by rw [e]; exact nofun))
theorem At.out (A : At G B F Hs H) {a : Addr} (h : Hs a = none) : a ∉ B ++ F := fun z => A.ls a z h
theorem At.npot (A : At G B F Hs H) {a : Addr} (h : Hs a = none) : a ∉ G.pots := fun z => A.out h (A.np a z).1
theorem At.off (A : At G B F Hs H) (s : Stp G.pots H H') : Same (offL (B ++ F) H) (offL (B ++ F) H') := s.off fun p h => (A.np p h).1
theorem Res.c (h : Dt G (offL (B ++ F) H) v d) : Res G B F Hs H v (.cl d) := ⟨[], .leaf h, List.nil_sublist _⟩
theorem Res.go (A : At G B F Hs H) (s : Stp G.pots H H') : ∀ {r : R}, Res G B F Hs H v r → Res G B F Hs H' v r
  | .old t, ⟨f, h, k⟩ => ⟨f, h.go (A.off s) fun a ha o e => s.keep a o e (A.nf a (k.subset ha)), k⟩
  | .nw t, ⟨f, h, k, n⟩ => ⟨f, h.go (s.off fun p hp => by
      rcases List.mem_append.1 (A.np p hp).1 with z | z
      · exact List.mem_append_left _ (List.mem_append_left _ z)
      · exact List.mem_append_right _ z) fun a ha o e => s.keep a o e (A.npot (n a ha)), k, n⟩
/-- begun later, so begun earlier -/
theorem Res.back (A : At G B F Hs H1) : ∀ {r : R}, Res G B F H1 H v r → Res G B F Hs H v r
  | .old t, h => h
  | .nw t, ⟨f, h, k, n⟩ => ⟨f, h, k, fun a ha => A.free (n a ha)⟩
theorem nw_sub {f : List Addr} : Same (offL (B ++ f ++ F) H) (offL (B ++ F) H) := off_sub fun a ha => by
  rcases List.mem_append.1 ha with z | z
  · exact List.mem_append_left _ (List.mem_append_left _ z)
  · exact List.mem_append_right _ z
theorem Res.clean (A : At G B F Hs H) : ∀ {r : R}, Res G B F Hs H v r → r.c? = some d → Dt G (offL (B ++ F) H) v d
  | .old (.leaf e), ⟨f, h, k⟩, q => by
    cases h with
    | leaf h =>
      cases q
      exact h
  | .nw t, ⟨f, h, k, n⟩, q => by
    cases q
    exact h.see nw_sub fun a ha => A.out (n a ha)
/-- seen in the whole heap -/
theorem Res.see : ∀ {r : R}, Res G B F Hs H v r → Dt G H v r.t.d
  | .old t, ⟨f, h, k⟩ => by
    have e := h.see (S := []) (off_sub fun _ z => nomatch z) (fun _ _ z => nomatch z)
    exact e.same offL_all
  | .nw t, ⟨f, h, k, n⟩ => by
    have e := h.see (S := []) (off_sub fun _ z => nomatch z) (fun _ _ z => nomatch z)
    exact e.same offL_all
theorem Res.of_c (h : Res G B F Hs H v (.cl d)) : Dt G (offL (B ++ F) H) v d := by
  obtain ⟨f, h, _⟩ := h
  cases h with
  | leaf h => exact h
inductive Ress (G : Gw) (B F : List Addr) (Hs H : Hp) : List V → List R → Prop
  | nil : Ress G B F Hs H [] []
  | cons {v : V} {r : R} {vs : List V} {rs : List R} : Res G B F Hs H v r → Ress G B F Hs H vs rs → Ress G B F Hs H (v :: vs) (r :: rs)
theorem Ress.go (A : At G B F Hs H) (s : Stp G.pots H H') : ∀ {vs : List V} {rs : List R}, Ress G B F Hs H vs rs → Ress G B F Hs H' vs rs
  | _, _, .nil => .nil
  | _, _, .cons a b => .cons (a.go A s) (b.go A s)
theorem Ress.back (A : At G B F Hs H1) : ∀ {vs : List V} {rs : List R}, Ress G B F H1 H vs rs → Ress G B F Hs H vs rs
  | _, _, .nil => .nil
  | _, _, .cons a b => .cons (a.back A) (b.back A)
theorem Ress.length : ∀ {vs : List V} {rs : List R}, Ress G B F Hs H vs rs → vs.length = rs.length
  | _, _, .nil => rfl
  | _, _, .cons _ h => by simp [h.length]
def cs? : List R → Option (List D)
  | [] => some []
  | r :: rs => match r.c?, cs? rs with
    | some d, some ds => some (d :: ds)
    | _, _ => none
theorem Ress.clean (A : At G B F Hs H) : ∀ {rs : List R} {vs : List V} {ds : List D}, Ress G B F Hs H vs rs → cs? rs = some ds → Dts G (offL (B ++ F) H) vs ds
  | [], _, _, .nil, e => by
    cases e
    exact .nil
  | r :: rs, _, ds, .cons a b, e => by
    unfold cs? at e
    cases h1 : r.c? with
    | none => rw [h1] at e; simp at e
    | some d =>
      cases h2 : cs? rs with
      | none => rw [h1, h2] at e; simp at e
      | some l =>
        rw [h1, h2] at e
        simp at e
        subst e
        exact .cons (a.clean A h1) (b.clean A h2)
end

/-- readings on trees -/
abbrev GE := Ev → (R → Prop) → Prop
abbrev GT := Ev → (Bool → Prop) → Prop
abbrev GA := Ev → (List R → Prop) → Prop
def RdE (G : Gw) (t : TE) (g : GE) : Prop := ∀ (H0 : Fx) (B F : List Addr) (σ : L2.St) (H : Hp) (ρ : Ev) (Φ : R → Prop) (Q : VK), Rep G H0 B F σ H ρ → g ρ Φ →
  (∀ v H' r, Stp G.pots H H' → Res G B F H H' v r → Φ r → Q v H') → t σ H Q
def RdT (G : Gw) (t : TT) (g : GT) : Prop := ∀ (H0 : Fx) (B F : List Addr) (σ : L2.St) (H : Hp) (ρ : Ev) (Φ : Bool → Prop) (Q : Bool → Hp → Prop), Rep G H0 B F σ H ρ → g ρ Φ →
  (∀ b H', Stp G.pots H H' → Φ b → Q b H') → t σ H Q
def RdA (G : Gw) (t : TA) (g : GA) : Prop := ∀ (H0 : Fx) (B F : List Addr) (σ : L2.St) (H : Hp) (ρ : Ev) (Φ : List R → Prop) (Q : List V → Hp → Prop), Rep G H0 B F σ H ρ → g ρ Φ →
  (∀ vs H' rs, Stp G.pots H H' → Ress G B F H H' vs rs → Φ rs → Q vs H') → t σ H Q
structure DE (G : Gw) (X : Cx) (e : Expr) (t : TE) (g : GE) : Prop where
  pe : PE X e t
  rd : RdE G t g
structure DT (G : Gw) (X : Cx) (e : Expr) (t : TT) (g : GT) : Prop where
  pt : PT X e t
  rd : RdT G t g
structure DA (G : Gw) (X : Cx) (es : List Expr) (t : TA) (g : GA) : Prop where
  pa : PA X es t
  rd : RdA G t g
/-- what values bring: two; a list of them -/
def OpS (G : Gw) (r : R2) (k : R → R → (R → Prop) → Prop) : Prop := ∀ {B F : List Addr} {Hs H : Hp} {x y : V} {rx ry : R} {Φ : R → Prop} {Q : VK}, At G B F Hs H → Res G B F Hs H x rx → Res G B F Hs H y ry → k rx ry Φ →
  (∀ v H' r, Stp G.pots H H' → Res G B F Hs H' v r → Φ r → Q v H') → r x y H Q
def UnS (G : Gw) (r : V → Hp → VK → Prop) (k : R → (R → Prop) → Prop) : Prop := ∀ {B F : List Addr} {Hs H : Hp} {x : V} {rx : R} {Φ : R → Prop} {Q : VK}, At G B F Hs H → Res G B F Hs H x rx → k rx Φ →
  (∀ v H' r, Stp G.pots H H' → Res G B F Hs H' v r → Φ r → Q v H') → r x H Q
def CaS (G : Gw) (r : List V → Hp → VK → Prop) (k : List R → (R → Prop) → Prop) : Prop := ∀ {B F : List Addr} {Hs H : Hp} {xs : List V} {rs : List R} {Φ : R → Prop} {Q : VK}, At G B F Hs H → Ress G B F Hs H xs rs → k rs Φ →
  (∀ v H' r, Stp G.pots H H' → Res G B F Hs H' v r → Φ r → Q v H') → r xs H Q

section
variable {G : Gw} {X : Cx}
/-! names, constants -/
def gVar (i : Nat) : GE := fun ρ Φ => match ρ[i]? with
  | some (.va d) => Φ (.cl d)
  | some (.ow t) => Φ (.old t)
  | _ => False
theorem rd_var {i : Nat} : RdE G (tVar i) (gVar i) := by
  intro H0 B F σ H ρ Φ Q r h q
  unfold gVar at h
  split at h
  · rename_i d e
    obtain ⟨v, h1, h2⟩ := r.reps.va_at e
    exact ⟨v, h1, q v H _ (.refl _ _) (.c h2) h⟩
  · rename_i t e
    obtain ⟨v, f, h1, h2, h3⟩ := r.reps.ow_at e
    exact ⟨v, h1, q v H (.old t) (.refl _ _) ⟨f, h2, h3⟩ h⟩
  · exact h.elim
theorem de_v (i : Nat) {x : Str} {pos : Pos} (hN : X.N[i]? = some x := by rfl) (hv : Vis X.env.scope x := by first | exact Or.inl rfl | exact Or.inr (Or.inl rfl) | exact Or.inr (Or.inr rfl)) (hd : (x == ("__debug__" : Str)) = false := by decide)
    (hcd : (x == ("__classdict__" : Str)) = false := by decide) : DE G X (.Name x pos) (tVar i) (gVar i) := ⟨pe_var hN hv hd hcd, rd_var⟩
def gC (d : D) : GE := fun _ Φ => Φ (.cl d)
theorem rd_c {v : V} {d : D} (h : ∀ H, Dt G H v d) : RdE G (tC v) (gC d) := fun H0 B F σ H ρ Φ Q r g q => q v H _ (.refl _ _) (.c (h _)) g
theorem de_int {i j pos} : DE G X (.Constant (.int i) j pos) (tC (.int i)) (gC (.int i)) := ⟨pe_int, rd_c fun _ => .int i⟩
theorem de_bl {b j pos} : DE G X (.Constant (.bool b) j pos) (tC (.bl b)) (gC (.bl b)) := ⟨pe_bl, rd_c fun _ => .bl b⟩
theorem de_non {j pos} : DE G X (.Constant .none j pos) (tC .non) (gC .non) := ⟨pe_non, rd_c fun _ => .non⟩
theorem de_str {x j pos} : DE G X (.Constant (.str x) j pos) (tC (.str x)) (gC (.str x)) := ⟨pe_str, rd_c fun _ => .str x⟩
/-! arguments -/
def gNil : GA := fun _ Φ => Φ []
def gCons (a : GE) (b : GA) : GA := fun ρ Φ => a ρ fun r => b ρ fun rs => Φ (r :: rs)
theorem rd_nil : RdA G tNil gNil := fun H0 B F σ H ρ Φ Q r g q => q [] H _ (.refl _ _) .nil g
theorem rd_cons {ta : TE} {tr : TA} {ga : GE} {gr : GA} (a : RdE G ta ga) (b : RdA G tr gr) : RdA G (tCons ta tr) (gCons ga gr) := by
  intro H0 B F σ H ρ Φ Q r g q
  refine a H0 B F σ H ρ _ _ r g fun v H1 x s1 rx g1 => ?_
  refine b H0 B F σ H1 ρ _ _ (r.stp s1) g1 fun vs H2 rs s2 rr g2 => ?_
  have A := r.at.stp s1
  exact q _ H2 _ (s1.trans s2) (.cons (rx.go A s2) (rr.back A)) g2
theorem da_nil : DA G X [] tNil gNil := ⟨pa_nil, rd_nil⟩
theorem da_cons {e : Expr} {es : List Expr} {ta : TE} {tr : TA} {ga : GE} {gr : GA} (a : DE G X e ta ga) (b : DA G X es tr gr) (hs : starEach (e :: es) X.env = (false, eval e X.env) :: starEach es X.env := by rfl) :
    DA G X (e :: es) (tCons ta tr) (gCons ga gr) := ⟨pa_cons a.pe b.pa hs, rd_cons a.rd b.rd⟩
/-! operators -/
def gOp (k : R → R → (R → Prop) → Prop) (a b : GE) : GE := fun ρ Φ => a ρ fun x => b ρ fun y => k x y Φ
theorem rd_op {r : R2} {k : R → R → (R → Prop) → Prop} {ta tb : TE} {ga gb : GE} (o : OpS G r k) (a : RdE G ta ga) (b : RdE G tb gb) : RdE G (tOp r ta tb) (gOp k ga gb) := by
  intro H0 B F σ H ρ Φ Q rp g q
  refine a H0 B F σ H ρ _ _ rp g fun v H1 x s1 rx g1 => ?_
  refine b H0 B F σ H1 ρ _ _ (rp.stp s1) g1 fun u H2 y s2 ry g2 => ?_
  have A := rp.at.stp s1
  exact o (A.stp s2) (rx.go A s2) (ry.back A) g2 fun w H3 z s3 rz g3 => q w H3 z (s1.trans (s2.trans s3)) rz g3
def gUn (k : R → (R → Prop) → Prop) (a : GE) : GE := fun ρ Φ => a ρ fun x => k x Φ
theorem rd_un {r : V → Hp → VK → Prop} {k : R → (R → Prop) → Prop} {ta : TE} {ga : GE} (o : UnS G r k) (a : RdE G ta ga) : RdE G (tUn r ta) (gUn k ga) := by
  intro H0 B F σ H ρ Φ Q rp g q
  refine a H0 B F σ H ρ _ _ rp g fun v H1 x s1 rx g1 => ?_
  exact o (rp.at.stp s1) rx g1 fun w H3 z s3 rz g3 => q w H3 z (s1.trans s3) rz g3
theorem de_op {op : Operator} {r : R2} {k : R → R → (R → Prop) → Prop} {ea eb : Expr} {ta tb : TE} {ga gb : GE} {pos : Pos} (ho : OpR X (binaryOp op) r) (o : OpS G r k) (a : DE G X ea ta ga) (b : DE G X eb tb gb) : DE G X (.BinOp ea op eb pos) (tOp r ta tb) (gOp k ga gb) :=
  ⟨pe_op ho a.pe b.pe, rd_op o a.rd b.rd⟩
theorem de_un {op : UnaryOp} {r : V → Hp → VK → Prop} {k : R → (R → Prop) → Prop} {ea : Expr} {ta : TE} {ga : GE} {pos : Pos} (ho : UnR X (unaryOp op) r) (o : UnS G r k) (a : DE G X ea ta ga) : DE G X (.UnaryOp op ea pos) (tUn r ta) (gUn k ga) :=
  ⟨pe_un ho a.pe, rd_un o a.rd⟩
theorem de_cmp {op : CmpOp} {r : R2} {k : R → R → (R → Prop) → Prop} {ea eb : Expr} {ta tb : TE} {ga gb : GE} {pos : Pos} (ho : OpR X (compareOp op) r) (o : OpS G r k) (a : DE G X ea ta ga) (b : DE G X eb tb gb) (hm : behindInMarks op eb = false) : DE G X (.Compare ea [op] [eb] pos) (tOp r ta tb) (gOp k ga gb) :=
  ⟨pe_cmpR ho a.pe b.pe hm, rd_op o a.rd b.rd⟩
/-! tests -/
def gTest (a : GE) : GT := fun ρ Φ => a ρ fun x => match x with
  | .old (.leaf (.bl b)) => Φ b
  | _ => False
theorem rd_test {ta : TE} {ga : GE} (a : RdE G ta ga) : RdT G (tTest ta) (gTest ga) := by
  intro H0 B F σ H ρ Φ Q rp g q
  refine a H0 B F σ H ρ _ _ rp g fun v H1 x s1 rx g1 => ?_
  split at g1
  · have h := rx.of_c
    cases h
    exact ⟨_, rfl, q _ H1 s1 g1⟩
  · exact g1.elim
theorem rd_tb {ta : TE} {ga : GE} (a : RdE G ta ga) : RdT G (tB ta) (gTest ga) := rd_test a
theorem dt_cmp {op : CmpOp} {r : R2} {k : R → R → (R → Prop) → Prop} {ea eb : Expr} {ta tb : TE} {ga gb : GE} {pos : Pos} (ho : OpR X (compareOp op) r) (o : OpS G r k) (a : DE G X ea ta ga) (b : DE G X eb tb gb) (hm : behindInMarks op eb = false) : DT G X (.Compare ea [op] [eb] pos) (tTest (tOp r ta tb)) (gTest (gOp k ga gb)) :=
  ⟨pt_cmpR ho a.pe b.pe hm, rd_test (rd_op o a.rd b.rd)⟩
theorem dt_val {e : Expr} {t : TE} {g : GE} (h : DE G X e t g) (he : ∀ whole, isTrue e X.env whole = (do let v ← whole; standAt e.pos; holding [v] (truthy v)) := by intro _; rfl) : DT G X e (tB t) (gTest g) := ⟨pt_val h.pe he, rd_tb h.rd⟩
def gAnd (a b : GT) : GT := fun ρ Φ => a ρ fun c => if c = true then b ρ Φ else Φ false
def gOr (a b : GT) : GT := fun ρ Φ => a ρ fun c => if c = true then Φ true else b ρ Φ
def gNot (a : GT) : GT := fun ρ Φ => a ρ fun c => Φ (!c)
theorem rd_and {ta tb : TT} {ga gb : GT} (a : RdT G ta ga) (b : RdT G tb gb) : RdT G (tAnd ta tb) (gAnd ga gb) := by
  intro H0 B F σ H ρ Φ Q rp g q
  refine a H0 B F σ H ρ _ _ rp g fun c H1 s1 g1 => ?_
  cases c with
  | true => exact iteT (b H0 B F σ H1 ρ _ _ (rp.stp s1) (by simpa using g1) fun d H2 s2 g2 => q d H2 (s1.trans s2) g2)
  | false => exact iteF (q false H1 s1 (by simpa using g1))
theorem rd_or {ta tb : TT} {ga gb : GT} (a : RdT G ta ga) (b : RdT G tb gb) : RdT G (tOr ta tb) (gOr ga gb) := by
  intro H0 B F σ H ρ Φ Q rp g q
  refine a H0 B F σ H ρ _ _ rp g fun c H1 s1 g1 => ?_
  cases c with
  | false => exact iteF (b H0 B F σ H1 ρ _ _ (rp.stp s1) (by simpa using g1) fun d H2 s2 g2 => q d H2 (s1.trans s2) g2)
  | true => exact iteT (q true H1 s1 (by simpa using g1))
theorem rd_not {ta : TT} {ga : GT} (a : RdT G ta ga) : RdT G (tNot ta) (gNot ga) := fun H0 B F σ H ρ Φ Q rp g q =>
  a H0 B F σ H ρ _ _ rp g fun c H1 s1 g1 => q _ H1 s1 g1
structure DW (G : Gw) (X : Cx) (e : Expr) (t : TT) (g : GT) : Prop where
  pw : PW X e t
  rd : RdT G t g
theorem DW.t {e : Expr} {t : TT} {g : GT} (h : DW G X e t g) : DT G X e t g := ⟨h.pw.pt, h.rd⟩
theorem dw_and1 {e : Expr} {t : TT} {g : GT} {pos : Pos} (h : DT G X e t g) : DW G X (.BoolOp .And [e] pos) t g := ⟨pw_and1 h.pt, h.rd⟩
theorem dw_or1 {e : Expr} {t : TT} {g : GT} {pos : Pos} (h : DT G X e t g) : DW G X (.BoolOp .Or [e] pos) t g := ⟨pw_or1 h.pt, h.rd⟩
theorem dw_and {e b : Expr} {rest : List Expr} {t u : TT} {g k : GT} {pos : Pos} (h : DT G X e t g) (h2 : DW G X (.BoolOp .And (b :: rest) pos) u k) : DW G X (.BoolOp .And (e :: b :: rest) pos) (tAnd t u) (gAnd g k) := ⟨pw_and h.pt h2.pw, rd_and h.rd h2.rd⟩
theorem dw_or {e b : Expr} {rest : List Expr} {t u : TT} {g k : GT} {pos : Pos} (h : DT G X e t g) (h2 : DW G X (.BoolOp .Or (b :: rest) pos) u k) : DW G X (.BoolOp .Or (e :: b :: rest) pos) (tOr t u) (gOr g k) := ⟨pw_or h.pt h2.pw, rd_or h.rd h2.rd⟩
theorem dt_not {e : Expr} {t : TT} {g : GT} {pos : Pos} (h : DT G X e t g) : DT G X (.UnaryOp .Not e pos) (tNot t) (gNot g) := ⟨pt_not h.pt, rd_not h.rd⟩
/-! .. as values -/
def gAndV (a b : GE) : GE := fun ρ Φ => a ρ fun x => match x with
  | .old (.leaf (.bl c)) => if c = true then b ρ Φ else Φ (.cl (.bl false))
  | _ => False
def gOrV (a b : GE) : GE := fun ρ Φ => a ρ fun x => match x with
  | .old (.leaf (.bl c)) => if c = true then Φ (.cl (.bl true)) else b ρ Φ
  | _ => False
def gNotV (a : GE) : GE := fun ρ Φ => a ρ fun x => match x with
  | .old (.leaf (.bl c)) => Φ (.cl (.bl (!c)))
  | _ => False
theorem rd_andV {ta tb : TE} {ga gb : GE} (a : RdE G ta ga) (b : RdE G tb gb) : RdE G (tAndV ta tb) (gAndV ga gb) := by
  intro H0 B F σ H ρ Φ Q rp g q
  refine a H0 B F σ H ρ _ _ rp g fun v H1 x s1 rx g1 => ?_
  split at g1
  · rename_i c
    have h := rx.of_c
    cases h
    refine ⟨_, rfl, ?_⟩
    cases c with
    | true => exact iteT (b H0 B F σ H1 ρ _ _ (rp.stp s1) (by simpa using g1) fun d H2 r s2 r2 g2 => q d H2 r (s1.trans s2) (r2.back (rp.at.stp s1)) g2)
    | false => exact iteF (q _ H1 _ s1 (.c (.bl _)) (by simpa using g1))
  · exact g1.elim
theorem rd_orV {ta tb : TE} {ga gb : GE} (a : RdE G ta ga) (b : RdE G tb gb) : RdE G (tOrV ta tb) (gOrV ga gb) := by
  intro H0 B F σ H ρ Φ Q rp g q
  refine a H0 B F σ H ρ _ _ rp g fun v H1 x s1 rx g1 => ?_
  split at g1
  · rename_i c
    have h := rx.of_c
    cases h
    refine ⟨_, rfl, ?_⟩
    cases c with
    | false => exact iteF (b H0 B F σ H1 ρ _ _ (rp.stp s1) (by simpa using g1) fun d H2 r s2 r2 g2 => q d H2 r (s1.trans s2) (r2.back (rp.at.stp s1)) g2)
    | true => exact iteT (q _ H1 _ s1 (.c (.bl _)) (by simpa using g1))
  · exact g1.elim
theorem rd_notV {ta : TE} {ga : GE} (a : RdE G ta ga) : RdE G (tNotV ta) (gNotV ga) := by
  intro H0 B F σ H ρ Φ Q rp g q
  refine a H0 B F σ H ρ _ _ rp g fun v H1 x s1 rx g1 => ?_
  split at g1
  · have h := rx.of_c
    cases h
    exact ⟨_, rfl, q _ H1 _ s1 (.c (.bl _)) g1⟩
  · exact g1.elim
theorem de_one {op} {e : Expr} {t : TE} {g : GE} {pos : Pos} (h : DE G X e t g) : DE G X (.BoolOp op [e] pos) t g := ⟨pe_one h.pe, h.rd⟩
theorem de_and {e b : Expr} {rest : List Expr} {t u : TE} {g k : GE} {pos : Pos} (h : DE G X e t g) (h2 : DE G X (.BoolOp .And (b :: rest) pos) u k) : DE G X (.BoolOp .And (e :: b :: rest) pos) (tAndV t u) (gAndV g k) := ⟨pe_and h.pe h2.pe, rd_andV h.rd h2.rd⟩
theorem de_or {e b : Expr} {rest : List Expr} {t u : TE} {g k : GE} {pos : Pos} (h : DE G X e t g) (h2 : DE G X (.BoolOp .Or (b :: rest) pos) u k) : DE G X (.BoolOp .Or (e :: b :: rest) pos) (tOrV t u) (gOrV g k) := ⟨pe_or h.pe h2.pe, rd_orV h.rd h2.rd⟩
theorem de_not {e : Expr} {t : TE} {g : GE} {pos : Pos} (h : DE G X e t g) : DE G X (.UnaryOp .Not e pos) (tNotV t) (gNotV g) := ⟨pe_not h.pe, rd_notV h.rd⟩
/-! a if t else b -/
def gIf (c : GT) (a b : GE) : GE := fun ρ Φ => c ρ fun x => if x = true then a ρ Φ else b ρ Φ
theorem rd_if {tc : TT} {ta tb : TE} {gc : GT} {ga gb : GE} (c : RdT G tc gc) (a : RdE G ta ga) (b : RdE G tb gb) : RdE G (tIf tc ta tb) (gIf gc ga gb) := by
  intro H0 B F σ H ρ Φ Q rp g q
  refine c H0 B F σ H ρ _ _ rp g fun x H1 s1 g1 => ?_
  cases x with
  | true => exact iteT (a H0 B F σ H1 ρ _ _ (rp.stp s1) (by simpa using g1) fun d H2 r s2 r2 g2 => q d H2 r (s1.trans s2) (r2.back (rp.at.stp s1)) g2)
  | false => exact iteF (b H0 B F σ H1 ρ _ _ (rp.stp s1) (by simpa using g1) fun d H2 r s2 r2 g2 => q d H2 r (s1.trans s2) (r2.back (rp.at.stp s1)) g2)
theorem de_if {ec ea eb : Expr} {tc : TT} {ta tb : TE} {gc : GT} {ga gb : GE} {pos : Pos} (c : DT G X ec tc gc) (a : DE G X ea ta ga) (b : DE G X eb tb gb) : DE G X (.IfExp ec ea eb pos) (tIf tc ta tb) (gIf gc ga gb) := ⟨pe_ifExp c.pt a.pe b.pe, rd_if c.rd a.rd b.rd⟩
/-! displays -/
def gLst (a : GA) : GE := fun ρ Φ => a ρ fun rs => match cs? rs with
  | some ds => ds.length ≤ sizeLine ∧ Φ (.nw (.node (ds.map .leaf)))
  | none => False
def gTup (a : GA) : GE := fun ρ Φ => a ρ fun rs => match cs? rs with
  | some ds => ds.length ≤ sizeLine ∧ Φ (.cl (.tup ds))
  | none => False
/-- a new list of shared things -/
theorem nw_list {B F : List Addr} {Hs H : Hp} {p : Addr} {xs : List V} {ds : List D} (A : At G B F Hs H) (hp : H p = none) (h : Dts G (offL (B ++ F) H) xs ds) : Res G B F Hs (upd H p (.lst xs)) (.ref p) (.nw (.node (ds.map .leaf))) := by
  refine ⟨[p], .node upd_same (Ows.leaves (h.same ?_)), List.nodup_cons.2 ⟨List.not_mem_nil, List.nodup_nil⟩, fun a ha => by rw [List.mem_singleton.1 ha]; exact A.free hp⟩
  refine offL_same fun b o e hb => ?_
  have ne := ne_of_none e hp
  refine ⟨fun z => ?_, by rw [upd_ne ne]; exact e⟩
  rcases List.mem_append.1 z with z | z
  · rcases List.mem_append.1 z with z | z
    · exact hb (List.mem_append_left _ z)
    · exact ne (List.mem_singleton.1 z)
  · exact hb (List.mem_append_right _ z)
theorem cl_new {B F : List Addr} {Hs H : Hp} {p : Addr} {o : HO} (A : At G B F Hs H) (hp : H p = none) : offL (B ++ F) (upd H p o) p = some o := by
  rw [offL_at (A.out (A.free hp))]
  exact upd_same
theorem rd_lst {t : TA} {g : GA} (a : RdA G t g) : RdE G (tLst t) (gLst g) := by
  intro H0 B F σ H ρ Φ Q rp g q
  refine a H0 B F σ H ρ _ _ rp g fun vs H1 rs s1 rr g1 => ?_
  split at g1
  · rename_i ds e
    have A := rp.at.stp s1
    have d := rr.clean A e
    refine ⟨by rw [d.length]; exact g1.1, fun p hp => ?_⟩
    exact q _ _ _ (s1.trans (.new hp)) (nw_list A hp d) g1.2
  · exact g1.elim
theorem rd_tup {t : TA} {g : GA} (a : RdA G t g) : RdE G (tTup t) (gTup g) := by
  intro H0 B F σ H ρ Φ Q rp g q
  refine a H0 B F σ H ρ _ _ rp g fun vs H1 rs s1 rr g1 => ?_
  split at g1
  · rename_i ds e
    have A := rp.at.stp s1
    have d := rr.clean A e
    refine ⟨by rw [d.length]; exact g1.1, fun p hp => ?_⟩
    exact q _ _ _ (s1.trans (.new hp)) (.c (.tup (SqT.of (cl_new A hp)) (d.same (A.off (.new hp))))) g1.2
  · exact g1.elim
theorem de_lst {es : List Expr} {t : TA} {g : GA} {pos : Pos} (h : DA G X es t g) : DE G X (.List es pos) (tLst t) (gLst g) := ⟨pe_lst h.pa, rd_lst h.rd⟩
theorem de_tup {es : List Expr} {t : TA} {g : GA} {x1} {pos : Pos} (h : DA G X es t g) : DE G X (.Tuple es x1 pos) (tTup t) (gTup g) := ⟨pe_tup h.pa, rd_tup h.rd⟩
end
end EN

set_option Elab.async false
set_option linter.all false
set_option maxRecDepth 100000
set_option maxHeartbeats 2000000
/-! statements, read on trees -/
namespace EN
open PySem L2 TW

structure EnD where
  nx : Ev → Prop
  rt : R → Prop
  bk : Ev → Prop := fun _ => False
  ct : Ev → Prop := fun _ => False
abbrev GS := EnD → Ev → Prop
structure Sim (G : Gw) (H0 : Fx) (B : List Addr) (E : EnD) (D : Ends) : Prop where
  nx : ∀ {F σ H ρ}, Rep G H0 B F σ H ρ → E.nx ρ → D.nx σ H
  rt : ∀ {v H r}, Stp G.pots H0.h H → Res G B [] H0.h H v r → E.rt r → D.rt v H
  bk : ∀ {F σ H ρ}, Rep G H0 B F σ H ρ → E.bk ρ → D.bk σ H
  ct : ∀ {F σ H ρ}, Rep G H0 B F σ H ρ → E.ct ρ → D.ct σ H
def RdS (G : Gw) (t : TS) (g : GS) : Prop := ∀ (H0 : Fx) (B F : List Addr) (σ : L2.St) (H : Hp) (ρ : Ev) (E : EnD) (D : Ends), Rep G H0 B F σ H ρ → g E ρ → Sim G H0 B E D → t D σ H
structure DS (G : Gw) (X : Cx) (st : Stmt) (t : TS) (g : GS) : Prop where
  ps : PS X st t
  rd : RdS G t g
structure DB (G : Gw) (X : Cx) (st : List Stmt) (t : TS) (g : GS) : Prop where
  ps : PSs X st t
  rd : RdS G t g
section
variable {G : Gw} {X : Cx}
def gNext : GS := fun E ρ => E.nx ρ
def gSeq (g k : GS) : GS := fun E ρ => g { E with nx := k E } ρ
theorem rd_next : RdS G tNext gNext := fun H0 B F σ H ρ E D r g s => s.nx r g
theorem rd_seq {t u : TS} {g k : GS} (a : RdS G t g) (b : RdS G u k) : RdS G (tSeq t u) (gSeq g k) := fun H0 B F σ H ρ E D r h s =>
  a H0 B F σ H ρ { E with nx := k E } { D with nx := u D } r h ⟨fun r' h' => b H0 B _ _ _ _ E D r' h' s, s.rt, s.bk, s.ct⟩
theorem db_nil : DB G X [] tNext gNext := ⟨pss_nil, rd_next⟩
theorem db_cons {st : Stmt} {rest : List Stmt} {t u : TS} {g k : GS} (a : DS G X st t g) (b : DB G X rest u k) : DB G X (st :: rest) (tSeq t u) (gSeq g k) := ⟨pss_cons a.ps b.ps, rd_seq a.rd b.rd⟩
theorem db_one {st : Stmt} {t : TS} {g : GS} (a : DS G X st t g) : DB G X [st] t g := ⟨pss_one a.ps, a.rd⟩
theorem ds_pass {pos : Pos} : DS G X (.Pass pos) tNext gNext := ⟨ps_pass, rd_next⟩
theorem ds_doc {x j pos pos'} : DS G X (.Expr (.Constant (.str x) j pos) pos') tNext gNext := ⟨ps_doc, rd_next⟩
def gBrk : GS := fun E ρ => E.bk ρ
def gCnt : GS := fun E ρ => E.ct ρ
theorem ds_break {pos : Pos} : DS G X (.Break pos) tBreak gBrk := ⟨ps_break, fun H0 B F σ H ρ E D r g s => s.bk r g⟩
theorem ds_continue {pos : Pos} : DS G X (.Continue pos) tCont gCnt := ⟨ps_continue, fun H0 B F σ H ρ E D r g s => s.ct r g⟩
/-- code that is never come to -/
def gNever : GS := fun _ _ => False
theorem ds_never {st : Stmt} : DS G X st tNever gNever := ⟨ps_never, fun H0 B F σ H ρ E D r g s => g.elim⟩
theorem db_never {st : List Stmt} : DB G X st tNever gNever := ⟨pss_never, fun H0 B F σ H ρ E D r g s => g.elim⟩
def gDrop (a : GE) : GS := fun E ρ => a ρ fun _ => E.nx ρ
theorem rd_drop {t : TE} {g : GE} (a : RdE G t g) : RdS G (tDrop t) (gDrop g) := fun H0 B F σ H ρ E D r h s =>
  a H0 B F σ H ρ _ _ r h fun v H1 x s1 rx g1 => s.nx (r.stp s1) g1
/-- what is owned here goes to the caller -/
def R.ret : R → R
  | .old (.leaf d) => .old (.leaf d)
  | .old (.node l) => .nw (.node l)
  | .nw t => .nw t
theorem Rep.ret {H0 : Fx} {B F : List Addr} {σ : L2.St} {H H1 : Hp} {ρ : Ev} (r : Rep G H0 B F σ H ρ) (s : Stp G.pots H H1) {v : V} : ∀ {x : R}, Res G B F H H1 v x → Res G B [] H0.h H1 v x.ret
  | .old (.leaf d), h => by
    refine .c (h.of_c.same (off_sub fun a ha => ?_))
    rw [List.append_nil] at ha
    exact List.mem_append_left _ ha
  | .old (.node l), ⟨f, h, k⟩ => by
    refine ⟨f, h.go (off_sub fun a ha => ?_) fun _ _ _ e => e, r.nd.sublist k, fun a ha => r.new a (k.subset ha)⟩
    rw [List.append_nil] at ha
    rcases List.mem_append.1 ha with z | z
    · exact List.mem_append_left _ z
    · exact List.mem_append_right _ (k.subset z)
  | .nw t, ⟨f, h, k, n⟩ => by
    have A0 : At G B F H0.h H → ∀ a ∈ f, H0.h a = none := fun A a ha => A.free (n a ha)
    refine ⟨f, h.go (off_sub fun a ha => ?_) fun _ _ _ e => e, k, fun a ha => ?_⟩
    · rw [List.append_nil] at ha
      exact List.mem_append_left _ ha
    · cases e : H0.h a with
      | none => rfl
      | some o =>
        have np : a ∉ G.pots := fun z => r.fl a (r.np a z) (n a ha)
        have q := r.st.keep a o e np
        rw [n a ha] at q
        cases q
def gRet (a : GE) : GS := fun E ρ => a ρ fun x => E.rt x.ret
theorem rd_ret {t : TE} {g : GE} (a : RdE G t g) : RdS G (tRet t) (gRet g) := fun H0 B F σ H ρ E D r h s =>
  a H0 B F σ H ρ _ _ r h fun v H1 x s1 rx g1 => s.rt (r.st.trans s1) (r.ret s1 rx) g1
theorem ds_ret {e : Expr} {t : TE} {g : GE} {pos : Pos} (h : DE G X e t g) : DS G X (.Return (some e) pos) (tRet t) (gRet g) := ⟨ps_ret h.pe, rd_ret h.rd⟩
def gRetN : GS := fun E _ => E.rt (.cl .non)
theorem ds_retN {pos : Pos} : DS G X (.Return none pos) tRetN gRetN := ⟨ps_retN, fun H0 B F σ H ρ E D r h s => s.rt r.st (.c .non) h⟩
def gIfS (c : GT) (a b : GS) : GS := fun E ρ => c ρ fun x => if x = true then a E ρ else b E ρ
theorem rd_ifS {tc : TT} {t u : TS} {gc : GT} {g k : GS} (c : RdT G tc gc) (a : RdS G t g) (b : RdS G u k) : RdS G (tIfS tc t u) (gIfS gc g k) := by
  intro H0 B F σ H ρ E D r h s
  refine c H0 B F σ H ρ _ _ r h fun x H1 s1 g1 => ?_
  cases x with
  | true => exact iteT (a H0 B F σ H1 ρ E D (r.stp s1) (by simpa using g1) s)
  | false => exact iteF (b H0 B F σ H1 ρ E D (r.stp s1) (by simpa using g1) s)
theorem ds_if {c : Expr} {a b : List Stmt} {tc : TT} {t u : TS} {gc : GT} {g k : GS} {pos : Pos} (hc : DT G X c tc gc) (ha : DB G X a t g) (hb : DB G X b u k) : DS G X (.If c a b pos) (tIfS tc t u) (gIfS gc g k) := ⟨ps_if hc.pt ha.ps hb.ps, rd_ifS hc.rd ha.rd hb.rd⟩

/-! a slot is set -/
def gSet (i : Nat) (a : GE) : GS := fun E ρ => a ρ fun x => match x.c? with
  | some d => E.nx (ρ.set i (.va d))
  | none => False
/-- new lists become the slot's own -/
def gOwn (i : Nat) (a : GE) : GS := fun E ρ => a ρ fun x => match x with
  | .nw t => i < ρ.length ∧ E.nx (ρ.set i (.ow t))
  | .old (.leaf d) => E.nx (ρ.set i (.va d))
  | .old (.node _) => False
theorem Rep.set {H0 : Fx} {B F : List Addr} {σ : L2.St} {H : Hp} {ρ : Ev} {i : Nat} {v : V} {d : D} (r : Rep G H0 B F σ H ρ) (h : Dt G (offL (B ++ F) H) v d) : ∃ F', Rep G H0 B F' (σ.set i (some v)) H (ρ.set i (.va d)) := by
  obtain ⟨F', h1, h2⟩ := r.reps.set_va (i := i) h
  exact ⟨F', r.less h1 h2⟩
theorem Rep.un {H0 : Fx} {B F : List Addr} {σ : L2.St} {H : Hp} {ρ : Ev} {i : Nat} {x : Option V} (r : Rep G H0 B F σ H ρ) : ∃ F', Rep G H0 B F' (σ.set i x) H (ρ.set i .un) := by
  obtain ⟨F', h1, h2⟩ := r.reps.set_un (i := i) (x := x)
  exact ⟨F', r.less h1 h2⟩
/-- the slot owns lists that are new since H -/
theorem Rep.own {H0 : Fx} {B F : List Addr} {σ : L2.St} {H H1 : Hp} {ρ : Ev} {i : Nat} {v : V} {t : OT} {f : List Addr} (r : Rep G H0 B F σ H ρ) (s : Stp G.pots H H1) (h : Ow G (B ++ f ++ F) H1 v t f) (nd : f.Nodup) (n : ∀ a ∈ f, H a = none) (hi : i < ρ.length) :
    ∃ F', Rep G H0 B F' (σ.set i (some v)) H1 (ρ.set i (.ow t)) := by
  have r1 := r.stp s
  -- what stood lies apart from f
  have ap : Same (offL (B ++ F) H) (offL (B ++ f ++ F) H1) := offL_same fun b o e hb => by
    have nb : b ∉ G.pots := fun z => hb (r.np b z)
    refine ⟨fun z => ?_, s.keep b o e nb⟩
    rcases List.mem_append.1 z with z | z
    · rcases List.mem_append.1 z with z | z
      · exact hb (List.mem_append_left _ z)
      · rw [n b z] at e; cases e
    · exact hb (List.mem_append_right _ z)
  have rp : Reps G (B ++ f ++ F) H1 σ ρ F := r.reps.go ap fun a ha o e => s.keep a o e (r.fp ha)
  obtain ⟨F1, F2, h1, h2⟩ := rp.set_ow (i := i) h hi
  have sub : ∀ a ∈ F1 ++ F2, a ∈ F := fun a ha => h2.subset ha
  have dFf : ∀ a ∈ f, a ∉ F := fun a ha z => by
    obtain ⟨xs, e⟩ := r.reps.live a z
    rw [n a ha] at e; cases e
  have ss : ∀ a ∈ B ++ (F1 ++ (f ++ F2)), a ∈ B ++ f ++ F := fun a ha => by
    rcases List.mem_append.1 ha with z | z
    · exact List.mem_append_left _ (List.mem_append_left _ z)
    · rcases List.mem_append.1 z with z | z
      · exact List.mem_append_right _ (sub a (List.mem_append_left _ z))
      · rcases List.mem_append.1 z with z | z
        · exact List.mem_append_left _ (List.mem_append_right _ z)
        · exact List.mem_append_right _ (sub a (List.mem_append_right _ z))
  have mem : ∀ a ∈ F1 ++ (f ++ F2), a ∈ F ∨ a ∈ f := fun a ha => by
    rcases List.mem_append.1 ha with z | z
    · exact .inl (sub a (List.mem_append_left _ z))
    · rcases List.mem_append.1 z with z | z
      · exact .inr z
      · exact .inl (sub a (List.mem_append_right _ z))
  refine ⟨F1 ++ (f ++ F2), h1.go (off_sub ss) fun _ _ _ e => e, ?_, fun a ha z => ?_, r1.lv, r1.pots, r1.st, fun a ha => ?_, fun p hp => p.m (off_sub ss) (p.m ap (r.gh p hp))⟩
  · have n2 := r.nd.sublist h2
    rw [List.nodup_append] at n2 ⊢
    refine ⟨n2.1, ?_, fun a ha b hb e => ?_⟩
    · rw [List.nodup_append]
      exact ⟨nd, n2.2.1, fun a ha b hb e => dFf a ha (by rw [e]; exact sub b (List.mem_append_right _ hb))⟩
    · rcases List.mem_append.1 hb with z | z
      · exact dFf b z (by rw [← e]; exact sub a (List.mem_append_left _ ha))
      · exact n2.2.2 a ha b z e
  · rcases mem a ha with y | y
    · exact r.dj a y z
    · exact r.live a z (n a y)
  · rcases mem a ha with y | y
    · exact r.new a y
    · cases e : H0.h a with
      | none => rfl
      | some o =>
        have np : a ∉ G.pots := fun z => r.fl a (r.np a z) (n a y)
        have q := r.st.keep a o e np
        rw [n a y] at q
        cases q
theorem rd_set {i : Nat} {t : TE} {g : GE} (a : RdE G t g) : RdS G (tAsg t (gName i)) (gSet i g) := by
  intro H0 B F σ H ρ E D r h s
  refine a H0 B F σ H ρ _ _ r h fun v H1 x s1 rx g1 => ?_
  split at g1
  · rename_i d e
    obtain ⟨F', r'⟩ := (r.stp s1).set (i := i) (rx.clean (r.at.stp s1) e)
    exact s.nx r' g1
  · exact g1.elim
theorem rd_own {i : Nat} {t : TE} {g : GE} (a : RdE G t g) : RdS G (tAsg t (gName i)) (gOwn i g) := by
  intro H0 B F σ H ρ E D r h s
  refine a H0 B F σ H ρ _ _ r h fun v H1 x s1 rx g1 => ?_
  cases x with
  | nw t =>
    obtain ⟨f, h1, h2, h3⟩ := rx
    obtain ⟨F', r'⟩ := r.own (i := i) s1 h1 h2 h3 g1.1
    exact s.nx r' g1.2
  | old t =>
    cases t with
    | leaf d =>
      obtain ⟨F', r'⟩ := (r.stp s1).set (i := i) rx.of_c
      exact s.nx r' g1
    | node l => exact g1.elim
theorem ds_set {i : Nat} {x : Str} {e : Expr} {te : TE} {g : GE} {pos pos' : Pos} (hN : X.N.Nodup) (hi : X.N[i]? = some x) (hx : Loc X.env.scope x) (he : DE G X e te g) (hs : swapsWith e (some (.Name x pos')) pos.line X.env = pure false := by rfl) (hf : X.fn x = true ∨ X.env.scope.names.lookup x = some .local := by first | exact .inl rfl | exact .inr rfl | assumption) :
    DS G X (.Assign [.Name x pos'] e pos) (tAsg te (gName i)) (gSet i g) := ⟨ps_set hN hi hx he.pe hs hf, rd_set he.rd⟩
theorem ds_own {i : Nat} {x : Str} {e : Expr} {te : TE} {g : GE} {pos pos' : Pos} (hN : X.N.Nodup) (hi : X.N[i]? = some x) (hx : Loc X.env.scope x) (he : DE G X e te g) (hs : swapsWith e (some (.Name x pos')) pos.line X.env = pure false := by rfl) (hf : X.fn x = true ∨ X.env.scope.names.lookup x = some .local := by first | exact .inl rfl | exact .inr rfl | assumption) :
    DS G X (.Assign [.Name x pos'] e pos) (tAsg te (gName i)) (gOwn i g) := ⟨ps_set hN hi hx he.pe hs hf, rd_own he.rd⟩

/-! what a slot owns: cut out, put back -/
theorem Reps.split {O : List Addr} {H : Hp} : ∀ {σ : L2.St} {ρ : Ev} {F : List Addr} {i : Nat} {t : OT}, Reps G O H σ ρ F → ρ[i]? = some (.ow t) → ∃ v f F1 F2, σ[i]? = some (some v) ∧ Ow G O H v t f ∧ F = F1 ++ (f ++ F2) ∧
    ∀ (O' : List Addr) (H' : Hp), Same (offL O H) (offL O' H') → (∀ a ∈ F1 ++ F2, ∀ o, H a = some o → H' a = some o) →
      (∀ t' f', Ow G O' H' v t' f' → Reps G O' H' σ (ρ.set i (.ow t')) (F1 ++ (f' ++ F2))) ∧ (∀ d, Dt G (offL O' H') v d → Reps G O' H' σ (ρ.set i (.va d)) (F1 ++ F2)) ∧ Reps G O' H' σ (ρ.set i .un) (F1 ++ F2)
  | _, _, _, _, _, .nil, e => by simp at e
  | _, _, _, 0, _, .un _, e => by simp at e
  | _, _, _, 0, _, .va _ _, e => by simp at e
  | _, _, _, 0, t, .ow (f := f) (F := F) (ρ := ρ) (σ := σ) (v := v) h hr, e => by
    simp at e
    subst e
    refine ⟨v, f, [], F, rfl, h, rfl, fun O' H' s k => ?_⟩
    have hr' := hr.go s k
    exact ⟨fun t' f' q => by rw [List.nil_append]; exact .ow q hr', fun d q => .va q hr', .un hr'⟩
  | _, _, _, i + 1, _, .un h, e => by
    obtain ⟨v, f, F1, F2, h1, h2, h3, h4⟩ := h.split (i := i) (by simpa using e)
    refine ⟨v, f, F1, F2, by simpa using h1, h2, h3, fun O' H' s k => ?_⟩
    obtain ⟨q1, q2, q3⟩ := h4 O' H' s k
    exact ⟨fun t' f' q => .un (q1 t' f' q), fun d q => .un (q2 d q), .un q3⟩
  | _, _, _, i + 1, _, .va d h, e => by
    obtain ⟨v, f, F1, F2, h1, h2, h3, h4⟩ := h.split (i := i) (by simpa using e)
    refine ⟨v, f, F1, F2, by simpa using h1, h2, h3, fun O' H' s k => ?_⟩
    obtain ⟨q1, q2, q3⟩ := h4 O' H' s k
    exact ⟨fun t' f' q => .va (d.same s) (q1 t' f' q), fun d' q => .va (d.same s) (q2 d' q), .va (d.same s) q3⟩
  | _, _, _, i + 1, _, .ow (f := g) d h, e => by
    obtain ⟨v, f, F1, F2, h1, h2, h3, h4⟩ := h.split (i := i) (by simpa using e)
    refine ⟨v, f, g ++ F1, F2, by simpa using h1, h2, by rw [h3, List.append_assoc], fun O' H' s k => ?_⟩
    obtain ⟨q1, q2, q3⟩ := h4 O' H' s fun a ha => k a (by rw [List.append_assoc]; exact List.mem_append_right _ ha)
    have d' := d.go s fun a ha => k a (by rw [List.append_assoc]; exact List.mem_append_left _ ha)
    refine ⟨fun t' f' q => ?_, fun d'' q => ?_, ?_⟩
    · have := Reps.ow d' (q1 t' f' q)
      rwa [← List.append_assoc] at this
    · have := Reps.ow d' (q2 d'' q)
      rwa [← List.append_assoc] at this
    · have := Reps.ow d' q3
      rwa [← List.append_assoc] at this
/-- what the slot owned is shared from now on -/
def frz (i : Nat) (ρ : Ev) : Ev := match ρ[i]? with
  | some (.ow t) => ρ.set i (.va t.d)
  | _ => ρ
def gFrz (i : Nat) (g : GS) : GS := fun E ρ => g E (frz i ρ)
theorem Rep.frz {H0 : Fx} {B F : List Addr} {σ : L2.St} {H : Hp} {ρ : Ev} (i : Nat) (r : Rep G H0 B F σ H ρ) : ∃ F', Rep G H0 B F' σ H (frz i ρ) := by
  unfold EN.frz
  split
  · rename_i t e
    obtain ⟨v, f, F1, F2, h1, h2, h3, h4⟩ := r.reps.split e
    have nd := r.nd
    rw [h3] at nd
    have sb : (F1 ++ F2).Sublist F := by
      rw [h3]
      exact (List.Sublist.refl _).append (List.sublist_append_right _ _)
    have ss : ∀ a ∈ B ++ (F1 ++ F2), a ∈ B ++ F := fun a ha => (List.mem_append.1 ha).elim (List.mem_append_left _) fun z => List.mem_append_right _ (sb.subset z)
    have hd := h2.see (S := B ++ (F1 ++ F2)) (off_sub ss) fun a ha z => by
      rcases List.mem_append.1 z with z | z
      · exact r.dj a (by rw [h3]; simp [ha]) z
      · rw [List.nodup_append] at nd
        rcases List.mem_append.1 z with z | z
        · exact nd.2.2 a z a (List.mem_append_left _ ha) rfl
        · have n2 := nd.2.1
          rw [List.nodup_append] at n2
          exact n2.2.2 a ha a z rfl
    obtain ⟨_, q2, _⟩ := h4 (B ++ (F1 ++ F2)) H (off_sub ss) fun _ _ _ e => e
    exact ⟨F1 ++ F2, q2 _ hd, r.nd.sublist sb, fun a ha => r.dj a (sb.subset ha), r.lv, r.pots, r.st, fun a ha => r.new a (sb.subset ha), fun p hp => p.m (off_sub ss) (r.gh p hp)⟩
  · exact ⟨F, r⟩
theorem rd_frz {i : Nat} {t : TS} {g : GS} (a : RdS G t g) : RdS G t (gFrz i g) := by
  intro H0 B F σ H ρ E D r h s
  obtain ⟨F', r'⟩ := r.frz i
  exact a H0 B F' σ H _ E D r' h s
theorem DS.frz {st : Stmt} {t : TS} {g : GS} (i : Nat) (h : DS G X st t g) : DS G X st t (gFrz i g) := ⟨h.ps, rd_frz h.rd⟩
/-- the owned list at the slot is written: its new content, items new since H or shared -/
theorem Rep.write {H0 : Fx} {B F : List Addr} {σ : L2.St} {H H1 : Hp} {ρ : Ev} {i : Nat} {l l' : List OT} (r : Rep G H0 B F σ H ρ) (s : Stp G.pots H H1) (e : ρ[i]? = some (.ow (.node l))) :
    ∃ a xs f F1 F2, σ[i]? = some (some (.ref a)) ∧ H a = some (.lst xs) ∧ H1 a = some (.lst xs) ∧ Ows G (B ++ F) H xs l f ∧ F = F1 ++ (a :: f ++ F2) ∧ a ∉ f ∧
      ∀ (ys : List V) (l' : List OT) (f' : List Addr) (g : List Addr), Ows G (B ++ g ++ F) H1 ys l' f' → f'.Nodup → (∀ b ∈ f', b ∈ f ∨ b ∈ g) → (∀ b ∈ g, H b = none) →
        ∃ F', Rep G H0 B F' σ (upd H1 a (.lst ys)) (ρ.set i (.ow (.node l'))) := by
  obtain ⟨v, fa, F1, F2, h1, h2, h3, h4⟩ := r.reps.split e
  cases h2 with
  | @node a xs l f ha ho =>
    have aF : a ∈ F := by rw [h3]; simp
    have np := r.fp aF
    have nd := r.nd
    rw [h3] at nd
    have nd1 := (List.nodup_append.1 nd)
    have nd2 := (List.nodup_append.1 nd1.2.1)
    have naf : a ∉ f := (List.nodup_cons.1 nd2.1).1
    refine ⟨a, xs, f, F1, F2, h1, ha, s.keep a _ ha np, ho, h3, naf, fun ys l' f' g hy ndf sub ng => ?_⟩
    have r1 := r.stp s
    have fF : ∀ b ∈ f, b ∈ F := fun b hb => by rw [h3]; simp [hb]
    have gF : ∀ b ∈ g, b ∉ F := fun b hb z => by
      obtain ⟨_, q⟩ := r.reps.live b z
      rw [ng b hb] at q; cases q
    have gB : ∀ b ∈ g, b ∉ B := fun b hb z => r.live b z (ng b hb)
    have gp : ∀ b ∈ g, b ∉ G.pots := fun b hb z => gB b hb (r.pots b z).1
    have naf' : a ∉ f' := fun z => by
      rcases sub a z with z | z
      · exact naf z
      · exact gF a z aF
    -- the new owned places
    have ssF : ∀ b ∈ F1 ++ (a :: f' ++ F2), b ∈ F ∨ b ∈ g := fun b hb => by
      simp only [List.mem_append, List.mem_cons] at hb
      rw [h3]
      simp only [List.mem_append, List.mem_cons]
      rcases hb with z | (z | z) | z
      · exact .inl (.inl z)
      · exact .inl (.inr (.inl (.inl z)))
      · rcases sub b z with y | y
        · exact .inl (.inr (.inl (.inr y)))
        · exact .inr y
      · exact .inl (.inr (.inr z))
    have ap : Same (offL (B ++ F) H) (offL (B ++ (F1 ++ (a :: f' ++ F2))) (upd H1 a (.lst ys))) := offL_same fun b o q hb => by
      have nb : b ∉ G.pots := fun z => hb (r.np b z)
      have nea : b ≠ a := fun z => hb (List.mem_append_right _ (z ▸ aF))
      refine ⟨fun z => ?_, by rw [upd_ne nea]; exact s.keep b o q nb⟩
      rcases List.mem_append.1 z with z | z
      · exact hb (List.mem_append_left _ z)
      · rcases ssF b z with z | z
        · exact hb (List.mem_append_right _ z)
        · rw [ng b z] at q; cases q
    obtain ⟨q1, _, _⟩ := h4 (B ++ (F1 ++ (a :: f' ++ F2))) (upd H1 a (.lst ys)) ap fun b hb o q => by
      have bF : b ∈ F := by
        rw [h3]
        rcases List.mem_append.1 hb with z | z <;> simp [z]
      have nea : b ≠ a := fun z => by
        subst z
        rcases List.mem_append.1 hb with z | z
        · exact nd1.2.2 b z b (by simp) rfl
        · exact nd2.2.2 b (by simp) b z rfl
      rw [upd_ne nea]
      exact s.keep b o q (r.fp bF)
    have ap2 : Same (offL (B ++ g ++ F) H1) (offL (B ++ (F1 ++ (a :: f' ++ F2))) (upd H1 a (.lst ys))) := offL_same fun b o q hb => by
      have nea : b ≠ a := fun z => hb (List.mem_append_right _ (z ▸ aF))
      refine ⟨fun z => hb ?_, by rw [upd_ne nea]; exact q⟩
      rcases List.mem_append.1 z with z | z
      · exact List.mem_append_left _ (List.mem_append_left _ z)
      · rcases ssF b z with z | z
        · exact List.mem_append_right _ z
        · exact List.mem_append_left _ (List.mem_append_right _ z)
    have oy := hy.go ap2 fun b hb o q => by
      have nea : b ≠ a := fun z => naf' (by rw [← z]; exact hb)
      rw [upd_ne nea]
      exact q
    refine ⟨F1 ++ (a :: f' ++ F2), q1 (.node l') (a :: f') (.node upd_same oy), ?_, fun b hb z => ?_, fun b hb => ?_, fun p hp => ?_, ⟨fun b o q hb => ?_, fun p hp q => ?_⟩, fun b hb => ?_, fun p hp => p.m ap (r.gh p hp)⟩
    · rw [List.nodup_append, List.nodup_append]
      refine ⟨nd1.1, ⟨List.nodup_cons.2 ⟨naf', ndf⟩, nd2.2.1, fun b hb c hc z => ?_⟩, fun b hb c hc z => ?_⟩
      · subst z
        rcases List.mem_cons.1 hb with z | z
        · exact nd2.2.2 b (by simp [z]) b hc rfl
        · rcases sub b z with y | y
          · exact nd2.2.2 b (by simp [y]) b hc rfl
          · exact gF b y (by rw [h3]; simp [hc])
      · subst z
        rcases List.mem_append.1 hc with y | y
        · rcases List.mem_cons.1 y with y | y
          · exact nd1.2.2 b hb b (by simp [y]) rfl
          · rcases sub b y with y | y
            · exact nd1.2.2 b hb b (by simp [y]) rfl
            · exact gF b y (by rw [h3]; simp [hb])
        · exact nd1.2.2 b hb b (by simp [y]) rfl
    · rcases ssF b hb with y | y
      · exact r.dj b y z
      · exact gB b y z
    · by_cases z : b = a
      · subst z
        exact ⟨_, upd_same⟩
      · obtain ⟨zs, e⟩ := r1.lv b hb
        exact ⟨zs, by rw [upd_ne z]; exact e⟩
    · obtain ⟨z1, z2⟩ := r1.pots p hp
      exact ⟨z1, z2.same fun o q => by rw [upd_ne fun z => np (by rw [← z]; exact hp)]; exact q⟩
    · have nea : b ≠ a := fun z => by
        subst z
        rw [r.new b aF] at q
        cases q
      rw [upd_ne nea]
      exact r1.st.keep b o q hb
    · exact (r1.pots p hp).2.same fun o q => by rw [upd_ne fun z => np (by rw [← z]; exact hp)]; exact q
    · rcases ssF b hb with y | y
      · exact r.new b y
      · cases e : H0.h b with
        | none => rfl
        | some o =>
          have q := r.st.keep b o e (gp b y)
          rw [ng b y] at q
          cases q
end
end EN

set_option Elab.async false
set_option linter.all false
set_option maxRecDepth 100000
set_option maxHeartbeats 2000000
/-! loops and comprehensions, read on trees -/
namespace EN
open PySem L2 TW RZ

/-- J walks us: M is what must stand for it -/
structure Wk (G : Gw) (B F : List Addr) (H1 : Hp) (J : It) (us : List D) (M : Mono) : Prop where
  now : M.P (offL (B ++ F) H1)
  wk : ∃ (Gd : Hp → Prop) (Y : Nat → Hp → V → Hp → Prop), Walk J us.length Gd Y ∧ (∀ H, M.P H → Gd H) ∧
    ∀ (O : List Addr) (i : Nat) (H : Hp) (x : V) (H' : Hp) (d : D), (∀ a ∈ O, H a ≠ none) → M.P (offL O H) → us[i]? = some d → Y i H x H' → Same H H' ∧ Dt G (offL O H') x d
abbrev GI := Ev → (List D → Prop) → Prop
def RdI (G : Gw) (w : TI) (g : GI) : Prop := ∀ (H0 : Fx) (B F : List Addr) (σ : L2.St) (H : Hp) (ρ : Ev) (Φ : List D → Prop) (Q : It → Hp → Prop), Rep G H0 B F σ H ρ → g ρ Φ →
  (∀ J H1 us M, Stp G.pots H H1 → Wk G B F H1 J us M → Φ us → Q J H1) → w σ H Q
structure DI (G : Gw) (X : Cx) (tg it : Expr) (w : TI) (g : GI) : Prop where
  pi : PI X tg it w
  rd : RdI G w g
/-- a target: the slots that it sets, what it makes of the slots -/
abbrev GG := D → Ev → Option Ev
def RdG (G : Gw) (t : TG) (is : List Nat) (u : GG) : Prop := ∀ (H0 : Fx) (B F : List Addr) (σ : L2.St) (H : Hp) (ρ ρ' : Ev) (v : V) (d : D) (Q : L2.St → Hp → Prop), Rep G H0 B F σ H ρ → Dt G (offL (B ++ F) H) v d → u d ρ = some ρ' →
  (∀ σ', Rep G H0 B F σ' H ρ' → (∀ vs : List Nat, (∀ i ∈ is, i ∈ vs) → wipe σ' vs = wipe σ vs) → Q σ' H) → t v σ H Q
structure DG (G : Gw) (X : Cx) (tg : Expr) (t : TG) (is : List Nat) (u : GG) : Prop where
  pg : PG X tg t
  rd : RdG G t is u

section
variable {G : Gw} {X : Cx}
theorem wipe_set {σ : L2.St} {i : Nat} {x : Option V} : ∀ {vs : List Nat}, i ∈ vs → wipe (σ.set i x) vs = wipe σ vs
  | [], h => nomatch h
  | j :: vs, h => by
    show ((wipe (σ.set i x) vs).set j none) = ((wipe σ vs).set j none)
    by_cases e : i ∈ vs
    · rw [wipe_set e]
    · have ej : i = j := by
        rcases List.mem_cons.1 h with z | z
        · exact z
        · exact absurd z e
      subst ej
      have key : ∀ (vs : List Nat) (τ : L2.St), i ∉ vs → wipe (τ.set i x) vs = (wipe τ vs).set i x := by
        intro vs
        induction vs with
        | nil => intro τ _; rfl
        | cons k vs ih =>
          intro τ hk
          show (wipe (τ.set i x) vs).set k none = ((wipe τ vs).set k none).set i x
          rw [ih τ fun z => hk (List.mem_cons_of_mem _ z), List.set_comm]
          intro z
          exact hk (by rw [z]; exact List.mem_cons_self)
      rw [key vs σ e, List.set_set]
theorem wipe_wipe {σ : L2.St} {ws : List Nat} : ∀ {vs : List Nat}, (∀ i ∈ vs, i ∈ ws) → wipe (wipe σ vs) ws = wipe σ ws
  | [], _ => rfl
  | j :: vs, h => by
    show wipe ((wipe σ vs).set j none) ws = _
    rw [wipe_set (h j List.mem_cons_self), wipe_wipe fun i hi => h i (List.mem_cons_of_mem _ hi)]
def wipeE (ρ : Ev) : List Nat → Ev
  | [] => ρ
  | j :: vs => (wipeE ρ vs).set j .un
theorem Rep.wipe {H0 : Fx} {B : List Addr} {σ : L2.St} {H : Hp} {ρ : Ev} {F : List Addr} (r : Rep G H0 B F σ H ρ) : ∀ vs : List Nat, ∃ F', Rep G H0 B F' (L2.wipe σ vs) H (wipeE ρ vs)
  | [] => ⟨F, r⟩
  | j :: vs => let ⟨_, r'⟩ := r.wipe vs; r'.un
/-- the slot owns nothing -/
def nOw (ρ : Ev) (i : Nat) : Bool := match ρ[i]? with
  | some (.ow _) => false
  | _ => true
theorem Reps.set_keep {O : List Addr} {H : Hp} : ∀ {σ : L2.St} {ρ : Ev} {F : List Addr} {i : Nat}, Reps G O H σ ρ F → nOw ρ i = true → (∀ v d, Dt G (offL O H) v d → Reps G O H (σ.set i (some v)) (ρ.set i (.va d)) F) ∧ ∀ x, Reps G O H (σ.set i x) (ρ.set i .un) F
  | _, _, _, _, .nil, _ => ⟨fun _ _ _ => .nil, fun _ => .nil⟩
  | _, _, _, 0, .un h, _ => ⟨fun _ _ d => .va d h, fun _ => .un h⟩
  | _, _, _, 0, .va _ h, _ => ⟨fun _ _ d => .va d h, fun _ => .un h⟩
  | _, _, _, 0, .ow _ _, e => by simp [nOw] at e
  | _, _, _, i + 1, .un h, e => by
    obtain ⟨a, b⟩ := h.set_keep (i := i) (by simpa [nOw] using e)
    exact ⟨fun v d q => .un (a v d q), fun x => .un (b x)⟩
  | _, _, _, i + 1, .va z h, e => by
    obtain ⟨a, b⟩ := h.set_keep (i := i) (by simpa [nOw] using e)
    exact ⟨fun v d q => .va z (a v d q), fun x => .va z (b x)⟩
  | _, _, _, i + 1, .ow z h, e => by
    obtain ⟨a, b⟩ := h.set_keep (i := i) (by simpa [nOw] using e)
    exact ⟨fun v d q => .ow z (a v d q), fun x => .ow z (b x)⟩
theorem Rep.setK {H0 : Fx} {B F : List Addr} {σ : L2.St} {H : Hp} {ρ : Ev} {i : Nat} {v : V} {d : D} (r : Rep G H0 B F σ H ρ) (e : nOw ρ i = true) (h : Dt G (offL (B ++ F) H) v d) : Rep G H0 B F (σ.set i (some v)) H (ρ.set i (.va d)) :=
  r.less ((r.reps.set_keep e).1 v d h) (.refl _)
theorem Rep.unK {H0 : Fx} {B F : List Addr} {σ : L2.St} {H : Hp} {ρ : Ev} {i : Nat} {x : Option V} (r : Rep G H0 B F σ H ρ) (e : nOw ρ i = true) : Rep G H0 B F (σ.set i x) H (ρ.set i .un) :=
  r.less ((r.reps.set_keep e).2 x) (.refl _)
def nOws (ρ : Ev) (vs : List Nat) : Bool := vs.all (nOw ρ)
theorem nOw_wipe {ρ : Ev} {i : Nat} : ∀ {vs : List Nat}, nOw ρ i = true → nOw (wipeE ρ vs) i = true
  | [], h => h
  | j :: vs, h => by
    have q := nOw_wipe (vs := vs) h
    show nOw ((wipeE ρ vs).set j .un) i = true
    unfold nOw at q ⊢
    rw [List.getElem?_set]
    by_cases e : j = i
    · subst e
      by_cases z : j < (wipeE ρ vs).length <;> simp [z]
    · simp only [e, if_false]
      exact q
theorem Rep.wipeK {H0 : Fx} {B F : List Addr} {σ : L2.St} {H : Hp} {ρ : Ev} (r : Rep G H0 B F σ H ρ) : ∀ {vs : List Nat}, nOws ρ vs = true → Rep G H0 B F (L2.wipe σ vs) H (wipeE ρ vs)
  | [], _ => r
  | j :: vs, h => by
    have h' : nOw ρ j = true ∧ nOws ρ vs = true := by simpa [nOws] using h
    exact (r.wipeK h'.2).unK (nOw_wipe h'.1)
def uName (i : Nat) : GG := fun d ρ => if nOw ρ i = true then some (ρ.set i (.va d)) else none
theorem rd_name {i : Nat} : RdG G (gName i) [i] (uName i) := by
  intro H0 B F σ H ρ ρ' v d Q r h e q
  unfold uName at e
  split at e
  · rename_i k
    cases e
    exact q _ (r.setK k h) fun vs hv => wipe_set (hv i List.mem_cons_self)
  · cases e
theorem dg_name {i : Nat} {x : Str} {pos : Pos} (hN : X.N.Nodup) (hi : X.N[i]? = some x) (hx : Loc X.env.scope x) (hf : X.fn x = true ∨ X.env.scope.names.lookup x = some .local := by first | exact .inl rfl | exact .inr rfl | assumption) : DG G X (.Name x pos) (gName i) [i] (uName i) :=
  ⟨pg_name hN hi hx hf, rd_name⟩
/-- several targets -/
abbrev GGs := List D → Ev → Option Ev
def RdGs (G : Gw) (t : TGs) (is : List Nat) (u : GGs) : Prop := ∀ (H0 : Fx) (B F : List Addr) (σ : L2.St) (H : Hp) (ρ ρ' : Ev) (vs : List V) (ds : List D) (Q : L2.St → Hp → Prop), Rep G H0 B F σ H ρ → Dts G (offL (B ++ F) H) vs ds → u ds ρ = some ρ' →
  (∀ σ', Rep G H0 B F σ' H ρ' → (∀ ws : List Nat, (∀ i ∈ is, i ∈ ws) → wipe σ' ws = wipe σ ws) → Q σ' H) → t vs σ H Q
structure DGs (G : Gw) (X : Cx) (ts : List Expr) (t : TGs) (is : List Nat) (u : GGs) : Prop where
  pg : PGs X ts t
  rd : RdGs G t is u
def uNil : GGs := fun ds ρ => match ds with
  | [] => some ρ
  | _ => none
def uCons (i : Nat) (u : GGs) : GGs := fun ds ρ => match ds with
  | d :: r => if nOw ρ i = true then u r (ρ.set i (.va d)) else none
  | [] => none
theorem dgs_nil : DGs G X [] L2.gNil [] uNil := by
  refine ⟨pgs_nil, fun H0 B F σ H ρ ρ' vs ds Q r h e q => ?_⟩
  unfold uNil at e
  split at e
  · cases e
    cases h
    exact ⟨rfl, q σ r fun _ _ => rfl⟩
  · cases e
theorem dgs_cons {e : Expr} {es : List Expr} {i : Nat} {t : TGs} {is : List Nat} {u : GGs} (h1 : DG G X e (gName i) [i] (uName i)) (h2 : DGs G X es t is u)
    (hs : (assignEach (e :: es) X.env).map (·.2) = assign e X.env :: (assignEach es X.env).map (·.2) := by rfl) : DGs G X (e :: es) (L2.gCons (gName i) t) (i :: is) (uCons i u) := by
  refine ⟨pgs_cons h1.pg h2.pg hs, fun H0 B F σ H ρ ρ' vs ds Q r h e q => ?_⟩
  unfold uCons at e
  split at e
  · rename_i d ds
    split at e
    · rename_i k
      cases h with
      | @cons v _ vs _ hv hvs =>
        have r' := r.setK k hv
        refine ⟨_, _, rfl, h2.rd H0 B F _ H _ ρ' vs ds _ r' hvs e fun σ'' r'' w => q σ'' r'' fun ws hw => ?_⟩
        rw [w ws fun j hj => hw j (List.mem_cons_of_mem _ hj), wipe_set (hw i List.mem_cons_self)]
    · cases e
  · cases e
def uTup (u : GGs) : GG := fun d ρ => match d with
  | .tup ds => u ds ρ
  | _ => none
theorem uTup_len {K : W.Frag} {n : Nat} {t : TGs} {is : List Nat} {u : GGs} (rd : RdGs G t is u) (hl : ∀ ds ρ ρ', u ds ρ = some ρ' → ds.length = n) (hK : G.K = K) : RdG G (L2.gTup K n t) is (uTup u) := by
  subst hK
  intro H0 B F σ H ρ ρ' v d Q r h e q
  unfold uTup at e
  split at e
  · rename_i ds
    cases h with
    | @tup a xs _ h1 h2 =>
      refine ⟨a, xs, rfl, Same.tup offL_all h1, by rw [h2.length]; exact hl _ _ _ e, rd H0 B F σ H ρ ρ' xs ds Q r h2 e q⟩
  · cases e
theorem uNil_len : ∀ ds ρ ρ', uNil ds ρ = some ρ' → ds.length = 0 := fun ds ρ ρ' e => by
  unfold uNil at e
  split at e
  · rfl
  · cases e
theorem uCons_len {i n : Nat} {u : GGs} (h : ∀ ds ρ ρ', u ds ρ = some ρ' → ds.length = n) : ∀ ds ρ ρ', uCons i u ds ρ = some ρ' → ds.length = n + 1 := fun ds ρ ρ' e => by
  unfold uCons at e
  split at e
  · split at e
    · rw [List.length_cons, h _ _ _ e]
    · cases e
  · cases e
theorem dg_tup {es : List Expr} {k : Nat} {pos : Pos} {t : TGs} {n : Nat} {is : List Nat} {u : GGs} (hc : X.calm = true) (h : DGs G X es t is u) (hl : ∀ ds ρ ρ', u ds ρ = some ρ' → ds.length = n)
    (hn : (assignEach es X.env).length = n := by rfl) (hst : (assignEach es X.env).findIdx? (·.1) = none := by rfl) (hK : G.K = X.K := by rfl) : DG G X (.Tuple es k pos) (L2.gTup G.K n t) is (uTup u) := ⟨by rw [hK]; exact pg_tup hc h.pg hn hst, uTup_len h.rd hl rfl⟩

/-! what is walked -/
def gSeq' (a : GE) : GI := fun ρ Φ => a ρ fun r => match r.c? with
  | some (.lst ds) => Φ ds
  | some (.tup ds) => Φ ds
  | _ => False
theorem walk_dts {B F : List Addr} {H1 : Hp} {a : Addr} {xs : List V} {ds : List D} (h1 : H1 a = some (.lst xs)) (na : a ∉ B ++ F) (h2 : Dts G (offL (B ++ F) H1) xs ds) (K : W.Frag) :
    Wk G B F H1 (Itl K a) ds ⟨fun H => H a = some (.lst xs) ∧ Dts G H xs ds, fun s h => ⟨s _ _ h.1, h.2.same s⟩⟩ := by
  refine ⟨⟨by rw [offL_at na]; exact h1, h2⟩, _, _, by rw [← h2.length]; exact walk_list (K := K) (a := a) (xs := xs), fun H h => SqL.of h.1, ?_⟩
  rintro O i H x H' d _ ⟨_, h⟩ e ⟨rfl, ex⟩
  obtain ⟨d', e', hd⟩ := h.at ex
  rw [e] at e'
  cases e'
  exact ⟨Same.refl _, hd⟩
theorem walk_dtsT {B F : List Addr} {H1 : Hp} {a : Addr} {xs : List V} {ds : List D} (h1 : SqT G.K (offL (B ++ F) H1) a xs) (h2 : Dts G (offL (B ++ F) H1) xs ds) :
    Wk G B F H1 (Itt G.K a) ds ⟨fun H => SqT G.K H a xs ∧ Dts G H xs ds, fun s h => ⟨Same.tup s h.1, h.2.same s⟩⟩ := by
  refine ⟨⟨h1, h2⟩, _, _, by rw [← h2.length]; exact walk_tup (K := G.K) (a := a) (xs := xs), fun H h => h.1, ?_⟩
  rintro O i H x H' d _ ⟨_, h⟩ e ⟨rfl, ex⟩
  obtain ⟨d', e', hd⟩ := h.at ex
  rw [e] at e'
  cases e'
  exact ⟨Same.refl _, hd⟩
/-- a list or a tuple, known when it has been read -/
def iAny (K : W.Frag) (tl : TE) : TI := fun σ H R => tl σ H fun x H1 => ∃ a, x = .ref a ∧ (((∃ xs, SqL K H1 a xs) ∧ R (Itl K a) H1) ∨ ((∃ xs, SqT K H1 a xs) ∧ R (Itt K a) H1))
theorem pi_any {tg l : Expr} {tl : TE} (hl : PE X l tl) : PI X tg l (iAny X.K tl) := by
  refine ⟨fun pins s σ H R I h => ?_⟩
  refine thn (hl.run pins s σ H _ I h) fun v s1 ⟨x, H1, I1, r1, q1⟩ => ?_
  obtain ⟨a, e, q1⟩ := q1
  subst e
  cases r1
  have fr : ∀ b ∈ [s1.heap.objs.size], FpOk X pins H1 b := fun b hb => by
    have e : b = s1.heap.objs.size := by simpa using hb
    subst e
    exact I1.fpOk (Nat.le_refl _) (I1.hok.fresh (Nat.le_refl _))
  rcases q1 with ⟨⟨xs, hq⟩, q⟩ | ⟨⟨xs, hq⟩, q⟩
  · obtain ⟨its, rv, p, hz⟩ := I1.list hq
    refine wpAny_pyIter_list p.isList ?_
    exact ⟨s1.heap.objs.size, [s1.heap.objs.size], _, _, H1, rfl, I1.kept (t' := s1.toks) fun b o e => Heap.get?_push_of_some _ e, turn_list a _, ⟨_, Heap.get?_push_size _ rfl, rfl, rfl⟩, fr, q⟩
  · obtain ⟨its, rv, p, hz⟩ := I1.tuple hq
    refine wpAny_pyIter_tuple (show s1.heap.IsTuple a its.toArray from p) ?_
    exact ⟨s1.heap.objs.size, [s1.heap.objs.size], _, _, H1, rfl, I1.kept (t' := s1.toks) fun b o e => Heap.get?_push_of_some _ e, turn_tuple a _, ⟨_, Heap.get?_push_size _ rfl, rfl, rfl⟩, fr, q⟩
theorem rd_any {K : W.Frag} {t : TE} {g : GE} (a : RdE G t g) (hK : G.K = K) : RdI G (iAny K t) (gSeq' g) := by
  subst hK
  intro H0 B F σ H ρ Φ Q rp h q
  refine a H0 B F σ H ρ _ _ rp h fun v H1 r s1 rr f => ?_
  have A := rp.at.stp s1
  split at f
  · rename_i ds e
    have d := rr.clean A e
    cases d with
    | @lst a xs _ h1 h2 =>
      obtain ⟨na, h1⟩ := offL_some h1
      exact ⟨a, rfl, .inl ⟨⟨xs, SqL.of h1⟩, q _ H1 ds _ s1 (walk_dts h1 na h2 G.K) f⟩⟩
  · rename_i ds e
    have d := rr.clean A e
    cases d with
    | @tup a xs _ h1 h2 => exact ⟨a, rfl, .inr ⟨⟨xs, Same.tup offL_all h1⟩, q _ H1 ds _ s1 (walk_dtsT h1 h2) f⟩⟩
  · exact f.elim
theorem di_any {tg l : Expr} {t : TE} {g : GE} (a : DE G X l t g) (hK : G.K = X.K := by rfl) : DI G X tg l (iAny G.K t) (gSeq' g) := ⟨by rw [hK]; exact pi_any a.pe, rd_any a.rd rfl⟩
/-! ranges -/
def gRg1 (a : GE) : GI := fun ρ Φ => a ρ fun r => match r with
  | .old (.leaf (.int j)) => (-(2 ^ 62) ≤ j ∧ j < 2 ^ 62) ∧ Φ ((List.range j.toNat).map fun i => .int (0 + (i : Nat)))
  | _ => False
def gRg2 (a b : GE) : GI := fun ρ Φ => a ρ fun r => b ρ fun u => match r, u with
  | .old (.leaf (.int i)), .old (.leaf (.int j)) => (-(2 ^ 62) ≤ i ∧ i < 2 ^ 62 ∧ -(2 ^ 62) ≤ j ∧ j < 2 ^ 62) ∧ Φ ((List.range (j - i).toNat).map fun k => .int (i + (k : Nat)))
  | _, _ => False
def mTrue : Mono := ⟨fun _ => True, fun _ _ => trivial⟩
theorem wk_range {B F : List Addr} {H1 : Hp} {lo : Int} {n : Nat} : Wk G B F H1 (Itr lo n) ((List.range n).map fun k => .int (lo + (k : Nat))) mTrue := by
  refine ⟨trivial, _, _, by rw [List.length_map, List.length_range]; exact walk_range, fun _ _ => trivial, ?_⟩
  rintro O i H x H' d _ _ e ⟨rfl, rfl⟩
  rw [List.getElem?_map] at e
  cases h : (List.range n)[i]? with
  | none => rw [h] at e; cases e
  | some k =>
    rw [h] at e
    cases e
    obtain ⟨h1, h2⟩ := List.getElem?_eq_some_iff.1 h
    rw [List.getElem_range] at h2
    subst h2
    exact ⟨Same.refl _, .int _⟩
theorem rd_rg1 {t : TE} {g : GE} (a : RdE G t g) : RdI G (iRng1 (tCons t tNil)) (gRg1 g) := by
  intro H0 B F σ H ρ Φ Q rp h q
  refine a H0 B F σ H ρ _ _ rp h fun v H1 r s1 rr f => ?_
  split at f
  · have d := rr.of_c
    cases d
    exact ⟨_, rfl, f.1.1, f.1.2, q _ H1 _ _ s1 wk_range f.2⟩
  · exact f.elim
theorem rd_rg2 {t u : TE} {g k : GE} (a : RdE G t g) (b : RdE G u k) : RdI G (iRng2 (tCons t (tCons u tNil))) (gRg2 g k) := by
  intro H0 B F σ H ρ Φ Q rp h q
  refine a H0 B F σ H ρ _ _ rp h fun v H1 r s1 rr f => ?_
  refine b H0 B F σ H1 ρ _ _ (rp.stp s1) f fun v2 H2 r2 s2 rr2 f2 => ?_
  split at f2
  · have d := rr.of_c
    cases d
    have d2 := rr2.of_c
    cases d2
    exact ⟨_, _, rfl, f2.1, q _ H2 _ _ (s1.trans s2) wk_range f2.2⟩
  · exact f2.elim
theorem di_rg1 {tg e : Expr} {t : TE} {g : GE} {p pos : Pos} (hg : Gl X "range") (hm : X.mg "range" = none) (a : DE G X e t g) (hs : starEach [e] X.env = [(false, eval e X.env)] := by rfl) : DI G X tg (.Call (.Name "range" p) [e] [] pos) (iRng1 (tCons t tNil)) (gRg1 g) :=
  ⟨pi_range1 hg hm (pa_cons a.pe pa_nil hs) hs, rd_rg1 a.rd⟩
theorem di_rg2 {tg e e2 : Expr} {t u : TE} {g k : GE} {p pos : Pos} (hg : Gl X "range") (hm : X.mg "range" = none) (a : DE G X e t g) (b : DE G X e2 u k) (hs : starEach [e, e2] X.env = [(false, eval e X.env), (false, eval e2 X.env)] := by rfl) (hs2 : starEach [e2] X.env = [(false, eval e2 X.env)] := by rfl) :
    DI G X tg (.Call (.Name "range" p) [e, e2] [] pos) (iRng2 (tCons t (tCons u tNil))) (gRg2 g k) :=
  ⟨pi_range2 hg hm (pa_cons a.pe (pa_cons b.pe pa_nil hs2) (by rw [hs, hs2])) hs hs2, rd_rg2 a.rd b.rd⟩
/-! zip of two, enumerate -/
def pair2 (a b : D) : D := .tup [a, b]
def gZip (a b : GE) : GI := fun ρ Φ => a ρ fun r => b ρ fun u => match r.c?, u.c? with
  | some (.lst ds), some (.lst es) => Φ (List.zipWith pair2 ds es)
  | some (.tup ds), some (.tup es) => Φ (List.zipWith pair2 ds es)
  | _, _ => False
def numbered (k : Nat) : List D → List D
  | [] => []
  | d :: ds => .tup [.int k, d] :: numbered (k + 1) ds
theorem numbered_length : ∀ (ds : List D) (k : Nat), (numbered k ds).length = ds.length
  | [], _ => rfl
  | _ :: ds, k => by simp [numbered, numbered_length ds]
theorem numbered_at : ∀ (ds : List D) (k i : Nat), (numbered k ds)[i]? = ds[i]?.map fun d => .tup [.int (k + i : Nat), d]
  | [], _, _ => rfl
  | _ :: ds, k, 0 => rfl
  | _ :: ds, k, i + 1 => by
    show (numbered (k + 1) ds)[i]? = _
    rw [numbered_at ds (k + 1) i]
    have e : k + 1 + i = k + (i + 1) := by omega
    simp [e]
def gEnum (a : GE) : GI := fun ρ Φ => a ρ fun r => match r.c? with
  | some (.lst ds) => Φ (numbered 0 ds)
  | _ => False
theorem new_pair {O : List Addr} {H : Hp} {T : Addr} {x y : V} {d e : D} (lv : ∀ a ∈ O, H a ≠ none) (nT : H T = none) (hx : Dt G (offL O H) x d) (hy : Dt G (offL O H) y e) : Same H (upd H T (.tup [x, y])) ∧ Dt G (offL O (upd H T (.tup [x, y]))) (.ref T) (.tup [d, e]) := by
  have s : Same H (upd H T (.tup [x, y])) := same_new nT
  have s' : Same (offL O H) (offL O (upd H T (.tup [x, y]))) := offL_same fun b o q hb => ⟨hb, s b o q⟩
  exact ⟨s, .tup (SqT.of (by rw [offL_at fun z => lv T z nT]; exact upd_same)) (.cons (hx.same s') (.cons (hy.same s') .nil))⟩
theorem zip_at {ds es : List D} {i : Nat} {d : D} (e : (List.zipWith pair2 ds es)[i]? = some d) : ∃ a b, ds[i]? = some a ∧ es[i]? = some b ∧ d = .tup [a, b] := by
  rw [List.getElem?_zipWith] at e
  cases h1 : ds[i]? with
  | none => rw [h1] at e; cases e
  | some a =>
    cases h2 : es[i]? with
    | none => rw [h1, h2] at e; cases e
    | some b =>
      rw [h1, h2] at e
      cases e
      exact ⟨a, b, rfl, rfl, rfl⟩
theorem rd_zip {K : W.Frag} {t u : TE} {g k : GE} (a : RdE G t g) (b : RdE G u k) (hK : G.K = K) : RdI G (iZipA K (tCons t (tCons u tNil))) (gZip g k) := by
  subst hK
  intro H0 B F σ H ρ Φ Q rp h q
  refine a H0 B F σ H ρ _ _ rp h fun v H1 r s1 rr f => ?_
  refine b H0 B F σ H1 ρ _ _ (rp.stp s1) f fun v2 H2 r2 s2 rr2 f2 => ?_
  have A := rp.at.stp s1
  have A2 := A.stp s2
  split at f2
  · rename_i ds es e1 e2
    have d1 := (rr.go A s2).clean A2 e1
    have d2 := (rr2.back A).clean A2 e2
    cases d1 with
    | @lst a1 xs _ h1 h2 =>
      cases d2 with
      | @lst a2 ys _ h3 h4 =>
        obtain ⟨n1, g1⟩ := offL_some h1
        obtain ⟨n2, g2⟩ := offL_some h3
        refine ⟨a1, a2, xs, ys, rfl, .inl ⟨SqL.of g1, SqL.of g2, q _ H2 _ ⟨fun H => H a1 = some (.lst xs) ∧ H a2 = some (.lst ys) ∧ Dts G H xs ds ∧ Dts G H ys es, fun s h => ⟨s _ _ h.1, s _ _ h.2.1, h.2.2.1.same s, h.2.2.2.same s⟩⟩ (s1.trans s2) ⟨⟨h1, h3, h2, h4⟩, _, _, walk_zip (K := G.K) (a := a1) (b := a2) (xs := xs) (ys := ys) (by rw [List.length_zipWith, h2.length, h4.length]), fun H h => ⟨SqL.of h.1, SqL.of h.2.1⟩, ?_⟩ f2⟩⟩
        rintro O i H x H' d lv ⟨_, _, z1, z2⟩ e ⟨T, x1, x2, rfl, nT, rfl, ex1, ex2⟩
        obtain ⟨c1, c2, w1, w2, rfl⟩ := zip_at e
        obtain ⟨c1', w1', y1⟩ := z1.at ex1
        obtain ⟨c2', w2', y2⟩ := z2.at ex2
        rw [w1] at w1'; cases w1'
        rw [w2] at w2'; cases w2'
        exact new_pair lv nT y1 y2
  · rename_i ds es e1 e2
    have d1 := (rr.go A s2).clean A2 e1
    have d2 := (rr2.back A).clean A2 e2
    cases d1 with
    | @tup a1 xs _ h1 h2 =>
      cases d2 with
      | @tup a2 ys _ h3 h4 =>
        have K1 : ∀ {n : Nat}, n = min xs.length ys.length → Walk (ItzT G.K a1 a2) n (fun H => SqT G.K H a1 xs ∧ SqT G.K H a2 ys) (YPair (fun i => xs[i]?) (fun i => ys[i]?)) := by
          rintro n rfl
          refine ⟨fun i _ hi q => ?_, fun _ q => ⟨xs, ys, q.1, q.2, by omega⟩, fun i H v H' _ q y => ?_⟩
          · have h1 : i < xs.length := by omega
            have h2 : i < ys.length := by omega
            exact ⟨xs, ys, xs[i], ys[i], q.1, q.2, by simp [h1], by simp [h2]⟩
          · obtain ⟨T, x, z, h1, h2, h3, h4, h5⟩ := y
            exact ⟨T, x, z, h1, h2, h3, h4 xs q.1, h5 ys q.2⟩
        refine ⟨a1, a2, xs, ys, rfl, .inr ⟨Same.tup offL_all h1, Same.tup offL_all h3, q _ H2 _ ⟨fun H => SqT G.K H a1 xs ∧ SqT G.K H a2 ys ∧ Dts G H xs ds ∧ Dts G H ys es, fun s h => ⟨Same.tup s h.1, Same.tup s h.2.1, h.2.2.1.same s, h.2.2.2.same s⟩⟩ (s1.trans s2) ⟨⟨h1, h3, h2, h4⟩, _, _, K1 (by rw [List.length_zipWith, h2.length, h4.length]), fun H h => ⟨h.1, h.2.1⟩, ?_⟩ f2⟩⟩
        rintro O i H x H' d lv ⟨_, _, z1, z2⟩ e ⟨T, x1, x2, rfl, nT, rfl, ex1, ex2⟩
        obtain ⟨c1, c2, w1, w2, rfl⟩ := zip_at e
        obtain ⟨c1', w1', y1⟩ := z1.at ex1
        obtain ⟨c2', w2', y2⟩ := z2.at ex2
        rw [w1] at w1'; cases w1'
        rw [w2] at w2'; cases w2'
        exact new_pair lv nT y1 y2
  · exact f2.elim
theorem di_zip {e e2 : Expr} {t u : TE} {g k : GE} {p pos tpos : Pos} {elts : List Expr} {kk : Nat} (hg : Gl X "zip") (hm : X.mg "zip" = none) (a : DE G X e t g) (b : DE G X e2 u k)
    (hs : starEach [e, e2] X.env = (false, eval e X.env) :: starEach [e2] X.env := by rfl) (hs2 : starEach [e2] X.env = (false, eval e2 X.env) :: starEach [] X.env := by rfl) (hpl : (backTo pos (starEach [e2] X.env)).any (·.1) = false := by rfl) (hK : G.K = X.K := by rfl) :
    DI G X (.Tuple elts kk tpos) (.Call (.Name "zip" p) [e, e2] [] pos) (iZipA G.K (tCons t (tCons u tNil))) (gZip g k) :=
  ⟨by rw [hK]; exact pi_zipA hg hm (pa_cons a.pe (pa_cons b.pe pa_nil hs2) hs) hs hpl, rd_zip a.rd b.rd rfl⟩
theorem rd_enum {K : W.Frag} {t : TE} {g : GE} (a : RdE G t g) (hK : G.K = K) : RdI G (iEnum K (tCons t tNil)) (gEnum g) := by
  subst hK
  intro H0 B F σ H ρ Φ Q rp h q
  refine a H0 B F σ H ρ _ _ rp h fun v H1 r s1 rr f => ?_
  have A := rp.at.stp s1
  split at f
  · rename_i ds e1
    have d1 := rr.clean A e1
    cases d1 with
    | @lst a1 xs _ h1 h2 =>
      obtain ⟨n1, g1⟩ := offL_some h1
      refine ⟨a1, xs, rfl, SqL.of g1, q _ H1 _ ⟨fun H => H a1 = some (.lst xs) ∧ Dts G H xs ds, fun s h => ⟨s _ _ h.1, h.2.same s⟩⟩ s1 ⟨⟨h1, h2⟩, _, _, by rw [numbered_length, ← h2.length]; exact walk_enum (K := G.K) (a := a1) (xs := xs), fun H h => SqL.of h.1, ?_⟩ f⟩
      rintro O i H x H' d lv ⟨_, z1⟩ e ⟨T, x1, x2, rfl, nT, rfl, ex1, ex2⟩
      cases ex1
      rw [numbered_at, Nat.zero_add] at e
      obtain ⟨c1, w1, y1⟩ := z1.at ex2
      rw [w1] at e
      cases e
      exact new_pair lv nT (.int _) y1
  · exact f.elim
theorem di_enum {e : Expr} {t : TE} {g : GE} {p pos tpos : Pos} {elts : List Expr} {kk : Nat} (hg : Gl X "enumerate") (hm : X.mg "enumerate" = none) (a : DE G X e t g) (hs : starEach [e] X.env = [(false, eval e X.env)] := by rfl) (hK : G.K = X.K := by rfl) :
    DI G X (.Tuple elts kk tpos) (.Call (.Name "enumerate" p) [e] [] pos) (iEnum G.K (tCons t tNil)) (gEnum g) := ⟨by rw [hK]; exact pi_enum hg hm (pa_cons a.pe pa_nil hs) hs, rd_enum a.rd rfl⟩

/-! for -/
def gFor (it : GI) (u : GG) (body : GS) : GS := fun E ρ => it ρ fun us => ∃ J : Nat → Ev → Prop, J 0 ρ ∧
  (∀ k d ρ', us[k]? = some d → J k ρ' → ∃ ρ2, u d ρ' = some ρ2 ∧ body { E with nx := J (k + 1), ct := J (k + 1), bk := E.nx } ρ2) ∧ ∀ ρ', J us.length ρ' → E.nx ρ'
theorem Rep.drop {H0 : Fx} {B F : List Addr} {σ : L2.St} {H : Hp} {ρ : Ev} {M : Mono} (r : Rep G ⟨H0.h, M :: H0.g⟩ B F σ H ρ) : Rep G H0 B F σ H ρ :=
  ⟨r.reps, r.nd, r.dj, r.lv, r.pots, r.st, r.new, fun p h => r.gh p (List.mem_cons_of_mem _ h)⟩
theorem rd_for {w : TI} {gi : GI} {tg : TG} {is : List Nat} {u : GG} {tb : TS} {gb : GS} (i : RdI G w gi) (g : RdG G tg is u) (b : RdS G tb gb) : RdS G (tFor w tg tb) (gFor gi u gb) := by
  intro H0 B F σ H ρ E D rp h sm
  refine i H0 B F σ H ρ _ _ rp h fun J H1 us M s1 wk ⟨Jv, j0, jt, je⟩ => ?_
  obtain ⟨now, Gd, Y, wl, gd, yl⟩ := wk
  have r1 : Rep G ⟨H0.h, M :: H0.g⟩ B F σ H1 ρ := by
    have r := rp.stp s1
    exact ⟨r.reps, r.nd, r.dj, r.lv, r.pots, r.st, r.new, fun p hp => by
      rcases List.mem_cons.1 hp with z | z
      · rw [z]; exact now
      · exact r.gh p z⟩
  refine for_it wl (fun k σ' H' => ∃ F' ρ', Rep G ⟨H0.h, M :: H0.g⟩ B F' σ' H' ρ' ∧ Jv k ρ') ⟨F, ρ, r1, j0⟩ (fun k σ' H' _ ⟨F', ρ', r, _⟩ => gd H' (M.m offL_all (r.gh M List.mem_cons_self))) ?_ (fun σ' H' ⟨F', ρ', r, j⟩ => sm.nx r.drop (je ρ' j))
  rintro k x σ' H' H'' hk ⟨F', ρ', r, j⟩ y
  obtain ⟨sm1, dx⟩ := yl (B ++ F') k H' x H'' us[k] r.fl (r.gh M List.mem_cons_self) (by simp [hk]) y
  obtain ⟨ρ2, e2, b2⟩ := jt k us[k] ρ' (by simp [hk]) j
  refine g _ B F' σ' H'' ρ' ρ2 x _ _ (r.stp (.of sm1)) dx e2 fun σ2 r2 _ => ?_
  exact b _ B F' σ2 H'' ρ2 { E with nx := Jv (k + 1), ct := Jv (k + 1), bk := E.nx } _ r2 b2 ⟨fun r3 h3 => ⟨_, _, r3, h3⟩, fun s3 r3 h3 => sm.rt s3 r3 h3, fun r3 h3 => sm.nx r3.drop h3, fun r3 h3 => ⟨_, _, r3, h3⟩⟩
theorem ds_for {tg it : Expr} {body : List Stmt} {w : TI} {gi : GI} {t : TG} {is : List Nat} {u : GG} {tb : TS} {gb : GS} {pos : Pos} (hp : PassesOwn (model X.prog X.w) X.A X.env X.xe) (hc : X.calm = true) (i : DI G X tg it w gi) (g : DG G X tg t is u) (b : DB G X body tb gb)
    (hs : ∀ x, foldedSetIterable it X.env x = pure x := by intro _; rfl) : DS G X (.For tg it body [] pos) (tFor w t tb) (gFor gi u gb) := ⟨ps_for hp hc i.pi g.pg b.ps hs, rd_for i.rd g.rd b.rd⟩
end
end EN

set_option Elab.async false
set_option linter.all false
set_option maxRecDepth 100000
set_option maxHeartbeats 2000000
/-! comprehensions, calls of own defs -/
namespace EN
open PySem L2 TW RZ
section
variable {G : Gw} {X : Cx}
theorem Rep.move {H0 : Fx} {B B' F : List Addr} {σ : L2.St} {H H' : Hp} {ρ : Ev} (r : Rep G H0 B F σ H ρ) (k : ∀ b o, H b = some o → b ∉ B → H' b = some o) (hB : ∀ a ∈ B, a ∈ B') (hn : ∀ a ∈ B', a ∉ B → H a = none)
    (lv : ∀ a ∈ B', IsL H' a) (hp : ∀ p ∈ G.pots, PotAt H' p) (st : Stp G.pots H0.h H') : Rep G H0 B' F σ H' ρ := by
  have sm : Same (offL (B ++ F) H) (offL (B' ++ F) H') := offL_same fun b o e hb => by
    have nb : b ∉ B := fun z => hb (List.mem_append_left _ z)
    refine ⟨fun z => ?_, k b o e nb⟩
    rcases List.mem_append.1 z with z | z
    · rw [hn b z nb] at e; cases e
    · exact hb (List.mem_append_right _ z)
  refine ⟨r.reps.go sm fun a ha o e => k a o e (r.dj a ha), r.nd, fun a ha z => ?_, lv, fun p h => ⟨hB _ (r.pots p h).1, hp p h⟩, st, r.new, fun p h => p.m sm (r.gh p h)⟩
  obtain ⟨xs, e⟩ := r.reps.live a ha
  rw [hn a z (r.dj a ha)] at e
  cases e

/-! [e for .. in .. if ..] -/
def gLoop (u : GG) (tt : GT) (ge : GE) (ρ0 : Ev) : List D → List OT → (List OT → Prop) → Prop
  | [], acc, Φ => Φ acc
  | d :: us, acc, Φ => ∃ ρ2, u d ρ0 = some ρ2 ∧ tt ρ2 fun b => if b = true then ge ρ2 fun r => match r.o? with
      | some t => gLoop u tt ge ρ0 us (acc ++ [t]) Φ
      | none => False
    else gLoop u tt ge ρ0 us acc Φ
def gLc (it : GI) (u : GG) (tt : GT) (ge : GE) (vs : List Nat) : GE := fun ρ Φ => it ρ fun us => us.length ≤ sizeLine ∧ nOws ρ vs = true ∧ gLoop u tt ge (wipeE ρ vs) us [] fun l => Φ (.nw (.node l))
theorem rd_lc {w : TI} {gi : GI} {tg : TG} {is : List Nat} {u : GG} {tt : TT} {gt : GT} {te : TE} {ge : GE} {vs : List Nat} (i : RdI G w gi) (g : RdG G tg is u) (hv : ∀ i ∈ is, i ∈ vs) (a : RdT G tt gt) (b : RdE G te ge) : RdE G (tLc w tg tt te vs) (gLc gi u gt ge vs) := by
  intro H0 B F σ H ρ Φ Q rp h q
  refine i H0 B F σ H ρ _ _ rp h fun J H1 us M s1 wk ⟨hl, hw, gl⟩ L hL => ?_
  obtain ⟨now, Gd, Y, wl, gd, yl⟩ := wk
  have A1 := rp.at.stp s1
  have rp1 := rp.stp s1
  have rw1 := rp1.wipeK hw
  have r1 : Rep G ⟨H0.h, M :: H0.g⟩ B F (wipe σ vs) H1 (wipeE ρ vs) :=
    ⟨rw1.reps, rw1.nd, rw1.dj, rw1.lv, rw1.pots, rw1.st, rw1.new, fun p hp => by
      rcases List.mem_cons.1 hp with z | z
      · rw [z]; exact now
      · exact rw1.gh p z⟩
  have LB : L ∉ B ++ F := fun z => rp1.fl L z hL
  have Lp : L ∉ G.pots := fun z => LB (rp1.np L z)
  generalize hρ0 : wipeE ρ vs = ρ0 at gl r1
  -- the invariant
  refine lc_it wl (fun k H' => ∃ acc xs f, H' L = some (.lst xs) ∧ Ows G (B ++ L :: f ++ F) H' xs acc f ∧ f.Nodup ∧ (∀ c ∈ f, H1 c = none) ∧ L ∉ f ∧ acc.length ≤ k ∧ Stp G.pots H1 H' ∧
    Rep G ⟨H0.h, M :: H0.g⟩ (B ++ L :: f) F (wipe σ vs) H' ρ0 ∧ gLoop u gt ge ρ0 (us.drop k) acc fun l => Φ (.nw (.node l))) ?_ ?_ ?_ ?_
  · refine ⟨[], [], [], upd_same, .nil, List.nodup_nil, (fun _ h => nomatch h), List.not_mem_nil, Nat.le_refl _, .new hL, ?_, by simpa using gl⟩
    refine r1.move (fun b o e _ => by rw [upd_ne (ne_of_none e hL)]; exact e) (fun c h => List.mem_append_left _ h) (fun c h nb => ?_) (fun c h => ?_) (fun p hp => ?_) (r1.st.trans (.new hL))
    · rcases List.mem_append.1 h with z | z
      · exact absurd z nb
      · rw [List.mem_singleton.1 z]; exact hL
    · rcases List.mem_append.1 h with z | z
      · obtain ⟨zs, e⟩ := r1.lv c z
        exact ⟨zs, by rw [upd_ne fun y => LB (by rw [← y]; exact List.mem_append_left _ z)]; exact e⟩
      · exact ⟨_, by rw [List.mem_singleton.1 z, upd_same]⟩
    · exact (r1.pots p hp).2.same fun o e => by rw [upd_ne (ne_of_none e hL)]; exact e
  · rintro k H' _ ⟨_, _, f, _, _, _, _, _, _, _, r, _⟩
    exact gd H' (M.m offL_all (r.gh M List.mem_cons_self))
  · rintro k x H' H'' hk ⟨acc, xs, f, eL, ow, nd, nw, nLf, hlen, s2, r, gk⟩ y
    obtain ⟨sm, dx⟩ := yl (B ++ L :: f ++ F) k H' x H'' us[k] r.fl (r.gh M List.mem_cons_self) (by simp [hk]) y
    have ed : us.drop k = us[k] :: us.drop (k + 1) := List.drop_eq_getElem_cons hk
    rw [ed] at gk
    obtain ⟨ρ2, e2, gk⟩ := gk
    have r' := r.stp (.of sm)
    refine g _ (B ++ L :: f) F (wipe σ vs) H'' ρ0 ρ2 x _ _ r' dx e2 fun σ2 r2 hw2 => ⟨?_, ?_⟩
    · rw [hw2 vs hv]
      exact wipe_wipe fun _ h => h
    refine a _ (B ++ L :: f) F σ2 H'' ρ2 _ _ r2 gk fun c H3 s3 gc => ?_
    have s13 : Stp G.pots H1 H3 := (s2.trans (.of sm)).trans s3
    cases c with
    | false =>
      rw [if_neg Bool.false_ne_true] at gc
      refine iteF ⟨acc, xs, f, (s3.keep _ _ (sm _ _ eL) Lp), ?_, nd, nw, nLf, by omega, s13, r'.stp s3, gc⟩
      exact ow.go ((Stp.of sm |>.trans s3).off (r.np)) fun c hc o e => s3.keep c o (sm _ _ e) fun z => by
        have := nw c hc
        exact r1.fl c (r1.np c z) this
    | true =>
      rw [if_pos rfl] at gc
      refine iteT ?_
      refine b _ (B ++ L :: f) F σ2 H3 ρ2 _ _ (r2.stp s3) gc fun v H4 x4 s4 rx gx => ?_
      have s14 := s13.trans s4
      have s24 : Stp G.pots H' H4 := ((Stp.of sm).trans s3).trans s4
      have n1 : ∀ c, H1 c = none → c ∉ G.pots := fun c e z => r1.fl c (r1.np c z) e
      have eL4 : H4 L = some (.lst xs) := s24.keep _ _ eL Lp
      have hz := ow.length
      cases ot : x4.o? with
      | none =>
        rw [ot] at gx
        exact gx.elim
      | some t =>
        rw [ot] at gx
        -- the element, with places of its own
        have key : ∃ f', Ow G (B ++ L :: f ++ f' ++ F) H4 v t f' ∧ f'.Nodup ∧ ∀ c ∈ f', H3 c = none := by
          cases x4 with
          | old t' =>
            cases t' with
            | leaf d =>
              cases ot
              refine ⟨[], .leaf (rx.of_c.same (off_sub fun c hc => ?_)), List.nodup_nil, (fun _ h => nomatch h)⟩
              simpa using hc
            | node l => cases ot
          | nw t' =>
            cases ot
            exact rx
        obtain ⟨f', of, nd', nf'⟩ := key
        have live3 : ∀ c, H' c ≠ none → c ∉ f' := fun c h z => by
          have q := nf' c z
          have : H3 c ≠ none := ((Stp.of sm).trans s3).live (fun p hp => (r.pots p hp).2) h
          exact this q
        have nf1 : ∀ c ∈ f', H1 c = none := fun c hc => by
          cases e : H1 c with
          | none => rfl
          | some o => exact absurd hc (live3 c (s2.live (fun p hp => (r1.pots p hp).2) (by rw [e]; exact nofun)))
        have Lf' : L ∉ f' := live3 L (by rw [eL]; exact nofun)
        have lf : ∀ c ∈ f, H' c ≠ none := fun c hc => by
          obtain ⟨ys, e⟩ := ow.live c hc
          rw [e]; exact nofun
        refine ⟨xs, eL4, by omega, acc ++ [t], xs ++ [v], f ++ f', upd_same, ?_, ?_, ?_, ?_, ?_, ?_, ?_, gx⟩
        · refine .app (ow.go (offL_same fun c o e hc => ?_) fun c hc o e => ?_) (.one (of.go (offL_same fun c o e hc => ?_) fun c hc o e => ?_))
          · have nc : c ≠ L := fun z => hc (by rw [z]; simp)
            have np : c ∉ G.pots := fun z => hc (r.np c z)
            refine ⟨fun z => ?_, by rw [upd_ne nc]; exact s24.keep c o e np⟩
            simp only [List.mem_append, List.mem_cons] at z hc
            rcases z with (z | z | z | z) | z
            · exact hc (.inl (.inl z))
            · exact nc z
            · exact hc (.inl (.inr (.inr z)))
            · exact live3 c (by rw [e]; exact nofun) z
            · exact hc (.inr z)
          · have nc : c ≠ L := fun z => nLf (z ▸ hc)
            rw [upd_ne nc]
            exact s24.keep c o e (n1 c (nw c hc))
          · have nc : c ≠ L := fun z => hc (by rw [z]; simp)
            refine ⟨fun z => hc ?_, by rw [upd_ne nc]; exact e⟩
            simp only [List.mem_append, List.mem_cons] at z ⊢
            rcases z with (z | z | z | z) | z
            · exact .inl (.inl (.inl z))
            · exact absurd z nc
            · exact .inl (.inl (.inr (.inr z)))
            · exact .inl (.inr z)
            · exact .inr z
          · rw [upd_ne fun z => Lf' (by rw [← z]; exact hc)]
            exact e
        · rw [List.nodup_append]
          exact ⟨nd, nd', fun c hc d hd z => live3 c (lf c hc) (z ▸ hd)⟩
        · intro c hc
          rcases List.mem_append.1 hc with z | z
          · exact nw c z
          · exact nf1 c z
        · intro z
          rcases List.mem_append.1 z with z | z
          · exact nLf z
          · exact Lf' z
        · rw [List.length_append, List.length_singleton]; omega
        · refine ⟨fun c o e np => ?_, fun p hp e => ?_⟩
          · rw [upd_ne (ne_of_none e hL)]
            exact s14.keep c o e np
          · exact (s14.pot p hp e).same fun o q => by rw [upd_ne fun z => Lp (by rw [← z]; exact hp)]; exact q
        · refine r.move (fun c o e nb => ?_) (fun c hc => ?_) (fun c hc nb => ?_) (fun c hc => ?_) (fun p hp => ?_) ?_
          · have nc : c ≠ L := fun z => nb (by rw [z]; simp)
            rw [upd_ne nc]
            exact s24.keep c o e fun z => nb (r.pots c z).1
          · simp only [List.mem_append, List.mem_cons] at hc ⊢
            rcases hc with z | z | z
            · exact .inl z
            · exact .inr (.inl z)
            · exact .inr (.inr (.inl z))
          · simp only [List.mem_append, List.mem_cons] at hc nb
            cases e : H' c with
            | none => rfl
            | some o =>
              rcases hc with z | z | z | z
              · exact absurd (.inl z) nb
              · exact absurd (.inr (.inl z)) nb
              · exact absurd (.inr (.inr z)) nb
              · exact absurd z (live3 c (by rw [e]; exact nofun))
          · by_cases nc : c = L
            · exact ⟨_, by rw [nc, upd_same]⟩
            · show IsL _ _
              unfold IsL
              rw [upd_ne nc]
              simp only [List.mem_append, List.mem_cons] at hc
              have lv : IsL H' c ∨ c ∈ f' := by
                rcases hc with z | z | z | z
                · exact .inl (r.lv c (by simp [z]))
                · exact absurd z nc
                · exact .inl (ow.live c z)
                · exact .inr z
              rcases lv with z | z
              · exact s24.isl (fun p hp => (r.pots p hp).2) z
              · exact of.live c z
          · exact (s24.pot p hp (r.pots p hp).2).same fun o q => by rw [upd_ne fun z => Lp (by rw [← z]; exact hp)]; exact q
          · refine ⟨fun c o e np => ?_, fun p hp e => ?_⟩
            · have e1 := r1.st.keep c o e np
              rw [upd_ne (ne_of_none e1 hL)]
              exact s14.keep c o e1 np
            · exact (s14.pot p hp (r1.st.pot p hp e)).same fun o q => by rw [upd_ne fun z => Lp (by rw [← z]; exact hp)]; exact q
  · rintro H' ⟨acc, xs, f, eL, ow, nd, nw, nLf, hlen, s2, r, gk⟩
    rw [List.drop_length] at gk
    refine q (.ref L) H' (.nw (.node acc)) (s1.trans s2) ⟨L :: f, .node eL ow, List.nodup_cons.2 ⟨nLf, nd⟩, fun c hc => ?_⟩ gk
    rcases List.mem_cons.1 hc with z | z
    · rw [z]; exact A1.free hL
    · exact A1.free (nw c z)
/-- a block's context -/
abbrev Blk (X : Cx) (scope : Scope) (P : Cx → Prop) : Prop := ∀ (s : Shared) (H : Hp) (C : Addr) (cl : List (Str × Addr)) (fp : List Addr), P (X.blk s H scope (compEnvC scope cl C X.env) fp)
structure DTs (G : Gw) (X : Cx) (ifs : List Expr) (t : TT) (g : GT) : Prop where
  pt : PTs X ifs t
  rd : RdT G t g
def gYes : GT := fun _ Φ => Φ true
theorem dts_nil : DTs G X [] tYes gYes := ⟨pts_nil, fun H0 B F σ H ρ Φ Q r h q => q true H (.refl _ _) h⟩
theorem dts_one {c : Expr} {t : TT} {g : GT} (h : DT G X c t g) : DTs G X [c] t g := ⟨pts_one h.pt, h.rd⟩
theorem de_lc {elt tg iter : Expr} {ifs : List Expr} {scope : Scope} {own : List (Str × Nat)} {pos : Pos} {wi : TI} {gi : GI} {t : TG} {is : List Nat} {u : GG} {tt : TT} {gt : GT} {te : TE} {ge : GE} (hc : X.calm = true) (hN : X.N.Nodup) (hi : DI G X tg iter wi gi) (ok : BlkOk X.N X.env.scope scope own)
    (hv : ∀ i ∈ is, i ∈ own.map (·.2)) (hg : Blk X scope fun Y => DG G Y tg t is u) (ht : Blk X scope fun Y => DTs G Y ifs tt gt) (he : Blk X scope fun Y => DE G Y elt te ge) (hs : ∀ x, foldedSetIterable iter X.env x = pure x := by intro _; rfl) :
    DE G X (.ListComp elt [⟨tg, iter, ifs, 0⟩] scope pos) (tLc wi t tt te (own.map (·.2))) (gLc gi u gt ge (own.map (·.2))) :=
  ⟨pe_lc hc hN hi.pi ok (fun s H C cl fp => (hg s H C cl fp).pg) (fun s H C cl fp => (ht s H C cl fp).pt) (fun s H C cl fp => (he s H C cl fp).pe) hs,
    rd_lc hi.rd (hg X.s_0 X.H_0 0 [] []).rd hv (ht X.s_0 X.H_0 0 [] []).rd (he X.s_0 X.H_0 0 [] []).rd⟩
/-- name = [..] -/
theorem ds_lc {i : Nat} {y : Str} {py : Pos} {elt tg iter : Expr} {ifs : List Expr} {scope : Scope} {own : List (Str × Nat)} {pos spos : Pos} {wi : TI} {gi : GI} {t : TG} {is : List Nat} {u : GG} {tt : TT} {gt : GT} {te : TE} {ge : GE} (hc : X.calm = true) (hN : X.N.Nodup) (hy : X.N[i]? = some y) (hyl : X.env.scope.names.lookup y = some .local)
    (hsw : swapsWith (.ListComp elt [⟨tg, iter, ifs, 0⟩] scope pos) (some (.Name y py)) spos.line X.env = pure true) (hi : DI G X tg iter wi gi) (ok : BlkOk X.N X.env.scope scope own)
    (hv : ∀ i ∈ is, i ∈ own.map (·.2)) (hg : Blk X scope fun Y => DG G Y tg t is u) (ht : Blk X scope fun Y => DTs G Y ifs tt gt) (he : Blk X scope fun Y => DE G Y elt te ge) (hs : ∀ x, foldedSetIterable iter X.env x = pure x := by intro _; rfl) :
    DS G X (.Assign [.Name y py] (.ListComp elt [⟨tg, iter, ifs, 0⟩] scope pos) spos) (tAsg (tLc wi t tt te (own.map (·.2))) (gName i)) (gOwn i (gLc gi u gt ge (own.map (·.2)))) :=
  ⟨ps_setLc hc hN hy hyl hsw hi.pi ok (fun s H C cl fp => (hg s H C cl fp).pg) (fun s H C cl fp => (ht s H C cl fp).pt) (fun s H C cl fp => (he s H C cl fp).pe) hs,
    rd_own (rd_lc hi.rd (hg X.s_0 X.H_0 0 [] []).rd hv (ht X.s_0 X.H_0 0 [] []).rd (he X.s_0 X.H_0 0 [] []).rd)⟩

/-! a def's promise on trees -/
abbrev Kt := List D → (R → Prop) → Prop
def Fk (G : Gw) (k : Kt) : Sp := fun vs H Q _ => ∃ (B : List Addr) (ds : List D) (Φ : R → Prop), (∀ a ∈ B, IsL H a) ∧ (∀ p ∈ G.pots, p ∈ B ∧ PotAt H p) ∧ Dts G (offL B H) vs ds ∧ k ds Φ ∧
  ∀ v H' r, Stp G.pots H H' → Res G B [] H H' v r → Φ r → Q v H'
def gCallK (k : Kt) (a : GA) : GE := fun ρ Φ => a ρ fun rs => match cs? rs with
  | some ds => k ds Φ
  | none => False
theorem res_up {B F : List Addr} {H H' : Hp} {v : V} : ∀ {r : R}, Res G (B ++ F) [] H H' v r → Res G B F H H' v r
  | .old t, ⟨f, h, k⟩ => ⟨f, by rw [List.append_nil] at h; exact h, k.trans (List.nil_sublist _)⟩
  | .nw t, ⟨f, h, k, n⟩ => ⟨f, h.go (off_sub fun a ha => by
      simp only [List.mem_append] at ha ⊢
      rcases ha with (z | z) | z
      · exact .inl (.inl (.inl z))
      · exact .inl (.inr z)
      · exact .inl (.inl (.inr z))) fun _ _ _ e => e, k, n⟩
theorem ca_k {k : Kt} {E : XK} : CaS G (fun vs H Q => Fk G k vs H Q E) (fun rs Φ => match cs? rs with
    | some ds => k ds Φ
    | none => False) := by
  intro B F Hs H xs rs Φ Q A rr h q
  split at h
  · rename_i ds e
    refine ⟨B ++ F, ds, Φ, A.li, fun p hp => A.np p hp, rr.clean A e, h, fun v H' r s rv φ => ?_⟩
    exact q v H' r s ((res_up rv).back A) φ
  · exact h.elim
theorem rd_call {k : Kt} {t : TA} {g : GA} {E : XK} (a : RdA G t g) : RdE G (tCall (Fk G k) [] E t) (gCallK k g) := by
  intro H0 B F σ H ρ Φ Q rp h q
  refine a H0 B F σ H ρ _ _ rp h fun vs H1 rs s1 rr f => ?_
  show Fk G k (vs ++ []) H1 Q E
  rw [List.append_nil]
  exact ca_k (rp.at.stp s1) rr f fun v H' r s rv φ => q v H' r (s1.trans s) rv φ
theorem Reps.start {O : List Addr} {H : Hp} {n : Nat} : ∀ {vs : List V} {ds : List D}, Dts G (offL O H) vs ds → Reps G O H (vs.map some ++ List.replicate n none) (ds.map .va ++ List.replicate n .un) []
  | _, _, .nil => by
    show Reps G O H (List.replicate n none) (List.replicate n .un) []
    induction n with
    | zero => exact .nil
    | succ n ih => exact .un ih
  | _, _, .cons a b => .va a (Reps.start b)
section
variable {P : Program} {w : World} {K : W.Frag} {mg : Str → Option Value} {base : Heap}
/-- what a body does is what its def promises -/
theorem ok_k {x qual : Str} {st : Stmt} {f : Addr} {fd : FuncData} {N ps : List Str} {n : Nat} {k : Kt} {g : GS} (Fn : Fun K x qual st f fd) (S : FnScope N ps (defScope st))
    (len : ∀ ds Φ, k ds Φ → ds.length = ps.length) (hk : ∀ ds Φ, k ds Φ → g { nx := fun _ => Φ (.cl .non), rt := Φ } (ds.map .va ++ List.replicate (N.length - ds.length) .un))
    (body : ∀ (cdv : Value) (A : Around) (outer : List Env) (s : Shared) (H : Hp) (E : XK), A.guards = some [] → Room n (A.deeper (PyProof.Rows.envOfC qual (defScope st) s.heap.objs.size f cdv)) →
      ∃ t, DB G (cxOf L2.CX0 P w K mg base N qual (defScope st) f cdv A outer s H E).nox (defBody st) t g) : FnG P w K mg base L2.CX0 (n + 1) f fd ps (Fk G k) := by
  refine okG Fn S (fun vs H Q E h => ?_) fun cdv A outer s H vs Q E gd hr h => ?_
  · obtain ⟨B, ds, Φ, _, _, hd, hk', _⟩ := h
    rw [hd.length]
    exact len ds Φ hk'
  obtain ⟨t, db⟩ := body cdv A outer s H E gd hr
  refine ⟨t, db.ps, ?_⟩
  obtain ⟨B, ds, Φ, lv, hp, hd, hk', q⟩ := h
  have rp : Rep G ⟨H, []⟩ B [] (L2.start N vs) H (ds.map .va ++ List.replicate (N.length - ds.length) .un) := by
    refine ⟨?_, List.nodup_nil, fun _ z => (nomatch z), lv, hp, .refl _ _, fun _ z => (nomatch z), fun _ z => (nomatch z)⟩
    rw [List.append_nil]
    unfold L2.start
    rw [hd.length]
    exact Reps.start hd
  exact db.rd ⟨H, []⟩ B [] _ H _ _ _ rp (hk ds Φ hk') ⟨fun r h => q _ _ _ r.st (.c .non) h, fun s r h => q _ _ _ s r h, fun _ h => h.elim, fun _ h => h.elim⟩
end
theorem de_call {k : Kt} {n : Nat} {f : Addr} {fd : FuncData} {ps : List Str} {x : Str} {p pos : Pos} {e : Expr} {es : List Expr} {t : TA} {g : GA} {E : XK} (F : FnG X.prog X.w X.K X.mg X.base L2.CX0 n f fd ps (Fk G k)) (gd : X.A.guards = some []) (hr : Room n X.A) (hg : Gl X x) (hm : X.mg x = some (.ref f)) (hk : W.keepIn X.K (.ref f) = true) (hb : Binds X.K fd ps []) (hx : Passes L2.CX0 X E)
    (ha : DA G X (e :: es) t g) (hdb : (x == ("__debug__" : Str)) = false := by decide) (he : starEach (e :: es) X.env = (false, eval e X.env) :: starEach es X.env := by rfl) (hpl : (backTo pos (starEach es X.env)).any (·.1) = false := by rfl) :
    DE G X (.Call (.Name x p) (e :: es) [] pos) (tCall (Fk G k) [] E t) (gCallK k g) := ⟨pe_callG F gd hr hg hm hk hb hx ha.pa hdb he hpl, rd_call ha.rd⟩
end
end EN

set_option Elab.async false
set_option linter.all false
set_option maxRecDepth 100000
set_option maxHeartbeats 2000000
/-! lists: != of two that are alike item by item; a slice with a written step -/
namespace GQ
open PySem PySem.SeqAt
open AutoSeq1 (wpAny_loadPart')
open MeetsSeq MeetsSeq2 MeetsSeq3 SeqRoads2
section
variable {prog : Program} {w : World} {A : Around} {R : Result → Shared → Prop}
theorem ne_loopG (l b : Addr) (N : Nat) (I : Nat → Shared → Prop) (hl : ListI prog w A (fun e s' => R (.error e) s') l b N I)
    (fin : ∀ s, I N s → R (.ok (.ret (.bool false))) s) (k : Nat) :
    ∀ i : Nat, N - i = k → i ≤ N → ∀ s, I i s →
      wpAny (model prog w) A.in1 (Builtin.«list.__eq__.loop» ⟨[.ref l, .ref b, rawInt i, rawInt 3], []⟩) (FinOf prog w A R) (fun e s' => R (.error e) s') s := by
  induction k with
  | zero =>
    intro i hk hi s h
    obtain ⟨items, items2, n, n2, hl1, hb1, hs1, hs2, _⟩ := hl _ _ h
    have hi' : i = N := by omega
    have hR : R (.ok (.ret (.bool false))) s := fin s (hi' ▸ h)
    obtain ⟨hp, g, d, tk, os⟩ := s
    wp_walk using wpAny_loadPart' hl1, wpAny_loadPart' hb1
    have hi1 : items[((i : Nat) : Int).toNat]? = none := by simp; omega
    have hi2 : items2[((i : Nat) : Int).toNat]? = none := by simp; omega
    rw [hi1, hi2]
    wp_walk using wpAny_loadPart' hl1, wpAny_loadPart' hb1
    show R (.ok (.ret (.bool (items.size != items2.size)))) _
    rw [hs1, hs2]
    simpa using hR
  | succ k ih =>
    intro i hk hi s h
    obtain ⟨items, items2, n, n2, hl1, hb1, hs1, hs2, turn⟩ := hl _ _ h
    have hlt : i < items.size := by omega
    have hlt2 : i < items2.size := by omega
    have ht := turn hlt hlt2
    obtain ⟨hp, g, d, tk, os⟩ := s
    wp_walk using wpAny_loadPart' hl1, wpAny_loadPart' hb1
    have hi1 : items[((i : Nat) : Int).toNat]? = some items[i] := by simp [hlt]
    have hi2 : items2[((i : Nat) : Int).toNat]? = some items2[i] := by simp [hlt2]
    have hc : ((i : Int) + 1) = ((i + 1 : Nat) : Int) := by omega
    rw [hi1, hi2]
    refine wpAny_bind (wpAny_mono ht (fun r s2 h2 => ?_) fun _ _ x => x)
    obtain ⟨hr, h2⟩ := h2
    subst hr
    have hrec := ih (i + 1) (by omega) (by omega) s2 h2
    obtain ⟨hp2, g2, d2, tk2, os2⟩ := s2
    wp_walk
    rw [hc]
    exact ⟨plainId_quiet plain_eq_loop _, codeAny_builtin entry_eq_loop (by
      rw [Around.under_plainId plain_eq_loop _]
      exact hrec)⟩
theorem list_neG (l b : Addr) (N : Nat) (I : Nat → Shared → Prop) (hl : ListI prog w A (fun e s' => R (.error e) s') l b N I)
    (fin : ∀ s, I N s → R (.ok (.ret (.bool false))) s) {s : Shared} (h : I 0 s) :
    wpAny (model prog w) A.in1 (Builtin.«list.__ne__» ⟨[.ref l, .ref b], []⟩) (FinOf prog w A R) (fun e s' => R (.error e) s') s := by
  obtain ⟨items, items2, n, n2, hl1, hb1, hs1, hs2, _⟩ := hl _ _ h
  have hrec := ne_loopG (A := A) (R := R) l b N I hl fin _ 0 rfl (Nat.zero_le _) s h
  obtain ⟨hp, g, d, tk, os⟩ := s
  have f3 := AutoSeq1.sub_list_list
  have hne : ¬ (items.size != items2.size) = true := by simp [hs1, hs2]
  wp_walk using wpAny_loadPart' hl1, wpAny_loadPart' hb1
  exact ⟨plainId_quiet plain_eq_loop _, codeAny_builtin entry_eq_loop (by
    rw [Around.under_plainId plain_eq_loop _]
    exact hrec)⟩
end
section
variable {prog : Program} {w : World} {A : Around} {E : Value → Shared → Prop} {s : Shared}
theorem rn_listG {l b : Addr} {N : Nat} {Q : Value → Shared → Prop} (hu : A.units < cLine) (I : Nat → Shared → Prop) (hl : ListI prog w A E l b N I)
    (fin : ∀ s, I N s → Q (.bool false) s) (h : I 0 s) : wpAny (model prog w) A (richCompare .NotEq (.ref l) (.ref b)) Q E s := by
  obtain ⟨items, items2, n, n2, hl1, hb1, _, _, _⟩ := hl _ _ h
  refine wpAny_richCompare_same_room (op := .NotEq) ⟨_, hl1, rfl⟩ ⟨_, hb1, rfl⟩ F.slot_list_ne (call_here F.slot_list_ne ⟨_, hl1, rfl⟩ F.entry_list_ne (F.args_list_ne_2 _ _) ?_) hu
  exact list_neG (R := wants (fun v s' => v ≠ .notImplemented ∧ Q v s') E) l b N I hl (fun s' q => ⟨(fun x => nomatch x), fin s' q⟩) h
end
end GQ
namespace EN
open PySem L2 PySem.Spec PyProof.Rows
section
variable {X : Cx} {n : Nat} {D : Eqv}
def rNeL (D : Eqv) : R2 := fun x y H Q => DList D x y H ∧ ∀ H', Ext H H' → Q (.bl false) H'
theorem op_neL (hD : Mon D) (h : EqG X n D) (hr : Room (n + 1) X.A) : OpR X (compareOp .NotEq) (rNeL D) := by
  intro pins s σ H x y v u Q I rx ry hq
  obtain ⟨⟨a, b, xs, ys, rfl, rfl, ha, hb, p⟩, q⟩ := hq
  cases rx
  cases ry
  show wpAny (model X.prog X.w) X.A (richCompare .NotEq (.ref a) (.ref b)) (EP X pins σ Q) X.xe s
  refine GQ.rn_listG (N := xs.length) hr.units0 (fun _ s' => LoopI X pins σ H s') (fun i s' q => ?_) (fun s' z => ?_) ⟨H, I, Ext.rfl'⟩
  · obtain ⟨H1, I1, e1⟩ := id q
    obtain ⟨z, its, k, r, e⟩ := I1.hok a _ (e1 _ _ ha)
    obtain ⟨z2, its2, k2, r2, e2⟩ := I1.hok b _ (e1 _ _ hb)
    refine ⟨its.toArray, its2.toArray, k, k2, e, e2, by rw [List.size_toArray, ← r.length], by rw [List.size_toArray, ← r2.length, ← p.1], fun h1 h2 => ?_⟩
    exact turnG hD h ⟨hr, rfl⟩ p r r2 i h1 h2 s' q
  · obtain ⟨H', I', e⟩ := z
    exact ⟨.bl false, H', I', rfl, q H' e⟩
/-! slices with a step -/
def pickV {α : Type} (xs : List α) (lo hi st : Option Int) : List α := (sliceRange (sliceBounds lo hi st xs.length).1 (sliceBounds lo hi st xs.length).2.1 (sliceBounds lo hi st xs.length).2.2).filterMap (xs[·]?)
theorem vals_filter {xs : List V} {us : List Value} (r : Vals xs us) : ∀ js : List Nat, Vals (js.filterMap (xs[·]?)) (js.filterMap (us[·]?))
  | [] => .nil
  | j :: js => by
    rw [List.filterMap_cons, List.filterMap_cons]
    cases h : xs[j]? with
    | none =>
      have : us[j]? = none := by
        rw [List.getElem?_eq_none_iff] at h ⊢
        rw [← r.length]
        exact h
      rw [this]
      exact vals_filter r js
    | some x =>
      obtain ⟨u, e, rv⟩ := r.get h
      rw [e]
      exact .cons rv (vals_filter r js)
def tSl3 (K : W.Frag) (te : TE) (tl th ts : TO) : TE := fun σ H Q => te σ H fun x H1 => tl σ H1 fun l H2 => th σ H2 fun u H3 => ts σ H3 fun st H4 => ∃ a xs, x = .ref a ∧ SqL K H4 a xs ∧ st ≠ some 0 ∧ (pickV xs l u st).length ≤ sizeLine ∧
  ∀ p, H4 p = none → Q (.ref p) (upd H4 p (.lst (pickV xs l u st)))
variable {e st : Expr} {te : TE} {lo hi : Option Expr} {tl th ts : TO} {pos p2 : Pos}
theorem pe_slice3 (he : PE X e te) (hl : PO X lo tl) (hu : PO X hi th) (hs : PO X (some st) ts) : PE X (.Subscript e (.Slice lo hi (some st) p2) pos) (tSl3 X.K te tl th ts) := by
  refine ⟨fun pins s σ H Q I h => ?_⟩
  refine Subscript_ (thn (he.run pins s σ H _ I h) fun v s1 ⟨x, H1, I1, r1, q1⟩ => ?_)
  refine wpAny_Slice (thn (hl.run pins s1 σ H1 _ I1 q1) fun vl s2 ⟨l, H2, I2, pl, q2⟩ => thn (hu.run pins s2 σ H2 _ I2 q2) fun vu s3 ⟨u, H3, I3, pu, q3⟩ => thn (hs.run pins s3 σ H3 _ I3 q3) fun vt s4 ⟨c, H4, I4, pt, q4⟩ => ?_)
  have I5 : Inv X pins σ H4 { s4 with heap := s4.heap.push { cls := .type "slice", data := .fields #[vl, vu, vt] } } := I4.kept (t' := s4.toks) fun b ob q => Heap.get?_push_of_some _ q
  obtain ⟨a, xs, rfl, hx, h0, hz', q⟩ := q4
  cases r1
  obtain ⟨its, r, ht, hz⟩ := I5.list hx
  have hlen := r.length
  have sz : its.toArray.size ≤ sizeLine := by rw [List.size_toArray, ← hlen]; exact hz
  have hg := wpAny_getItem_list_slice (prog := X.prog) (w := X.w) (A := X.A) (E := X.xe) (Q := EP X pins σ Q) ht.isList (Heap.IsSliceOf.new s4.heap vl vu vt) pl pu pt h0 (by
    refine ⟨.ref _, _, I5.laid (t' := s4.toks) (o := .lst (pickV xs l u c)) (fun b ob q => Heap.get?_push_of_some _ q) (Nat.le_refl _) ?_, rfl, q _ (I5.hok.fresh (Nat.le_refl _))⟩
    refine ⟨hz', _, 0, vals_filter r (sliceRange (sliceBounds l u c xs.length).1 (sliceBounds l u c xs.length).2.1 (sliceBounds l u c xs.length).2.2), ?_⟩
    rw [Heap.get?_push_size _ rfl]
    unfold slicePick
    rw [List.size_toArray, hlen]
    simp) sz
  exact tail_any (ops := [.ref a, .ref s4.heap.objs.size]) ht.isList.typeIs slot_list_getitem.lookup hg (by with_unfolding_all rfl)
theorem pickV_rev {α : Type} (xs : List α) : pickV xs none none (some (-1)) = xs.reverse := by
  have e : (sliceBounds none none (some (-1)) xs.length) = (((xs.length : Int) - 1), -1, -1) := by
    simp [sliceBounds]
  unfold pickV
  rw [e]
  unfold sliceRange
  simp only []
  refine List.ext_getElem? fun i => ?_
  have hc : (if (-1 : Int) > 0 then (if ((xs.length : Int) - 1) < -1 then (-1 - ((xs.length : Int) - 1) + -1 - 1) / -1 else 0) else (if ((xs.length : Int) - 1) > -1 then (((xs.length : Int) - 1) - -1 - -1 - 1) / (- -1) else 0)).toNat = xs.length := by
    rw [if_neg (by decide), show (- -1 : Int) = 1 from rfl, Int.ediv_one]
    split <;> omega
  rw [hc]
  have hm : (List.range xs.length).map (fun k => (((xs.length : Int) - 1) + -1 * (k : Nat)).toNat) = (List.range xs.length).reverse := by
    refine List.ext_getElem (by simp) fun j h1 h2 => ?_
    simp at h1 h2
    simp
    omega
  rw [hm]
  have all : ∀ l : List α, ((List.range l.length).filterMap (l[·]?)) = l := by
    intro l
    induction l with
    | nil => rfl
    | cons x l ih =>
      rw [List.length_cons, List.range_succ_eq_map, List.filterMap_cons, List.filterMap_map]
      simp only [List.getElem?_cons_zero]
      refine congrArg (x :: ·) (Eq.trans ?_ ih)
      exact congrArg (fun f => List.filterMap f (List.range l.length)) (funext fun j => by simp)
  rw [List.filterMap_reverse, all]
end
end EN

set_option Elab.async false
set_option linter.all false
set_option maxRecDepth 100000
set_option maxHeartbeats 2000000
/-! operators, read on trees -/
namespace EN
open PySem L2 TW RZ
/-! what the class of fractions promises -/
def sp2 (C : Addr) (g : Rat → Rat → Rat) : Sp := fun vs H Q _ => ∃ a y p r, vs = [.ref a, y] ∧ RatAt C H a p ∧ NumAt C H y r ∧ Bits 4000 p ∧ Bits 4000 r ∧ ∀ c H', Same H H' → RatAt C H' c (g p r) → Q (.ref c) H'
def sp1 (C : Addr) (g : Rat → Rat) : Sp := fun vs H Q _ => ∃ a p, vs = [.ref a] ∧ RatAt C H a p ∧ Bits 4000 p ∧ ∀ c H', Same H H' → RatAt C H' c (g p) → Q (.ref c) H'
def spR (C : Addr) (g : Rat → Rat → Rat) : Sp := fun vs H Q _ => ∃ (a : Addr) (i : Int) (p : Rat), vs = [.ref a, .int i] ∧ RatAt C H a p ∧ Bits 4000 p ∧ Bits 4000 (i : Rat) ∧ ∀ c H', Same H H' → RatAt C H' c (g i p) → Q (.ref c) H'
def spE (C : Addr) : Sp := fun vs H Q _ => ∃ (a : Addr) (y : V) (p : Rat), vs = [.ref a, y] ∧ RatAt C H a p ∧ ((∃ i, y = .int i ∧ Q (.bl false) H) ∨ ∃ b r, y = .ref b ∧ RatAt C H b r ∧ Q (.bl (decide (p = r))) H)
def spM (C : Addr) : Sp := fun vs H Q _ => ∃ (p dx : Addr) (t b : Int), vs = [.ref p, .int t, .int b] ∧ H p = some (.ins C dx []) ∧ b ≠ 0 ∧ b.natAbs < 2 ^ 9000 ∧
  ∀ H', (∀ q o, H q = some o → q ≠ p → H' q = some o) → RatAt C H' p (Rat.divInt t b) → Q .non H'
abbrev Fn2 (P : Program) (w : World) (K : W.Frag) (mg : Str → Option Value) (base : Heap) (C : Addr) (k : Nat) (nm : Str) (ps : List Str) (sp : Sp) : Prop := ∃ f fd, Own K C f nm ∧ FnOk P w K mg base L2.CX0 k f fd ps sp ∧ Binds K fd ps []
structure RatF (P : Program) (w : World) (K : W.Frag) (mg : Str → Option Value) (base : Heap) (C : Addr) : Prop where
  cl : Cls K C
  sf : W.selfFirst K C = true
  add : Fn2 P w K mg base C 5 "__add__" ["self", "other"] (sp2 C (· + ·))
  sub : Fn2 P w K mg base C 6 "__sub__" ["self", "other"] (sp2 C (· - ·))
  mul : Fn2 P w K mg base C 5 "__mul__" ["self", "other"] (sp2 C (· * ·))
  neg : Fn2 P w K mg base C 5 "__neg__" ["self"] (sp1 C fun p => -p)
  addI : OwnI K C "add"
  subI : OwnI K C "sub"
  mulI : OwnI K C "mul"
  addR : ∃ f fd, OwnR K C f "add" ∧ FnOk P w K mg base L2.CX0 7 f fd ["self", "other"] (spR C (· + ·)) ∧ Binds K fd ["self", "other"] []
  subR : ∃ f fd, OwnR K C f "sub" ∧ FnOk P w K mg base L2.CX0 7 f fd ["self", "other"] (spR C (· - ·)) ∧ Binds K fd ["self", "other"] []
  mulR : ∃ f fd, OwnR K C f "mul" ∧ FnOk P w K mg base L2.CX0 7 f fd ["self", "other"] (spR C (· * ·)) ∧ Binds K fd ["self", "other"] []
  eq : ∃ f fd, Own K C f "__eq__" ∧ FnOk P w K mg base L2.CX0 1 f fd ["self", "other"] (spE C) ∧ Binds K fd ["self", "other"] [] ∧ NeK K C f
  si : W.subIn K (.type "int") (.ref C) = some false
  sc : W.subIn K (.ref C) (.type "int") = some false
  mkf : ∃ f fd d0 d1, Mk K C f ∧ FnOk P w K mg base L2.CX0 2 f fd ["self", "top", "bottom"] (spM C) ∧ Vals [] d0 ∧ Binds K fd ["self", "top", "bottom"] d0 ∧ Vals [.int 1] d1 ∧ Binds K fd ["self", "top", "bottom"] d1
  mgC : mg "Ratio" = some (.ref C)

def numD : D → Option Rat
  | .int i => some (i : Rat)
  | .rat q => some q
  | _ => none
def rRat (C : Addr) (g : Rat → Rat → Rat) : R2 := fun x y H Q => ∃ p q, NumAt C H x p ∧ NumAt C H y q ∧ ((∃ a, x = .ref a) ∨ ∃ a, y = .ref a) ∧ Bits 4000 p ∧ Bits 4000 q ∧ ∀ c H', Same H H' → RatAt C H' c (g p q) → Q (.ref c) H'
section
variable {X : Cx} {C : Addr}
theorem op_rat {op : Operator} {id : String} {nm : Str} {g : Rat → Rat → Rat} (hnm : nm = PySem.dunder op.info.2) (k1 : Nat) (F : Fn2 X.prog X.w X.K X.mg X.base C k1 nm ["self", "other"] (sp2 C g)) (OI : OwnI X.K C op.info.2) (R : ∃ f fd, OwnR X.K C f op.info.2 ∧ FnOk X.prog X.w X.K X.mg X.base L2.CX0 7 f fd ["self", "other"] (spR C g) ∧ Binds X.K fd ["self", "other"] [])
    (N : IntNo op.info.2 id) (sf : W.selfFirst X.K C = true) (hr : Room 8 X.A) (h8 : k1 ≤ 8) : OpR X (binaryOp op) (rRat C g) := by
  subst hnm
  intro pins s σ H x y v u Q I rx ry h
  obtain ⟨p, q, hx, hy, hor, bp, bq, φ⟩ := h
  obtain ⟨f, fd, O, Fo, b⟩ := F
  obtain ⟨f2, fd2, O2, Fo2, b2⟩ := R
  rcases hx with ⟨i, rfl, rfl⟩ | ⟨a, rfl, dx, fs, e, t, bt, nf⟩
  · rcases hy with ⟨j, rfl, rfl⟩ | ⟨c, rfl, dx2, fs2, e2, t2, bt2, nf2⟩
    · rcases hor with ⟨_, z⟩ | ⟨_, z⟩ <;> cases z
    · exact op_ownR O2 N Fo2 (hr.mono (by decide)) b2 pins s σ H _ _ v u Q I rx ry ⟨i, c, dx2, fs2, rfl, rfl, e2, c, i, q, rfl, ⟨dx2, fs2, e2, t2, bt2, nf2⟩, bq, bp, fun d H' s r => ⟨⟨d, rfl⟩, φ d H' s r⟩⟩
  · rcases hy with ⟨j, rfl, rfl⟩ | ⟨c, rfl, dx2, fs2, e2, t2, bt2, nf2⟩
    · exact op_ownI O OI sf Fo (hr.mono h8) b pass0 pins s σ H _ _ v u Q I rx ry ⟨a, j, dx, fs, rfl, rfl, e, a, _, p, _, rfl, ⟨dx, fs, e, t, bt, nf⟩, .inl ⟨j, rfl, rfl⟩, bp, bq, fun d H' s r => ⟨⟨d, rfl⟩, φ d H' s r⟩⟩
    · exact op_own O sf Fo (hr.mono h8) b pass0 pins s σ H _ _ v u Q I rx ry ⟨a, c, dx, dx2, fs, fs2, rfl, rfl, e, e2, a, _, p, q, rfl, ⟨dx, fs, e, t, bt, nf⟩, .inr ⟨c, rfl, dx2, fs2, e2, t2, bt2, nf2⟩, bp, bq, fun d H' s r => ⟨⟨d, rfl⟩, φ d H' s r⟩⟩
def rAddA (C : Addr) : R2 := fun x y H Q => rI0 (fun i j => .int (i + j)) x y H Q ∨ rCat x y H Q ∨ rRat C (· + ·) x y H Q
def rSubA (C : Addr) : R2 := fun x y H Q => rI0 (fun i j => .int (i - j)) x y H Q ∨ rRat C (· - ·) x y H Q
def rMulA (C : Addr) : R2 := fun x y H Q => rI CMulW (fun i j => .int (i * j)) x y H Q ∨ rRep x y H Q ∨ rRat C (· * ·) x y H Q
def rNegA (C : Addr) : V → Hp → VK → Prop := fun x H Q => rU (fun i => .int (-i)) x H Q ∨ ∃ a p, x = .ref a ∧ RatAt C H a p ∧ Bits 4000 p ∧ ∀ c H', Same H H' → RatAt C H' c (-p) → Q (.ref c) H'
theorem op_addA (R : RatF X.prog X.w X.K X.mg X.base C) (hr : Room 8 X.A) : OpR X (binaryOp .Add) (rAddA C) := op_add.or (op_cat.or (op_rat rfl 5 R.add R.addI R.addR no_add R.sf hr (by decide)))
theorem op_subA (R : RatF X.prog X.w X.K X.mg X.base C) (hr : Room 8 X.A) : OpR X (binaryOp .Sub) (rSubA C) := op_sub.or (op_rat rfl 6 R.sub R.subI R.subR no_sub R.sf hr (by decide))
theorem op_mulA (R : RatF X.prog X.w X.K X.mg X.base C) (hr : Room 8 X.A) : OpR X (binaryOp .Mult) (rMulA C) := op_mulW.or (op_rep.or (op_rat rfl 5 R.mul R.mulI R.mulR no_mul R.sf hr (by decide)))
theorem un_negA (R : RatF X.prog X.w X.K X.mg X.base C) (hr : Room 8 X.A) : UnR X (unaryOp .USub) (rNegA C) := by
  intro pins s σ H x v Q I rx h
  rcases h with h | ⟨a, p, rfl, ⟨dx, fs, e, t, bt, nf⟩, bp, φ⟩
  · exact un_neg pins s σ H x v Q I rx h
  · obtain ⟨f, fd, O, Fo, b⟩ := R.neg
    exact un_ownNeg O Fo (hr.mono (by decide)) b pass0 pins s σ H _ v Q I rx ⟨a, dx, fs, rfl, e, a, p, rfl, ⟨dx, fs, e, t, bt, nf⟩, bp, φ⟩
end

/-! on trees -/
abbrev K2 := R → R → (R → Prop) → Prop
abbrev K1 := R → (R → Prop) → Prop
section
variable {G : Gw} {X : Cx} {B F : List Addr} {Hs H H' : Hp} {v : V} {r : R} {d : D}
theorem At.apart (A : At G B F Hs H) (s : Same H H') {c C dx : Addr} {fs : List (Str × V)} (h : H' c = some (.ins C dx fs)) : c ∉ B ++ F := fun z => by
  obtain ⟨xs, e⟩ := A.li c z
  rw [s _ _ e] at h
  cases h
theorem At.same (A : At G B F Hs H) (s : Same H H') : Same (offL (B ++ F) H) (offL (B ++ F) H') := offL_same fun b o e hb => ⟨hb, s b o e⟩
theorem ratAt_off {C : Addr} {c : Addr} {q : Rat} {S : List Addr} (h : RatAt C H c q) (n : c ∉ S) : RatAt C (offL S H) c q := by
  obtain ⟨dx, fs, e, k⟩ := h
  exact ⟨dx, fs, by rw [offL_at n]; exact e, k⟩
theorem ratAt_in {C : Addr} {c : Addr} {q : Rat} {S : List Addr} (h : RatAt C (offL S H) c q) : RatAt C H c q := by
  obtain ⟨dx, fs, e, k⟩ := h
  exact ⟨dx, fs, (offL_some e).2, k⟩
/-- a fraction behind a call -/
theorem At.rat (A : At G B F Hs H) (s : Same H H') {c : Addr} {q : Rat} (h : RatAt G.rat H' c q) : Res G B F Hs H' (.ref c) (.cl (.rat q)) := by
  obtain ⟨dx, fs, e, k⟩ := id h
  exact .c (.rat (ratAt_off h (A.apart s e)))
theorem num_at {S : List Addr} (h : Dt G (offL S H) v d) {q : Rat} (e : numD d = some q) : NumAt G.rat H v q ∧ ((∃ a, v = .ref a) ∨ ∃ i, d = .int i) := by
  cases h with
  | int i => cases e; exact ⟨.inl ⟨i, rfl, rfl⟩, .inr ⟨i, rfl⟩⟩
  | rat h => cases e; exact ⟨.inr ⟨_, rfl, ratAt_in h⟩, .inl ⟨_, rfl⟩⟩
  | _ => cases e
def kNum (g : Rat → Rat → Rat) (d e : D) (Φ : R → Prop) : Prop := match numD d, numD e with
  | some p, some q => Bits 4000 p ∧ Bits 4000 q ∧ Φ (.cl (.rat (g p q)))
  | _, _ => False
def isInt : D → Bool
  | .int _ => true
  | _ => false
theorem num_go {g : Rat → Rat → Rat} (A : At G B F Hs H) {x y : V} {d e : D} {Φ : R → Prop} {Q : VK} (hx : Dt G (offL (B ++ F) H) x d) (hy : Dt G (offL (B ++ F) H) y e) (hi : (isInt d && isInt e) = false) (k : kNum g d e Φ)
    (q : ∀ v H' r, Stp G.pots H H' → Res G B F Hs H' v r → Φ r → Q v H') : rRat G.rat g x y H Q := by
  unfold kNum at k
  split at k
  · rename_i p r e1 e2
    obtain ⟨n1, o1⟩ := num_at hx e1
    obtain ⟨n2, o2⟩ := num_at hy e2
    refine ⟨p, r, n1, n2, ?_, k.1, k.2.1, fun c H' s h => q _ H' _ (.of s) (A.rat s h) k.2.2⟩
    rcases o1 with o1 | ⟨i, rfl⟩
    · exact .inl o1
    · rcases o2 with o2 | ⟨j, rfl⟩
      · exact .inr o2
      · cases hi
  · exact k.elim
/-- a new list of shared things -/
theorem At.list (A : At G B F Hs H) {p : Addr} {xs : List V} {ds : List D} (hp : H p = none) (h : Dts G (offL (B ++ F) H) xs ds) : Res G B F Hs (upd H p (.lst xs)) (.ref p) (.nw (.node (ds.map .leaf))) := nw_list A hp h
theorem lst_at {S : List Addr} {l : List D} (h : Dt G (offL S H) v (.lst l)) : ∃ a xs, v = .ref a ∧ H a = some (.lst xs) ∧ Dts G (offL S H) xs l := by
  cases h with
  | lst h1 h2 => exact ⟨_, _, rfl, (offL_some h1).2, h2⟩
theorem tup_at {S : List Addr} {l : List D} (h : Dt G (offL S H) v (.tup l)) : ∃ a xs, v = .ref a ∧ SqT G.K H a xs ∧ Dts G (offL S H) xs l := by
  cases h with
  | tup h1 h2 => exact ⟨_, _, rfl, Same.tup offL_all h1, h2⟩
def kAdd : K2 := fun x y Φ => match x.c?, y.c? with
  | some (.int i), some (.int j) => Φ (.cl (.int (i + j)))
  | some (.lst a), some (.lst b) => a.length + b.length ≤ sizeLine ∧ Φ (.nw (.node ((a ++ b).map .leaf)))
  | some d, some e => (isInt d && isInt e) = false ∧ kNum (· + ·) d e Φ
  | _, _ => False
def kSub : K2 := fun x y Φ => match x.c?, y.c? with
  | some (.int i), some (.int j) => Φ (.cl (.int (i - j)))
  | some d, some e => (isInt d && isInt e) = false ∧ kNum (· - ·) d e Φ
  | _, _ => False
def kMul : K2 := fun x y Φ => match x.c?, y.c? with
  | some (.int i), some (.int j) => CMulW i j ∧ Φ (.cl (.int (i * j)))
  | some (.lst a), some (.int k) => (-(2 ^ 63) ≤ k ∧ k < 2 ^ 63 ∧ a.length * k.toNat ≤ sizeLine) ∧ Φ (.nw (.node (((List.replicate k.toNat a).flatten).map .leaf)))
  | some d, some e => (isInt d && isInt e) = false ∧ kNum (· * ·) d e Φ
  | _, _ => False
def kNeg : K1 := fun x Φ => match x.c? with
  | some (.int i) => Φ (.cl (.int (-i)))
  | some (.rat q) => Bits 4000 q ∧ Φ (.cl (.rat (-q)))
  | _ => False
theorem os_add : OpS G (rAddA G.rat) kAdd := by
  intro B F Hs H x y rx ry Φ Q A hx hy k q
  unfold kAdd at k
  split at k
  · rename_i i j e1 e2
    have d1 := hx.clean A e1
    have d2 := hy.clean A e2
    cases d1; cases d2
    exact .inl ⟨i, j, rfl, rfl, q _ H _ (.refl _ _) (.c (.int _)) k⟩
  · rename_i a b e1 e2
    obtain ⟨p1, xs, rfl, h1, d1⟩ := lst_at (hx.clean A e1)
    obtain ⟨p2, ys, rfl, h2, d2⟩ := lst_at (hy.clean A e2)
    exact .inr (.inl ⟨p1, p2, xs, ys, rfl, rfl, h1, h2, by rw [d1.length, d2.length]; exact k.1, fun p hp => q _ _ _ (.new hp) (A.list hp (d1.app d2)) k.2⟩)
  · rename_i d e _ _ e1 e2
    exact .inr (.inr (num_go A (hx.clean A e1) (hy.clean A e2) k.1 k.2 q))
  · exact k.elim
theorem os_sub : OpS G (rSubA G.rat) kSub := by
  intro B F Hs H x y rx ry Φ Q A hx hy k q
  unfold kSub at k
  split at k
  · rename_i i j e1 e2
    have d1 := hx.clean A e1
    have d2 := hy.clean A e2
    cases d1; cases d2
    exact .inl ⟨i, j, rfl, rfl, q _ H _ (.refl _ _) (.c (.int _)) k⟩
  · rename_i d e _ e1 e2
    exact .inr (num_go A (hx.clean A e1) (hy.clean A e2) k.1 k.2 q)
  · exact k.elim
theorem reps_dts {S : List Addr} {xs : List V} {l : List D} (h : Dts G (offL S H) xs l) : ∀ k : Nat, Dts G (offL S H) (List.replicate k xs).flatten (List.replicate k l).flatten
  | 0 => .nil
  | k + 1 => by
    rw [List.replicate_succ, List.replicate_succ, List.flatten_cons, List.flatten_cons]
    exact h.app (reps_dts h k)
theorem os_mul : OpS G (rMulA G.rat) kMul := by
  intro B F Hs H x y rx ry Φ Q A hx hy k q
  unfold kMul at k
  split at k
  · rename_i i j e1 e2
    have d1 := hx.clean A e1
    have d2 := hy.clean A e2
    cases d1; cases d2
    exact .inl ⟨i, j, rfl, rfl, k.1, q _ H _ (.refl _ _) (.c (.int _)) k.2⟩
  · rename_i a n e1 e2
    obtain ⟨p1, xs, rfl, h1, d1⟩ := lst_at (hx.clean A e1)
    have d2 := hy.clean A e2
    cases d2
    exact .inr (.inl ⟨p1, n, xs, rfl, rfl, h1, k.1.1, k.1.2.1, by rw [d1.length]; exact k.1.2.2, fun p hp => q _ _ _ (.new hp) (A.list hp (reps_dts d1 _)) k.2⟩)
  · rename_i d e _ _ e1 e2
    exact .inr (.inr (num_go A (hx.clean A e1) (hy.clean A e2) k.1 k.2 q))
  · exact k.elim
theorem us_neg : UnS G (rNegA G.rat) kNeg := by
  intro B F Hs H x rx Φ Q A hx k q
  unfold kNeg at k
  split at k
  · rename_i i e1
    have d1 := hx.clean A e1
    cases d1
    exact .inl ⟨i, rfl, q _ H _ (.refl _ _) (.c (.int _)) k⟩
  · rename_i p e1
    have d1 := hx.clean A e1
    cases d1 with
    | rat h => exact .inr ⟨_, p, rfl, ratAt_in h, k.1, fun c H' s h' => q _ H' _ (.of s) (A.rat s h') k.2⟩
  · exact k.elim
/-- ints alone -/
def kI (C : Int → Int → Prop) (g : Int → Int → D) : K2 := fun x y Φ => match x.c?, y.c? with
  | some (.int i), some (.int j) => C i j ∧ Φ (.cl (g i j))
  | _, _ => False
theorem os_I {C : Int → Int → Prop} {gv : Int → Int → V} {g : Int → Int → D} (hg : ∀ i j H, Dt G H (gv i j) (g i j)) : OpS G (rI C gv) (kI C g) := by
  intro B F Hs H x y rx ry Φ Q A hx hy k q
  unfold kI at k
  split at k
  · rename_i i j e1 e2
    have d1 := hx.clean A e1
    have d2 := hy.clean A e2
    cases d1; cases d2
    exact ⟨i, j, rfl, rfl, k.1, q _ H _ (.refl _ _) (.c (hg _ _ _)) k.2⟩
  · exact k.elim
theorem os_I0 {gv : Int → Int → V} {g : Int → Int → D} (hg : ∀ i j H, Dt G H (gv i j) (g i j)) : OpS G (rI0 gv) (kI (fun _ _ => True) g) := by
  intro B F Hs H x y rx ry Φ Q A hx hy k q
  unfold kI at k
  split at k
  · rename_i i j e1 e2
    have d1 := hx.clean A e1
    have d2 := hy.clean A e2
    cases d1; cases d2
    exact ⟨i, j, rfl, rfl, q _ H _ (.refl _ _) (.c (hg _ _ _)) k.2⟩
  · exact k.elim
end
end EN

set_option Elab.async false
set_option linter.all false
set_option maxRecDepth 100000
set_option maxHeartbeats 2000000
/-! comparisons, built-ins, parts of lists, read on trees -/
namespace EN
open PySem L2 TW RZ
section
variable {G : Gw} {X : Cx} {B F : List Addr} {Hs H H' : Hp} {v : V} {r : R} {d : D}
/-! == and != -/
def eqS : D → D → Option Bool
  | .non, .non => some true
  | .non, .int _ => some false
  | .int _, .non => some false
  | .non, .bl _ => some false
  | .bl _, .non => some false
  | .non, .str _ => some false
  | .str _, .non => some false
  | .int i, .int j => some (i == j)
  | .bl i, .bl j => some (i == j)
  | .str i, .str j => some (i == j)
  | .int _, .str _ => some false
  | .str _, .int _ => some false
  | .bl _, .str _ => some false
  | .str _, .bl _ => some false
  | _, _ => none
def eqR : D → D → Option Bool
  | .rat p, .rat q => some (decide (p = q))
  | .rat _, .int _ => some false
  | .int _, .rat _ => some false
  | _, _ => none
/-- data whose == is known -/
def okD : Nat → D → Bool
  | _, .non => true
  | _, .bl _ => true
  | _, .int _ => true
  | _, .str _ => true
  | _, .rat _ => true
  | n + 1, .lst l => l.all (okD n)
  | n + 1, .tup l => l.all (okD n)
  | _, _ => false
def DAl (G : Gw) (n : Nat) : Eqv := fun x y H => ∃ d, okD n d = true ∧ Dt G H x d ∧ Dt G H y d
theorem mon_al (n : Nat) : Mon (DAl G n) := fun x y H H' e ⟨d, k, h1, h2⟩ => ⟨d, k, h1.same e, h2.same e⟩
theorem prs_al {n : Nat} : ∀ {xs ys : List V} {l : List D}, l.all (okD n) = true → Dts G H xs l → Dts G H ys l → Prs (DAl G n) xs ys H
  | _, _, _, _, .nil, .nil => .nil
  | _, _, _, k, .cons a b, .cons c d => by
    rw [List.all_cons, Bool.and_eq_true] at k
    exact .cons ⟨_, k.1, a, c⟩ (prs_al k.2 b d)
theorem flat_al {n : Nat} {x y : V} (k : okD n d = true) (h1 : Dt G H x d) (h2 : Dt G H y d) : DFlat x y H ∨ DIns G.rat (fun a b H => ∃ q, RatAt G.rat H a q ∧ RatAt G.rat H b q) x y H ∨
    (∃ m l, n = m + 1 ∧ d = .lst l ∧ DList (DAl G m) x y H) ∨ ∃ m l, n = m + 1 ∧ d = .tup l ∧ DTup G.K (DAl G m) x y H := by
  cases h1 with
  | non => cases h2; exact .inl ⟨rfl, rfl, rfl⟩
  | bl b => cases h2; exact .inl ⟨rfl, rfl, by simp [eqV]⟩
  | int i => cases h2; exact .inl ⟨rfl, rfl, by simp [eqV]⟩
  | str z => cases h2; exact .inl ⟨rfl, rfl, by simp [eqV]⟩
  | rat h =>
    cases h2 with
    | rat h' =>
      obtain ⟨dx, fs, e, _⟩ := id h
      obtain ⟨dy, gs, e', _⟩ := id h'
      exact .inr (.inl ⟨_, _, dx, dy, fs, gs, rfl, rfl, e, e', _, h, h'⟩)
  | lst h hs =>
    cases h2 with
    | lst h' hs' =>
      cases n with
      | zero => cases k
      | succ m => exact .inr (.inr (.inl ⟨m, _, rfl, rfl, _, _, _, _, rfl, rfl, h, h', prs_al k hs hs'⟩))
  | tup h hs =>
    cases h2 with
    | tup h' hs' =>
      cases n with
      | zero => cases k
      | succ m => exact .inr (.inr (.inr ⟨m, _, rfl, rfl, _, _, _, _, rfl, rfl, h, h', prs_al k hs hs'⟩))
  | obj h1 h2' h3 => cases n <;> cases k
  | pot h => cases n <;> cases k
theorem mon_rat {C : Addr} : ∀ a b (H H' : Hp), Ext H H' → (∃ q, RatAt C H a q ∧ RatAt C H b q) → ∃ q, RatAt C H' a q ∧ RatAt C H' b q := fun a b H H' e ⟨q, h1, h2⟩ => ⟨q, h1.same e, h2.same e⟩
theorem eqG_al (R : RatF X.prog X.w X.K X.mg X.base G.rat) (hK : G.K = X.K) : ∀ n, EqG X (1 + n) (DAl G n) := by
  obtain ⟨f, fd, O, Fo, b, _⟩ := R.eq
  have F1 : FnOk X.prog X.w X.K X.mg X.base L2.CX0 1 f fd ["self", "other"] (L2.spEq fun a b H => ∃ q, RatAt G.rat H a q ∧ RatAt G.rat H b q) :=
    Fo.imp fun vs H Q E ⟨a, c, e, ⟨q, h1, h2⟩, k⟩ => ⟨a, .ref c, q, e, h1, .inr ⟨c, q, rfl, h2, by
      rw [show decide (q = q) = true from decide_eq_true rfl]
      exact k H Ext.rfl'⟩⟩
  have ins : EqG X 1 (DIns G.rat fun a b H => ∃ q, RatAt G.rat H a q ∧ RatAt G.rat H b q) := eqG_ins (E := fun _ _ _ => False) F1 O.at_ O.fn b pass0
  intro n
  induction n with
  | zero =>
    refine EqG.imp ((eqG_flat.mono (Nat.zero_le _)).or ins) fun x y H ⟨d, k, h1, h2⟩ => ?_
    rcases flat_al k h1 h2 with h | h | ⟨m, _, e, _⟩ | ⟨m, _, e, _⟩
    · exact .inl h
    · exact .inr h
    · cases e
    · cases e
  | succ m ih =>
    have L : EqG X (1 + (m + 1)) (DList (DAl G m)) := eqG_list (mon_al m) ih
    have T : EqG X (1 + (m + 1)) (DTup X.K (DAl G m)) := eqG_tup (mon_al m) ih
    refine EqG.imp ((eqG_flat.mono (Nat.zero_le _)).or ((ins.mono (by omega)).or (L.or T))) fun x y H ⟨d, k, h1, h2⟩ => ?_
    rcases flat_al k h1 h2 with h | h | ⟨m', _, e, _, h⟩ | ⟨m', _, e, _, h⟩
    · exact .inl h
    · exact .inr (.inl h)
    · cases e; exact .inr (.inr (.inl h))
    · cases e; rw [hK] at h; exact .inr (.inr (.inr h))
def rEqN (C : Addr) : R2 := fun x y H Q => (∃ a b p q, x = .ref a ∧ y = .ref b ∧ RatAt C H a p ∧ RatAt C H b q ∧ Q (.bl (decide (p = q))) H) ∨ (∃ a i p, x = .ref a ∧ y = .int i ∧ RatAt C H a p ∧ Q (.bl false) H) ∨ ∃ i a p, x = .int i ∧ y = .ref a ∧ RatAt C H a p ∧ Q (.bl false) H
def rNeN (C : Addr) : R2 := fun x y H Q => ∃ a b p q, x = .ref a ∧ y = .ref b ∧ RatAt C H a p ∧ RatAt C H b q ∧ Q (.bl (!decide (p = q))) H
theorem op_eqN {C : Addr} (R : RatF X.prog X.w X.K X.mg X.base C) (hr : Room 8 X.A) : OpR X (compareOp .Eq) (rEqN C) := by
  obtain ⟨f, fd, O, Fo, b, _⟩ := R.eq
  intro pins s σ H x y v u Q I rx ry h
  rcases h with ⟨a, c, p, q, rfl, rfl, h1, h2, z⟩ | ⟨a, i, p, rfl, rfl, h1, z⟩ | ⟨i, a, p, rfl, rfl, h1, z⟩
  · obtain ⟨dx, fs, e, k⟩ := id h1
    obtain ⟨dy, gs, e', k'⟩ := id h2
    exact op_eqOwn O R.si Fo (hr.mono (by decide)) b pins s σ H _ _ v u Q I rx ry ⟨a, dx, fs, rfl, e, .inr ⟨c, dy, gs, rfl, e'⟩, a, _, p, rfl, h1, .inr ⟨c, q, rfl, h2, _, rfl, z⟩⟩
  · obtain ⟨dx, fs, e, k⟩ := id h1
    exact op_eqOwn O R.si Fo (hr.mono (by decide)) b pins s σ H _ _ v u Q I rx ry ⟨a, dx, fs, rfl, e, .inl ⟨i, rfl⟩, a, _, p, rfl, h1, .inl ⟨i, rfl, _, rfl, z⟩⟩
  · obtain ⟨dx, fs, e, k⟩ := id h1
    exact op_eqOwnR O R.sc Fo (hr.mono (by decide)) b pins s σ H _ _ v u Q I rx ry ⟨i, a, dx, fs, rfl, rfl, e, a, _, p, rfl, h1, .inl ⟨i, rfl, _, rfl, z⟩⟩
theorem op_neN {C : Addr} (R : RatF X.prog X.w X.K X.mg X.base C) (hr : Room 8 X.A) : OpR X (compareOp .NotEq) (rNeN C) := by
  obtain ⟨f, fd, O, Fo, b, N⟩ := R.eq
  intro pins s σ H x y v u Q I rx ry h
  obtain ⟨a, c, p, q, rfl, rfl, h1, h2, z⟩ := h
  obtain ⟨dx, fs, e, k⟩ := id h1
  obtain ⟨dy, gs, e', k'⟩ := id h2
  exact op_neOwn N Fo (hr.mono (by decide)) b pins s σ H _ _ v u Q I rx ry ⟨a, dx, fs, c, dy, gs, rfl, e, rfl, e', a, _, p, rfl, h1, .inr ⟨c, q, rfl, h2, _, rfl, z⟩⟩
abbrev nEq : Nat := 6
def rEqA (G : Gw) : R2 := fun x y H Q => rEq x y H Q ∨ rEqN G.rat x y H Q ∨ rEqG (DList (DAl G nEq)) x y H Q ∨ rEqG (DTup G.K (DAl G nEq)) x y H Q
def rNeA (G : Gw) : R2 := fun x y H Q => rNe x y H Q ∨ rNeN G.rat x y H Q ∨ rNeL (DAl G nEq) x y H Q
theorem op_eqA (R : RatF X.prog X.w X.K X.mg X.base G.rat) (hK : G.K = X.K) (hr : Room 8 X.A) : OpR X (compareOp .Eq) (rEqA G) := by
  have e : rEqA G = fun x y H Q => rEq x y H Q ∨ rEqN G.rat x y H Q ∨ rEqG (DList (DAl G nEq)) x y H Q ∨ rEqG (DTup X.K (DAl G nEq)) x y H Q := by rw [← hK]; rfl
  rw [e]
  exact op_eq.or ((op_eqN R hr).or ((op_eqG (rcG_list (mon_al nEq) (eqG_al R hK nEq)) hr).or (op_eqG (rcG_tup (mon_al nEq) (eqG_al R hK nEq)) hr)))
theorem op_neA (R : RatF X.prog X.w X.K X.mg X.base G.rat) (hK : G.K = X.K) (hr : Room 8 X.A) : OpR X (compareOp .NotEq) (rNeA G) := op_ne.or ((op_neN R hr).or (op_neL (mon_al nEq) (eqG_al R hK nEq) hr))
theorem scal_eq {S : List Addr} {x y : V} {e : D} {b : Bool} (hx : Dt G (offL S H) x d) (hy : Dt G (offL S H) y e) (k : eqS d e = some b) : scal x y = true ∧ decide (x = y) = b := by
  cases hx <;> cases hy <;> first
    | (cases k; exact ⟨rfl, dec_int⟩)
    | (cases k; exact ⟨rfl, dec_bl⟩)
    | (cases k; exact ⟨rfl, dec_str⟩)
    | (cases k; exact ⟨rfl, by simp⟩)
    | cases k
def isSeq : D → Bool
  | .lst _ => true
  | .tup _ => true
  | _ => false
def kEq : K2 := fun x y Φ => match x.c?, y.c? with
  | some d, some e => match eqS d e with
    | some b => Φ (.cl (.bl b))
    | none => match eqR d e with
      | some b => Φ (.cl (.bl b))
      | none => d = e ∧ okD (nEq + 1) d = true ∧ isSeq d = true ∧ Φ (.cl (.bl true))
  | _, _ => False
def kNe : K2 := fun x y Φ => match x.c?, y.c? with
  | some d, some e => match eqS d e with
    | some b => Φ (.cl (.bl (!b)))
    | none => match d, e with
      | .rat p, .rat q => Φ (.cl (.bl (!decide (p = q))))
      | .lst l, .lst m => l = m ∧ l.all (okD nEq) = true ∧ Φ (.cl (.bl false))
      | _, _ => False
  | _, _ => False
theorem dt_bl (A : At G B F Hs H) (s : Same H H') (b : Bool) : Stp G.pots H H' ∧ Res G B F Hs H' (.bl b) (.cl (.bl b)) := ⟨.of s, .c (.bl b)⟩
theorem os_eq : OpS G (rEqA G) kEq := by
  intro B F Hs H x y rx ry Φ Q A hx hy k q
  unfold kEq at k
  split at k
  · rename_i d e e1 e2
    have d1 := hx.clean A e1
    have d2 := hy.clean A e2
    split at k
    · rename_i b eb
      obtain ⟨z1, z2⟩ := scal_eq d1 d2 eb
      exact .inl ⟨z1, by rw [z2]; exact q _ H _ (.refl _ _) (.c (.bl b)) k⟩
    · split at k
      · rename_i b eb
        refine .inr (.inl ?_)
        cases d1 with
        | int i =>
          cases d2 with
          | rat h =>
            cases eb
            exact .inr (.inr ⟨_, _, _, rfl, rfl, ratAt_in h, q _ H _ (.refl _ _) (.c (.bl _)) k⟩)
          | _ => cases eb
        | rat h =>
          cases d2 with
          | int j =>
            cases eb
            exact .inr (.inl ⟨_, _, _, rfl, rfl, ratAt_in h, q _ H _ (.refl _ _) (.c (.bl _)) k⟩)
          | rat h' =>
            cases eb
            exact .inl ⟨_, _, _, _, rfl, rfl, ratAt_in h, ratAt_in h', q _ H _ (.refl _ _) (.c (.bl _)) k⟩
          | _ => cases eb
        | _ => cases d2 <;> cases eb
      · obtain ⟨rfl, ok, sq, k⟩ := k
        have fin : ∀ H', Ext H H' → Q (.bl true) H' := fun H' s => q _ H' _ (.of s) (.c (.bl true)) k
        cases d1 with
        | lst h hs =>
          cases d2 with
          | lst h' hs' => exact .inr (.inr (.inl ⟨⟨_, _, _, _, rfl, rfl, (offL_some h).2, (offL_some h').2, prs_al ok (hs.same offL_all) (hs'.same offL_all)⟩, fin⟩))
        | tup h hs =>
          cases d2 with
          | tup h' hs' => exact .inr (.inr (.inr ⟨⟨_, _, _, _, rfl, rfl, Same.tup offL_all h, Same.tup offL_all h', prs_al ok (hs.same offL_all) (hs'.same offL_all)⟩, fin⟩))
        | _ => cases sq
  · exact k.elim
theorem os_ne : OpS G (rNeA G) kNe := by
  intro B F Hs H x y rx ry Φ Q A hx hy k q
  unfold kNe at k
  split at k
  · rename_i d e e1 e2
    have d1 := hx.clean A e1
    have d2 := hy.clean A e2
    split at k
    · rename_i b eb
      obtain ⟨z1, z2⟩ := scal_eq d1 d2 eb
      exact .inl ⟨z1, by rw [z2]; exact q _ H _ (.refl _ _) (.c (.bl _)) k⟩
    · split at k
      · cases d1 with
        | rat h =>
          cases d2 with
          | rat h' => exact .inr (.inl ⟨_, _, _, _, rfl, rfl, ratAt_in h, ratAt_in h', q _ H _ (.refl _ _) (.c (.bl _)) k⟩)
      · obtain ⟨rfl, ok, k⟩ := k
        cases d1 with
        | lst h hs =>
          cases d2 with
          | lst h' hs' => exact .inr (.inr ⟨⟨_, _, _, _, rfl, rfl, (offL_some h).2, (offL_some h').2, prs_al ok (hs.same offL_all) (hs'.same offL_all)⟩, fun H' s => q _ H' _ (.of s) (.c (.bl false)) k⟩)
      · exact k.elim
  · exact k.elim
/-! what kind a value is -/
def tyD (C : Addr) : D → Value
  | .non => .type "NoneType"
  | .bl _ => .type "bool"
  | .int _ => .type "int"
  | .str _ => .type "str"
  | .rat _ => .ref C
  | .lst _ => .type "list"
  | .tup _ => .type "tuple"
  | .obj _ _ => .type "object"
  | .pot _ => .type "list"
def noObj : D → Bool
  | .obj _ _ => false
  | .pot _ => false
  | _ => true
structure TyF (K : W.Frag) (C : Addr) : Prop where
  cl : Cls K C
  atC : W.findIn K (.ref C) "__class__" = some (some (.builtin "object.__class__"))
  cg : W.specialIn K (.builtin "object.__class__") "__get__" = some (some (.builtin "getset_descriptor.__get__"))
  ct : W.takesIn K (.builtin "object.__class__") = some true
  mo : W.mroIn K C (.type "object") = some true
  k1 : W.kitOne K (.ref C) (.type "int") = some false
  k2 : W.kitOne K (.ref C) (.type "bool") = some false
  k3 : W.kitOne K (.ref C) (.type "list") = some false
  k4 : W.kitOne K (.ref C) (.type "tuple") = some false
  k5 : W.kitOne K (.ref C) (.ref C) = some true
  k6 : W.kitOne K (.type "NoneType") (.ref C) = some false
  k7 : W.kitOne K (.type "bool") (.ref C) = some false
  k8 : W.kitOne K (.type "int") (.ref C) = some false
  k9 : W.kitOne K (.type "str") (.ref C) = some false
  k10 : W.kitOne K (.type "list") (.ref C) = some false
  k11 : W.kitOne K (.type "tuple") (.ref C) = some false
theorem tyx {K : W.Frag} (T : TyF K G.rat) (hK : G.K = K) (n : noObj d = true) (h : Dt G H v d) : TyX K H v (tyD G.rat d) := by
  cases h with
  | non => exact .base .non
  | bl b => exact .base (.bl b)
  | int i => exact .base (.int i)
  | str z => exact .base (.str z)
  | rat h =>
    obtain ⟨dx, fs, e, _⟩ := h
    exact .base (.ins e T.cl T.atC T.cg T.ct T.mo)
  | lst h1 h2 => exact .base (.lst h1)
  | tup h1 h2 =>
    subst hK
    rcases h1 with (h | ⟨o, h⟩) | ⟨o, its, n, h, c, _⟩
    · exact .base (.tup h)
    · exact .fTuple h
    · exact .kTuple h c
  | obj h1 h2 h3 => cases n
  | pot h => cases n
def isIB : D → Bool
  | .int _ => true
  | .bl _ => true
  | _ => false
def isB : D → Bool
  | .bl _ => true
  | _ => false
def isR : D → Bool
  | .rat _ => true
  | _ => false
def isL : D → Bool
  | .lst _ => true
  | _ => false
def isT : D → Bool
  | .tup _ => true
  | _ => false
theorem kit_int {K : W.Frag} {C : Addr} (T : TyF K C) (n : noObj d = true) : W.kitOne K (tyD C d) (.type "int") = some (isIB d) := by
  cases d with
  | rat _ => exact T.k1
  | obj _ _ => cases n
  | _ => first | exact kit_ty (show kitB _ _ = some true by decide +kernel) | exact kit_ty (show kitB _ _ = some false by decide +kernel)
theorem kit_bool {K : W.Frag} {C : Addr} (T : TyF K C) (n : noObj d = true) : W.kitOne K (tyD C d) (.type "bool") = some (isB d) := by
  cases d with
  | rat _ => exact T.k2
  | obj _ _ => cases n
  | _ => first | exact kit_ty (show kitB _ _ = some true by decide +kernel) | exact kit_ty (show kitB _ _ = some false by decide +kernel)
theorem kit_rat {K : W.Frag} {C : Addr} (T : TyF K C) (n : noObj d = true) : W.kitOne K (tyD C d) (.ref C) = some (isR d) := by
  cases d with
  | rat _ => exact T.k5
  | non => exact T.k6
  | bl _ => exact T.k7
  | int _ => exact T.k8
  | str _ => exact T.k9
  | lst _ => exact T.k10
  | tup _ => exact T.k11
  | obj _ _ => cases n
  | pot _ => cases n
theorem kit_tup {K : W.Frag} {C : Addr} (T : TyF K C) (n : noObj d = true) : W.kitOne K (tyD C d) (.type "tuple") = some (isT d) := by
  cases d with
  | rat _ => exact T.k4
  | obj _ _ => cases n
  | pot _ => cases n
  | _ => first | exact kit_ty (show kitB _ _ = some true by decide +kernel) | exact kit_ty (show kitB _ _ = some false by decide +kernel)
theorem kit_seq {K : W.Frag} {C : Addr} (T : TyF K C) (n : noObj d = true) : W.kitAny K (tyD C d) [.type "list", .type "tuple"] = some (isSeq d) := by
  cases d with
  | rat _ => exact kitAny_cons (b := false) T.k3 (fun _ => kitAny_cons (b := false) T.k4 (fun _ => kitAny_nil) fun z => nomatch z) fun z => nomatch z
  | lst _ => exact kitAny_cons (b := true) (kit_ty (by decide +kernel)) (fun z => nomatch z) fun _ => rfl
  | tup _ => exact kitAny_cons (b := false) (kit_ty (by decide +kernel)) (fun _ => kitAny_cons (b := true) (kit_ty (by decide +kernel)) (fun z => nomatch z) fun _ => rfl) fun z => nomatch z
  | obj _ _ => cases n
  | pot _ => cases n
  | _ => exact kitAny_cons (b := false) (kit_ty (by decide +kernel)) (fun _ => kitAny_cons (b := false) (kit_ty (by decide +kernel)) (fun _ => kitAny_nil) fun z => nomatch z) fun z => nomatch z
def gIs (p : D → Bool) (a : GE) : GE := fun ρ Φ => a ρ fun r => noObj r.t.d = true ∧ Φ (.cl (.bl (p r.t.d)))
theorem rd_isi {t : TE} {a : GE} {c : V} {u : Value} {p : D → Bool} {K : W.Frag} (h : RdE G t a) (hc : ClsV c u) (k : ∀ (d : D) (v : V) (H : Hp), noObj d = true → Dt G H v d → ∃ ty, TyX K H v ty ∧ W.kitOne K ty u = some (p d)) :
    RdE G (tCB (rIsi K) (tCons t (tCons (tC c) tNil))) (gIs p a) := by
  intro H0 B F σ H ρ Φ Q rp g q
  refine h H0 B F σ H ρ _ _ rp g fun v H1 r s1 rr f => ?_
  obtain ⟨ty, h1, h2⟩ := k _ v H1 f.1 rr.see
  exact ⟨v, c, ty, u, _, rfl, hc, h1, h2, q _ H1 _ s1 (.c (.bl _)) f.2⟩
theorem rd_isiT {t : TE} {a : GE} {C : Addr} {K : W.Frag} (h : RdE G t a) (T : TyF K G.rat) (hK : G.K = K) : RdE G (tCB (rIsiT K) (tCons t (tCons (tTup (tCons (tC (.ty "list")) (tCons (tC (.ty "tuple")) tNil))) tNil))) (gIs isSeq a) := by
  intro H0 B F σ H ρ Φ Q rp g q
  refine h H0 B F σ H ρ _ _ rp g fun v H1 r s1 rr f => ?_
  refine ⟨by show 2 ≤ 2 ^ 24; decide, fun tp ht => ?_⟩
  have sm : Same H1 (upd H1 tp (.tup [.ty "list", .ty "tuple"])) := same_new ht
  exact ⟨v, tp, _, _, _, _, rfl, upd_same, .cons (.ty _) (.cons (.ty _) .nil), tyx T hK f.1 (rr.see.same sm), kit_seq T f.1, q _ _ _ (s1.trans (.of sm)) (.c (.bl _)) f.2⟩
variable {e e2 : Expr} {es : List Expr} {t : TE} {a : GE} {p p1 p2 p3 pos : Pos}
theorem de_isInt (T : TyF X.K G.rat) (hK : G.K = X.K) (h : DE G X e t a) (hm : X.mg "isinstance" = none) (hm2 : X.mg "int" = none) (hg : Gl X "isinstance") (hg2 : Gl X "int") (hs : starEach [e, .Name "int" p1] X.env = (false, eval e X.env) :: starEach [.Name "int" p1] X.env := by rfl) (hs2 : starEach [.Name "int" p1] X.env = [(false, eval (.Name "int" p1) X.env)] := by rfl)
    (hpl : (backTo pos (starEach [.Name "int" p1] X.env)).any (·.1) = false := by rfl) : DE G X (.Call (.Name "isinstance" p) [e, .Name "int" p1] [] pos) (tCB (rIsi G.K) (tCons t (tCons (tC (.ty "int")) tNil))) (gIs isIB a) :=
  ⟨by rw [hK]; exact pe_callB call_isi hg hm (by decide +kernel) (pa_cons h.pe (pa_cons (pe_bltn (v := .ty "int") hg2 hm2 (by decide +kernel) rfl) pa_nil hs2) hs) (by decide) (by decide) hs hpl, rd_isi h.rd (.ty _) fun d v H n hd => ⟨_, tyx (K := G.K) (by rw [hK]; exact T) rfl n hd, kit_int (K := G.K) (by rw [hK]; exact T) n⟩⟩
theorem de_isBool (T : TyF X.K G.rat) (hK : G.K = X.K) (h : DE G X e t a) (hm : X.mg "isinstance" = none) (hm2 : X.mg "bool" = none) (hg : Gl X "isinstance") (hg2 : Gl X "bool") (hs : starEach [e, .Name "bool" p1] X.env = (false, eval e X.env) :: starEach [.Name "bool" p1] X.env := by rfl) (hs2 : starEach [.Name "bool" p1] X.env = [(false, eval (.Name "bool" p1) X.env)] := by rfl)
    (hpl : (backTo pos (starEach [.Name "bool" p1] X.env)).any (·.1) = false := by rfl) : DE G X (.Call (.Name "isinstance" p) [e, .Name "bool" p1] [] pos) (tCB (rIsi G.K) (tCons t (tCons (tC (.ty "bool")) tNil))) (gIs isB a) :=
  ⟨by rw [hK]; exact pe_callB call_isi hg hm (by decide +kernel) (pa_cons h.pe (pa_cons (pe_bltn (v := .ty "bool") hg2 hm2 (by decide +kernel) rfl) pa_nil hs2) hs) (by decide) (by decide) hs hpl, rd_isi h.rd (.ty _) fun d v H n hd => ⟨_, tyx (K := G.K) (by rw [hK]; exact T) rfl n hd, kit_bool (K := G.K) (by rw [hK]; exact T) n⟩⟩
theorem de_isTuple (T : TyF X.K G.rat) (hK : G.K = X.K) (h : DE G X e t a) (hm : X.mg "isinstance" = none) (hm2 : X.mg "tuple" = none) (hg : Gl X "isinstance") (hg2 : Gl X "tuple") (hs : starEach [e, .Name "tuple" p1] X.env = (false, eval e X.env) :: starEach [.Name "tuple" p1] X.env := by rfl) (hs2 : starEach [.Name "tuple" p1] X.env = [(false, eval (.Name "tuple" p1) X.env)] := by rfl)
    (hpl : (backTo pos (starEach [.Name "tuple" p1] X.env)).any (·.1) = false := by rfl) : DE G X (.Call (.Name "isinstance" p) [e, .Name "tuple" p1] [] pos) (tCB (rIsi G.K) (tCons t (tCons (tC (.ty "tuple")) tNil))) (gIs isT a) :=
  ⟨by rw [hK]; exact pe_callB call_isi hg hm (by decide +kernel) (pa_cons h.pe (pa_cons (pe_bltn (v := .ty "tuple") hg2 hm2 (by decide +kernel) rfl) pa_nil hs2) hs) (by decide) (by decide) hs hpl, rd_isi h.rd (.ty _) fun d v H n hd => ⟨_, tyx (K := G.K) (by rw [hK]; exact T) rfl n hd, kit_tup (K := G.K) (by rw [hK]; exact T) n⟩⟩
theorem de_isRat (T : TyF X.K G.rat) (R : RatF X.prog X.w X.K X.mg X.base G.rat) (hK : G.K = X.K) (h : DE G X e t a) (hm : X.mg "isinstance" = none) (hg : Gl X "isinstance") (hg2 : Gl X "Ratio") (hs : starEach [e, .Name "Ratio" p1] X.env = (false, eval e X.env) :: starEach [.Name "Ratio" p1] X.env := by rfl) (hs2 : starEach [.Name "Ratio" p1] X.env = [(false, eval (.Name "Ratio" p1) X.env)] := by rfl)
    (hpl : (backTo pos (starEach [.Name "Ratio" p1] X.env)).any (·.1) = false := by rfl) : DE G X (.Call (.Name "isinstance" p) [e, .Name "Ratio" p1] [] pos) (tCB (rIsi G.K) (tCons t (tCons (tC (.ref G.rat)) tNil))) (gIs isR a) :=
  ⟨by rw [hK]; exact pe_callB call_isi hg hm (by decide +kernel) (pa_cons h.pe (pa_cons (pe_glob (v := .ref G.rat) hg2 R.mgC rfl) pa_nil hs2) hs) (by decide) (by decide) hs hpl, rd_isi h.rd (.own _) fun d v H n hd => ⟨_, tyx (K := G.K) (by rw [hK]; exact T) rfl n hd, kit_rat (K := G.K) (by rw [hK]; exact T) n⟩⟩
theorem de_isSeq (T : TyF X.K G.rat) (hK : G.K = X.K) (h : DE G X e t a) (hm : X.mg "isinstance" = none) (hm2 : X.mg "list" = none) (hm3 : X.mg "tuple" = none) (hg : Gl X "isinstance") (hg2 : Gl X "list") (hg3 : Gl X "tuple") {k : Nat}
    (hs : starEach [e, .Tuple [.Name "list" p1, .Name "tuple" p2] k p3] X.env = (false, eval e X.env) :: starEach [.Tuple [.Name "list" p1, .Name "tuple" p2] k p3] X.env := by rfl) (hs2 : starEach [.Tuple [.Name "list" p1, .Name "tuple" p2] k p3] X.env = [(false, eval (.Tuple [.Name "list" p1, .Name "tuple" p2] k p3) X.env)] := by rfl)
    (hpl : (backTo pos (starEach [.Tuple [.Name "list" p1, .Name "tuple" p2] k p3] X.env)).any (·.1) = false := by rfl) : DE G X (.Call (.Name "isinstance" p) [e, .Tuple [.Name "list" p1, .Name "tuple" p2] k p3] [] pos) (tCB (rIsiT G.K) (tCons t (tCons (tTup (tCons (tC (.ty "list")) (tCons (tC (.ty "tuple")) tNil))) tNil))) (gIs isSeq a) :=
  ⟨by rw [hK]; exact pe_callB call_isiT hg hm (by decide +kernel) (pa_cons h.pe (pa_cons (pe_tup (pa_cons (pe_bltn (v := .ty "list") hg2 hm2 (by decide +kernel) rfl) (pa_cons (pe_bltn (v := .ty "tuple") hg3 hm3 (by decide +kernel) rfl) pa_nil))) pa_nil hs2) hs) (by decide) (by decide) hs hpl, rd_isiT (C := G.rat) (K := G.K) h.rd (by rw [hK]; exact T) rfl⟩
/-! built-in functions -/
def gCa (k : List R → (R → Prop) → Prop) (a : GA) : GE := fun ρ Φ => a ρ fun rs => k rs Φ
theorem rd_ca {r : List V → Hp → VK → Prop} {k : List R → (R → Prop) → Prop} {ta : TA} {ga : GA} (o : CaS G r k) (a : RdA G ta ga) : RdE G (tCB r ta) (gCa k ga) := by
  intro H0 B F σ H ρ Φ Q rp g q
  refine a H0 B F σ H ρ _ _ rp g fun vs H1 rs s1 rr f => ?_
  exact o (rp.at.stp s1) rr f fun v H' r s rv φ => q v H' r (s1.trans s) rv φ
theorem de_callB {r : List V → Hp → VK → Prop} {k : List R → (R → Prop) → Prop} {id : String} {x : Str} {ta : TA} {ga : GA} (hc : CallR X (.builtin id) r) (o : CaS G r k) (hg : Gl X x) (hm : X.mg x = none) (hv : bootBuiltins x = some (.builtin id)) (ha : DA G X (e :: es) ta ga) (hn : x ≠ "__name__" := by decide) (hdb : (x == ("__debug__" : Str)) = false := by decide)
    (he : starEach (e :: es) X.env = (false, eval e X.env) :: starEach es X.env := by rfl) (hpl : (backTo pos (starEach es X.env)).any (·.1) = false := by rfl) : DE G X (.Call (.Name x p) (e :: es) [] pos) (tCB r ta) (gCa k ga) := ⟨pe_callB hc hg hm hv ha.pa hn hdb he hpl, rd_ca o ha.rd⟩
theorem de_callTy {r : List V → Hp → VK → Prop} {k : List R → (R → Prop) → Prop} {T : String} {x : Str} {ta : TA} {ga : GA} (hc : CallR X (.type T) r) (o : CaS G r k) (hg : Gl X x) (hm : X.mg x = none) (hv : bootBuiltins x = some (.type T)) (ha : DA G X (e :: es) ta ga) (hn : x ≠ "__name__" := by decide) (hdb : (x == ("__debug__" : Str)) = false := by decide)
    (he : starEach (e :: es) X.env = (false, eval e X.env) :: starEach es X.env := by rfl) (hpl : (backTo pos (starEach es X.env)).any (·.1) = false := by rfl) : DE G X (.Call (.Name x p) (e :: es) [] pos) (tCB r ta) (gCa k ga) := ⟨pe_callTy hc hg hm hv ha.pa hn hdb he hpl, rd_ca o ha.rd⟩
/-- how many there are -/
def lenD : D → Option Nat
  | .lst l => some l.length
  | .tup l => some l.length
  | _ => none
def kLen : List R → (R → Prop) → Prop := fun rs Φ => match rs with
  | [r] => match lenD r.t.d with
    | some n => Φ (.cl (.int n))
    | none => False
  | _ => False
theorem ca_len {K : W.Frag} (hK : G.K = K) : CaS G (fun xs H Q => ∃ p ys, xs = [.ref p] ∧ (SqL K H p ys ∨ SqT K H p ys) ∧ Q (.int ys.length) H) kLen := by
  subst hK
  intro B F Hs H xs rs Φ Q A hr k q
  unfold kLen at k
  split at k
  · rename_i r
    cases hr with
    | cons h t =>
      cases t
      split at k
      · rename_i n e
        have hd := h.see
        revert e hd
        generalize r.t.d = d
        intro e hd
        cases hd with
        | lst h1 h2 =>
          cases e
          exact ⟨_, _, rfl, .inl (SqL.of h1), by rw [h2.length]; exact q _ H _ (.refl _ _) (.c (.int _)) k⟩
        | tup h1 h2 =>
          cases e
          exact ⟨_, _, rfl, .inr h1, by rw [h2.length]; exact q _ H _ (.refl _ _) (.c (.int _)) k⟩
        | _ => cases e
      · exact k.elim
  · exact k.elim
theorem call_lenG (hK : G.K = X.K) : CallR X (.builtin "len") (fun xs H Q => ∃ p ys, xs = [.ref p] ∧ (SqL G.K H p ys ∨ SqT G.K H p ys) ∧ Q (.int ys.length) H) := by
  rw [hK]
  exact call_len_seq
theorem cr_allG (hc : X.calm = true) (hK : G.K = X.K) : CallR X (.builtin "all") (rAll G.K) := by
  rw [hK]
  exact cr_all hc
theorem cr_sumG (hc : X.calm = true) (hK : G.K = X.K) : CallR X (.builtin "sum") (rSum G.K) := by
  rw [hK]
  exact cr_sum hc
def bls : List D → Option (List Bool)
  | [] => some []
  | .bl b :: l => (bls l).map (b :: ·)
  | _ => none
theorem bls_at : ∀ {l : List D} {bs : List Bool} {xs : List V}, bls l = some bs → Dts G H xs l → xs = bs.map V.bl
  | [], _, _, e, .nil => by cases e; rfl
  | d :: l, _, _, e, .cons h t => by
    cases h <;> first | cases e | skip
    unfold bls at e
    obtain ⟨bs, e1, rfl⟩ := Option.map_eq_some_iff.1 e
    rw [bls_at e1 t]
    rfl
def kAll : List R → (R → Prop) → Prop := fun rs Φ => match rs with
  | [r] => match r.t.d with
    | .lst l => match bls l with
      | some bs => Φ (.cl (.bl (bs.all id)))
      | none => False
    | _ => False
  | _ => False
theorem ca_all {K : W.Frag} : CaS G (rAll K) kAll := by
  intro B F Hs H xs rs Φ Q A hr k q
  unfold kAll at k
  split at k
  · rename_i r
    cases hr with
    | cons h t =>
      cases t
      have hd := h.see
      revert k hd
      generalize r.t.d = d
      intro k hd
      split at k
      · split at k
        · rename_i bs e
          cases hd with
          | lst h1 h2 => exact ⟨_, bs, rfl, SqL.of (by rw [h1, bls_at e h2]), q _ H _ (.refl _ _) (.c (.bl _)) k⟩
        · exact k.elim
      · exact k.elim
  · exact k.elim
end
end EN

set_option Elab.async false
set_option linter.all false
set_option maxRecDepth 100000
set_option maxHeartbeats 2000000
/-! parts of lists, fractions made, lists that grow, several targets, read on trees -/
namespace EN
open PySem L2 TW RZ
section
variable {G : Gw} {X : Cx} {B F : List Addr} {Hs H H' : Hp} {v : V} {r : R} {d : D}
/-! xs[i] -/
def rIxA (K : W.Frag) : R2 := fun x y H Q => rIxL K x y H Q ∨ rIxT K x y H Q
def itD : D → Option (List D)
  | .lst l => some l
  | .tup l => some l
  | _ => none
def kIx : K2 := fun x y Φ => match y.c? with
  | some (.int i) => match x with
    | .old (.node l) => match atI l i with
      | some t => Φ (.old t)
      | none => False
    | x => match x.c?.bind itD with
      | some l => match atI l i with
        | some d => Φ (.cl d)
        | none => False
      | none => False
  | _ => False
theorem atI_map {α β : Type} {xs : List α} {l : List β} {i : Int} {t : β} (hl : xs.length = l.length) (h : atI l i = some t) : ∃ (j : Nat) (x : α), l[j]? = some t ∧ xs[j]? = some x ∧ atI xs i = some x := by
  unfold atI at h
  cases e : ixN l.length i with
  | none => rw [e] at h; cases h
  | some j =>
    rw [e] at h
    have h : l[j]? = some t := h
    have lt : j < xs.length := by rw [hl]; exact (List.getElem?_eq_some_iff.1 h).1
    refine ⟨j, xs[j], h, List.getElem?_eq_getElem lt, ?_⟩
    unfold atI
    rw [hl, e]
    exact List.getElem?_eq_getElem lt
theorem seq_at {S : List Addr} {l : List D} (h : Dt G (offL S H) v d) (e : itD d = some l) : ∃ a xs, v = .ref a ∧ ((SqL G.K H a xs ∧ H a = some (.lst xs)) ∨ SqT G.K H a xs) ∧ Dts G (offL S H) xs l := by
  cases h with
  | lst h1 h2 => cases e; exact ⟨_, _, rfl, .inl ⟨SqL.of (offL_some h1).2, (offL_some h1).2⟩, h2⟩
  | tup h1 h2 => cases e; exact ⟨_, _, rfl, .inr (Same.tup offL_all h1), h2⟩
  | _ => cases e
theorem os_ix {K : W.Frag} (hK : G.K = K) : OpS G (rIxA K) kIx := by
  subst hK
  intro B F Hs H x y rx ry Φ Q A hx hy k q
  unfold kIx at k
  split at k
  · rename_i i e2
    have d2 := hy.clean A e2
    cases d2
    have clean : ∀ l d, rx.c? = some d → itD d = some l → ∀ e, atI l i = some e → Φ (.cl e) → rIxA G.K x (.int i) H Q := fun l d e1 e3 e he φ => by
      obtain ⟨a, xs, rfl, hs, hd⟩ := seq_at (hx.clean A e1) e3
      obtain ⟨j, z, h1, h2, h3⟩ := atI_map hd.length he
      obtain ⟨e', h4, h5⟩ := hd.at h2
      rw [h1] at h4
      cases h4
      have fin := q z H _ (.refl _ _) (.c h5) φ
      rcases hs with hs | hs
      · exact .inl ⟨a, xs, i, z, rfl, rfl, hs.1, h3, fin⟩
      · exact .inr ⟨a, xs, i, z, rfl, rfl, hs, h3, fin⟩
    split at k
    · rename_i l
      split at k
      · rename_i t et
        obtain ⟨f, h, hf⟩ := hx
        cases h with
        | @node a xs _ f' h1 h2 =>
          obtain ⟨j, z, z1, z2, z3⟩ := atI_map h2.length et
          obtain ⟨t', g, z4, z5, z6⟩ := h2.at z2
          rw [z1] at z4
          cases z4
          exact .inl ⟨a, xs, i, z, rfl, rfl, SqL.of h1, z3, q z H (.old t) (.refl _ _) ⟨g, z5, z6.trans ((List.sublist_cons_self _ _).trans hf)⟩ k⟩
      · exact k.elim
    · split at k
      · rename_i l el
        split at k
        · rename_i e he
          obtain ⟨d, e1, e3⟩ := Option.bind_eq_some_iff.1 el
          exact clean l d e1 e3 e he k
        · exact k.elim
      · exact k.elim
  · exact k.elim
theorem de_ix {ea eb : Expr} {ta tb : TE} {ga gb : GE} {pos : Pos} (a : DE G X ea ta ga) (b : DE G X eb tb gb) (hs : PlainIx eb := by exact fun _ _ => rfl) (hK : G.K = X.K := by rfl) : DE G X (.Subscript ea eb pos) (tOp (rIxA G.K) ta tb) (gOp kIx ga gb) :=
  ⟨by rw [hK]; exact pe_ix (ix_list.or ix_tup) a.pe b.pe hs, rd_op (os_ix rfl) a.rd b.rd⟩
/-! xs[a:b], xs[::-1] -/
abbrev GO := Ev → (Option Int → Prop) → Prop
def RdO (G : Gw) (t : TO) (g : GO) : Prop := ∀ (H0 : Fx) (B F : List Addr) (σ : L2.St) (H : Hp) (ρ : Ev) (Φ : Option Int → Prop) (Q : Option Int → Hp → Prop), Rep G H0 B F σ H ρ → g ρ Φ → (∀ o H', Stp G.pots H H' → Φ o → Q o H') → t σ H Q
structure DO (G : Gw) (X : Cx) (e : Option Expr) (t : TO) (g : GO) : Prop where
  po : PO X e t
  rd : RdO G t g
def gNo : GO := fun _ Φ => Φ none
def gPt (a : GE) : GO := fun ρ Φ => a ρ fun r => match r.c? with
  | some (.int i) => Φ (some i)
  | _ => False
theorem do_none : DO G X none tNoPart gNo := ⟨po_none, fun H0 B F σ H ρ Φ Q r g q => q none H (.refl _ _) g⟩
theorem do_some {e : Expr} {t : TE} {g : GE} (h : DE G X e t g) : DO G X (some e) (tPart t) (gPt g) := by
  refine ⟨po_some h.pe, fun H0 B F σ H ρ Φ Q rp g q => ?_⟩
  refine h.rd H0 B F σ H ρ _ _ rp g fun v H1 r s1 rr f => ?_
  split at f
  · rename_i i e
    have d := rr.clean (rp.at.stp s1) e
    cases d
    exact ⟨i, rfl, q _ H1 s1 f⟩
  · exact f.elim
def cutG {α : Type} (xs : List α) (lo hi : Option Int) : List α := (xs.drop (HT.sIx xs.length 0 lo)).take (HT.sIx xs.length xs.length hi - HT.sIx xs.length 0 lo)
def gSl (a : GE) (lo hi : GO) : GE := fun ρ Φ => a ρ fun r => lo ρ fun l => hi ρ fun u => match r.c? with
  | some (.lst ds) => Φ (.nw (.node ((cutG ds l u).map .leaf)))
  | _ => False
theorem de_slice {e : Expr} {lo hi : Option Expr} {te : TE} {ge : GE} {tl th : TO} {gl gh : GO} {pos p2 : Pos} (a : DE G X e te ge) (l : DO G X lo tl gl) (u : DO G X hi th gh) (hK : G.K = X.K := by rfl) : DE G X (.Subscript e (.Slice lo hi none p2) pos) (tSl (rSlL G.K) te tl th) (gSl ge gl gh) := by
  refine ⟨by rw [hK]; exact pe_slice sl_list a.pe l.po u.po, fun H0 B F σ H ρ Φ Q rp g q => ?_⟩
  refine a.rd H0 B F σ H ρ _ _ rp g fun v H1 r s1 rr g1 => ?_
  refine l.rd H0 B F σ H1 ρ _ _ (rp.stp s1) g1 fun lo' H2 s2 g2 => ?_
  refine u.rd H0 B F σ H2 ρ _ _ ((rp.stp s1).stp s2) g2 fun hi' H3 s3 g3 => ?_
  have A3 := rp.at.stp (s1.trans (s2.trans s3))
  have rr3 := rr.go (rp.at.stp s1) (s2.trans s3)
  split at g3
  · rename_i ds e1
    obtain ⟨a, xs, rfl, h1, hd⟩ := lst_at (rr3.clean A3 e1)
    refine ⟨a, xs, rfl, SqL.of h1, fun p hp => q _ _ _ ((s1.trans (s2.trans s3)).trans (.new hp)) ?_ g3⟩
    have e : cutV xs lo' hi' = cutG xs lo' hi' := rfl
    rw [e]
    refine A3.list hp ?_
    unfold cutG
    rw [hd.length]
    exact (hd.drop _).take _
  · exact g3.elim
theorem dts_pick {S : List Addr} {xs : List V} {l : List D} (h : Dts G (offL S H) xs l) : ∀ js : List Nat, Dts G (offL S H) (js.filterMap (xs[·]?)) (js.filterMap (l[·]?))
  | [] => .nil
  | j :: js => by
    rw [List.filterMap_cons, List.filterMap_cons]
    cases e : xs[j]? with
    | none =>
      have : l[j]? = none := by
        rw [List.getElem?_eq_none_iff] at e ⊢
        rw [← h.length]
        exact e
      rw [this]
      exact dts_pick h js
    | some x =>
      obtain ⟨d, e1, hd⟩ := h.at e
      rw [e1]
      exact .cons hd (dts_pick h js)
def gSl3 (a : GE) (lo hi st : GO) : GE := fun ρ Φ => a ρ fun r => lo ρ fun l => hi ρ fun u => st ρ fun c => match r.c? with
  | some (.lst ds) => c ≠ some 0 ∧ (pickV ds l u c).length ≤ sizeLine ∧ Φ (.nw (.node ((pickV ds l u c).map .leaf)))
  | _ => False
theorem de_slice3 {e st : Expr} {lo hi : Option Expr} {te : TE} {ge : GE} {tl th ts : TO} {gl gh gs : GO} {pos p2 : Pos} (a : DE G X e te ge) (l : DO G X lo tl gl) (u : DO G X hi th gh) (w : DO G X (some st) ts gs) (hK : G.K = X.K := by rfl) : DE G X (.Subscript e (.Slice lo hi (some st) p2) pos) (tSl3 G.K te tl th ts) (gSl3 ge gl gh gs) := by
  refine ⟨by rw [hK]; exact pe_slice3 a.pe l.po u.po w.po, fun H0 B F σ H ρ Φ Q rp g q => ?_⟩
  refine a.rd H0 B F σ H ρ _ _ rp g fun v H1 r s1 rr g1 => ?_
  refine l.rd H0 B F σ H1 ρ _ _ (rp.stp s1) g1 fun lo' H2 s2 g2 => ?_
  refine u.rd H0 B F σ H2 ρ _ _ ((rp.stp s1).stp s2) g2 fun hi' H3 s3 g3 => ?_
  refine w.rd H0 B F σ H3 ρ _ _ (((rp.stp s1).stp s2).stp s3) g3 fun st' H4 s4 g4 => ?_
  have ss := s1.trans (s2.trans (s3.trans s4))
  have A3 := rp.at.stp ss
  have rr3 := rr.go (rp.at.stp s1) (s2.trans (s3.trans s4))
  split at g4
  · rename_i ds e1
    obtain ⟨a, xs, rfl, h1, hd⟩ := lst_at (rr3.clean A3 e1)
    have hp : Dts G (offL (B ++ F) H4) (pickV xs lo' hi' st') (pickV ds lo' hi' st') := by
      unfold pickV
      rw [hd.length]
      exact dts_pick hd _
    exact ⟨a, xs, rfl, SqL.of h1, g4.1, by rw [hp.length]; exact g4.2.1, fun p hn => q _ _ _ (ss.trans (.new hn)) (A3.list hn hp) g4.2.2⟩
  · exact g4.elim

/-! fractions made -/
theorem divInt_1 (i : Int) : Rat.divInt i 1 = (i : Rat) := by
  refine Rat.ext ?_ ?_
  · rw [Rat.num_divInt, Rat.num_intCast]
    have e : Int.gcd 1 i = 1 := Int.gcd_one_left _
    rw [e]
    show 1 * i / 1 = i
    rw [Int.one_mul]
    exact Int.ediv_one i
  · rw [Rat.den_divInt, if_neg (by decide), Rat.den_intCast]
    have e : Int.gcd 1 i = 1 := Int.gcd_one_left _
    rw [e]
    rfl
def gMk1 (a : GE) : GE := fun ρ Φ => a ρ fun r => match r.c? with
  | some (.int i) => Φ (.cl (.rat (i : Rat)))
  | _ => False
def gMk2 (a b : GE) : GE := fun ρ Φ => a ρ fun r => b ρ fun u => match r.c?, u.c? with
  | some (.int i), some (.int j) => j ≠ 0 ∧ j.natAbs < 2 ^ 9000 ∧ Φ (.cl (.rat (Rat.divInt i j)))
  | _, _ => False
/-- a new instance of the class at rat, by its __init__ -/
theorem mk_go (A : At G B F Hs H) {Q : VK} {t b : Int} (h0 : b ≠ 0) (hb : b.natAbs < 2 ^ 9000) (q : ∀ v H' r, Stp G.pots H H' → Res G B F Hs H' v r → r = .cl (.rat (Rat.divInt t b)) → Q v H') (E : XK) :
    ∀ x dx, H x = none → H dx = none → dx ≠ x → spM G.rat [.ref x, .int t, .int b] (upd (upd H dx (.own x)) x (.ins G.rat dx [])) (fun v H2 => v = .non ∧ Q (.ref x) H2) E := by
  intro x dx hx hdx ne
  refine ⟨x, dx, t, b, rfl, upd_same, h0, hb, fun H' keep hr => ⟨rfl, ?_⟩⟩
  have sm : Same H H' := fun c o e => keep c o (by rw [upd_ne (ne_of_none e hx), upd_ne (ne_of_none e hdx)]; exact e) (ne_of_none e hx)
  exact q _ H' _ (.of sm) (A.rat sm hr) rfl
variable {e e2 : Expr} {ta tb : TE} {ga gb : GE} {p pos : Pos}
theorem de_mk1 (R : RatF X.prog X.w X.K X.mg X.base G.rat) (hr : Room 8 X.A) (a : DE G X e ta ga) (hg : Gl X "Ratio") (he : starEach [e] X.env = (false, eval e X.env) :: starEach [] X.env := by rfl) : DE G X (.Call (.Name "Ratio" p) [e] [] pos) (tMake G.rat (spM G.rat) [.int 1] (fun _ _ _ => False) (tCons ta tNil)) (gMk1 ga) := by
  obtain ⟨f, fd, d0, d1, M, Fo, v0, b0, v1, b1⟩ := R.mkf
  refine ⟨pe_make M Fo (hr.mono (by decide)) hg R.mgC b1 v1 pass0 (pa_cons a.pe pa_nil he) (by decide) he rfl, fun H0 B F σ H ρ Φ Q rp g q => ?_⟩
  refine a.rd H0 B F σ H ρ _ _ rp g fun v H1 r s1 rr g1 => ?_
  have A1 := rp.at.stp s1
  split at g1
  · rename_i i e1
    have d := rr.clean A1 e1
    cases d
    have z := mk_go A1 (t := i) (b := 1) (Q := Q) (by decide) (by decide) (fun v H' r s rv er => q v H' r (s1.trans s) rv (by rw [er, divInt_1]; exact g1)) fun _ _ _ => False
    exact z
  · exact g1.elim
theorem de_mk2 (R : RatF X.prog X.w X.K X.mg X.base G.rat) (hr : Room 8 X.A) (a : DE G X e ta ga) (b : DE G X e2 tb gb) (hg : Gl X "Ratio") (he : starEach [e, e2] X.env = (false, eval e X.env) :: starEach [e2] X.env := by rfl) (he2 : starEach [e2] X.env = (false, eval e2 X.env) :: starEach [] X.env := by rfl) (hpl : (backTo pos (starEach [e2] X.env)).any (·.1) = false := by rfl) : DE G X (.Call (.Name "Ratio" p) [e, e2] [] pos) (tMake G.rat (spM G.rat) [] (fun _ _ _ => False) (tCons ta (tCons tb tNil))) (gMk2 ga gb) := by
  obtain ⟨f, fd, d0, d1, M, Fo, v0, b0, v1, b1⟩ := R.mkf
  refine ⟨pe_make M Fo (hr.mono (by decide)) hg R.mgC b0 v0 pass0 (pa_cons a.pe (pa_cons b.pe pa_nil he2) he) (by decide) he hpl, fun H0 B F σ H ρ Φ Q rp g q => ?_⟩
  refine a.rd H0 B F σ H ρ _ _ rp g fun v H1 r s1 rr g1 => ?_
  refine b.rd H0 B F σ H1 ρ _ _ (rp.stp s1) g1 fun v2 H2 r2 s2 rr2 g2 => ?_
  have A2 := (rp.at.stp s1).stp s2
  split at g2
  · rename_i i j e1 e2
    have d := (rr.go (rp.at.stp s1) s2).clean A2 e1
    have d2 := (rr2.back (rp.at.stp s1)).clean A2 e2
    cases d
    cases d2
    have z := mk_go A2 (t := i) (b := j) (Q := Q) g2.1 g2.2.1 (fun v H' r s rv er => q v H' r ((s1.trans s2).trans s) rv (by rw [er]; exact g2.2.2)) fun _ _ _ => False
    exact z
  · exact g2.elim
def spOv (C : Addr) : Sp := fun vs H Q _ => ∃ (a : Addr) (y : V) (p r : Rat), vs = [.ref a, y] ∧ RatAt C H a p ∧ NumAt C H y r ∧ Bits 4000 p ∧ Bits 4000 r ∧ r ≠ 0 ∧ ∀ c H', Same H H' → RatAt C H' c (Rat.divInt (p.num * r.den) (p.den * r.num)) → Q (.ref c) H'
theorem rat_over (p r : Rat) : Rat.divInt (p.num * r.den) (p.den * r.num) = p / r := by
  rw [Rat.div_def, Rat.inv_def]
  have e := Rat.divInt_mul_divInt p.num r.den (d₁ := p.den) (d₂ := r.num)
  rw [Rat.num_divInt_den] at e
  exact e.symm
def gOv (a b : GE) : GE := fun ρ Φ => a ρ fun x => match x.c? with
  | some (.rat p) => b ρ fun y => match y.c?.bind numD with
    | some r => Bits 4000 p ∧ Bits 4000 r ∧ r ≠ 0 ∧ Φ (.cl (.rat (p / r)))
    | none => False
  | _ => False
theorem de_over {k : Nat} {f : Addr} {fd : FuncData} {apos : Pos} {pl : Sem Bool} (cl : Cls X.K G.rat) (hm : Meth X.K G.rat "over" f) (Fo : FnOk X.prog X.w X.K X.mg X.base L2.CX0 k f fd ["self", "other"] (spOv G.rat)) (hb : Binds X.K fd ["self", "other"] []) (hr : Room k X.A)
    (a : DE G X e ta ga) (b : DE G X e2 tb gb) (hst : starEach [e2] X.env = (false, eval e2 X.env) :: starEach [] X.env := by rfl)
    (ht : eval (.Call (.Attribute e "over" apos) [e2] [] pos) X.env = (do
      let ov ← eval e X.env
      standAt apos.atName
      let (f, first) ← holding [ov] (getMethod ov "over" pl)
      callWith pos f first (backTo pos (starEach [e2] X.env)) (backToKw pos (keywordEach [] X.env))) := by rfl) : DE G X (.Call (.Attribute e "over" apos) [e2] [] pos) (tMeth G.rat "over" (spOv G.rat) [] (fun _ _ _ => False) ta (tCons tb tNil)) (gOv ga gb) := by
  refine ⟨pe_meth (pl := pl) a.pe cl hm Fo hr hb .nil pass0 (pa_cons b.pe pa_nil hst) hst rfl ht, fun H0 B F σ H ρ Φ Q rp g q => ?_⟩
  refine a.rd H0 B F σ H ρ _ _ rp g fun v H1 r s1 rr g1 => ?_
  have A1 := rp.at.stp s1
  split at g1
  · rename_i p e1
    have d := rr.clean A1 e1
    cases d with
    | @rat c _ hrat =>
      obtain ⟨dx, fs, ec, t, bt, nf⟩ := ratAt_in hrat
      refine ⟨c, dx, fs, rfl, ec, nf _ (by decide +kernel) (by decide +kernel), ?_⟩
      refine b.rd H0 B F σ H1 ρ _ _ (rp.stp s1) g1 fun v2 H2 r2 s2 rr2 g2 => ?_
      have A2 := A1.stp s2
      split at g2
      · rename_i w ew
        obtain ⟨d2, e2, e3⟩ := Option.bind_eq_some_iff.1 ew
        have n2 := (num_at ((rr2.back A1).clean A2 e2) e3).1
        have n1 := ratAt_in (hrat.same (A1.off s2))
        show spOv G.rat (.ref c :: ([v2] ++ [])) H2 Q (fun _ _ _ => False)
        exact ⟨c, v2, p, w, rfl, n1, n2, g2.1, g2.2.1, g2.2.2.1, fun x H' s h => q _ H' _ ((s1.trans s2).trans (.of s)) (A2.rat s h) (by rw [rat_over]; exact g2.2.2.2)⟩
      · exact g2.elim
  · exact g1.elim
/-! Ratio.total -/
inductive Nums (C : Addr) (H : Hp) : List V → List Rat → Prop
  | nil : Nums C H [] []
  | cons {x : V} {q : Rat} {xs : List V} {l : List Rat} : NumAt C H x q → Nums C H xs l → Nums C H (x :: xs) (q :: l)
def sumQ (l : List Rat) : Rat := l.foldl (· + ·) 0
def Short (l : List Rat) : Prop := (∀ q ∈ l, Bits 4000 q) ∧ ∀ k, Bits 4000 (sumQ (l.take k))
def spTo (K : W.Frag) (C : Addr) : Sp := fun vs H Q _ => ∃ a xs l, vs = [.ref C, .ref a] ∧ (SqL K H a xs ∨ SqT K H a xs) ∧ (H a = some (.lst xs) ∨ H a = some (.tup xs)) ∧ Nums C H xs l ∧ l.length ≤ 1000 ∧ Short l ∧ ∀ p H', Same H H' → RatAt C H' p (sumQ l) → Q (.ref p) H'
def numsD : List D → Option (List Rat)
  | [] => some []
  | d :: l => match numD d, numsD l with
    | some q, some qs => some (q :: qs)
    | _, _ => none
theorem nums_at {S : List Addr} : ∀ {l : List D} {qs : List Rat} {xs : List V}, numsD l = some qs → Dts G (offL S H) xs l → Nums G.rat H xs qs
  | [], _, _, e, .nil => by cases e; exact .nil
  | d :: l, _, _, e, .cons h t => by
    unfold numsD at e
    split at e
    · rename_i q qs e1 e2
      cases e
      exact .cons (num_at h e1).1 (nums_at e2 t)
    · cases e
theorem numsD_length : ∀ {l : List D} {qs : List Rat}, numsD l = some qs → qs.length = l.length
  | [], _, e => by cases e; rfl
  | d :: l, _, e => by
    unfold numsD at e
    split at e
    · rename_i q qs e1 e2
      cases e
      rw [List.length_cons, List.length_cons, numsD_length e2]
    · cases e
def gTot (a : GE) : GE := fun ρ Φ => a ρ fun r => match r.c? with
  | some (.lst l) => match numsD l with
    | some qs => qs.length ≤ 1000 ∧ Short qs ∧ Φ (.cl (.rat (sumQ qs)))
    | none => False
  | _ => False
theorem de_total {k : Nat} {pm g : Addr} {mc : Value} {apos p0 : Pos} {pl : Sem Bool} (R : RatF X.prog X.w X.K X.mg X.base G.rat) (cr : ClX.CRead X.K G.rat mc) (cm : ClX.CMet X.K G.rat mc "total" pm g) (Fo : FnR X.prog X.w X.K X.mg X.base L2.CX0 k g (spTo G.K G.rat)) (hr : Room k X.A) (hg : Gl X "Ratio")
    (a : DE G X e ta ga) (hst : starEach [e] X.env = (false, eval e X.env) :: starEach [] X.env := by rfl)
    (ht : eval (.Call (.Attribute (.Name "Ratio" p0) "total" apos) [e] [] pos) X.env = (do
      let ov ← eval (.Name "Ratio" p0) X.env
      standAt apos.atName
      let (f, first) ← holding [ov] (getMethod ov "total" pl)
      callWith pos f first (backTo pos (starEach [e] X.env)) (backToKw pos (keywordEach [] X.env))) := by rfl) : DE G X (.Call (.Attribute (.Name "Ratio" p0) "total" apos) [e] [] pos) (ClX.tCMeth G.rat (spTo G.K G.rat) (fun _ _ _ => False) (tC (.ref G.rat)) (tCons ta tNil)) (gTot ga) := by
  refine ⟨ClX.pe_cmeth (pl := pl) (pe_glob (v := .ref G.rat) hg R.mgC rfl) cr cm Fo hr pass0 (pa_cons a.pe pa_nil hst) hst rfl ht, fun H0 B F σ H ρ Φ Q rp g q => ?_⟩
  refine ⟨rfl, ?_⟩
  refine a.rd H0 B F σ H ρ _ _ rp g fun v H1 r s1 rr g1 => ?_
  have A1 := rp.at.stp s1
  split at g1
  · rename_i l e1
    obtain ⟨c, xs, rfl, h1, hd⟩ := lst_at (rr.clean A1 e1)
    split at g1
    · rename_i qs e2
      exact ⟨c, xs, qs, rfl, .inl (SqL.of h1), .inl h1, nums_at e2 hd, g1.1, g1.2.1, fun x H' s h => q _ H' _ (s1.trans (.of s)) (A1.rat s h) g1.2.2⟩
    · exact g1.elim
  · exact g1.elim
end

/-! lists that grow -/
section
variable {G : Gw} {X : Cx}
/-- x.append(e), x a list of one's own -/
def gApp (i : Nat) (a : GE) : GS := fun E ρ => match ρ[i]? with
  | some (.ow (.node l)) => a ρ fun r => match r.o? with
    | some t => l.length < sizeLine ∧ E.nx (ρ.set i (.ow (.node (l ++ [t]))))
    | none => False
  | _ => False
theorem rd_app {i : Nat} {t : TE} {g : GE} (a : RdE G t g) : RdS G (tDrop (tBM G.K "list" rAppend (tVar i) (tCons t tNil))) (gApp i g) := by
  intro H0 B F σ H ρ E D rp h sm
  unfold gApp at h
  split at h
  · rename_i l el
    obtain ⟨c, xs, f, F1, F2, h1, h2, h3, h4, h5, h6, _⟩ := rp.write (l' := l) (.refl _ _) el
    refine ⟨.ref c, h1, .inl ⟨rfl, xs, SqL.of h2⟩, ?_⟩
    refine a H0 B F σ H ρ _ _ rp h fun v H1 r s1 rr g1 => ?_
    obtain ⟨c', xs', f', F1', F2', k1, k2, k3, k4, k5, k6, k7⟩ := rp.write (l' := l) s1 el
    rw [h1] at k1
    cases k1
    rw [h2] at k2
    cases k2
    split at g1
    · rename_i t' et
      have key : ∃ g, Ow G (B ++ g ++ F) H1 v t' g ∧ g.Nodup ∧ ∀ b ∈ g, H b = none := by
        cases r with
        | old u =>
          cases u with
          | leaf d =>
            cases et
            refine ⟨[], .leaf (rr.of_c.same (off_sub fun b hb => ?_)), List.nodup_nil, (fun _ h => nomatch h)⟩
            simpa using hb
          | node _ => cases et
        | nw u =>
          cases et
          exact rr
      obtain ⟨gp, o1, o2, o3⟩ := key
      have fF : ∀ b ∈ f', b ∈ F := fun b hb => by rw [k5]; simp [hb]
      have dis : ∀ b ∈ f', b ∉ gp := fun b hb z => by
        obtain ⟨_, q⟩ := k4.live b hb
        rw [o3 b z] at q; cases q
      have o0 : Ows G (B ++ gp ++ F) H1 xs l f' := k4.go (offL_same fun b o e hb => ⟨fun z => by
          rcases List.mem_append.1 z with z | z
          · rcases List.mem_append.1 z with z | z
            · exact hb (List.mem_append_left _ z)
            · rw [o3 b z] at e; cases e
          · exact hb (List.mem_append_right _ z), s1.keep b o e fun z => hb (rp.np b z)⟩) fun b hb o e => s1.keep b o e (rp.fp (fF b hb))
      have nd : (f' ++ gp).Nodup := by
        have nd0 := rp.nd
        rw [k5] at nd0
        have nf : f'.Nodup := (List.nodup_cons.1 (List.nodup_append.1 (List.nodup_append.1 nd0).2.1).1).2
        rw [List.nodup_append]
        exact ⟨nf, o2, fun b hb c hc z => dis b hb (by rw [z]; exact hc)⟩
      obtain ⟨F', r'⟩ := k7 (xs ++ [v]) (l ++ [t']) (f' ++ gp) gp (o0.app (.one o1)) nd (fun b hb => List.mem_append.1 hb) o3
      refine ⟨c, xs, v, rfl, rfl, k3, by rw [k4.length]; exact g1.1, sm.nx r' g1.2⟩
    · exact g1.elim
  · exact h.elim
theorem ds_app {i : Nat} {o e : Expr} {t : TE} {g : GE} {apos cpos pos : Pos} (ho : PE X o (tVar i)) (he : DE G X e t g) (hbase : attributeBase o "append" X.env (eval o X.env) = eval o X.env := by rfl)
    (hfew : ((backTo cpos (starEach [e] X.env)).all (fun x => !x.1) && (backToKw cpos (keywordEach [] X.env)).all (fun x => x.1.isSome)
      && decide ([e].length + ([] : List Keyword).length + (if ([] : List Keyword).isEmpty then 0 else 1) < 30)) = true := by rfl)
    (hline : (apos.endLine == cpos.line) = true := by rfl) (hs : starEach [e] X.env = (false, eval e X.env) :: starEach [] X.env := by rfl) (hplain : (backTo cpos (starEach [] X.env)).any (·.1) = false := by rfl)
    (hsw : swapsWith (.Call (.Attribute o "append" apos) [e] [] cpos) none pos.line X.env = pure false := by rfl) (hK : G.K = X.K := by rfl) :
    DS G X (.Expr (.Call (.Attribute o "append" apos) [e] [] cpos) pos) (tDrop (tBM G.K "list" rAppend (tVar i) (tCons t tNil))) (gApp i g) :=
  ⟨by rw [hK]; exact ps_expr (pe_bm PySem.F.plainAttrs_list PySem.F.slot_list_append PySem.F.type_list_append mt_append ho (pa_cons he.pe pa_nil hs) hbase hfew hline hs hplain) hsw, rd_app he.rd⟩
/-! several targets -/
theorem PG.or {tg : Expr} {t t' : TG} (h : PG X tg t) (h' : PG X tg t') : PG X tg (fun v σ H Q => t v σ H Q ∨ t' v σ H Q) := ⟨fun pins s σ H v u Q I r q => q.elim (h.run pins s σ H v u Q I r) (h'.run pins s σ H v u Q I r)⟩
def uSq (u : GGs) : GG := fun d ρ => match itD d with
  | some ds => u ds ρ
  | none => none
def gSqT (K : W.Frag) (n : Nat) (t : TGs) : TG := fun v σ H Q => L2.gTup K n t v σ H Q ∨ gUnl K n t v σ H Q
theorem dg_sq {es : List Expr} {k : Nat} {pos : Pos} {t : TGs} {n : Nat} {is : List Nat} {u : GGs} (hc : X.calm = true) (h : DGs G X es t is u) (hl : ∀ ds ρ ρ', u ds ρ = some ρ' → ds.length = n)
    (hn : (assignEach es X.env).length = n := by rfl) (hst : (assignEach es X.env).findIdx? (·.1) = none := by rfl) (hK : G.K = X.K := by rfl) : DG G X (.Tuple es k pos) (gSqT G.K n t) is (uSq u) := by
  refine ⟨by rw [hK]; exact PG.or (pg_tup hc h.pg hn hst) (pg_unl hc h.pg hn hst), ?_⟩
  intro H0 B F σ H ρ ρ' v d Q r hd e q
  unfold uSq at e
  split at e
  · rename_i ds ed
    obtain ⟨a, xs, rfl, hs, hds⟩ := seq_at hd ed
    have hlen : xs.length = n := by rw [hds.length]; exact hl _ _ _ e
    rcases hs with hs | hs
    · exact .inr ⟨a, xs, rfl, hs.1, hlen, h.rd H0 B F σ H ρ ρ' xs ds Q r hds e q⟩
    · exact .inl ⟨a, xs, rfl, hs, hlen, h.rd H0 B F σ H ρ ρ' xs ds Q r hds e q⟩
  · cases e
def gAsg (u : GG) (a : GE) : GS := fun E ρ => a ρ fun r => match r.c? with
  | some d => ∃ ρ', u d ρ = some ρ' ∧ E.nx ρ'
  | none => False
theorem rd_asg {t : TE} {g : GE} {tg : TG} {is : List Nat} {u : GG} (a : RdE G t g) (b : RdG G tg is u) : RdS G (tAsg t tg) (gAsg u g) := by
  intro H0 B F σ H ρ E D rp h sm
  refine a H0 B F σ H ρ _ _ rp h fun v H1 r s1 rr g1 => ?_
  split at g1
  · rename_i d e
    obtain ⟨ρ', e', k⟩ := g1
    exact b H0 B F σ H1 ρ ρ' v d _ (rp.stp s1) (rr.clean (rp.at.stp s1) e) e' fun σ' r' _ => sm.nx r' k
  · exact g1.elim
theorem ds_asg {tg e : Expr} {te : TE} {ge : GE} {g : TG} {is : List Nat} {u : GG} {pos : Pos} (he : DE G X e te ge) (hg : DG G X tg g is u) (hs : swapsWithSole [tg] e pos.line X.env = pure false := by rfl) (hw : swappedStores [tg] e X.env = pure none := by rfl)
    (h1 : (assignEach [tg] X.env).map (·.2) = [assign tg X.env] := by rfl) : DS G X (.Assign [tg] e pos) (tAsg te g) (gAsg u ge) := ⟨ps_asg he.pe hg.pg hs hw h1, rd_asg he.rd hg.rd⟩
/-- a, b = x, y -/
def gPar (i j : Nat) (a : GA) : GS := fun E ρ => a ρ fun rs => match cs? rs with
  | some [d, e] => nOw ρ i = true ∧ nOw (ρ.set i (.va d)) j = true ∧ E.nx ((ρ.set i (.va d)).set j (.va e))
  | _ => False
theorem rd_par {i j : Nat} {t : TA} {g : GA} (a : RdA G t g) : RdS G (tPar i j t) (gPar i j g) := by
  intro H0 B F σ H ρ E D rp h sm
  refine a H0 B F σ H ρ _ _ rp h fun vs H1 rs s1 rr g1 => ?_
  split at g1
  · rename_i d e ed
    have hd := rr.clean (rp.at.stp s1) ed
    cases hd with
    | @cons v _ _ _ h1 t =>
      cases t with
      | @cons w _ _ _ h2 t =>
        cases t
        have r1 := (rp.stp s1).setK g1.1 h1
        exact ⟨v, w, rfl, sm.nx (r1.setK g1.2.1 h2) g1.2.2⟩
  · exact g1.elim
end
end EN

set_option Elab.async false
set_option linter.all false
set_option maxRecDepth 100000
set_option maxHeartbeats 2000000
/-! what is left: intsD' built-ins, names set to shared lists, calls by name -/
namespace EN
open PySem L2 TW RZ
section
variable {G : Gw} {X : Cx} {B F : List Addr} {Hs H H' : Hp} {v : V} {r : R} {d : D}
abbrev kMod : K2 := kI (fun _ j => 0 < j) fun i j => .int (i % j)
abbrev kFd : K2 := kI CDiv fun i j => .int (i / j)
abbrev kPow : K2 := kI CPow fun i j => .int (i ^ j.toNat)
abbrev kLt : K2 := kI (fun _ _ => True) fun i j => .bl (decide (i < j))
abbrev kLe : K2 := kI (fun _ _ => True) fun i j => .bl (decide (i ≤ j))
abbrev kGt : K2 := kI (fun _ _ => True) fun i j => .bl (decide (j < i))
abbrev kGe : K2 := kI (fun _ _ => True) fun i j => .bl (decide (j ≤ i))
theorem os_mod : OpS G (rI (fun _ j => 0 < j) fun i j => .int (i % j)) kMod := os_I fun _ _ _ => .int _
theorem os_fd : OpS G (rI CDiv fun i j => .int (i / j)) kFd := os_I fun _ _ _ => .int _
theorem os_pow : OpS G (rI CPow fun i j => .int (i ^ j.toNat)) kPow := os_I fun _ _ _ => .int _
theorem os_lt : OpS G (rI0 fun i j => .bl (decide (i < j))) kLt := os_I0 fun _ _ _ => .bl _
theorem os_le : OpS G (rI0 fun i j => .bl (decide (i ≤ j))) kLe := os_I0 fun _ _ _ => .bl _
theorem os_gt : OpS G (rI0 fun i j => .bl (decide (j < i))) kGt := os_I0 fun _ _ _ => .bl _
theorem os_ge : OpS G (rI0 fun i j => .bl (decide (j ≤ i))) kGe := os_I0 fun _ _ _ => .bl _
/-! is None -/
def isNon : D → Bool
  | .non => true
  | _ => false
def gIsN (a : GE) : GE := fun ρ Φ => a ρ fun x => Φ (.cl (.bl (isNon x.t.d)))
def gNotN (a : GE) : GE := fun ρ Φ => a ρ fun x => Φ (.cl (.bl (!isNon x.t.d)))
theorem non_iff (h : Dt G H v d) : decide (v = .non) = isNon d := by
  cases h <;> simp [isNon]
theorem rd_isN {t : TE} {a : GE} (h : RdE G t a) : RdE G (tOp (fun x y H Q => y = .non ∧ Q (.bl (decide (x = .non))) H) t (tC .non)) (gIsN a) := by
  intro H0 B F σ H ρ Φ Q rp g q
  refine h H0 B F σ H ρ _ _ rp g fun v H1 r s1 rr f => ⟨rfl, ?_⟩
  rw [non_iff rr.see]
  exact q _ H1 _ s1 (.c (.bl _)) f
theorem rd_notN {t : TE} {a : GE} (h : RdE G t a) : RdE G (tOp (fun x y H Q => y = .non ∧ Q (.bl (!decide (x = .non))) H) t (tC .non)) (gNotN a) := by
  intro H0 B F σ H ρ Φ Q rp g q
  refine h H0 B F σ H ρ _ _ rp g fun v H1 r s1 rr f => ⟨rfl, ?_⟩
  rw [non_iff rr.see]
  exact q _ H1 _ s1 (.c (.bl _)) f
variable {e e2 : Expr} {t : TE} {a : GE} {pos p1 : Pos} {j : Nat}
theorem de_isN (h : DE G X e t a) : DE G X (.Compare e [.Is] [.Constant .none j p1] pos) (tOp (fun x y H Q => y = .non ∧ Q (.bl (decide (x = .non))) H) t (tC .non)) (gIsN a) := ⟨pe_cmpR op_isN h.pe pe_non (nomark _), rd_isN h.rd⟩
theorem de_notN (h : DE G X e t a) : DE G X (.Compare e [.IsNot] [.Constant .none j p1] pos) (tOp (fun x y H Q => y = .non ∧ Q (.bl (!decide (x = .non))) H) t (tC .non)) (gNotN a) := ⟨pe_cmpR op_notN h.pe pe_non (nomark _), rd_notN h.rd⟩
/-! sum, abs, max, min, int -/
def intsD : List D → Option (List Int)
  | [] => some []
  | .int i :: l => (intsD l).map (i :: ·)
  | _ => none
theorem intsD_at : ∀ {l : List D} {ns : List Int} {xs : List V}, intsD l = some ns → Dts G H xs l → xs = ns.map V.int
  | [], _, _, e, .nil => by cases e; rfl
  | d :: l, _, _, e, .cons h t => by
    cases h <;> first | cases e | skip
    unfold intsD at e
    obtain ⟨bs, e1, rfl⟩ := Option.map_eq_some_iff.1 e
    rw [intsD_at e1 t]
    rfl
def kSum : List R → (R → Prop) → Prop := fun rs Φ => match rs with
  | [r] => match r.t.d with
    | .lst l => match intsD l with
      | some ns => Φ (.cl (.int ns.sum))
      | none => False
    | _ => False
  | _ => False
theorem ca_sum {K : W.Frag} (hK : G.K = K) : CaS G (rSum K) kSum := by
  subst hK
  intro B F Hs H xs rs Φ Q A hr k q
  unfold kSum at k
  split at k
  · rename_i r
    cases hr with
    | cons h t =>
      cases t
      have hd := h.see
      revert k hd
      generalize r.t.d = d
      intro k hd
      split at k
      · split at k
        · rename_i ns e
          cases hd with
          | lst h1 h2 => exact ⟨_, ns, rfl, SqL.of (by rw [h1, intsD_at e h2]), q _ H _ (.refl _ _) (.c (.int _)) k⟩
        · exact k.elim
      · exact k.elim
  · exact k.elim
def int1 : List R → Option Int
  | [r] => match r.c? with
    | some (.int i) => some i
    | _ => none
  | _ => none
def int2 : List R → Option (Int × Int)
  | [r, u] => match r.c?, u.c? with
    | some (.int i), some (.int j) => some (i, j)
    | _, _ => none
  | _ => none
theorem int1_at (A : At G B F Hs H) {vs : List V} {rs : List R} (h : Ress G B F Hs H vs rs) {i : Int} (e : int1 rs = some i) : vs = [.int i] := by
  unfold int1 at e
  split at e
  · split at e
    · rename_i r j e1
      cases e
      cases h with
      | cons a b =>
        cases b
        have d := a.clean A e1
        cases d
        rfl
    · cases e
  · cases e
theorem int2_at (A : At G B F Hs H) {vs : List V} {rs : List R} (h : Ress G B F Hs H vs rs) {i j : Int} (e : int2 rs = some (i, j)) : vs = [.int i, .int j] := by
  unfold int2 at e
  split at e
  · split at e
    · rename_i r u i' j' e1 e2
      cases e
      cases h with
      | cons a b =>
        cases b with
        | cons b c =>
          cases c
          have d := a.clean A e1
          have d2 := b.clean A e2
          cases d
          cases d2
          rfl
    · cases e
  · cases e
def kIn1 (g : Int → Int) : List R → (R → Prop) → Prop := fun rs Φ => match int1 rs with
  | some i => Φ (.cl (.int (g i)))
  | none => False
def kIn2 (g : Int → Int → Int) : List R → (R → Prop) → Prop := fun rs Φ => match int2 rs with
  | some (i, j) => Φ (.cl (.int (g i j)))
  | none => False
theorem ca_abs : CaS G (fun xs H Q => ∃ i, xs = [.int i] ∧ Q (.int (if i < 0 then -i else i)) H) (kIn1 fun i => if i < 0 then -i else i) := by
  intro B F Hs H xs rs Φ Q A hr k q
  unfold kIn1 at k
  split at k
  · rename_i i e
    exact ⟨i, int1_at A hr e, q _ H _ (.refl _ _) (.c (.int _)) k⟩
  · exact k.elim
theorem ca_int : CaS G (fun xs H Q => (∃ i, xs = [V.int i] ∧ Q (.int i) H) ∨ ∃ k, xs = [V.bl k] ∧ Q (.int (if k then 1 else 0)) H) (kIn1 fun i => i) := by
  intro B F Hs H xs rs Φ Q A hr k q
  unfold kIn1 at k
  split at k
  · rename_i i e
    exact .inl ⟨i, int1_at A hr e, q _ H _ (.refl _ _) (.c (.int _)) k⟩
  · exact k.elim
theorem ca_max2 : CaS G (fun xs H Q => ∃ i j, xs = [.int i, .int j] ∧ Q (.int (if j > i then j else i)) H) (kIn2 fun i j => if j > i then j else i) := by
  intro B F Hs H xs rs Φ Q A hr k q
  unfold kIn2 at k
  split at k
  · rename_i i j e
    exact ⟨i, j, int2_at A hr e, q _ H _ (.refl _ _) (.c (.int _)) k⟩
  · exact k.elim
theorem ca_min2 : CaS G (fun xs H Q => ∃ i j, xs = [.int i, .int j] ∧ Q (.int (if j < i then j else i)) H) (kIn2 fun i j => if j < i then j else i) := by
  intro B F Hs H xs rs Φ Q A hr k q
  unfold kIn2 at k
  split at k
  · rename_i i j e
    exact ⟨i, j, int2_at A hr e, q _ H _ (.refl _ _) (.c (.int _)) k⟩
  · exact k.elim
/-- name = [..], shared from there on -/
theorem ds_lcS {i : Nat} {y : Str} {py : Pos} {elt tg iter : Expr} {ifs : List Expr} {scope : Scope} {own : List (Str × Nat)} {pos spos : Pos} {wi : TI} {gi : GI} {t : TG} {is : List Nat} {u : GG} {tt : TT} {gt : GT} {te : TE} {ge : GE} (hc : X.calm = true) (hN : X.N.Nodup) (hy : X.N[i]? = some y) (hyl : X.env.scope.names.lookup y = some .local)
    (hsw : swapsWith (.ListComp elt [⟨tg, iter, ifs, 0⟩] scope pos) (some (.Name y py)) spos.line X.env = pure true) (hi : DI G X tg iter wi gi) (ok : BlkOk X.N X.env.scope scope own)
    (hv : ∀ i ∈ is, i ∈ own.map (·.2)) (hg : Blk X scope fun Y => DG G Y tg t is u) (ht : Blk X scope fun Y => DTs G Y ifs tt gt) (he : Blk X scope fun Y => DE G Y elt te ge) (hs : ∀ x, foldedSetIterable iter X.env x = pure x := by intro _; rfl) :
    DS G X (.Assign [.Name y py] (.ListComp elt [⟨tg, iter, ifs, 0⟩] scope pos) spos) (tAsg (tLc wi t tt te (own.map (·.2))) (gName i)) (gSet i (gLc gi u gt ge (own.map (·.2)))) :=
  ⟨ps_setLc hc hN hy hyl hsw hi.pi ok (fun s H C cl fp => (hg s H C cl fp).pg) (fun s H C cl fp => (ht s H C cl fp).pt) (fun s H C cl fp => (he s H C cl fp).pe) hs,
    rd_set (rd_lc hi.rd (hg X.s_0 X.H_0 0 [] []).rd hv (ht X.s_0 X.H_0 0 [] []).rd (he X.s_0 X.H_0 0 [] []).rd)⟩
theorem ds_par {i j : Nat} {x y : Str} {a b : Expr} {ta : TA} {ga : GA} {px py pt : Pos} {kt k2 pt2} (hc : X.calm = true) (hN : X.N.Nodup) (hi : X.N[i]? = some x) (hj : X.N[j]? = some y) (hij : i ≠ j)
    (hx : X.env.scope.names.lookup x = some .local) (hy : X.env.scope.names.lookup y = some .local) (ha : DA G X [a, b] ta ga)
    (hw : swappedStores [.Tuple [.Name x px, .Name y py] kt pt] (.Tuple [a, b] k2 pt2) X.env = pure (some [x, y]))
    (hs : swapsWithSole [.Tuple [.Name x px, .Name y py] kt pt] (.Tuple [a, b] k2 pt2) pos.line X.env = pure false := by rfl) :
    DS G X (.Assign [.Tuple [.Name x px, .Name y py] kt pt] (.Tuple [a, b] k2 pt2) pos) (tPar i j ta) (gPar i j ga) := ⟨ps_par hc hN hi hj hij hx hy ha.pa hw hs, rd_par ha.rd⟩
/-! calls by name alone -/
structure DK (G : Gw) (X : Cx) (kws : List Keyword) (t : TA) (g : GA) : Prop where
  pk : PK X kws t
  rd : RdA G t g
theorem dk_nil : DK G X [] tNil gNil := ⟨pk_nil, rd_nil⟩
theorem dk_cons {nm : Option Str} {kpos : Pos} {kws : List Keyword} {ta : TE} {tr : TA} {ga : GE} {gr : GA} (a : DE G X e ta ga) (b : DK G X kws tr gr) : DK G X (⟨nm, e, kpos⟩ :: kws) (tCons ta tr) (gCons ga gr) := ⟨pk_cons a.pe b.pk, rd_cons a.rd b.rd⟩
def pick {α : Type} (js : List Nat) (l : List α) : List α := js.filterMap (l[·]?)
theorem dts_pk {S : List Addr} {xs : List V} {l : List D} (h : Dts G (offL S H) xs l) (js : List Nat) : Dts G (offL S H) (pick js xs) (pick js l) := dts_pick h js
/-- f(k = v, ..): the values in the sequence js are the parameters' -/
structure KwB (K : W.Frag) (fd : FuncData) (ps ks : List Str) (js : List Nat) : Prop where
  to : ∀ (s : Shared) (ws : List Value), K.In s.heap → ws.length = ks.length → BindsTo s fd ⟨[], ks.zip ws⟩ (ps.zip (pick js ws))
theorem vals_pk {xs : List V} {us : List Value} (r : Vals xs us) (js : List Nat) : Vals (pick js xs) (pick js us) := vals_filter r js
def tKw (sp : Sp) (E : XK) (js : List Nat) (m : Nat) (t : TA) : TE := fun σ H Q => t σ H fun zs H1 => zs.length = m ∧ sp (pick js zs) H1 Q E
theorem pe_kwG {CX : CXT} {k : Nat} {f : Addr} {fd : FuncData} {ps ks : List Str} {js : List Nat} {sp : Sp} {E : XK} {x : Str} {p : Pos} {kws : List Keyword} {tk : TA} (Fn : FnG X.prog X.w X.K X.mg X.base CX k f fd ps sp) (gd : X.A.guards = some []) (hr : Room k X.A) (hg : Gl X x) (hm : X.mg x = some (.ref f)) (hk : W.keepIn X.K (.ref f) = true) (hb : KwB X.K fd ps ks js) (hx : Passes CX X E)
    (hkw : PK X kws tk) (hall : (backToKw pos (keywordEach kws X.env)).all (·.1.isSome) = true := by rfl) (hks : (backToKw pos (keywordEach kws X.env)).filterMap (·.1) = ks := by rfl)
    (hdb : (x == ("__debug__" : Str)) = false := by decide)
    (hpl : ((backTo pos (starEach [] X.env)).any (·.1) || (backToKw pos (keywordEach kws X.env)).any (·.1.isNone)) = false := by rfl) :
    PE X (.Call (.Name x p) [] kws pos) (tKw sp E js ks.length tk) := by
  refine ⟨fun pins s σ H Q I h => ?_⟩
  refine wpAny_Call_Name_kw (ld_glob I hg hm ?_ hdb)
  refine W.callWith_KW0 (h₀ := X.base) I.ok.mod.kin hk hall ?_ hpl
  refine thn (hkw.run pos pins s σ H _ I h) fun ws s2 ⟨zs, H2, I2, rz, l2, q2⟩ => ⟨I2.kIn, ?_⟩
  rw [hks]
  refine wpAny_call (codeAny_mono (Fn.go X.A X.stack s2 H2 ⟨[], ks.zip ws⟩ (pick js ws) (pick js zs) Q E gd hr I2.env0 (hb.to s2 ws I2.kIn (rz.length.symm.trans l2)) (vals_pk rz js) q2) fun r s' hq => ?_)
  cases r with
  | error e => exact hx pins σ H2 s2 e s' I2 hq
  | ok fl =>
    cases fl with
    | ret u => exact I2.after hq
    | next => exact False.elim hq
    | brk => exact False.elim hq
    | cont => exact False.elim hq
def gKw (k : Kt) (js : List Nat) (m : Nat) (a : GA) : GE := fun ρ Φ => a ρ fun rs => match cs? rs with
  | some ds => ds.length = m ∧ k (pick js ds) Φ
  | none => False
theorem rd_kw {k : Kt} {js : List Nat} {m : Nat} {tk : TA} {ga : GA} {E : XK} (h : RdA G tk ga) : RdE G (tKw (Fk G k) E js m tk) (gKw k js m ga) := by
  intro H0 B F σ H ρ Φ Q rp g q
  refine h H0 B F σ H ρ _ _ rp g fun vs H1 rs s1 rr f => ?_
  have A := rp.at.stp s1
  split at f
  · rename_i ds e
    have hd := rr.clean A e
    refine ⟨by rw [hd.length]; exact f.1, B ++ F, pick js ds, Φ, A.li, fun p hp => A.np p hp, dts_pk hd js, f.2, fun v H' r s rv φ => ?_⟩
    exact q v H' r (s1.trans s) ((res_up rv).back A) φ
  · exact f.elim
theorem de_kw {k : Kt} {n m : Nat} {f : Addr} {fd : FuncData} {ps ks : List Str} {js : List Nat} {E : XK} {x : Str} {p : Pos} {kws : List Keyword} {tk : TA} {ga : GA} (Fn : FnG X.prog X.w X.K X.mg X.base L2.CX0 n f fd ps (Fk G k)) (gd : X.A.guards = some []) (hr : Room n X.A) (hg : Gl X x) (hm : X.mg x = some (.ref f)) (hk : W.keepIn X.K (.ref f) = true) (hb : KwB X.K fd ps ks js) (hx : Passes L2.CX0 X E)
    (hkw : DK G X kws tk ga) (hall : (backToKw pos (keywordEach kws X.env)).all (·.1.isSome) = true := by rfl) (hks : (backToKw pos (keywordEach kws X.env)).filterMap (·.1) = ks := by rfl)
    (hdb : (x == ("__debug__" : Str)) = false := by decide)
    (hlen : ks.length = m := by rfl) (hpl : ((backTo pos (starEach [] X.env)).any (·.1) || (backToKw pos (keywordEach kws X.env)).any (·.1.isNone)) = false := by rfl) :
    DE G X (.Call (.Name x p) [] kws pos) (tKw (Fk G k) E js m tk) (gKw k js m ga) := by
  subst hlen
  exact ⟨pe_kwG Fn gd hr hg hm hk hb hx hkw.pk hall hks hdb hpl, rd_kw hkw.rd⟩
end
end EN

set_option Elab.async false
set_option linter.all false
set_option maxRecDepth 100000
set_option maxHeartbeats 2000000
/-! how readings are reckoned -/
namespace EN
open PySem L2 TW RZ
/-- a module's own number -/
theorem de_gint {G : Gw} {X : Cx} {x : Str} {i : Int} {t : Tok} {pos : Pos} (hg : Gl X x) (hm : X.mg x = some (.int i t)) (hd : (x == ("__debug__" : Str)) = false := by decide) : DE G X (.Name x pos) (tC (.int i)) (gC (.int i)) := ⟨pe_glob (v := .int i) hg hm ⟨t, rfl⟩ hd, rd_c fun _ => .int i⟩
theorem gLoop_map {u : GG} {ge : GE} {ρ0 : Ev} (f : D → OT) : ∀ {us : List D} {acc : List OT} {Φ : List OT → Prop}, (∀ d ∈ us, ∀ Ψ : OT → Prop, Ψ (f d) → ∃ ρ2, u d ρ0 = some ρ2 ∧ ge ρ2 fun r => match r.o? with
    | some t => Ψ t
    | none => False) → Φ (acc ++ us.map f) → gLoop u gYes ge ρ0 us acc Φ
  | [], acc, Φ, _, h => by simpa [gLoop] using h
  | d :: us, acc, Φ, k, h => by
    obtain ⟨ρ2, e, g⟩ := k d List.mem_cons_self (fun t => gLoop u gYes ge ρ0 us (acc ++ [t]) Φ) (gLoop_map f (fun d hd => k d (List.mem_cons_of_mem _ hd)) (by simpa using h))
    refine ⟨ρ2, e, ?_⟩
    unfold gYes
    exact iteT g
inductive All2 {α β : Type} (P : α → β → Prop) : List α → List β → Prop
  | nil : All2 P [] []
  | cons {a : α} {b : β} {l : List α} {m : List β} : P a b → All2 P l m → All2 P (a :: l) (b :: m)
/-- element by element, what is not told by a function: P of each -/
theorem gLoop_all {u : GG} {ge : GE} {ρ0 : Ev} (P : D → OT → Prop) : ∀ {us : List D} {acc : List OT} {Φ : List OT → Prop}, (∀ d ∈ us, ∀ Ψ : OT → Prop, (∀ t, P d t → Ψ t) → ∃ ρ2, u d ρ0 = some ρ2 ∧ ge ρ2 fun r => match r.o? with
    | some t => Ψ t
    | none => False) → (∀ l, All2 P us l → Φ (acc ++ l)) → gLoop u gYes ge ρ0 us acc Φ
  | [], acc, Φ, _, h => by simpa [gLoop] using h [] .nil
  | d :: us, acc, Φ, k, h => by
    obtain ⟨ρ2, e, g⟩ := k d List.mem_cons_self (fun t => gLoop u gYes ge ρ0 us (acc ++ [t]) Φ) fun t ht => gLoop_all P (fun d hd => k d (List.mem_cons_of_mem _ hd)) fun l hl => by simpa using h (t :: l) (.cons ht hl)
    refine ⟨ρ2, e, ?_⟩
    unfold gYes
    exact iteT g
/-! what is told by a value -/
def Va (g : GE) (ρ : Ev) (r : R) : Prop := ∀ Φ : R → Prop, Φ r → g ρ Φ
def Vl (g : GA) (ρ : Ev) (rs : List R) : Prop := ∀ Φ : List R → Prop, Φ rs → g ρ Φ
def Vt (g : GT) (ρ : Ev) (b : Bool) : Prop := ∀ Φ : Bool → Prop, Φ b → g ρ Φ
section
variable {ρ : Ev} {i : Nat} {d e : D} {t : OT} {x y z : R} {ga gb : GE} {gl : GA} {rs : List R} {p q : Rat}
theorem va_var (h : ρ[i]? = some (.va d)) : Va (gVar i) ρ (.cl d) := fun Φ φ => by
  unfold gVar
  rw [h]
  exact φ
theorem va_own (h : ρ[i]? = some (.ow t)) : Va (gVar i) ρ (.old t) := fun Φ φ => by
  unfold gVar
  rw [h]
  exact φ
theorem va_c : Va (gC d) ρ (.cl d) := fun Φ φ => φ
theorem vl_nil : Vl gNil ρ [] := fun Φ φ => φ
theorem vl_cons (a : Va ga ρ x) (b : Vl gl ρ rs) : Vl (gCons ga gl) ρ (x :: rs) := fun Φ φ => a _ (b _ φ)
theorem va_op {k : K2} (a : Va ga ρ x) (b : Va gb ρ y) (h : ∀ Φ : R → Prop, Φ z → k x y Φ) : Va (gOp k ga gb) ρ z := fun Φ φ => a _ (b _ (h Φ φ))
theorem va_un {k : K1} (a : Va ga ρ x) (h : ∀ Φ : R → Prop, Φ z → k x Φ) : Va (gUn k ga) ρ z := fun Φ φ => a _ (h Φ φ)
theorem num_k {g : Rat → Rat → Rat} {Φ : R → Prop} (hp : numD d = some p) (hq : numD e = some q) (bp : Bits 4000 p) (bq : Bits 4000 q) (φ : Φ (.cl (.rat (g p q)))) : kNum g d e Φ := by
  unfold kNum
  rw [hp, hq]
  exact ⟨bp, bq, φ⟩
theorem va_add (a : Va ga ρ (.cl d)) (b : Va gb ρ (.cl e)) (hp : numD d = some p) (hq : numD e = some q) (hi : (isInt d && isInt e) = false) (bp : Bits 4000 p) (bq : Bits 4000 q) : Va (gOp kAdd ga gb) ρ (.cl (.rat (p + q))) := va_op a b fun Φ φ => by
  cases d <;> cases e <;> first | cases hp; done | cases hq; done | cases hi; done | exact ⟨hi, num_k hp hq bp bq φ⟩
theorem va_sub (a : Va ga ρ (.cl d)) (b : Va gb ρ (.cl e)) (hp : numD d = some p) (hq : numD e = some q) (hi : (isInt d && isInt e) = false) (bp : Bits 4000 p) (bq : Bits 4000 q) : Va (gOp kSub ga gb) ρ (.cl (.rat (p - q))) := va_op a b fun Φ φ => by
  cases d <;> cases e <;> first | cases hp; done | cases hq; done | cases hi; done | exact ⟨hi, num_k hp hq bp bq φ⟩
theorem va_mul (a : Va ga ρ (.cl d)) (b : Va gb ρ (.cl e)) (hp : numD d = some p) (hq : numD e = some q) (hi : (isInt d && isInt e) = false) (bp : Bits 4000 p) (bq : Bits 4000 q) : Va (gOp kMul ga gb) ρ (.cl (.rat (p * q))) := va_op a b fun Φ φ => by
  cases d <;> cases e <;> first | cases hp; done | cases hq; done | cases hi; done | exact ⟨hi, num_k hp hq bp bq φ⟩
theorem va_addR (a : Va ga ρ (.cl (.rat p))) (b : Va gb ρ (.cl (.rat q))) (bp : Bits 4000 p) (bq : Bits 4000 q) : Va (gOp kAdd ga gb) ρ (.cl (.rat (p + q))) := va_add a b rfl rfl rfl bp bq
theorem va_subR (a : Va ga ρ (.cl (.rat p))) (b : Va gb ρ (.cl (.rat q))) (bp : Bits 4000 p) (bq : Bits 4000 q) : Va (gOp kSub ga gb) ρ (.cl (.rat (p - q))) := va_sub a b rfl rfl rfl bp bq
theorem va_mulR (a : Va ga ρ (.cl (.rat p))) (b : Va gb ρ (.cl (.rat q))) (bp : Bits 4000 p) (bq : Bits 4000 q) : Va (gOp kMul ga gb) ρ (.cl (.rat (p * q))) := va_mul a b rfl rfl rfl bp bq
theorem va_negR (a : Va ga ρ (.cl (.rat p))) (bp : Bits 4000 p) : Va (gUn kNeg ga) ρ (.cl (.rat (-p))) := va_un a fun Φ φ => ⟨bp, φ⟩
theorem va_over (a : Va ga ρ (.cl (.rat p))) (b : Va gb ρ (.cl e)) (hq : numD e = some q) (bp : Bits 4000 p) (bq : Bits 4000 q) (h0 : q ≠ 0) : Va (gOv ga gb) ρ (.cl (.rat (p / q))) := fun Φ φ => a _ (b _ (by
  show match (some e).bind numD with
    | some r => _
    | none => _
  rw [Option.bind_some, hq]
  exact ⟨bp, bq, h0, φ⟩))
theorem va_mk1 {j : Int} (a : Va ga ρ (.cl (.int j))) : Va (gMk1 ga) ρ (.cl (.rat (j : Rat))) := fun Φ φ => a _ φ
theorem va_mk2 {j k : Int} (a : Va ga ρ (.cl (.int j))) (b : Va gb ρ (.cl (.int k))) (h0 : k ≠ 0) (hb : k.natAbs < 2 ^ 9000) : Va (gMk2 ga gb) ρ (.cl (.rat (Rat.divInt j k))) := fun Φ φ => a _ (b _ ⟨h0, hb, φ⟩)
theorem va_lst {ds : List D} (a : Vl gl ρ rs) (h : cs? rs = some ds) (hl : ds.length ≤ sizeLine) : Va (gLst gl) ρ (.nw (.node (ds.map .leaf))) := fun Φ φ => a _ (by rw [h]; exact ⟨hl, φ⟩)
theorem va_tup {ds : List D} (a : Vl gl ρ rs) (h : cs? rs = some ds) (hl : ds.length ≤ sizeLine) : Va (gTup gl) ρ (.cl (.tup ds)) := fun Φ φ => a _ (by rw [h]; exact ⟨hl, φ⟩)
theorem va_call {k : Kt} {ds : List D} (a : Vl gl ρ rs) (h : cs? rs = some ds) (hk : ∀ Φ : R → Prop, Φ z → k ds Φ) : Va (gCallK k gl) ρ z := fun Φ φ => a _ (by rw [h]; exact hk Φ φ)
theorem va_if {gc : GT} {b : Bool} (c : Vt gc ρ b) (h : if b = true then Va ga ρ z else Va gb ρ z) : Va (gIf gc ga gb) ρ z := fun Φ φ => c _ (by
  cases b with
  | true => exact iteT ((if_pos rfl ▸ h) Φ φ)
  | false => exact iteF ((if_neg Bool.false_ne_true ▸ h) Φ φ))
/-! statements -/
variable {E : EnD} {ρ' : Ev} {g k : GS}
theorem s_seq (h : g { E with nx := k E } ρ) : gSeq g k E ρ := h
theorem s_set (a : Va ga ρ x) (hc : x.c? = some d) (e : ρ.set i (.va d) = ρ') (h : E.nx ρ') : gSet i ga E ρ := a _ (by
  rw [hc]
  subst e
  exact h)
theorem s_own {l : OT} (a : Va ga ρ (.nw l)) (hi : i < ρ.length) (e : ρ.set i (.ow l) = ρ') (h : E.nx ρ') : gOwn i ga E ρ := a _ (by
  subst e
  exact ⟨hi, h⟩)
theorem s_asg {u : GG} (a : Va ga ρ x) (hc : x.c? = some d) (e : u d ρ = some ρ') (h : E.nx ρ') : gAsg u ga E ρ := a _ (by
  rw [hc]
  exact ⟨ρ', e, h⟩)
/-! .. ahead of others -/
theorem s_par' {j : Nat} {d2 : D} (a : Vl gl ρ rs) (hc : cs? rs = some [d, d2]) (h1 : nOw ρ i = true) (h2 : nOw (ρ.set i (.va d)) j = true) (e : (ρ.set i (.va d)).set j (.va d2) = ρ') (h : k E ρ') : gPar i j gl { E with nx := k E } ρ := a _ (by
  rw [hc]
  subst e
  exact ⟨h1, h2, h⟩)
theorem q_set (a : Va ga ρ x) (hc : x.c? = some d) (e : ρ.set i (.va d) = ρ') (h : k E ρ') : gSeq (gSet i ga) k E ρ := s_set (E := { E with nx := k E }) a hc e h
theorem q_own {l : OT} (a : Va ga ρ (.nw l)) (hi : i < ρ.length) (e : ρ.set i (.ow l) = ρ') (h : k E ρ') : gSeq (gOwn i ga) k E ρ := s_own (E := { E with nx := k E }) a hi e h
theorem q_asg {u : GG} (a : Va ga ρ x) (hc : x.c? = some d) (e : u d ρ = some ρ') (h : k E ρ') : gSeq (gAsg u ga) k E ρ := s_asg (E := { E with nx := k E }) a hc e h
theorem q_par {j : Nat} {d2 : D} (a : Vl gl ρ rs) (hc : cs? rs = some [d, d2]) (h1 : nOw ρ i = true) (h2 : nOw (ρ.set i (.va d)) j = true) (e : (ρ.set i (.va d)).set j (.va d2) = ρ') (h : k E ρ') : gSeq (gPar i j gl) k E ρ := s_par' a hc h1 h2 e h
theorem q_ifF {gc : GT} {g1 : GS} (c : Vt gc ρ false) (h : k E ρ) : gSeq (gIfS gc g1 gNext) k E ρ := c _ (iteF h)
theorem q_ifT {gc : GT} {g1 g2 : GS} (c : Vt gc ρ true) (h : g1 { E with nx := k E } ρ) : gSeq (gIfS gc g1 g2) k E ρ := c _ (iteT h)
theorem s_ret (a : Va ga ρ x) (h : E.rt x.ret) : gRet ga E ρ := a _ h
theorem s_ifT {gc : GT} (c : Vt gc ρ true) (h : g E ρ) : gIfS gc g k E ρ := c _ (iteT h)
theorem s_ifF {gc : GT} (c : Vt gc ρ false) (h : k E ρ) : gIfS gc g k E ρ := c _ (iteF h)
theorem vt_test {b : Bool} (a : Va ga ρ (.cl (.bl b))) : Vt (gTest ga) ρ b := fun Φ φ => a _ φ
theorem vt_not {gc : GT} {b : Bool} (a : Vt gc ρ b) : Vt (gNot gc) ρ (!b) := fun Φ φ => a _ φ
theorem vt_orF {gc gd : GT} {b : Bool} (a : Vt gc ρ false) (c : Vt gd ρ b) : Vt (gOr gc gd) ρ b := fun Φ φ => a _ (iteF (c _ φ))
theorem vt_orT {gc gd : GT} (a : Vt gc ρ true) : Vt (gOr gc gd) ρ true := fun Φ φ => a _ (iteT φ)
theorem vt_andT {gc gd : GT} {b : Bool} (a : Vt gc ρ true) (c : Vt gd ρ b) : Vt (gAnd gc gd) ρ b := fun Φ φ => a _ (iteT (c _ φ))
theorem vt_andF {gc gd : GT} (a : Vt gc ρ false) : Vt (gAnd gc gd) ρ false := fun Φ φ => a _ (iteF φ)
end
/-- two numbers over one power of 2 -/
def Dy (k m : Nat) (q : Rat) : Prop := ∃ a : Int, q = Rat.divInt a (2 ^ k) ∧ a.natAbs < 2 ^ m
theorem pw0 (k : Nat) : (2 : Int) ^ k ≠ 0 := Int.pow_ne_zero (by decide)
theorem Dy.bits {k m n : Nat} {q : Rat} (h : Dy k m q) (h1 : k < n) (h2 : m ≤ n) : Bits n q := by
  obtain ⟨a, rfl, ha⟩ := h
  refine divInt_bits (pw0 k) (Nat.lt_of_lt_of_le ha (Nat.pow_le_pow_right (by decide) h2)) ?_
  rw [Int.natAbs_pow]
  exact Nat.pow_lt_pow_right (by decide) h1
theorem Dy.mono {k m m' : Nat} {q : Rat} (h : Dy k m q) (hm : m ≤ m') : Dy k m' q := let ⟨a, e, ha⟩ := h; ⟨a, e, Nat.lt_of_lt_of_le ha (Nat.pow_le_pow_right (by decide) hm)⟩
theorem Dy.up {k m : Nat} {q : Rat} (h : Dy k m q) (j : Nat) : Dy (k + j) (m + j) q := by
  obtain ⟨a, rfl, ha⟩ := h
  refine ⟨a * 2 ^ j, ?_, ?_⟩
  · rw [Int.pow_add]
    exact (Rat.divInt_mul_right (pw0 j)).symm
  · rw [Int.natAbs_mul, Int.natAbs_pow]
    have := Nat.pow_pos (n := j) (show 0 < (2 : Int).natAbs by decide)
    calc a.natAbs * (2 : Int).natAbs ^ j < 2 ^ m * (2 : Int).natAbs ^ j := Nat.mul_lt_mul_of_pos_right ha this
      _ = 2 ^ (m + j) := (Nat.pow_add 2 m j).symm
theorem Dy.to {k m k' m' : Nat} {q : Rat} (h : Dy k m q) (hk : k ≤ k') (hm : m + (k' - k) ≤ m') : Dy k' m' q := by
  have := (h.up (k' - k)).mono hm
  rwa [Nat.add_sub_cancel' hk] at this
theorem Dy.mul {k m k' m' : Nat} {p q : Rat} (h : Dy k m p) (h' : Dy k' m' q) : Dy (k + k') (m + m') (p * q) := by
  obtain ⟨a, rfl, ha⟩ := h
  obtain ⟨b, rfl, hb⟩ := h'
  refine ⟨a * b, ?_, ?_⟩
  · rw [Rat.divInt_mul_divInt, Int.pow_add]
  · rw [Int.natAbs_mul]
    exact pow_mul_lt ha hb
theorem Dy.add {k m : Nat} {p q : Rat} (h : Dy k m p) (h' : Dy k m q) : Dy k (m + 1) (p + q) := by
  obtain ⟨a, rfl, ha⟩ := h
  obtain ⟨b, rfl, hb⟩ := h'
  refine ⟨a + b, ?_, ?_⟩
  · rw [Rat.divInt_add_divInt _ _ (pw0 k) (pw0 k), ← Int.add_mul]
    exact Rat.divInt_mul_right (pw0 k)
  · have := Int.natAbs_add_le a b
    have e : 2 ^ (m + 1) = 2 ^ m * 2 := Nat.pow_succ ..
    omega
theorem Dy.neg {k m : Nat} {p : Rat} (h : Dy k m p) : Dy k m (-p) := by
  obtain ⟨a, rfl, ha⟩ := h
  exact ⟨-a, (Rat.neg_divInt a _), by rw [Int.natAbs_neg]; exact ha⟩
theorem Dy.sub {k m : Nat} {p q : Rat} (h : Dy k m p) (h' : Dy k m q) : Dy k (m + 1) (p - q) := by
  rw [Rat.sub_eq_add_neg]
  exact h.add h'.neg
theorem Dy.int {i : Int} {m : Nat} (h : i.natAbs < 2 ^ m) : Dy 0 m (i : Rat) := ⟨i, by
  rw [Int.pow_zero]
  exact (divInt_1 i).symm, h⟩
end EN

set_option Elab.async false
set_option linter.all false
set_option maxRecDepth 100000
set_option maxHeartbeats 4000000
/-! the row's own facts -/
namespace EN
open PySem L2 TW RZ
open KT (Txt)
abbrev top := KT.top
/-- names of built-ins that the top leaves alone -/
structure Ns (mg : Str → Option Value) : Prop where
  isinstance_ : mg "isinstance" = none
  int_ : mg "int" = none
  bool_ : mg "bool" = none
  list_ : mg "list" = none
  tuple_ : mg "tuple" = none
  len_ : mg "len" = none
  all_ : mg "all" = none
  abs_ : mg "abs" = none
  max_ : mg "max" = none
  min_ : mg "min" = none
  sum_ : mg "sum" = none
  divmod_ : mg "divmod" = none
  range_ : mg "range" = none
  zip_ : mg "zip" = none
  enumerate_ : mg "enumerate" = none
abbrev GK (K : W.Frag) (C : Addr) (ps : List Addr) : Gw := ⟨K, C, fun _ => C, fun _ => [], ps⟩
structure MetF (P : Program) (w : World) (K : W.Frag) (mg : Str → Option Value) (base : Heap) (C f : Addr) (fd : FuncData) (x : Str) (k : Nat) (ps : List Str) (sp : Sp) : Prop where
  m : Meth K C x f
  f : FnOk P w K mg base L2.CX0 k f fd ps sp
  b : Binds K fd ps []
/-- over, total -/
structure OvX (P : Program) (w : World) (K : W.Frag) (mg : Str → Option Value) (base : Heap) (C f g pm : Addr) (fd : FuncData) (mc : Value) : Prop where
  cl : Cls K C
  over : MetF P w K mg base C f fd "over" 6 ["self", "other"] (spOv C)
  cr : ClX.CRead K C mc
  cm : ClX.CMet K C mc "total" pm g
  tot : FnR P w K mg base L2.CX0 6 g (spTo K C)
section
variable {P : Program} {w : World} {K : W.Frag} {mg : Str → Option Value} {base : Heap} {C : Addr}
theorem tyF (T : Txt K mg C C) : TyF K C := ⟨T.clC, T.atC, T.cg, T.ct, T.moC, T.kCi, T.kCb, T.kCl, T.kCt, T.kCC, T.kTC1, T.kTC2, T.kTC3, T.kTC4, T.kTC5, T.kTC6⟩
end
end EN

set_option Elab.async false
set_option linter.all false
set_option maxRecDepth 100000
set_option maxHeartbeats 4000000
namespace EN
open PySem L2 TW RZ
open KT (Txt)
def isI : D → Bool
  | .int _ => true
  | _ => false
def isC : D → Bool
  | .int i => decide (0 ≤ i)
  | _ => false
def isN : D → Bool
  | .int _ => true
  | .rat _ => true
  | _ => false
def K_is_integer : Kt := fun ds Φ => ∃ d, ds = [d] ∧ noObj d = true ∧ Φ (.cl (.bl (isI d)))
def K_is_count : Kt := fun ds Φ => ∃ d, ds = [d] ∧ noObj d = true ∧ Φ (.cl (.bl (isC d)))
def K_is_list : Kt := fun ds Φ => ∃ d, ds = [d] ∧ noObj d = true ∧ Φ (.cl (.bl (isSeq d)))
def K_is_number : Kt := fun ds Φ => ∃ d, ds = [d] ∧ noObj d = true ∧ Φ (.cl (.bl (isN d)))
def K_are_numbers : Kt := fun ds Φ => ∃ d l, ds = [d] ∧ itD d = some l ∧ l.length ≤ sizeLine ∧ (∀ e ∈ l, noObj e = true) ∧ Φ (.cl (.bl (l.all isN)))
def K_ratio_of : Kt := fun ds Φ => ∃ d q, ds = [d] ∧ numD d = some q ∧ Φ (.cl (.rat q))
def rats (l : List Rat) : List OT := l.map fun q => .leaf (.rat q)
def K_ratio_row : Kt := fun ds Φ => ∃ d l qs, ds = [d] ∧ itD d = some l ∧ numsD l = some qs ∧ l.length ≤ sizeLine ∧ Φ (.nw (.node (rats qs)))
section
variable {P : Program} {w : World} {K : W.Frag} {mg : Str → Option Value} {base : Heap} {C : Addr} {pots : List Addr}
abbrev s_is_integer : Stmt := top 9
theorem c_is_integer : FnScope ["value"] ["value"] (defScope s_is_integer) := ⟨rfl, rfl, rfl, by decide +kernel, rfl, by decide +kernel, by decide +kernel⟩
def g_is_integer : GS := (gRet (gAndV (gIs isIB (gVar 0)) (gNotV (gIs isB (gVar 0)))))
theorem ok_is_integer {f : Addr} {fd : FuncData} (A : KT.At K mg "is_integer" s_is_integer ["value"] f fd) (T : TyF K C) (Z : Ns mg)
    (len : ∀ ds Φ, K_is_integer ds Φ → ds.length = 1) (hk : ∀ ds Φ, K_is_integer ds Φ → g_is_integer { nx := fun _ => Φ (.cl .non), rt := Φ } (ds.map .va ++ List.replicate (1 - ds.length) .un)) :
    FnG P w K mg base L2.CX0 9 f fd ["value"] (Fk (GK K C pots) K_is_integer) :=
  ok_k A.fn c_is_integer len hk fun cdv A0 outer s H E gd hr => ⟨_, (db_one (ds_ret (de_and (de_isInt T rfl (de_v 0) Z.isinstance_ Z.int_ (by rfl) (by rfl)) (de_one (de_not (de_isBool T rfl (de_v 0) Z.isinstance_ Z.bool_ (by rfl) (by rfl)))))))⟩
abbrev s_is_count : Stmt := top 10
theorem c_is_count : FnScope ["value"] ["value"] (defScope s_is_count) := ⟨rfl, rfl, rfl, by decide +kernel, rfl, by decide +kernel, by decide +kernel⟩
def g_is_count : GS := (gRet (gAndV (gCallK K_is_integer (gCons (gVar 0) gNil)) (gOp kGe (gVar 0) (gC (.int 0)))))
theorem ok_is_count {f : Addr} {fd : FuncData} {f_is_integer : Addr} {fd_is_integer : FuncData} (A : KT.At K mg "is_count" s_is_count ["value"] f fd)
    (A_is_integer : KT.At K mg "is_integer" s_is_integer ["value"] f_is_integer fd_is_integer) (N_is_integer : FnG P w K mg base L2.CX0 9 f_is_integer fd_is_integer ["value"] (Fk (GK K C pots) K_is_integer))
    (len : ∀ ds Φ, K_is_count ds Φ → ds.length = 1) (hk : ∀ ds Φ, K_is_count ds Φ → g_is_count { nx := fun _ => Φ (.cl .non), rt := Φ } (ds.map .va ++ List.replicate (1 - ds.length) .un)) :
    FnG P w K mg base L2.CX0 10 f fd ["value"] (Fk (GK K C pots) K_is_count) :=
  ok_k A.fn c_is_count len hk fun cdv A0 outer s H E gd hr => ⟨_, (db_one (ds_ret (de_and (de_call N_is_integer gd (hr.mono (by decide)) (by rfl) A_is_integer.mg A_is_integer.fn.kp A_is_integer.b pass0 (da_cons (de_v 0) da_nil)) (de_one (de_cmp op_ge (os_ge (G := GK K C pots)) (de_v 0) de_int (nomark _))))))⟩
abbrev s_is_list : Stmt := top 11
theorem c_is_list : FnScope ["value"] ["value"] (defScope s_is_list) := ⟨rfl, rfl, rfl, by decide +kernel, rfl, by decide +kernel, by decide +kernel⟩
def g_is_list : GS := (gRet (gIs isSeq (gVar 0)))
theorem ok_is_list {f : Addr} {fd : FuncData} (A : KT.At K mg "is_list" s_is_list ["value"] f fd) (T : TyF K C) (Z : Ns mg)
    (len : ∀ ds Φ, K_is_list ds Φ → ds.length = 1) (hk : ∀ ds Φ, K_is_list ds Φ → g_is_list { nx := fun _ => Φ (.cl .non), rt := Φ } (ds.map .va ++ List.replicate (1 - ds.length) .un)) :
    FnG P w K mg base L2.CX0 9 f fd ["value"] (Fk (GK K C pots) K_is_list) :=
  ok_k A.fn c_is_list len hk fun cdv A0 outer s H E gd hr => ⟨_, (db_one (ds_ret (de_isSeq T rfl (de_v 0) Z.isinstance_ Z.list_ Z.tuple_ (by rfl) (by rfl) (by rfl))))⟩
abbrev s_is_number : Stmt := top 14
theorem c_is_number : FnScope ["value"] ["value"] (defScope s_is_number) := ⟨rfl, rfl, rfl, by decide +kernel, rfl, by decide +kernel, by decide +kernel⟩
def g_is_number : GS := (gRet (gOrV (gCallK K_is_integer (gCons (gVar 0) gNil)) (gIs isR (gVar 0))))
theorem ok_is_number {f : Addr} {fd : FuncData} {f_is_integer : Addr} {fd_is_integer : FuncData} (A : KT.At K mg "is_number" s_is_number ["value"] f fd) (R : RatF P w K mg base C) (T : TyF K C) (Z : Ns mg)
    (A_is_integer : KT.At K mg "is_integer" s_is_integer ["value"] f_is_integer fd_is_integer) (N_is_integer : FnG P w K mg base L2.CX0 9 f_is_integer fd_is_integer ["value"] (Fk (GK K C pots) K_is_integer))
    (len : ∀ ds Φ, K_is_number ds Φ → ds.length = 1) (hk : ∀ ds Φ, K_is_number ds Φ → g_is_number { nx := fun _ => Φ (.cl .non), rt := Φ } (ds.map .va ++ List.replicate (1 - ds.length) .un)) :
    FnG P w K mg base L2.CX0 10 f fd ["value"] (Fk (GK K C pots) K_is_number) :=
  ok_k A.fn c_is_number len hk fun cdv A0 outer s H E gd hr => ⟨_, (db_one (ds_ret (de_or (de_call N_is_integer gd (hr.mono (by decide)) (by rfl) A_is_integer.mg A_is_integer.fn.kp A_is_integer.b pass0 (da_cons (de_v 0) da_nil)) (de_one (de_isRat T R rfl (de_v 0) Z.isinstance_ (by rfl) (by rfl))))))⟩
abbrev s_are_numbers : Stmt := top 15
theorem c_are_numbers : FnScope ["value", "one"] ["value"] (defScope s_are_numbers) := ⟨rfl, rfl, rfl, by decide +kernel, rfl, by decide +kernel, by decide +kernel⟩
def g_are_numbers : GS := (gRet (gAndV (gCallK K_is_list (gCons (gVar 0) gNil)) (gCa kAll (gCons (gLc (gSeq' (gVar 0)) (uName 1) gYes (gCallK K_is_number (gCons (gVar 1) gNil)) [1]) gNil))))
theorem ok_are_numbers {f : Addr} {fd : FuncData} {f_is_list : Addr} {fd_is_list : FuncData} {f_is_number : Addr} {fd_is_number : FuncData} (A : KT.At K mg "are_numbers" s_are_numbers ["value"] f fd) (Z : Ns mg)
    (A_is_list : KT.At K mg "is_list" s_is_list ["value"] f_is_list fd_is_list) (N_is_list : FnG P w K mg base L2.CX0 9 f_is_list fd_is_list ["value"] (Fk (GK K C pots) K_is_list))
    (A_is_number : KT.At K mg "is_number" s_is_number ["value"] f_is_number fd_is_number) (N_is_number : FnG P w K mg base L2.CX0 10 f_is_number fd_is_number ["value"] (Fk (GK K C pots) K_is_number))
    (len : ∀ ds Φ, K_are_numbers ds Φ → ds.length = 1) (hk : ∀ ds Φ, K_are_numbers ds Φ → g_are_numbers { nx := fun _ => Φ (.cl .non), rt := Φ } (ds.map .va ++ List.replicate (2 - ds.length) .un)) :
    FnG P w K mg base L2.CX0 11 f fd ["value"] (Fk (GK K C pots) K_are_numbers) :=
  ok_k A.fn c_are_numbers len hk fun cdv A0 outer s H E gd hr => ⟨_, (db_one (ds_ret (de_and (de_call N_is_list gd (hr.mono (by decide)) (by rfl) A_is_list.mg A_is_list.fn.kp A_is_list.b pass0 (da_cons (de_v 0) da_nil)) (de_one (de_callB (cr_allG (G := GK K C pots) rfl rfl) ca_all (by rfl) Z.all_ (by decide +kernel) (da_cons (de_lc (own := [("one", 1)]) (G := GK K C pots) (is := [1]) (u := (uName 1)) rfl c_are_numbers.nd (di_any (de_v 0)) (blkOk_by (N := ["value", "one"]) (sc := defScope s_are_numbers) (by decide +kernel)) (by decide) (fun _ _ _ _ _ => (dg_name (i := 1) c_are_numbers.nd rfl (by first | exact .inl rfl | exact .inr rfl))) (fun _ _ _ _ _ => dts_nil) (fun _ _ _ _ _ => (de_call N_is_number gd (hr.mono (by decide)) (by rfl) A_is_number.mg A_is_number.fn.kp A_is_number.b pass0 (da_cons (de_v 1) da_nil)))) da_nil))))))⟩
abbrev s_ratio_of : Stmt := top 16
theorem c_ratio_of : FnScope ["number"] ["number"] (defScope s_ratio_of) := ⟨rfl, rfl, rfl, by decide +kernel, rfl, by decide +kernel, by decide +kernel⟩
def g_ratio_of : GS := (gRet (gIf (gTest (gIs isR (gVar 0))) (gVar 0) (gMk1 (gVar 0))))
theorem ok_ratio_of {f : Addr} {fd : FuncData} (A : KT.At K mg "ratio_of" s_ratio_of ["number"] f fd) (R : RatF P w K mg base C) (T : TyF K C) (Z : Ns mg)
    (len : ∀ ds Φ, K_ratio_of ds Φ → ds.length = 1) (hk : ∀ ds Φ, K_ratio_of ds Φ → g_ratio_of { nx := fun _ => Φ (.cl .non), rt := Φ } (ds.map .va ++ List.replicate (1 - ds.length) .un)) :
    FnG P w K mg base L2.CX0 9 f fd ["number"] (Fk (GK K C pots) K_ratio_of) :=
  ok_k A.fn c_ratio_of len hk fun cdv A0 outer s H E gd hr => ⟨_, (db_one (ds_ret (de_if (dt_val (de_isRat T R rfl (de_v 0) Z.isinstance_ (by rfl) (by rfl))) (de_v 0) (de_mk1 R (hr.mono (by decide)) (de_v 0) (by rfl)))))⟩
abbrev s_ratio_row : Stmt := top 17
theorem c_ratio_row : FnScope ["numbers", "number"] ["numbers"] (defScope s_ratio_row) := ⟨rfl, rfl, rfl, by decide +kernel, rfl, by decide +kernel, by decide +kernel⟩
def g_ratio_row : GS := (gRet (gLc (gSeq' (gVar 0)) (uName 1) gYes (gCallK K_ratio_of (gCons (gVar 1) gNil)) [1]))
theorem ok_ratio_row {f : Addr} {fd : FuncData} {f_ratio_of : Addr} {fd_ratio_of : FuncData} (A : KT.At K mg "ratio_row" s_ratio_row ["numbers"] f fd)
    (A_ratio_of : KT.At K mg "ratio_of" s_ratio_of ["number"] f_ratio_of fd_ratio_of) (N_ratio_of : FnG P w K mg base L2.CX0 9 f_ratio_of fd_ratio_of ["number"] (Fk (GK K C pots) K_ratio_of))
    (len : ∀ ds Φ, K_ratio_row ds Φ → ds.length = 1) (hk : ∀ ds Φ, K_ratio_row ds Φ → g_ratio_row { nx := fun _ => Φ (.cl .non), rt := Φ } (ds.map .va ++ List.replicate (2 - ds.length) .un)) :
    FnG P w K mg base L2.CX0 10 f fd ["numbers"] (Fk (GK K C pots) K_ratio_row) :=
  ok_k A.fn c_ratio_row len hk fun cdv A0 outer s H E gd hr => ⟨_, (db_one (ds_ret (de_lc (own := [("number", 1)]) (G := GK K C pots) (is := [1]) (u := (uName 1)) rfl c_ratio_row.nd (di_any (de_v 0)) (blkOk_by (N := ["numbers", "number"]) (sc := defScope s_ratio_row) (by decide +kernel)) (by decide) (fun _ _ _ _ _ => (dg_name (i := 1) c_ratio_row.nd rfl (by first | exact .inl rfl | exact .inr rfl))) (fun _ _ _ _ _ => dts_nil) (fun _ _ _ _ _ => (de_call N_ratio_of gd (hr.mono (by decide)) (by rfl) A_ratio_of.mg A_ratio_of.fn.kp A_ratio_of.b pass0 (da_cons (de_v 1) da_nil))))))⟩
end
end EN

set_option Elab.async false
set_option linter.all false
set_option maxRecDepth 100000
set_option maxHeartbeats 4000000
namespace EN
open PySem L2 TW RZ
theorem hk_is_integer (ds : List D) (Φ : R → Prop) (h : K_is_integer ds Φ) : g_is_integer { nx := fun _ => Φ (.cl .non), rt := Φ } (ds.map .va ++ List.replicate (1 - ds.length) .un) := by
  obtain ⟨d, rfl, n, h⟩ := h
  refine ⟨n, ?_⟩
  show if isIB d = true then _ else _
  cases d <;> first | exact iteF h | exact iteT ⟨n, h⟩ | cases n
theorem hk_is_count (ds : List D) (Φ : R → Prop) (h : K_is_count ds Φ) : g_is_count { nx := fun _ => Φ (.cl .non), rt := Φ } (ds.map .va ++ List.replicate (1 - ds.length) .un) := by
  obtain ⟨d, rfl, n, h⟩ := h
  refine ⟨d, rfl, n, ?_⟩
  show if isI d = true then _ else _
  cases d <;> first | exact iteF h | exact iteT ⟨trivial, h⟩ | cases n
theorem hk_is_list (ds : List D) (Φ : R → Prop) (h : K_is_list ds Φ) : g_is_list { nx := fun _ => Φ (.cl .non), rt := Φ } (ds.map .va ++ List.replicate (1 - ds.length) .un) := by
  obtain ⟨d, rfl, n, h⟩ := h
  exact ⟨n, h⟩
theorem hk_is_number (ds : List D) (Φ : R → Prop) (h : K_is_number ds Φ) : g_is_number { nx := fun _ => Φ (.cl .non), rt := Φ } (ds.map .va ++ List.replicate (1 - ds.length) .un) := by
  obtain ⟨d, rfl, n, h⟩ := h
  refine ⟨d, rfl, n, ?_⟩
  show if isI d = true then _ else _
  cases d <;> first | exact iteT h | exact iteF ⟨n, h⟩ | cases n
theorem seq_of {d : D} {l : List D} (h : itD d = some l) : isSeq d = true ∧ noObj d = true := by
  cases d <;> first | exact ⟨rfl, rfl⟩ | cases h
theorem gSeq_of {a : GE} {ρ : Ev} {Φ : List D → Prop} {d : D} {l : List D} (h : itD d = some l) (φ : Φ l) : gSeq' (fun _ Φ => Φ (.cl d)) ρ Φ := by
  cases d <;> first | (cases h; exact φ) | cases h
theorem hk_are_numbers (ds : List D) (Φ : R → Prop) (h : K_are_numbers ds Φ) : g_are_numbers { nx := fun _ => Φ (.cl .non), rt := Φ } (ds.map .va ++ List.replicate (2 - ds.length) .un) := by
  obtain ⟨d, l, rfl, hd, hl, hn, h⟩ := h
  refine ⟨d, rfl, (seq_of hd).2, ?_⟩
  rw [(seq_of hd).1]
  refine iteT ?_
  refine gSeq_of (a := gVar 0) (ρ := [.va d, .un]) hd ⟨hl, rfl, ?_⟩
  refine gLoop_map (fun e => .leaf (.bl (isN e))) (fun e he Ψ φ => ⟨_, rfl, e, rfl, hn e he, φ⟩) ?_
  show kAll [R.nw (.node ([] ++ l.map fun e => .leaf (.bl (isN e))))] _
  have e : bls ((([] : List OT) ++ l.map fun e => OT.leaf (.bl (isN e))).map OT.d) = some (l.map isN) := by
    rw [List.nil_append, List.map_map]
    clear hl hn h hd
    induction l with
    | nil => rfl
    | cons x l ih =>
      rw [List.map_cons]
      show (bls _).map _ = _
      rw [ih]
      rfl
  unfold kAll
  show match D.lst (dsO _) with
    | .lst l => match bls l with
      | some bs => Φ (.cl (.bl (bs.all id)))
      | none => False
    | _ => False
  rw [dsO_map]
  dsimp only
  rw [e]
  dsimp only
  rw [List.all_map]
  exact h
theorem hk_ratio_of (ds : List D) (Φ : R → Prop) (h : K_ratio_of ds Φ) : g_ratio_of { nx := fun _ => Φ (.cl .non), rt := Φ } (ds.map .va ++ List.replicate (1 - ds.length) .un) := by
  obtain ⟨d, q, rfl, n, h⟩ := h
  cases d with
  | int i => cases n; exact ⟨rfl, iteF h⟩
  | rat p => cases n; exact ⟨rfl, iteT h⟩
  | _ => cases n
theorem hk_ratio_row (ds : List D) (Φ : R → Prop) (h : K_ratio_row ds Φ) : g_ratio_row { nx := fun _ => Φ (.cl .non), rt := Φ } (ds.map .va ++ List.replicate (2 - ds.length) .un) := by
  obtain ⟨d, l, qs, rfl, hd, hq, hl, h⟩ := h
  refine gSeq_of (a := gVar 0) (ρ := [.va d, .un]) hd ⟨hl, rfl, ?_⟩
  have key : ∀ (l : List D) (qs : List Rat) (acc : List OT), numsD l = some qs → Φ (.nw (.node (acc ++ rats qs))) → gLoop (uName 1) gYes (gCallK K_ratio_of (gCons (gVar 1) gNil)) [.va d, .un] l acc fun l => Φ (.nw (.node l)) := by
    intro l
    induction l with
    | nil => intro qs acc e φ; cases e; simpa [gLoop, rats] using φ
    | cons x l ih =>
      intro qs acc e φ
      unfold numsD at e
      split at e
      · rename_i q qs' e1 e2
        cases e
        refine ⟨_, rfl, ?_⟩
        unfold gYes
        refine iteT ⟨x, q, rfl, e1, ?_⟩
        exact ih qs' (acc ++ [.leaf (.rat q)]) e2 (by simpa [rats] using φ)
      · cases e
  exact key l qs [] hq (by simpa using h)
end EN

set_option Elab.async false
set_option linter.all false
set_option maxRecDepth 100000
set_option maxHeartbeats 4000000
namespace EN
open PySem L2 TW RZ
open KT (Txt)
def K_led_to : Kt := fun ds Φ => ∃ a b qs rs, ds = [.lst a, .lst b] ∧ numsD a = some qs ∧ numsD b = some rs ∧ qs.length ≤ 1000 ∧ (∀ q ∈ qs, Bits 4000 q) ∧ (∀ q ∈ rs, Bits 4000 q) ∧ Short (List.zipWith (· * ·) qs rs) ∧ Φ (.cl (.rat (sumQ (List.zipWith (· * ·) qs rs))))
def K_are_letters_at : Kt := fun ds Φ => ∃ (l : List Int) (m : Int), ds = [.lst (l.map .int), .int m] ∧ l.length ≤ 16 ∧ (∀ i ∈ l, 0 ≤ i ∧ i < m) ∧ Φ (.cl (.bl true))
def K_told_five : Kt := fun ds Φ => ∃ l qs, ds = [.tup l] ∧ l.length = 5 ∧ numsD l = some qs ∧ Φ (.nw (.node (rats qs)))
structure F5 where
  s : Rat
  t : Rat
  u : Rat
  m : Rat
  v : Rat
structure Q4 where
  a : Rat
  b : Rat
  c : Rat
  d : Rat
def F5.l (f : F5) : List D := [.rat f.s, .rat f.t, .rat f.u, .rat f.m, .rat f.v]
def Q4.l (n : Q4) : List D := [.rat n.a, .rat n.b, .rat n.c, .rat n.d]
structure F5.ok (f : F5) : Prop where
  s : Dy 1 4 f.s
  t : Dy 1 4 f.t
  u : Dy 1 4 f.u
  m : Dy 1 4 f.m
  v : Dy 1 4 f.v
structure Q4.ok (k j : Nat) (n : Q4) : Prop where
  a : Dy k j n.a
  b : Dy k j n.b
  c : Dy k j n.c
  d : Dy k j n.d
def detQ (n sq : Rat) : Rat := (n * n - sq) / 2
def fX (f : F5) (n : Q4) : Q4 := ⟨n.c * (f.m - f.s * f.t) - n.b * detQ f.s f.u - n.d * f.t * detQ f.s f.u, n.a + n.b * f.s + n.c * f.t + n.d * f.m, n.c * f.s + n.d * detQ f.s f.u, -n.c⟩
def fY (f : F5) (n : Q4) : Q4 := ⟨-n.c * detQ f.t f.v, -n.d * detQ f.t f.v, n.a + n.c * f.t, n.b + n.d * f.t⟩
def run (f : F5) : List Int → Q4 → Q4
  | [], n => n
  | i :: w, n => run f w (if i = 0 then fX f n else fY f n)
def tau (f : F5) (n : Q4) : Rat := sumQ [n.a * ((2 : Int) : Rat), n.b * f.s, n.c * f.t, n.d * f.m]
def wsum (f : F5) (w : List Int) : Rat := tau f (run f w ⟨1, 0, 0, 0⟩)
def K_determinant_by : Kt := fun ds Φ => ∃ n sq, ds = [.rat n, .rat sq] ∧ Dy 1 4 n ∧ Dy 1 4 sq ∧ Φ (.cl (.rat (detQ n sq)))
def K_first_behind : Kt := fun ds Φ => ∃ (f : F5) (n : Q4) (k b : Nat), ds = [.lst f.l, .lst n.l] ∧ f.ok ∧ n.ok k b ∧ k ≤ 1000 ∧ b ≤ 1000 ∧ Φ (.nw (.node ((fX f n).l.map .leaf)))
def K_second_behind : Kt := fun ds Φ => ∃ (f : F5) (n : Q4) (k b : Nat), ds = [.lst f.l, .lst n.l] ∧ f.ok ∧ n.ok k b ∧ k ≤ 1000 ∧ b ≤ 1000 ∧ Φ (.nw (.node ((fY f n).l.map .leaf)))
def K_sum_by : Kt := fun ds Φ => ∃ (f : F5) (w : List Int), ds = [.lst f.l, .lst (w.map .int)] ∧ f.ok ∧ w.length ≤ 16 ∧ Φ (.cl (.rat (wsum f w)))
def K_word_by : Kt := fun ds Φ => ∃ (f : F5) (l : List D) (w : List Int), ds = [.tup l, .lst (w.map .int)] ∧ l.length = 5 ∧ numsD l = some [f.s, f.t, f.u, f.m, f.v] ∧ f.ok ∧ w.length ≤ 16 ∧ (∀ i ∈ w, 0 ≤ i ∧ i < 2) ∧ Φ (.cl (.rat (wsum f w)))
section
variable {P : Program} {w : World} {K : W.Frag} {mg : Str → Option Value} {base : Heap} {C : Addr} {pots : List Addr}
abbrev s_led_to : Stmt := top 19
theorem c_led_to : FnScope ["row", "other", "mine", "its"] ["row", "other"] (defScope s_led_to) := ⟨rfl, rfl, rfl, by decide +kernel, rfl, by decide +kernel, by decide +kernel⟩
def g_led_to : GS := (gRet (gTot (gLc (gZip (gVar 0) (gVar 1)) (uTup (uCons 2 (uCons 3 uNil))) gYes (gOp kMul (gCallK K_ratio_of (gCons (gVar 2) gNil)) (gVar 3)) [2, 3])))
theorem ok_led_to {f : Addr} {fd : FuncData} {f_ratio_of : Addr} {fd_ratio_of : FuncData} (A : KT.At K mg "led_to" s_led_to ["row", "other"] f fd) (R : RatF P w K mg base C) (Z : Ns mg) {f_o g_o p_o : Addr} {fd_o : FuncData} {mc_o : Value} (V : OvX P w K mg base C f_o g_o p_o fd_o mc_o)
    (A_ratio_of : KT.At K mg "ratio_of" s_ratio_of ["number"] f_ratio_of fd_ratio_of) (N_ratio_of : FnG P w K mg base L2.CX0 9 f_ratio_of fd_ratio_of ["number"] (Fk (GK K C pots) K_ratio_of))
    (len : ∀ ds Φ, K_led_to ds Φ → ds.length = 2) (hk : ∀ ds Φ, K_led_to ds Φ → g_led_to { nx := fun _ => Φ (.cl .non), rt := Φ } (ds.map .va ++ List.replicate (4 - ds.length) .un)) :
    FnG P w K mg base L2.CX0 10 f fd ["row", "other"] (Fk (GK K C pots) K_led_to) :=
  ok_k A.fn c_led_to len hk fun cdv A0 outer s H E gd hr => ⟨_, (db_one (ds_ret (de_total R V.cr V.cm V.tot (hr.mono (by decide)) (by rfl) (de_lc (own := [("mine", 2), ("its", 3)]) (G := GK K C pots) (is := [2, 3]) (u := (uTup (uCons 2 (uCons 3 uNil)))) rfl c_led_to.nd (di_zip (by rfl) Z.zip_ (de_v 0) (de_v 1)) (blkOk_by (N := ["row", "other", "mine", "its"]) (sc := defScope s_led_to) (by decide +kernel)) (by decide) (fun _ _ _ _ _ => (dg_tup rfl (dgs_cons (dg_name (i := 2) c_led_to.nd rfl (by first | exact .inl rfl | exact .inr rfl)) (dgs_cons (dg_name (i := 3) c_led_to.nd rfl (by first | exact .inl rfl | exact .inr rfl)) dgs_nil)) (uCons_len (uCons_len uNil_len)))) (fun _ _ _ _ _ => dts_nil) (fun _ _ _ _ _ => (de_op (op_mulA R (hr.mono (by decide))) (os_mul (G := GK K C pots)) (de_call N_ratio_of gd (hr.mono (by decide)) (by rfl) A_ratio_of.mg A_ratio_of.fn.kp A_ratio_of.b pass0 (da_cons (de_v 2) da_nil)) (de_v 3)))))))⟩
abbrev s_are_letters_at : Stmt := top 22
theorem c_are_letters_at : FnScope ["value", "many", "at"] ["value", "many"] (defScope s_are_letters_at) := ⟨rfl, rfl, rfl, by decide +kernel, rfl, by decide +kernel, by decide +kernel⟩
def g_are_letters_at : GS := (gSeq (gIfS (gOr (gNot (gTest (gCallK K_is_list (gCons (gVar 0) gNil)))) (gTest (gOp kGt (gCa kLen (gCons (gVar 0) gNil)) (gC (.int 16))))) (gRet (gC (.bl false))) gNext) (gRet (gCa kAll (gCons (gLc (gSeq' (gVar 0)) (uName 2) gYes (gAndV (gCallK K_is_count (gCons (gVar 2) gNil)) (gOp kLt (gVar 2) (gVar 1))) [2]) gNil))))
theorem ok_are_letters_at {f : Addr} {fd : FuncData} {f_is_list : Addr} {fd_is_list : FuncData} {f_is_count : Addr} {fd_is_count : FuncData} (A : KT.At K mg "are_letters_at" s_are_letters_at ["value", "many"] f fd) (Z : Ns mg) (n_LONGEST_WORD : ∃ t, mg "LONGEST_WORD" = some (.int 16 t))
    (A_is_list : KT.At K mg "is_list" s_is_list ["value"] f_is_list fd_is_list) (N_is_list : FnG P w K mg base L2.CX0 9 f_is_list fd_is_list ["value"] (Fk (GK K C pots) K_is_list))
    (A_is_count : KT.At K mg "is_count" s_is_count ["value"] f_is_count fd_is_count) (N_is_count : FnG P w K mg base L2.CX0 10 f_is_count fd_is_count ["value"] (Fk (GK K C pots) K_is_count))
    (len : ∀ ds Φ, K_are_letters_at ds Φ → ds.length = 2) (hk : ∀ ds Φ, K_are_letters_at ds Φ → g_are_letters_at { nx := fun _ => Φ (.cl .non), rt := Φ } (ds.map .va ++ List.replicate (3 - ds.length) .un)) :
    FnG P w K mg base L2.CX0 11 f fd ["value", "many"] (Fk (GK K C pots) K_are_letters_at) :=
  ok_k A.fn c_are_letters_at len hk fun cdv A0 outer s H E gd hr => ⟨_, (db_cons (ds_if (DW.t (dw_or (dt_not (dt_val (de_call N_is_list gd (hr.mono (by decide)) (by rfl) A_is_list.mg A_is_list.fn.kp A_is_list.b pass0 (da_cons (de_v 0) da_nil)))) (dw_or1 (dt_cmp op_gt (os_gt (G := GK K C pots)) (de_callB (call_lenG (G := GK K C pots) rfl) (ca_len rfl) (by rfl) Z.len_ PySem.boot_len (da_cons (de_v 0) da_nil)) (de_gint (by rfl) (Classical.choose_spec n_LONGEST_WORD)) (nomark _))))) (db_one (ds_ret de_bl)) db_nil) (db_one (ds_ret (de_callB (cr_allG (G := GK K C pots) rfl rfl) ca_all (by rfl) Z.all_ (by decide +kernel) (da_cons (de_lc (own := [("at", 2)]) (G := GK K C pots) (is := [2]) (u := (uName 2)) rfl c_are_letters_at.nd (di_any (de_v 0)) (blkOk_by (N := ["value", "many", "at"]) (sc := defScope s_are_letters_at) (by decide +kernel)) (by decide) (fun _ _ _ _ _ => (dg_name (i := 2) c_are_letters_at.nd rfl (by first | exact .inl rfl | exact .inr rfl))) (fun _ _ _ _ _ => dts_nil) (fun _ _ _ _ _ => (de_and (de_call N_is_count gd (hr.mono (by decide)) (by rfl) A_is_count.mg A_is_count.fn.kp A_is_count.b pass0 (da_cons (de_v 2) da_nil)) (de_one (de_cmp op_lt (os_lt (G := GK K C pots)) (de_v 2) (de_v 1) (nomark _)))))) da_nil)))))⟩
abbrev s_told_five : Stmt := top 25
theorem c_told_five : FnScope ["value"] ["value"] (defScope s_told_five) := ⟨rfl, rfl, rfl, by decide +kernel, rfl, by decide +kernel, by decide +kernel⟩
def g_told_five : GS := (gSeq (gIfS (gOr (gNot (gTest (gIs isT (gVar 0)))) (gOr (gTest (gOp kNe (gCa kLen (gCons (gVar 0) gNil)) (gC (.int 5)))) (gNot (gTest (gCallK K_are_numbers (gCons (gVar 0) gNil)))))) gNever gNext) (gRet (gCallK K_ratio_row (gCons (gVar 0) gNil))))
theorem ok_told_five {f : Addr} {fd : FuncData} {f_are_numbers : Addr} {fd_are_numbers : FuncData} {f_ratio_row : Addr} {fd_ratio_row : FuncData} (A : KT.At K mg "told_five" s_told_five ["value"] f fd) (R : RatF P w K mg base C) (T : TyF K C) (Z : Ns mg)
    (A_are_numbers : KT.At K mg "are_numbers" s_are_numbers ["value"] f_are_numbers fd_are_numbers) (N_are_numbers : FnG P w K mg base L2.CX0 11 f_are_numbers fd_are_numbers ["value"] (Fk (GK K C pots) K_are_numbers))
    (A_ratio_row : KT.At K mg "ratio_row" s_ratio_row ["numbers"] f_ratio_row fd_ratio_row) (N_ratio_row : FnG P w K mg base L2.CX0 10 f_ratio_row fd_ratio_row ["numbers"] (Fk (GK K C pots) K_ratio_row))
    (len : ∀ ds Φ, K_told_five ds Φ → ds.length = 1) (hk : ∀ ds Φ, K_told_five ds Φ → g_told_five { nx := fun _ => Φ (.cl .non), rt := Φ } (ds.map .va ++ List.replicate (1 - ds.length) .un)) :
    FnG P w K mg base L2.CX0 12 f fd ["value"] (Fk (GK K C pots) K_told_five) :=
  ok_k A.fn c_told_five len hk fun cdv A0 outer s H E gd hr => ⟨_, (db_cons (ds_if (DW.t (dw_or (dt_not (dt_val (de_isTuple T rfl (de_v 0) Z.isinstance_ Z.tuple_ (by rfl) (by rfl)))) (dw_or (dt_cmp (op_neA (G := GK K C pots) R rfl (hr.mono (by decide))) (os_ne (G := GK K C pots)) (de_callB (call_lenG (G := GK K C pots) rfl) (ca_len rfl) (by rfl) Z.len_ PySem.boot_len (da_cons (de_v 0) da_nil)) de_int (nomark _)) (dw_or1 (dt_not (dt_val (de_call N_are_numbers gd (hr.mono (by decide)) (by rfl) A_are_numbers.mg A_are_numbers.fn.kp A_are_numbers.b pass0 (da_cons (de_v 0) da_nil)))))))) (db_one ds_never) db_nil) (db_one (ds_ret (de_call N_ratio_row gd (hr.mono (by decide)) (by rfl) A_ratio_row.mg A_ratio_row.fn.kp A_ratio_row.b pass0 (da_cons (de_v 0) da_nil)))))⟩
abbrev s_determinant_by : Stmt := top 29
theorem c_determinant_by : FnScope ["number", "squared"] ["number", "squared"] (defScope s_determinant_by) := ⟨rfl, rfl, rfl, by decide +kernel, rfl, by decide +kernel, by decide +kernel⟩
def g_determinant_by : GS := (gRet (gOv (gOp kSub (gOp kMul (gVar 0) (gVar 0)) (gVar 1)) (gC (.int 2))))
theorem ok_determinant_by {f : Addr} {fd : FuncData} (A : KT.At K mg "determinant_by" s_determinant_by ["number", "squared"] f fd) (R : RatF P w K mg base C) {f_o g_o p_o : Addr} {fd_o : FuncData} {mc_o : Value} (V : OvX P w K mg base C f_o g_o p_o fd_o mc_o)
    (len : ∀ ds Φ, K_determinant_by ds Φ → ds.length = 2) (hk : ∀ ds Φ, K_determinant_by ds Φ → g_determinant_by { nx := fun _ => Φ (.cl .non), rt := Φ } (ds.map .va ++ List.replicate (2 - ds.length) .un)) :
    FnG P w K mg base L2.CX0 9 f fd ["number", "squared"] (Fk (GK K C pots) K_determinant_by) :=
  ok_k A.fn c_determinant_by len hk fun cdv A0 outer s H E gd hr => ⟨_, (db_one (ds_ret (de_over V.cl V.over.m V.over.f V.over.b (hr.mono (by decide)) (de_op (op_subA R (hr.mono (by decide))) (os_sub (G := GK K C pots)) (de_op (op_mulA R (hr.mono (by decide))) (os_mul (G := GK K C pots)) (de_v 0) (de_v 0)) (de_v 1)) de_int)))⟩
abbrev s_first_behind : Stmt := top 27
theorem c_first_behind : FnScope ["told", "numbers", "first", "second", "squared", "both", "_", "whole", "by_first", "by_second", "by_both", "det"] ["told", "numbers"] (defScope s_first_behind) := ⟨rfl, rfl, rfl, by decide +kernel, rfl, by decide +kernel, by decide +kernel⟩
def g_first_behind : GS := (gSeq (gAsg (uSq (uCons 2 (uCons 3 (uCons 4 (uCons 5 (uCons 6 uNil)))))) (gVar 0)) (gSeq (gAsg (uSq (uCons 7 (uCons 8 (uCons 9 (uCons 10 uNil))))) (gVar 1)) (gSeq (gSet 11 (gCallK K_determinant_by (gCons (gVar 2) (gCons (gVar 4) gNil)))) (gRet (gLst (gCons (gOp kSub (gOp kSub (gOp kMul (gVar 9) (gOp kSub (gVar 5) (gOp kMul (gVar 2) (gVar 3)))) (gOp kMul (gVar 8) (gVar 11))) (gOp kMul (gOp kMul (gVar 10) (gVar 3)) (gVar 11))) (gCons (gOp kAdd (gOp kAdd (gOp kAdd (gVar 7) (gOp kMul (gVar 8) (gVar 2))) (gOp kMul (gVar 9) (gVar 3))) (gOp kMul (gVar 10) (gVar 5))) (gCons (gOp kAdd (gOp kMul (gVar 9) (gVar 2)) (gOp kMul (gVar 10) (gVar 11))) (gCons (gUn kNeg (gVar 9)) gNil)))))))))
theorem ok_first_behind {f : Addr} {fd : FuncData} {f_determinant_by : Addr} {fd_determinant_by : FuncData} (A : KT.At K mg "first_behind" s_first_behind ["told", "numbers"] f fd) (R : RatF P w K mg base C)
    (A_determinant_by : KT.At K mg "determinant_by" s_determinant_by ["number", "squared"] f_determinant_by fd_determinant_by) (N_determinant_by : FnG P w K mg base L2.CX0 9 f_determinant_by fd_determinant_by ["number", "squared"] (Fk (GK K C pots) K_determinant_by))
    (len : ∀ ds Φ, K_first_behind ds Φ → ds.length = 2) (hk : ∀ ds Φ, K_first_behind ds Φ → g_first_behind { nx := fun _ => Φ (.cl .non), rt := Φ } (ds.map .va ++ List.replicate (12 - ds.length) .un)) :
    FnG P w K mg base L2.CX0 10 f fd ["told", "numbers"] (Fk (GK K C pots) K_first_behind) :=
  ok_k A.fn c_first_behind len hk fun cdv A0 outer s H E gd hr => ⟨_, (db_cons (ds_asg (de_v 0) (dg_sq rfl (dgs_cons (dg_name (i := 2) c_first_behind.nd rfl (by first | exact .inl rfl | exact .inr rfl)) (dgs_cons (dg_name (i := 3) c_first_behind.nd rfl (by first | exact .inl rfl | exact .inr rfl)) (dgs_cons (dg_name (i := 4) c_first_behind.nd rfl (by first | exact .inl rfl | exact .inr rfl)) (dgs_cons (dg_name (i := 5) c_first_behind.nd rfl (by first | exact .inl rfl | exact .inr rfl)) (dgs_cons (dg_name (i := 6) c_first_behind.nd rfl (by first | exact .inl rfl | exact .inr rfl)) dgs_nil))))) (uCons_len (uCons_len (uCons_len (uCons_len (uCons_len uNil_len))))))) (db_cons (ds_asg (de_v 1) (dg_sq rfl (dgs_cons (dg_name (i := 7) c_first_behind.nd rfl (by first | exact .inl rfl | exact .inr rfl)) (dgs_cons (dg_name (i := 8) c_first_behind.nd rfl (by first | exact .inl rfl | exact .inr rfl)) (dgs_cons (dg_name (i := 9) c_first_behind.nd rfl (by first | exact .inl rfl | exact .inr rfl)) (dgs_cons (dg_name (i := 10) c_first_behind.nd rfl (by first | exact .inl rfl | exact .inr rfl)) dgs_nil)))) (uCons_len (uCons_len (uCons_len (uCons_len uNil_len)))))) (db_cons (ds_set (i := 11) c_first_behind.nd rfl (by first | exact .inl rfl | exact .inr rfl) (de_call N_determinant_by gd (hr.mono (by decide)) (by rfl) A_determinant_by.mg A_determinant_by.fn.kp A_determinant_by.b pass0 (da_cons (de_v 2) (da_cons (de_v 4) da_nil)))) (db_one (ds_ret (de_lst (da_cons (de_op (op_subA R (hr.mono (by decide))) (os_sub (G := GK K C pots)) (de_op (op_subA R (hr.mono (by decide))) (os_sub (G := GK K C pots)) (de_op (op_mulA R (hr.mono (by decide))) (os_mul (G := GK K C pots)) (de_v 9) (de_op (op_subA R (hr.mono (by decide))) (os_sub (G := GK K C pots)) (de_v 5) (de_op (op_mulA R (hr.mono (by decide))) (os_mul (G := GK K C pots)) (de_v 2) (de_v 3)))) (de_op (op_mulA R (hr.mono (by decide))) (os_mul (G := GK K C pots)) (de_v 8) (de_v 11))) (de_op (op_mulA R (hr.mono (by decide))) (os_mul (G := GK K C pots)) (de_op (op_mulA R (hr.mono (by decide))) (os_mul (G := GK K C pots)) (de_v 10) (de_v 3)) (de_v 11))) (da_cons (de_op (op_addA R (hr.mono (by decide))) (os_add (G := GK K C pots)) (de_op (op_addA R (hr.mono (by decide))) (os_add (G := GK K C pots)) (de_op (op_addA R (hr.mono (by decide))) (os_add (G := GK K C pots)) (de_v 7) (de_op (op_mulA R (hr.mono (by decide))) (os_mul (G := GK K C pots)) (de_v 8) (de_v 2))) (de_op (op_mulA R (hr.mono (by decide))) (os_mul (G := GK K C pots)) (de_v 9) (de_v 3))) (de_op (op_mulA R (hr.mono (by decide))) (os_mul (G := GK K C pots)) (de_v 10) (de_v 5))) (da_cons (de_op (op_addA R (hr.mono (by decide))) (os_add (G := GK K C pots)) (de_op (op_mulA R (hr.mono (by decide))) (os_mul (G := GK K C pots)) (de_v 9) (de_v 2)) (de_op (op_mulA R (hr.mono (by decide))) (os_mul (G := GK K C pots)) (de_v 10) (de_v 11))) (da_cons (de_un (un_negA R (hr.mono (by decide))) (us_neg (G := GK K C pots)) (de_v 9)) da_nil))))))))))⟩
abbrev s_second_behind : Stmt := top 28
theorem c_second_behind : FnScope ["told", "numbers", "_", "second", "squared", "whole", "by_first", "by_second", "by_both", "det"] ["told", "numbers"] (defScope s_second_behind) := ⟨rfl, rfl, rfl, by decide +kernel, rfl, by decide +kernel, by decide +kernel⟩
def g_second_behind : GS := (gSeq (gAsg (uSq (uCons 2 (uCons 3 (uCons 2 (uCons 2 (uCons 4 uNil)))))) (gVar 0)) (gSeq (gAsg (uSq (uCons 5 (uCons 6 (uCons 7 (uCons 8 uNil))))) (gVar 1)) (gSeq (gSet 9 (gCallK K_determinant_by (gCons (gVar 3) (gCons (gVar 4) gNil)))) (gRet (gLst (gCons (gOp kMul (gUn kNeg (gVar 7)) (gVar 9)) (gCons (gOp kMul (gUn kNeg (gVar 8)) (gVar 9)) (gCons (gOp kAdd (gVar 5) (gOp kMul (gVar 7) (gVar 3))) (gCons (gOp kAdd (gVar 6) (gOp kMul (gVar 8) (gVar 3))) gNil)))))))))
theorem ok_second_behind {f : Addr} {fd : FuncData} {f_determinant_by : Addr} {fd_determinant_by : FuncData} (A : KT.At K mg "second_behind" s_second_behind ["told", "numbers"] f fd) (R : RatF P w K mg base C)
    (A_determinant_by : KT.At K mg "determinant_by" s_determinant_by ["number", "squared"] f_determinant_by fd_determinant_by) (N_determinant_by : FnG P w K mg base L2.CX0 9 f_determinant_by fd_determinant_by ["number", "squared"] (Fk (GK K C pots) K_determinant_by))
    (len : ∀ ds Φ, K_second_behind ds Φ → ds.length = 2) (hk : ∀ ds Φ, K_second_behind ds Φ → g_second_behind { nx := fun _ => Φ (.cl .non), rt := Φ } (ds.map .va ++ List.replicate (10 - ds.length) .un)) :
    FnG P w K mg base L2.CX0 10 f fd ["told", "numbers"] (Fk (GK K C pots) K_second_behind) :=
  ok_k A.fn c_second_behind len hk fun cdv A0 outer s H E gd hr => ⟨_, (db_cons (ds_asg (de_v 0) (dg_sq rfl (dgs_cons (dg_name (i := 2) c_second_behind.nd rfl (by first | exact .inl rfl | exact .inr rfl)) (dgs_cons (dg_name (i := 3) c_second_behind.nd rfl (by first | exact .inl rfl | exact .inr rfl)) (dgs_cons (dg_name (i := 2) c_second_behind.nd rfl (by first | exact .inl rfl | exact .inr rfl)) (dgs_cons (dg_name (i := 2) c_second_behind.nd rfl (by first | exact .inl rfl | exact .inr rfl)) (dgs_cons (dg_name (i := 4) c_second_behind.nd rfl (by first | exact .inl rfl | exact .inr rfl)) dgs_nil))))) (uCons_len (uCons_len (uCons_len (uCons_len (uCons_len uNil_len))))))) (db_cons (ds_asg (de_v 1) (dg_sq rfl (dgs_cons (dg_name (i := 5) c_second_behind.nd rfl (by first | exact .inl rfl | exact .inr rfl)) (dgs_cons (dg_name (i := 6) c_second_behind.nd rfl (by first | exact .inl rfl | exact .inr rfl)) (dgs_cons (dg_name (i := 7) c_second_behind.nd rfl (by first | exact .inl rfl | exact .inr rfl)) (dgs_cons (dg_name (i := 8) c_second_behind.nd rfl (by first | exact .inl rfl | exact .inr rfl)) dgs_nil)))) (uCons_len (uCons_len (uCons_len (uCons_len uNil_len)))))) (db_cons (ds_set (i := 9) c_second_behind.nd rfl (by first | exact .inl rfl | exact .inr rfl) (de_call N_determinant_by gd (hr.mono (by decide)) (by rfl) A_determinant_by.mg A_determinant_by.fn.kp A_determinant_by.b pass0 (da_cons (de_v 3) (da_cons (de_v 4) da_nil)))) (db_one (ds_ret (de_lst (da_cons (de_op (op_mulA R (hr.mono (by decide))) (os_mul (G := GK K C pots)) (de_un (un_negA R (hr.mono (by decide))) (us_neg (G := GK K C pots)) (de_v 7)) (de_v 9)) (da_cons (de_op (op_mulA R (hr.mono (by decide))) (os_mul (G := GK K C pots)) (de_un (un_negA R (hr.mono (by decide))) (us_neg (G := GK K C pots)) (de_v 8)) (de_v 9)) (da_cons (de_op (op_addA R (hr.mono (by decide))) (os_add (G := GK K C pots)) (de_v 5) (de_op (op_mulA R (hr.mono (by decide))) (os_mul (G := GK K C pots)) (de_v 7) (de_v 3))) (da_cons (de_op (op_addA R (hr.mono (by decide))) (os_add (G := GK K C pots)) (de_v 6) (de_op (op_mulA R (hr.mono (by decide))) (os_mul (G := GK K C pots)) (de_v 8) (de_v 3))) da_nil))))))))))⟩
abbrev s_sum_by : Stmt := top 26
theorem c_sum_by : FnScope ["told", "word", "numbers", "at", "first", "second", "_", "both"] ["told", "word"] (defScope s_sum_by) := ⟨rfl, rfl, rfl, by decide +kernel, rfl, by decide +kernel, by decide +kernel⟩
def g_sum_by : GS := (gSeq (gSet 2 (gLst (gCons (gMk1 (gC (.int 1))) (gCons (gMk1 (gC (.int 0))) (gCons (gMk1 (gC (.int 0))) (gCons (gMk1 (gC (.int 0))) gNil)))))) (gSeq (gFor (gSeq' (gVar 1)) (uName 3) (gSet 2 (gIf (gTest (gOp kEq (gVar 3) (gC (.int 0)))) (gCallK K_first_behind (gCons (gVar 0) (gCons (gVar 2) gNil))) (gCallK K_second_behind (gCons (gVar 0) (gCons (gVar 2) gNil)))))) (gSeq (gAsg (uSq (uCons 4 (uCons 5 (uCons 6 (uCons 7 (uCons 6 uNil)))))) (gVar 0)) (gRet (gCallK K_led_to (gCons (gVar 2) (gCons (gLst (gCons (gC (.int 2)) (gCons (gVar 4) (gCons (gVar 5) (gCons (gVar 7) gNil))))) gNil)))))))
theorem ok_sum_by {f : Addr} {fd : FuncData} {f_first_behind : Addr} {fd_first_behind : FuncData} {f_second_behind : Addr} {fd_second_behind : FuncData} {f_led_to : Addr} {fd_led_to : FuncData} (A : KT.At K mg "sum_by" s_sum_by ["told", "word"] f fd) (R : RatF P w K mg base C)
    (A_first_behind : KT.At K mg "first_behind" s_first_behind ["told", "numbers"] f_first_behind fd_first_behind) (N_first_behind : FnG P w K mg base L2.CX0 10 f_first_behind fd_first_behind ["told", "numbers"] (Fk (GK K C pots) K_first_behind))
    (A_second_behind : KT.At K mg "second_behind" s_second_behind ["told", "numbers"] f_second_behind fd_second_behind) (N_second_behind : FnG P w K mg base L2.CX0 10 f_second_behind fd_second_behind ["told", "numbers"] (Fk (GK K C pots) K_second_behind))
    (A_led_to : KT.At K mg "led_to" s_led_to ["row", "other"] f_led_to fd_led_to) (N_led_to : FnG P w K mg base L2.CX0 10 f_led_to fd_led_to ["row", "other"] (Fk (GK K C pots) K_led_to))
    (len : ∀ ds Φ, K_sum_by ds Φ → ds.length = 2) (hk : ∀ ds Φ, K_sum_by ds Φ → g_sum_by { nx := fun _ => Φ (.cl .non), rt := Φ } (ds.map .va ++ List.replicate (8 - ds.length) .un)) :
    FnG P w K mg base L2.CX0 11 f fd ["told", "word"] (Fk (GK K C pots) K_sum_by) :=
  ok_k A.fn c_sum_by len hk fun cdv A0 outer s H E gd hr => ⟨_, (db_cons (ds_set (i := 2) c_sum_by.nd rfl (by first | exact .inl rfl | exact .inr rfl) (de_lst (da_cons (de_mk1 R (hr.mono (by decide)) de_int (by rfl)) (da_cons (de_mk1 R (hr.mono (by decide)) de_int (by rfl)) (da_cons (de_mk1 R (hr.mono (by decide)) de_int (by rfl)) (da_cons (de_mk1 R (hr.mono (by decide)) de_int (by rfl)) da_nil)))))) (db_cons (ds_for PassesOwn.never rfl (di_any (de_v 1)) (dg_name (i := 3) c_sum_by.nd rfl (by first | exact .inl rfl | exact .inr rfl)) (db_one (ds_set (i := 2) c_sum_by.nd rfl (by first | exact .inl rfl | exact .inr rfl) (de_if (dt_cmp (op_eqA (G := GK K C pots) R rfl (hr.mono (by decide))) (os_eq (G := GK K C pots)) (de_v 3) de_int (nomark _)) (de_call N_first_behind gd (hr.mono (by decide)) (by rfl) A_first_behind.mg A_first_behind.fn.kp A_first_behind.b pass0 (da_cons (de_v 0) (da_cons (de_v 2) da_nil))) (de_call N_second_behind gd (hr.mono (by decide)) (by rfl) A_second_behind.mg A_second_behind.fn.kp A_second_behind.b pass0 (da_cons (de_v 0) (da_cons (de_v 2) da_nil))))))) (db_cons (ds_asg (de_v 0) (dg_sq rfl (dgs_cons (dg_name (i := 4) c_sum_by.nd rfl (by first | exact .inl rfl | exact .inr rfl)) (dgs_cons (dg_name (i := 5) c_sum_by.nd rfl (by first | exact .inl rfl | exact .inr rfl)) (dgs_cons (dg_name (i := 6) c_sum_by.nd rfl (by first | exact .inl rfl | exact .inr rfl)) (dgs_cons (dg_name (i := 7) c_sum_by.nd rfl (by first | exact .inl rfl | exact .inr rfl)) (dgs_cons (dg_name (i := 6) c_sum_by.nd rfl (by first | exact .inl rfl | exact .inr rfl)) dgs_nil))))) (uCons_len (uCons_len (uCons_len (uCons_len (uCons_len uNil_len))))))) (db_one (ds_ret (de_call N_led_to gd (hr.mono (by decide)) (by rfl) A_led_to.mg A_led_to.fn.kp A_led_to.b pass0 (da_cons (de_v 2) (da_cons (de_lst (da_cons de_int (da_cons (de_v 4) (da_cons (de_v 5) (da_cons (de_v 7) da_nil))))) da_nil))))))))⟩
abbrev s_word_by : Stmt := top 24
theorem c_word_by : FnScope ["five", "word", "told"] ["five", "word"] (defScope s_word_by) := ⟨rfl, rfl, rfl, by decide +kernel, rfl, by decide +kernel, by decide +kernel⟩
def g_word_by : GS := (gSeq (gSet 2 (gCallK K_told_five (gCons (gVar 0) gNil))) (gSeq (gIfS (gNot (gTest (gCallK K_are_letters_at (gCons (gVar 1) (gCons (gC (.int 2)) gNil))))) gNever gNext) (gRet (gCallK K_sum_by (gCons (gVar 2) (gCons (gVar 1) gNil))))))
theorem ok_word_by {f : Addr} {fd : FuncData} {f_told_five : Addr} {fd_told_five : FuncData} {f_are_letters_at : Addr} {fd_are_letters_at : FuncData} {f_sum_by : Addr} {fd_sum_by : FuncData} (A : KT.At K mg "word_by" s_word_by ["five", "word"] f fd)
    (A_told_five : KT.At K mg "told_five" s_told_five ["value"] f_told_five fd_told_five) (N_told_five : FnG P w K mg base L2.CX0 12 f_told_five fd_told_five ["value"] (Fk (GK K C pots) K_told_five))
    (A_are_letters_at : KT.At K mg "are_letters_at" s_are_letters_at ["value", "many"] f_are_letters_at fd_are_letters_at) (N_are_letters_at : FnG P w K mg base L2.CX0 11 f_are_letters_at fd_are_letters_at ["value", "many"] (Fk (GK K C pots) K_are_letters_at))
    (A_sum_by : KT.At K mg "sum_by" s_sum_by ["told", "word"] f_sum_by fd_sum_by) (N_sum_by : FnG P w K mg base L2.CX0 11 f_sum_by fd_sum_by ["told", "word"] (Fk (GK K C pots) K_sum_by))
    (len : ∀ ds Φ, K_word_by ds Φ → ds.length = 2) (hk : ∀ ds Φ, K_word_by ds Φ → g_word_by { nx := fun _ => Φ (.cl .non), rt := Φ } (ds.map .va ++ List.replicate (3 - ds.length) .un)) :
    FnG P w K mg base L2.CX0 13 f fd ["five", "word"] (Fk (GK K C pots) K_word_by) :=
  ok_k A.fn c_word_by len hk fun cdv A0 outer s H E gd hr => ⟨_, (db_cons (ds_set (i := 2) c_word_by.nd rfl (by first | exact .inl rfl | exact .inr rfl) (de_call N_told_five gd (hr.mono (by decide)) (by rfl) A_told_five.mg A_told_five.fn.kp A_told_five.b pass0 (da_cons (de_v 0) da_nil))) (db_cons (ds_if (dt_not (dt_val (de_call N_are_letters_at gd (hr.mono (by decide)) (by rfl) A_are_letters_at.mg A_are_letters_at.fn.kp A_are_letters_at.b pass0 (da_cons (de_v 1) (da_cons de_int da_nil))))) (db_one ds_never) db_nil) (db_one (ds_ret (de_call N_sum_by gd (hr.mono (by decide)) (by rfl) A_sum_by.mg A_sum_by.fn.kp A_sum_by.b pass0 (da_cons (de_v 2) (da_cons (de_v 1) da_nil)))))))⟩
end
end EN

set_option Elab.async false
set_option linter.all false
set_option maxRecDepth 100000
set_option maxHeartbeats 4000000
set_option profiler true
set_option profiler.threshold 1000
namespace EN
open PySem L2 TW RZ
theorem hk_determinant_by (ds : List D) (Φ : R → Prop) (h : K_determinant_by ds Φ) : g_determinant_by { nx := fun _ => Φ (.cl .non), rt := Φ } (ds.map .va ++ List.replicate (2 - ds.length) .un) := by
  obtain ⟨n, q, rfl, hn, hq, h⟩ := h
  have b1 : Bits 4000 n := hn.bits (by decide) (by decide)
  have b2 : Bits 4000 q := hq.bits (by decide) (by decide)
  have b3 : Bits 4000 (n * n) := (hn.mul hn).bits (by decide) (by decide)
  have b4 : Bits 4000 (n * n - q) := Dy.bits (k := 2) (m := 9) ((hn.mul hn).sub (hq.to (k' := 2) (m' := 8) (by decide) (by decide))) (by decide) (by decide)
  have b5 : Bits 4000 ((2 : Int) : Rat) := ⟨by decide, by decide⟩
  refine ⟨rfl, b1, b1, rfl, b3, b2, ?_⟩
  exact ⟨b4, b5, by decide, h⟩
theorem detQ_dy {n q : Rat} (hn : Dy 1 4 n) (hq : Dy 1 4 q) : Dy 3 9 (detQ n q) := by
  obtain ⟨a, e, ha⟩ := Dy.sub (k := 2) (m := 8) (hn.mul hn) (hq.to (k' := 2) (m' := 8) (by decide) (by decide))
  refine ⟨a, ?_, ha⟩
  unfold detQ
  rw [e, Rat.div_def, show (2 : Rat)⁻¹ = Rat.divInt 1 2 by decide +kernel, Rat.divInt_mul_divInt, Int.mul_one]
  rfl
section
variable {f : F5} {n : Q4} {k b : Nat}
theorem fX_ok (hf : f.ok) (hn : n.ok k b) : (fX f n).ok (k + 4) (b + 17) where
  a := by
    have d := detQ_dy hf.s hf.u
    have e1 : Dy 2 9 (f.m - f.s * f.t) := Dy.sub (k := 2) (m := 8) (hf.m.to (by decide) (by decide)) (hf.s.mul hf.t)
    have e2 := (hn.c.mul e1).to (k' := k + 4) (m' := b + 15) (by omega) (by omega)
    have e3 := (hn.b.mul d).to (k' := k + 4) (m' := b + 15) (by omega) (by omega)
    have e4 := ((hn.d.mul hf.t).mul d).to (k' := k + 4) (m' := b + 16) (by omega) (by omega)
    exact (e2.sub e3).sub e4
  b := by
    have e1 := hn.a.to (k' := k + 4) (m' := b + 12) (by omega) (by omega)
    have e2 := (hn.b.mul hf.s).to (k' := k + 4) (m' := b + 12) (by omega) (by omega)
    have e3 := (hn.c.mul hf.t).to (k' := k + 4) (m' := b + 13) (by omega) (by omega)
    have e4 := (hn.d.mul hf.m).to (k' := k + 4) (m' := b + 14) (by omega) (by omega)
    exact (((e1.add e2).add e3).add e4).mono (by omega)
  c := by
    have e1 := (hn.c.mul hf.s).to (k' := k + 4) (m' := b + 16) (by omega) (by omega)
    have e2 := (hn.d.mul (detQ_dy hf.s hf.u)).to (k' := k + 4) (m' := b + 16) (by omega) (by omega)
    exact e1.add e2
  d := (hn.c.neg).to (by omega) (by omega)
theorem fY_ok (hf : f.ok) (hn : n.ok k b) : (fY f n).ok (k + 4) (b + 17) where
  a := (hn.c.neg.mul (detQ_dy hf.t hf.v)).to (by omega) (by omega)
  b := (hn.d.neg.mul (detQ_dy hf.t hf.v)).to (by omega) (by omega)
  c := by
    have e1 := hn.a.to (k' := k + 4) (m' := b + 16) (by omega) (by omega)
    have e2 := (hn.c.mul hf.t).to (k' := k + 4) (m' := b + 16) (by omega) (by omega)
    exact e1.add e2
  d := by
    have e1 := hn.b.to (k' := k + 4) (m' := b + 16) (by omega) (by omega)
    have e2 := (hn.d.mul hf.t).to (k' := k + 4) (m' := b + 16) (by omega) (by omega)
    exact e1.add e2
end
theorem hk_first_behind (ds : List D) (Φ : R → Prop) (h : K_first_behind ds Φ) : g_first_behind { nx := fun _ => Φ (.cl .non), rt := Φ } (ds.map .va ++ List.replicate (12 - ds.length) .un) := by
  obtain ⟨f, n, k, b, rfl, hf, hn, hk, hb, h⟩ := h
  have d := detQ_dy hf.s hf.u
  have e1 : Dy 2 9 (f.m - f.s * f.t) := Dy.sub (k := 2) (m := 8) (hf.m.to (by decide) (by decide)) (hf.s.mul hf.t)
  have e2 := (hn.c.mul e1).to (k' := k + 4) (m' := b + 15) (by omega) (by omega)
  have e3 := (hn.b.mul d).to (k' := k + 4) (m' := b + 15) (by omega) (by omega)
  have e4 := (hn.d.mul hf.t)
  have e5 := (e4.mul d).to (k' := k + 4) (m' := b + 16) (by omega) (by omega)
  have g1 := hn.a.to (k' := k + 4) (m' := b + 12) (by omega) (by omega)
  have g2 := (hn.b.mul hf.s).to (k' := k + 4) (m' := b + 12) (by omega) (by omega)
  have g3 := (hn.c.mul hf.t).to (k' := k + 4) (m' := b + 13) (by omega) (by omega)
  have g4 := (hn.d.mul hf.m).to (k' := k + 4) (m' := b + 14) (by omega) (by omega)
  have g5 := (hn.c.mul hf.s)
  have g6 := (hn.d.mul d)
  have B : ∀ {k m : Nat} {q : Rat}, Dy k m q → k < 4000 → m ≤ 4000 → Bits 4000 q := fun h => h.bits
  have bs := B hf.s (by omega) (by omega)
  have bt := B hf.t (by omega) (by omega)
  have bm := B hf.m (by omega) (by omega)
  have bst := B (hf.s.mul hf.t) (by omega) (by omega)
  have b1 := B e1 (by omega) (by omega)
  have ba := B hn.a (by omega) (by omega)
  have bb := B hn.b (by omega) (by omega)
  have bc := B hn.c (by omega) (by omega)
  have bd := B hn.d (by omega) (by omega)
  have bdet := B d (by omega) (by omega)
  have b2 := B e2 (by omega) (by omega)
  have b3 := B e3 (by omega) (by omega)
  have b23 := B (e2.sub e3) (by omega) (by omega)
  have b4 := B e4 (by omega) (by omega)
  have b5 := B e5 (by omega) (by omega)
  have c2 := B g2 (by omega) (by omega)
  have c12 := B (g1.add g2) (by omega) (by omega)
  have c3 := B g3 (by omega) (by omega)
  have c123 := B ((g1.add g2).add g3) (by omega) (by omega)
  have c4 := B g4 (by omega) (by omega)
  have c5 := B g5 (by omega) (by omega)
  have c6 := B g6 (by omega) (by omega)
  change g_first_behind _ [.va (.lst f.l), .va (.lst n.l), .un, .un, .un, .un, .un, .un, .un, .un, .un, .un]
  have v : ∀ {i : Nat} {d : D}, ([.va (.lst f.l), .va (.lst n.l), .va (.rat f.s), .va (.rat f.t), .va (.rat f.u), .va (.rat f.m), .va (.rat f.v), .va (.rat n.a), .va (.rat n.b), .va (.rat n.c), .va (.rat n.d), .va (.rat (detQ f.s f.u))] : Ev)[i]? = some (.va d) → Va (gVar i) [.va (.lst f.l), .va (.lst n.l), .va (.rat f.s), .va (.rat f.t), .va (.rat f.u), .va (.rat f.m), .va (.rat f.v), .va (.rat n.a), .va (.rat n.b), .va (.rat n.c), .va (.rat n.d), .va (.rat (detQ f.s f.u))] (.cl d) := va_var
  refine q_asg (d := .lst f.l) (ρ' := [.va (.lst f.l), .va (.lst n.l), .va (.rat f.s), .va (.rat f.t), .va (.rat f.u), .va (.rat f.m), .va (.rat f.v), .un, .un, .un, .un, .un]) (va_var rfl) rfl rfl ?_
  refine q_asg (d := .lst n.l) (ρ' := [.va (.lst f.l), .va (.lst n.l), .va (.rat f.s), .va (.rat f.t), .va (.rat f.u), .va (.rat f.m), .va (.rat f.v), .va (.rat n.a), .va (.rat n.b), .va (.rat n.c), .va (.rat n.d), .un]) (va_var rfl) rfl rfl ?_
  refine q_set (d := .rat (detQ f.s f.u)) (ρ' := [.va (.lst f.l), .va (.lst n.l), .va (.rat f.s), .va (.rat f.t), .va (.rat f.u), .va (.rat f.m), .va (.rat f.v), .va (.rat n.a), .va (.rat n.b), .va (.rat n.c), .va (.rat n.d), .va (.rat (detQ f.s f.u))]) (va_call (vl_cons (va_var rfl) (vl_cons (va_var rfl) vl_nil)) rfl fun Φ φ => ⟨f.s, f.u, rfl, hf.s, hf.u, φ⟩) rfl rfl ?_
  have a1 := va_subR (va_subR (va_mulR (v (i := 9) rfl) (va_subR (v (i := 5) rfl) (va_mulR (v (i := 2) rfl) (v (i := 3) rfl) bs bt) bm bst) bc b1) (va_mulR (v (i := 8) rfl) (v (i := 11) rfl) bb bdet) b2 b3) (va_mulR (va_mulR (v (i := 10) rfl) (v (i := 3) rfl) bd bt) (v (i := 11) rfl) b4 bdet) b23 b5
  have a2 := va_addR (va_addR (va_addR (v (i := 7) rfl) (va_mulR (v (i := 8) rfl) (v (i := 2) rfl) bb bs) ba c2) (va_mulR (v (i := 9) rfl) (v (i := 3) rfl) bc bt) c12 c3) (va_mulR (v (i := 10) rfl) (v (i := 5) rfl) bd bm) c123 c4
  have a3 := va_addR (va_mulR (v (i := 9) rfl) (v (i := 2) rfl) bc bs) (va_mulR (v (i := 10) rfl) (v (i := 11) rfl) bd bdet) c5 c6
  have a4 := va_negR (v (i := 9) rfl) bc
  exact s_ret (va_lst (vl_cons a1 (vl_cons a2 (vl_cons a3 (vl_cons a4 vl_nil)))) rfl (by show 4 ≤ 2 ^ 24; decide)) h
theorem hk_second_behind (ds : List D) (Φ : R → Prop) (h : K_second_behind ds Φ) : g_second_behind { nx := fun _ => Φ (.cl .non), rt := Φ } (ds.map .va ++ List.replicate (10 - ds.length) .un) := by
  obtain ⟨f, n, k, b, rfl, hf, hn, hk, hb, h⟩ := h
  have d := detQ_dy hf.t hf.v
  have B : ∀ {k m : Nat} {q : Rat}, Dy k m q → k < 4000 → m ≤ 4000 → Bits 4000 q := fun h => h.bits
  have bt := B hf.t (by omega) (by omega)
  have ba := B hn.a (by omega) (by omega)
  have bb := B hn.b (by omega) (by omega)
  have bc := B hn.c (by omega) (by omega)
  have bd := B hn.d (by omega) (by omega)
  have bdet := B d (by omega) (by omega)
  have nc := B hn.c.neg (by omega) (by omega)
  have nd := B hn.d.neg (by omega) (by omega)
  have c1 := B (hn.c.mul hf.t) (by omega) (by omega)
  have c2 := B (hn.d.mul hf.t) (by omega) (by omega)
  change g_second_behind _ [.va (.lst f.l), .va (.lst n.l), .un, .un, .un, .un, .un, .un, .un, .un]
  have v : ∀ {i : Nat} {d : D}, ([.va (.lst f.l), .va (.lst n.l), .va (.rat f.m), .va (.rat f.t), .va (.rat f.v), .va (.rat n.a), .va (.rat n.b), .va (.rat n.c), .va (.rat n.d), .va (.rat (detQ f.t f.v))] : Ev)[i]? = some (.va d) → Va (gVar i) [.va (.lst f.l), .va (.lst n.l), .va (.rat f.m), .va (.rat f.t), .va (.rat f.v), .va (.rat n.a), .va (.rat n.b), .va (.rat n.c), .va (.rat n.d), .va (.rat (detQ f.t f.v))] (.cl d) := va_var
  refine q_asg (d := .lst f.l) (ρ' := [.va (.lst f.l), .va (.lst n.l), .va (.rat f.m), .va (.rat f.t), .va (.rat f.v), .un, .un, .un, .un, .un]) (va_var rfl) rfl rfl ?_
  refine q_asg (d := .lst n.l) (ρ' := [.va (.lst f.l), .va (.lst n.l), .va (.rat f.m), .va (.rat f.t), .va (.rat f.v), .va (.rat n.a), .va (.rat n.b), .va (.rat n.c), .va (.rat n.d), .un]) (va_var rfl) rfl rfl ?_
  refine q_set (d := .rat (detQ f.t f.v)) (ρ' := [.va (.lst f.l), .va (.lst n.l), .va (.rat f.m), .va (.rat f.t), .va (.rat f.v), .va (.rat n.a), .va (.rat n.b), .va (.rat n.c), .va (.rat n.d), .va (.rat (detQ f.t f.v))]) (va_call (vl_cons (va_var rfl) (vl_cons (va_var rfl) vl_nil)) rfl fun Φ φ => ⟨f.t, f.v, rfl, hf.t, hf.v, φ⟩) rfl rfl ?_
  have a1 := va_mulR (va_negR (v (i := 7) rfl) bc) (v (i := 9) rfl) nc bdet
  have a2 := va_mulR (va_negR (v (i := 8) rfl) bd) (v (i := 9) rfl) nd bdet
  have a3 := va_addR (v (i := 5) rfl) (va_mulR (v (i := 7) rfl) (v (i := 3) rfl) bc bt) ba c1
  have a4 := va_addR (v (i := 6) rfl) (va_mulR (v (i := 8) rfl) (v (i := 3) rfl) bd bt) bb c2
  exact s_ret (va_lst (vl_cons a1 (vl_cons a2 (vl_cons a3 (vl_cons a4 vl_nil)))) rfl (by show 4 ≤ 2 ^ 24; decide)) h
theorem hk_told_five (ds : List D) (Φ : R → Prop) (h : K_told_five ds Φ) : g_told_five { nx := fun _ => Φ (.cl .non), rt := Φ } (ds.map .va ++ List.replicate (1 - ds.length) .un) := by
  obtain ⟨l, qs, rfl, hl, hq, h⟩ := h
  have no : ∀ e ∈ l, noObj e = true ∧ isN e = true := by
    clear hl h
    induction l generalizing qs with
    | nil => intro _ z; exact nomatch z
    | cons x l ih =>
      unfold numsD at hq
      split at hq
      · rename_i q qs' e1 e2
        intro e he
        rcases List.mem_cons.1 he with z | z
        · subst z
          cases e <;> first | exact ⟨rfl, rfl⟩ | cases e1
        · exact ih qs' e2 e z
      · cases hq
  obtain ⟨x1, x2, x3, x4, x5, rfl⟩ : ∃ a b c d e, l = [a, b, c, d, e] := match l, hl with
    | [a, b, c, d, e], _ => ⟨a, b, c, d, e, rfl⟩
  have lz : (5 : Nat) ≤ sizeLine := by show 5 ≤ 2 ^ 24; decide
  have all : [x1, x2, x3, x4, x5].all isN = true := List.all_eq_true.2 fun e he => (no e he).2
  change g_told_five _ [.va (.tup [x1, x2, x3, x4, x5])]
  have v : Va (gVar 0) [.va (.tup [x1, x2, x3, x4, x5])] (.cl (.tup [x1, x2, x3, x4, x5])) := va_var rfl
  have t1 : Vt (gTest (gIs isT (gVar 0))) [.va (.tup [x1, x2, x3, x4, x5])] true := vt_test fun Φ φ => v _ ⟨rfl, φ⟩
  have t2 : Vt (gTest (gOp kNe (gCa kLen (gCons (gVar 0) gNil)) (gC (.int 5)))) [.va (.tup [x1, x2, x3, x4, x5])] false := vt_test fun Φ φ => v (fun r => kLen [r] fun x => kNe x (.cl (.int 5)) Φ) φ
  have t3 : Vt (gTest (gCallK K_are_numbers (gCons (gVar 0) gNil))) [.va (.tup [x1, x2, x3, x4, x5])] true := vt_test (va_call (vl_cons v vl_nil) rfl fun Φ φ => ⟨_, _, rfl, rfl, lz, fun e he => (no e he).1, by rw [all]; exact φ⟩)
  refine q_ifF (vt_orF (vt_not t1) (vt_orF t2 (vt_not t3))) ?_
  exact s_ret (va_call (vl_cons v vl_nil) rfl fun Φ φ => ⟨_, _, qs, rfl, rfl, hq, lz, φ⟩) h
end EN

set_option Elab.async false
set_option linter.all false
set_option maxRecDepth 100000
set_option maxHeartbeats 4000000
namespace EN
open PySem L2 TW RZ
theorem dsO_rats (qs : List Rat) : dsO (rats qs) = qs.map D.rat := by
  rw [dsO_map]
  unfold rats
  rw [List.map_map]
  rfl
theorem numsD_rats : ∀ qs : List Rat, numsD (qs.map D.rat) = some qs
  | [] => rfl
  | q :: qs => by
    rw [List.map_cons]
    unfold numsD
    rw [numsD_rats qs]
    rfl
theorem sumQ_dy {k m : Nat} : ∀ {l : List Rat} {a : Rat} {j : Nat}, (∀ q ∈ l, Dy k m q) → Dy k (m + j) a → Dy k (m + j + l.length) (l.foldl (· + ·) a)
  | [], a, j, _, h => h
  | q :: l, a, j, hl, h => by
    have h1 : Dy k (m + (j + 1)) (a + q) := h.add ((hl q List.mem_cons_self).mono (by omega))
    have h2 := sumQ_dy (l := l) (fun q hq => hl q (List.mem_cons_of_mem _ hq)) h1
    rw [List.foldl_cons, List.length_cons]
    exact h2.mono (by omega)
theorem dy_zero {k m : Nat} : Dy k m 0 := ⟨0, by rw [Rat.zero_divInt], by
  show 0 < 2 ^ m
  exact Nat.pow_pos (by decide)⟩
theorem short_dy {k m : Nat} {l : List Rat} (h : ∀ q ∈ l, Dy k m q) (hk : k < 4000) (hm : m + l.length ≤ 4000) : Short l := by
  refine ⟨fun q hq => (h q hq).bits hk (by omega), fun j => ?_⟩
  have z := sumQ_dy (l := l.take j) (j := 0) (a := 0) (fun q hq => h q (List.mem_of_mem_take hq)) dy_zero
  refine Dy.bits (z.mono (m' := m + l.length) ?_) hk hm
  rw [List.length_take]
  omega
theorem hk_led_to (ds : List D) (Φ : R → Prop) (h : K_led_to ds Φ) : g_led_to { nx := fun _ => Φ (.cl .non), rt := Φ } (ds.map .va ++ List.replicate (4 - ds.length) .un) := by
  obtain ⟨a, b, qs, rs, rfl, ha, hb, hl, bq, br, sh, h⟩ := h
  have key : ∀ (a b : List D) (qs rs : List Rat) (acc : List OT) (Ψ : List OT → Prop) (s0 s1 : Sl), numsD a = some qs → numsD b = some rs → (∀ q ∈ qs, Bits 4000 q) → (∀ q ∈ rs, Bits 4000 q) → Ψ (acc ++ rats (List.zipWith (· * ·) qs rs)) →
      gLoop (uTup (uCons 2 (uCons 3 uNil))) gYes (gOp kMul (gCallK K_ratio_of (gCons (gVar 2) gNil)) (gVar 3)) [s0, s1, .un, .un] (List.zipWith pair2 a b) acc Ψ := by
    intro a
    induction a with
    | nil =>
      intro b qs rs acc Ψ s0 s1 ha hb _ _ ψ
      cases ha
      simpa [gLoop, rats] using ψ
    | cons x a ih =>
      intro b qs rs acc Ψ s0 s1 ha hb bq br ψ
      cases b with
      | nil =>
        cases hb
        simpa [gLoop, rats] using ψ
      | cons y b =>
        unfold numsD at ha hb
        split at ha
        · rename_i q qs' e1 e2
          cases ha
          split at hb
          · rename_i r rs' e3 e4
            cases hb
            refine ⟨[s0, s1, .va x, .va y], rfl, ?_⟩
            unfold gYes
            refine iteT ?_
            have v2 : Va (gVar 2) [s0, s1, .va x, .va y] (.cl x) := va_var rfl
            have v3 : Va (gVar 3) [s0, s1, .va x, .va y] (.cl y) := va_var rfl
            have c1 : Va (gCallK K_ratio_of (gCons (gVar 2) gNil)) [s0, s1, .va x, .va y] (.cl (.rat q)) := va_call (vl_cons v2 vl_nil) rfl fun Φ φ => ⟨x, q, rfl, e1, φ⟩
            have m := va_mul c1 v3 rfl e3 rfl (bq q List.mem_cons_self) (br r List.mem_cons_self)
            refine m _ ?_
            exact ih b qs' rs' (acc ++ [.leaf (.rat (q * r))]) Ψ s0 s1 e2 e4 (fun q hq => bq q (List.mem_cons_of_mem _ hq)) (fun q hq => br q (List.mem_cons_of_mem _ hq)) (by simpa [rats] using ψ)
          · cases hb
        · cases ha
  have la := numsD_length ha
  refine ⟨?_, rfl, key a b qs rs [] _ _ _ ha hb bq br ?_⟩
  · have : (List.zipWith pair2 a b).length ≤ a.length := by rw [List.length_zipWith]; exact Nat.min_le_left _ _
    have z : (1000 : Nat) ≤ sizeLine := by show 1000 ≤ 2 ^ 24; decide
    omega
  · show match numsD (dsO ([] ++ rats (List.zipWith (· * ·) qs rs))) with
      | some qs => _
      | none => _
    rw [List.nil_append, dsO_rats, numsD_rats]
    refine ⟨?_, sh, h⟩
    rw [List.length_zipWith]
    exact Nat.le_trans (Nat.min_le_left _ _) hl
theorem bls_true : ∀ n : Nat, bls (dsO (List.replicate n (.leaf (.bl true)))) = some (List.replicate n true)
  | 0 => rfl
  | n + 1 => by
    rw [List.replicate_succ, List.replicate_succ]
    show (bls (dsO _)).map _ = _
    rw [bls_true n]
    rfl
theorem hk_are_letters_at (ds : List D) (Φ : R → Prop) (h : K_are_letters_at ds Φ) : g_are_letters_at { nx := fun _ => Φ (.cl .non), rt := Φ } (ds.map .va ++ List.replicate (3 - ds.length) .un) := by
  obtain ⟨l, m, rfl, hl, hw, h⟩ := h
  change g_are_letters_at _ [.va (.lst (l.map .int)), .va (.int m), .un]
  have v : Va (gVar 0) [.va (.lst (l.map .int)), .va (.int m), .un] (.cl (.lst (l.map .int))) := va_var rfl
  have t1 : Vt (gTest (gCallK K_is_list (gCons (gVar 0) gNil))) [.va (.lst (l.map .int)), .va (.int m), .un] true := vt_test (va_call (vl_cons v vl_nil) rfl fun Φ φ => ⟨_, rfl, rfl, φ⟩)
  have t2 : Vt (gTest (gOp kGt (gCa kLen (gCons (gVar 0) gNil)) (gC (.int 16)))) [.va (.lst (l.map .int)), .va (.int m), .un] false := vt_test fun Φ φ => v (fun r => kLen [r] fun x => kGt x (.cl (.int 16)) Φ) (by
    refine ⟨trivial, ?_⟩
    show Φ (.cl (.bl (decide ((16 : Int) < ((l.map D.int).length : Nat)))))
    rw [decide_eq_false (by rw [List.length_map]; omega)]
    exact φ)
  refine q_ifF (vt_orF (vt_not t1) t2) ?_
  have z : (16 : Nat) ≤ sizeLine := by show 16 ≤ 2 ^ 24; decide
  refine ⟨by rw [List.length_map]; omega, rfl, gLoop_map (fun _ => .leaf (.bl true)) (fun d hd Ψ ψ => ?_) ?_⟩
  · obtain ⟨i, hi, rfl⟩ := List.mem_map.1 hd
    obtain ⟨i0, i1⟩ := hw i hi
    refine ⟨[.va (.lst (l.map .int)), .va (.int m), .va (.int i)], rfl, .int i, rfl, rfl, ?_⟩
    show if decide (0 ≤ i) = true then _ else _
    rw [decide_eq_true i0]
    refine iteT ⟨trivial, ?_⟩
    show Ψ (.leaf (.bl (decide (i < m))))
    rw [decide_eq_true i1]
    exact ψ
  · show kAll [R.nw (.node ([] ++ (l.map D.int).map fun _ => .leaf (.bl true)))] _
    rw [List.nil_append, List.map_const']
    show match bls (dsO _) with
      | some bs => _
      | none => _
    rw [bls_true]
    show Φ (.cl (.bl ((List.replicate _ true).all id)))
    have : ((List.replicate (l.map D.int).length true).all id) = true := by
      rw [List.all_eq_true]
      intro x hx
      rw [(List.mem_replicate.1 hx).2]
      rfl
    rw [this]
    exact h
def stp (f : F5) (i : Int) (n : Q4) : Q4 := if i = 0 then fX f n else fY f n
theorem run_app (f : F5) : ∀ (w v : List Int) (n : Q4), run f (w ++ v) n = run f v (run f w n)
  | [], v, n => rfl
  | i :: w, v, n => run_app f w v _
theorem run_one (f : F5) (i : Int) (n : Q4) : run f [i] n = stp f i n := rfl
def n0 : Q4 := ⟨1, 0, 0, 0⟩
theorem n0_ok : n0.ok 0 1 := ⟨⟨1, by decide +kernel, by decide⟩, dy_zero, dy_zero, dy_zero⟩
theorem run_ok {f : F5} (hf : f.ok) : ∀ (w : List Int) {n : Q4} {k b : Nat}, n.ok k b → (run f w n).ok (k + 4 * w.length) (b + 17 * w.length)
  | [], n, k, b, h => h
  | i :: w, n, k, b, h => by
    have h1 : (stp f i n).ok (k + 4) (b + 17) := by
      unfold stp
      split
      · exact fX_ok hf h
      · exact fY_ok hf h
    have h2 := run_ok hf w h1
    have e1 : k + 4 + 4 * w.length = k + 4 * (i :: w).length := by rw [List.length_cons]; omega
    have e2 : b + 17 + 17 * w.length = b + 17 * (i :: w).length := by rw [List.length_cons]; omega
    rw [e1, e2] at h2
    exact h2
theorem hk_sum_by (ds : List D) (Φ : R → Prop) (h : K_sum_by ds Φ) : g_sum_by { nx := fun _ => Φ (.cl .non), rt := Φ } (ds.map .va ++ List.replicate (8 - ds.length) .un) := by
  obtain ⟨f, w, rfl, hf, hl, h⟩ := h
  change g_sum_by _ [.va (.lst f.l), .va (.lst (w.map .int)), .un, .un, .un, .un, .un, .un]
  have e1 : ((1 : Int) : Rat) = 1 := by decide +kernel
  have e0 : ((0 : Int) : Rat) = 0 := by decide +kernel
  have z : (16 : Nat) ≤ sizeLine := by show 16 ≤ 2 ^ 24; decide
  refine q_set (d := .lst n0.l) (ρ' := [.va (.lst f.l), .va (.lst (w.map .int)), .va (.lst n0.l), .un, .un, .un, .un, .un]) (va_lst (ds := n0.l) (vl_cons (va_mk1 va_c) (vl_cons (va_mk1 va_c) (vl_cons (va_mk1 va_c) (vl_cons (va_mk1 va_c) vl_nil)))) ?_ (by show 4 ≤ sizeLine; omega)) rfl rfl ?_
  · rw [e1, e0]
    rfl
  refine ⟨fun k ρ => ∃ s, nOw [s] 0 = true ∧ ρ = [.va (.lst f.l), .va (.lst (w.map .int)), .va (.lst (run f (w.take k) n0).l), s, .un, .un, .un, .un], ⟨.un, rfl, rfl⟩, ?_, ?_⟩
  · rintro k d ρ' hk ⟨s, hs, rfl⟩
    rw [List.getElem?_map] at hk
    obtain ⟨i, hi, rfl⟩ := Option.map_eq_some_iff.1 hk
    have lt : k < w.length := (List.getElem?_eq_some_iff.1 hi).1
    have ok := run_ok hf (w.take k) n0_ok
    have lk : (w.take k).length = k := by rw [List.length_take]; omega
    rw [lk] at ok
    have er : run f (w.take (k + 1)) n0 = stp f i (run f (w.take k) n0) := by
      rw [List.take_add_one, hi, run_app]
      rfl
    refine ⟨[.va (.lst f.l), .va (.lst (w.map .int)), .va (.lst (run f (w.take k) n0).l), .va (.int i), .un, .un, .un, .un], ?_, ?_⟩
    · show (if nOw [_, _, _, s, _, _, _, _] 3 = true then _ else none) = _
      exact if_pos hs
    · have v0 : Va (gVar 0) [.va (.lst f.l), .va (.lst (w.map .int)), .va (.lst (run f (w.take k) n0).l), .va (.int i), .un, .un, .un, .un] (.cl (.lst f.l)) := va_var rfl
      have v2 : Va (gVar 2) [.va (.lst f.l), .va (.lst (w.map .int)), .va (.lst (run f (w.take k) n0).l), .va (.int i), .un, .un, .un, .un] (.cl (.lst (run f (w.take k) n0).l)) := va_var rfl
      have v3 : Va (gVar 3) [.va (.lst f.l), .va (.lst (w.map .int)), .va (.lst (run f (w.take k) n0).l), .va (.int i), .un, .un, .un, .un] (.cl (.int i)) := va_var rfl
      have t : Vt (gTest (gOp kEq (gVar 3) (gC (.int 0)))) [.va (.lst f.l), .va (.lst (w.map .int)), .va (.lst (run f (w.take k) n0).l), .va (.int i), .un, .un, .un, .un] (i == 0) := vt_test (va_op v3 va_c fun Φ φ => φ)
      have c : Va (gIf (gTest (gOp kEq (gVar 3) (gC (.int 0)))) (gCallK K_first_behind (gCons (gVar 0) (gCons (gVar 2) gNil))) (gCallK K_second_behind (gCons (gVar 0) (gCons (gVar 2) gNil)))) [.va (.lst f.l), .va (.lst (w.map .int)), .va (.lst (run f (w.take k) n0).l), .va (.int i), .un, .un, .un, .un] (.nw (.node ((run f (w.take (k + 1)) n0).l.map .leaf))) := by
        refine va_if t ?_
        rw [er]
        unfold stp
        by_cases hz : i = 0
        · rw [if_pos hz, if_pos (by simp [hz])]
          exact va_call (vl_cons v0 (vl_cons v2 vl_nil)) rfl fun Φ φ => ⟨f, _, _, _, rfl, hf, ok, by omega, by omega, φ⟩
        · rw [if_neg hz, if_neg (by simp [hz])]
          exact va_call (vl_cons v0 (vl_cons v2 vl_nil)) rfl fun Φ φ => ⟨f, _, _, _, rfl, hf, ok, by omega, by omega, φ⟩
      exact s_set (d := .lst (run f (w.take (k + 1)) n0).l) c rfl rfl ⟨.va (.int i), rfl, rfl⟩
  · rintro ρ' ⟨s, hs, rfl⟩
    have et : w.take (w.map D.int).length = w := by rw [List.length_map, List.take_length]
    rw [et]
    have ok := run_ok hf w n0_ok
    generalize hn : run f w n0 = n at ok
    have hh : Φ (.cl (.rat (tau f n))) := by rw [← hn]; exact h
    dsimp only
    refine q_asg (d := .lst f.l) (ρ' := [.va (.lst f.l), .va (.lst (w.map .int)), .va (.lst n.l), s, .va (.rat f.s), .va (.rat f.t), .va (.rat f.v), .va (.rat f.m)]) (va_var rfl) rfl rfl ?_
    have v2 : Va (gVar 2) [.va (.lst f.l), .va (.lst (w.map .int)), .va (.lst n.l), s, .va (.rat f.s), .va (.rat f.t), .va (.rat f.v), .va (.rat f.m)] (.cl (.lst n.l)) := va_var rfl
    have d2 : Dy 0 2 (((2 : Int)) : Rat) := Dy.int (by decide)
    have p1 : Dy (4 * w.length + 1) (17 * w.length + 6) (n.a * ((2 : Int) : Rat)) := (ok.a.mul d2).to (by omega) (by omega)
    have p2 : Dy (4 * w.length + 1) (17 * w.length + 6) (n.b * f.s) := (ok.b.mul hf.s).to (by omega) (by omega)
    have p3 : Dy (4 * w.length + 1) (17 * w.length + 6) (n.c * f.t) := (ok.c.mul hf.t).to (by omega) (by omega)
    have p4 : Dy (4 * w.length + 1) (17 * w.length + 6) (n.d * f.m) := (ok.d.mul hf.m).to (by omega) (by omega)
    have B : ∀ {k m : Nat} {q : Rat}, Dy k m q → k < 4000 → m ≤ 4000 → Bits 4000 q := fun h => h.bits
    refine s_ret (va_call (z := .cl (.rat (tau f n))) (vl_cons v2 (vl_cons (va_lst (ds := [.int 2, .rat f.s, .rat f.t, .rat f.m]) (vl_cons va_c (vl_cons (va_var rfl) (vl_cons (va_var rfl) (vl_cons (va_var rfl) vl_nil)))) rfl (by show 4 ≤ sizeLine; omega)) vl_nil)) rfl fun Φ φ => ?_) hh
    refine ⟨n.l, [.int 2, .rat f.s, .rat f.t, .rat f.m], [n.a, n.b, n.c, n.d], [((2 : Int) : Rat), f.s, f.t, f.m], rfl, rfl, rfl, by show 4 ≤ 1000; decide, ?_, ?_, ?_, φ⟩
    · intro q hq
      simp only [List.mem_cons, List.not_mem_nil, or_false] at hq
      rcases hq with rfl | rfl | rfl | rfl
      · exact B ok.a (by omega) (by omega)
      · exact B ok.b (by omega) (by omega)
      · exact B ok.c (by omega) (by omega)
      · exact B ok.d (by omega) (by omega)
    · intro q hq
      simp only [List.mem_cons, List.not_mem_nil, or_false] at hq
      rcases hq with rfl | rfl | rfl | rfl
      · exact B d2 (by omega) (by omega)
      · exact B hf.s (by omega) (by omega)
      · exact B hf.t (by omega) (by omega)
      · exact B hf.m (by omega) (by omega)
    · refine short_dy (k := 4 * w.length + 1) (m := 17 * w.length + 6) (fun q hq => ?_) (by omega) (by show 17 * w.length + 6 + 4 ≤ 4000; omega)
      simp only [List.zipWith_cons_cons, List.zipWith_nil_left, List.mem_cons, List.not_mem_nil, or_false] at hq
      rcases hq with rfl | rfl | rfl | rfl
      · exact p1
      · exact p2
      · exact p3
      · exact p4
theorem hk_word_by (ds : List D) (Φ : R → Prop) (h : K_word_by ds Φ) : g_word_by { nx := fun _ => Φ (.cl .non), rt := Φ } (ds.map .va ++ List.replicate (3 - ds.length) .un) := by
  obtain ⟨f, l, w, rfl, hl, hn, hf, hw, hb, h⟩ := h
  change g_word_by _ [.va (.tup l), .va (.lst (w.map .int)), .un]
  have v0 : Va (gVar 0) [.va (.tup l), .va (.lst (w.map .int)), .un] (.cl (.tup l)) := va_var rfl
  refine q_set (d := .lst f.l) (ρ' := [.va (.tup l), .va (.lst (w.map .int)), .va (.lst f.l)]) (va_call (z := .nw (.node (rats [f.s, f.t, f.u, f.m, f.v]))) (vl_cons v0 vl_nil) rfl fun Φ φ => ⟨l, _, rfl, hl, hn, φ⟩) rfl rfl ?_
  have v1 : Va (gVar 1) [.va (.tup l), .va (.lst (w.map .int)), .va (.lst f.l)] (.cl (.lst (w.map .int))) := va_var rfl
  have v2 : Va (gVar 2) [.va (.tup l), .va (.lst (w.map .int)), .va (.lst f.l)] (.cl (.lst f.l)) := va_var rfl
  have t : Vt (gTest (gCallK K_are_letters_at (gCons (gVar 1) (gCons (gC (.int 2)) gNil)))) [.va (.tup l), .va (.lst (w.map .int)), .va (.lst f.l)] true := vt_test (va_call (vl_cons v1 (vl_cons va_c vl_nil)) rfl fun Φ φ => ⟨w, 2, rfl, hw, hb, φ⟩)
  refine q_ifF (vt_not t) ?_
  exact s_ret (va_call (z := .cl (.rat (wsum f w))) (vl_cons v2 (vl_cons v1 vl_nil)) rfl fun Φ φ => ⟨f, w, rfl, hf, hw, φ⟩) h
end EN

set_option Elab.async false
set_option linter.all false
set_option maxRecDepth 100000
set_option maxHeartbeats 4000000
/-! the algebra that five numbers tell -/
namespace EN
theorem tau_eq (f : F5) (n : Q4) : tau f n = 2 * n.a + f.s * n.b + f.t * n.c + f.m * n.d := by
  unfold tau sumQ
  simp only [List.foldl_cons, List.foldl_nil]
  grind
/-- a times b: b's letters behind a -/
def mulQ (f : F5) (a b : Q4) : Q4 :=
  let x := fX f a
  let y := fY f a
  let z := fY f (fX f a)
  ⟨b.a * a.a + b.b * x.a + b.c * y.a + b.d * z.a, b.a * a.b + b.b * x.b + b.c * y.b + b.d * z.b, b.a * a.c + b.b * x.c + b.c * y.c + b.d * z.c, b.a * a.d + b.b * x.d + b.c * y.d + b.d * z.d⟩
theorem mul_X (f : F5) (a b : Q4) : fX f (mulQ f a b) = mulQ f a (fX f b) := by
  unfold mulQ fX fY detQ
  simp only [Q4.mk.injEq]
  refine ⟨?_, ?_, ?_, ?_⟩ <;> grind
theorem mul_Y (f : F5) (a b : Q4) : fY f (mulQ f a b) = mulQ f a (fY f b) := by
  unfold mulQ fX fY detQ
  simp only [Q4.mk.injEq]
  refine ⟨?_, ?_, ?_, ?_⟩ <;> grind
theorem mul_1 (f : F5) (a : Q4) : mulQ f a n0 = a := by
  obtain ⟨a, b, c, d⟩ := a
  unfold mulQ fX fY detQ n0
  simp only [Q4.mk.injEq]
  refine ⟨?_, ?_, ?_, ?_⟩ <;> grind
theorem mul_stp (f : F5) (i : Int) (a b : Q4) : stp f i (mulQ f a b) = mulQ f a (stp f i b) := by
  unfold stp
  split
  · exact mul_X f a b
  · exact mul_Y f a b
theorem run_mul (f : F5) (a : Q4) : ∀ (w : List Int) (b : Q4), run f w (mulQ f a b) = mulQ f a (run f w b)
  | [], b => rfl
  | i :: w, b => by
    show run f w (stp f i (mulQ f a b)) = mulQ f a (run f w (stp f i b))
    rw [mul_stp, run_mul f a w]
theorem run_from (f : F5) (w : List Int) (a : Q4) : run f w a = mulQ f a (run f w n0) := by
  rw [← run_mul, mul_1]
theorem tau_comm (f : F5) (a b : Q4) : tau f (mulQ f a b) = tau f (mulQ f b a) := by
  rw [tau_eq, tau_eq]
  unfold mulQ fX fY detQ
  grind
theorem wsum_app (f : F5) (w v : List Int) : wsum f (w ++ v) = tau f (mulQ f (run f w n0) (run f v n0)) := by
  show tau f (run f (w ++ v) n0) = _
  rw [run_app, run_from]
/-- the first letters put last -/
theorem wsum_turn (f : F5) (w : List Int) (k : Nat) : wsum f (w.drop k ++ w.take k) = wsum f w := by
  rw [wsum_app, tau_comm, ← wsum_app, List.take_append_drop]
/-- the word backwards -/
def theta (f : F5) (n : Q4) : Q4 := ⟨n.a + n.d * (f.m - f.s * f.t), n.b + f.t * n.d, n.c + f.s * n.d, -n.d⟩
theorem theta_X (f : F5) (n : Q4) : theta f (fX f n) = mulQ f (fX f n0) (theta f n) := by
  unfold theta mulQ fX fY detQ n0
  simp only [Q4.mk.injEq]
  refine ⟨?_, ?_, ?_, ?_⟩ <;> grind
theorem theta_Y (f : F5) (n : Q4) : theta f (fY f n) = mulQ f (fY f n0) (theta f n) := by
  unfold theta mulQ fX fY detQ n0
  simp only [Q4.mk.injEq]
  refine ⟨?_, ?_, ?_, ?_⟩ <;> grind
theorem theta_stp (f : F5) (i : Int) (n : Q4) : theta f (stp f i n) = mulQ f (stp f i n0) (theta f n) := by
  unfold stp
  split
  · exact theta_X f n
  · exact theta_Y f n
theorem tau_theta (f : F5) (n : Q4) : tau f (theta f n) = tau f n := by
  rw [tau_eq, tau_eq]
  unfold theta
  grind
theorem theta_1 (f : F5) : theta f n0 = n0 := by
  unfold theta n0
  simp only [Q4.mk.injEq]
  refine ⟨?_, ?_, ?_, ?_⟩ <;> grind
theorem run_rev (f : F5) : ∀ v : List Int, run f v n0 = theta f (run f v.reverse n0)
  | [] => (theta_1 f).symm
  | i :: v => by
    show run f v (stp f i n0) = _
    rw [run_from, run_rev f v, List.reverse_cons, run_app, run_one, theta_stp]
theorem wsum_rev (f : F5) (w : List Int) : wsum f w.reverse = wsum f w := by
  show tau f (run f w.reverse n0) = tau f (run f w n0)
  rw [run_rev f w, tau_theta]
/-- the determinant -/
def nrm (f : F5) (n : Q4) : Rat := (tau f n * tau f n - tau f (mulQ f n n)) / 2
theorem nrm_X (f : F5) (n : Q4) : nrm f (fX f n) = nrm f n * detQ f.s f.u := by
  unfold nrm
  rw [tau_eq, tau_eq, tau_eq, tau_eq]
  unfold mulQ fX fY detQ
  grind
theorem nrm_Y (f : F5) (n : Q4) : nrm f (fY f n) = nrm f n * detQ f.t f.v := by
  unfold nrm
  rw [tau_eq, tau_eq, tau_eq, tau_eq]
  unfold mulQ fX fY detQ
  grind
theorem nrm_1 (f : F5) : nrm f n0 = 1 := by
  unfold nrm
  rw [mul_1, tau_eq]
  unfold n0
  grind
def dets (f : F5) (i : Int) : Rat := if i = 0 then detQ f.s f.u else detQ f.t f.v
def apart (f : F5) (w : List Int) (a : Rat) : Rat := w.foldl (fun x i => x * dets f i) a
theorem nrm_run (f : F5) : ∀ (w : List Int) (n : Q4), nrm f (run f w n) = apart f w (nrm f n)
  | [], n => rfl
  | i :: w, n => by
    show nrm f (run f w (stp f i n)) = apart f w (nrm f n * dets f i)
    rw [nrm_run f w]
    congr 1
    unfold stp dets
    split
    · exact nrm_X f n
    · exact nrm_Y f n
theorem wsum_twice (f : F5) (w : List Int) : wsum f (w ++ w) = wsum f w * wsum f w - apart f w 1 * 2 := by
  have e := nrm_run f w n0
  rw [nrm_1] at e
  rw [wsum_app, ← e]
  show _ = tau f (run f w n0) * tau f (run f w n0) - _
  unfold nrm
  grind
/-- a letter twice ahead -/
theorem wsum_square (f : F5) (i : Int) (w : List Int) : wsum f (i :: i :: w) = (if i = 0 then f.s else f.t) * wsum f (i :: w) - dets f i * wsum f w := by
  have e1 : wsum f (i :: i :: w) = tau f (mulQ f (stp f i (stp f i n0)) (run f w n0)) := by
    show tau f (run f w (stp f i (stp f i n0))) = _
    rw [run_from]
  have e2 : wsum f (i :: w) = tau f (mulQ f (stp f i n0) (run f w n0)) := by
    show tau f (run f w (stp f i n0)) = _
    rw [run_from]
  have e3 : wsum f w = tau f (run f w n0) := rfl
  rw [e1, e2, e3]
  generalize run f w n0 = b
  unfold dets stp
  split
  · rw [tau_eq, tau_eq, tau_eq]
    unfold mulQ fX fY detQ n0
    grind
  · rw [tau_eq, tau_eq, tau_eq]
    unfold mulQ fX fY detQ n0
    grind
theorem wsum_0 (f : F5) : wsum f [] = 2 := by
  show tau f n0 = _
  rw [tau_eq]
  unfold n0
  grind
theorem wsum_short (f : F5) : [[0], [1], [0, 0], [0, 1], [1, 1], [1, 0]].map (wsum f) = [f.s, f.t, f.u, f.m, f.v, f.m] := by
  have h : ∀ w, wsum f w = tau f (run f w n0) := fun _ => rfl
  simp only [List.map_cons, List.map_nil, h, tau_eq, run, n0, fX, fY, detQ, List.cons.injEq, if_true, and_true, show (1 : Int) ≠ 0 by decide, if_false]
  refine ⟨?_, ?_, ?_, ?_, ?_, ?_⟩ <;> grind
end EN
#print axioms EN.wsum_twice
#print axioms EN.wsum_short

set_option Elab.async false
set_option linter.all false
set_option maxRecDepth 100000
set_option maxHeartbeats 4000000
namespace EN
open PySem L2 TW RZ
open KT (Txt)
abbrev s_law_pot : Stmt := top 31
abbrev s_law_draw : Stmt := top 32
theorem c_law_pot : FnScope ["_law_script", "_law_k", "_law_cell"] ["_law_script", "_law_k"] (defScope s_law_pot) := ⟨rfl, rfl, rfl, by decide +kernel, rfl, by decide +kernel, by decide +kernel⟩
theorem c_law_draw : FnScope ["_law_pot_here", "_law_many", "_law_digit"] ["_law_pot_here", "_law_many"] (defScope s_law_draw) := ⟨rfl, rfl, rfl, by decide +kernel, rfl, by decide +kernel, by decide +kernel⟩
/-- all but what stands at p is as it was -/
def But (p : Addr) (H H' : Hp) : Prop := ∀ b o, H b = some o → b ≠ p → H' b = some o
theorem But.upd {p : Addr} {H : Hp} {o : HO} : But p H (upd H p o) := fun b o' e h => by
  rw [upd_ne h]
  exact e
def spPot (K : W.Frag) : Sp := fun vs H Q _ => ∃ (a : Addr) (ns : List Int) (j : Nat), vs = [.ref a, .int j] ∧ j ≤ 1 ∧ SqL K H a (ns.map V.int) ∧ ∀ p H', Same H H' → H p = none → PotAt H' p → Q (.ref p) H'
def spDraw : Sp := fun vs H Q _ => ∃ (p : Addr) (m : Int), vs = [.ref p, .int m] ∧ PotAt H p ∧ 0 < m ∧ m < 1073741824 ∧ ∀ d H', 0 ≤ d → d < m → But p H H' → PotAt H' p → Q (.int d) H'
section
variable {P : Program} {w : World} {K : W.Frag} {mg : Str → Option Value} {base : Heap} {C : Addr} {pots : List Addr}
theorem ok_law_draw {f : Addr} {fd : FuncData} (F : KT.At K mg "_law_draw" s_law_draw ["_law_pot_here", "_law_many"] f fd) (Z : Ns mg) : FnOk P w K mg base L2.CX0 1 f fd ["_law_pot_here", "_law_many"] spDraw := by
  refine F.fn.ok c_law_draw (fun vs H Q E h => ?_) fun cdv A outer s H vs Q E hr h => ?_
  · obtain ⟨p, m, rfl, _⟩ := h
    rfl
  obtain ⟨p, m, rfl, ⟨x, y, hx, hy, hp⟩, m0, m1, q⟩ := h
  refine ⟨_, pss_cons (ps_if (pt_cmp (pc_gt (pe_ix ix_list (pv 0) pe_int (fun _ _ => rfl)) pe_int))
      (pss_cons (ps_asg (pe_callB call_divmod (by rfl) Z.divmod_ (by decide +kernel) (pa_cons (pe_ix ix_list (pv 0) pe_int (fun _ _ => rfl)) (pa_cons (pv 1) pa_nil)))
          (pg_tup rfl (pgs_cons (pg_sub (pv 0) pe_int set_list) (pgs_cons (pg_name (i := 2) c_law_draw.nd rfl (.inl rfl)) pgs_nil))))
        (pss_one (ps_ret (pv 2)))) pss_nil)
    (pss_cons (ps_asg (pe_op op_mod (pe_op op_add (pe_op op_mul (pe_ix ix_list (pv 0) pe_int (fun _ _ => rfl)) pe_int) pe_int) pe_int) (pg_sub (pv 0) pe_int set_list))
    (pss_one (ps_ret (pe_op op_mod (pe_op op_fdiv (pe_op op_mod (pe_op op_mul (pe_ix ix_list (pv 0) pe_int (fun _ _ => rfl)) (pe_ix ix_list (pv 0) pe_int (fun _ _ => rfl))) pe_int) pe_int) (pv 1))))), ?_⟩
  have S0 : SqL K H p [.int x, .int y] := SqL.of hp
  have i0 : ∀ a b : V, atI [a, b] 0 = some a := fun a b => atI_nat (j := 0) rfl
  have i1 : ∀ a b : V, atI [a, b] 1 = some b := fun a b => atI_nat (j := 1) rfl
  refine ⟨.ref p, rfl, p, _, 0, _, rfl, rfl, S0, i0 _ _, _, _, rfl, rfl, _, rfl, ?_⟩
  refine KT.iteB (b := decide (0 < x)) (fun e => ?_) fun e => ?_
  · refine ⟨.ref p, rfl, p, _, 0, _, rfl, rfl, S0, i0 _ _, .int m, rfl, x, m, rfl, ⟨m0, m1⟩, fun t ht => ?_⟩
    have np : p ≠ t := ne_of_none hp ht
    refine ⟨t, [.int (x / m), .int (x % m)], rfl, SqT.of upd_same, rfl, _, _, rfl, ⟨.ref p, rfl, p, [.int x, .int y], 0, 0, rfl, rfl, by rw [upd_ne np]; exact hp, rfl, ?_⟩⟩
    refine ⟨.int (x % m), [], rfl, rfl, .int (x % m), rfl, ?_⟩
    refine q _ _ (Int.emod_nonneg _ (by omega)) (Int.emod_lt_of_pos _ m0) (fun b o e hb => ?_) ⟨x / m, y, Int.ediv_nonneg hx (by omega), hy, upd_same⟩
    rw [upd_ne hb, upd_ne (ne_of_none e ht)]
    exact e
  · refine ⟨.ref p, rfl, p, _, 1, _, rfl, rfl, S0, i1 _ _, _, _, rfl, rfl, .inr ⟨by decide, by decide⟩, _, _, rfl, rfl, _, _, rfl, rfl, (by show (0 : Int) < 2147483587; decide), ?_⟩
    have y0 := Int.emod_nonneg (y * 48271 + 18539) (by decide : (2147483587 : Int) ≠ 0)
    have y1 := Int.emod_lt_of_pos (y * 48271 + 18539) (by decide : (0 : Int) < 2147483587)
    refine ⟨.ref p, rfl, p, [.int x, .int y], 1, 1, rfl, rfl, hp, rfl, ?_⟩
    have S1 : ∀ z, SqL K (upd H p (.lst [.int x, .int z])) p [.int x, .int z] := fun z => SqL.of upd_same
    refine ⟨.ref p, rfl, p, _, 1, _, rfl, rfl, S1 _, i1 _ _, .ref p, rfl, p, _, 1, _, rfl, rfl, S1 _, i1 _ _, _, _, rfl, rfl, .inl ⟨?_, ?_⟩, ?_⟩
    · exact Int.lt_of_lt_of_le (by decide) y0
    · exact Int.lt_trans y1 (by decide)
    refine ⟨_, _, rfl, rfl, (by show (0 : Int) < 2147483549; decide), _, _, rfl, rfl, ⟨by decide, by decide⟩, .int m, rfl, _, m, rfl, rfl, m0, ?_⟩
    exact q _ _ (Int.emod_nonneg _ (by omega)) (Int.emod_lt_of_pos _ m0) But.upd ⟨x, _, hx, y0, upd_same⟩
theorem cut_map (ns : List Int) (lo hi : Option Int) : cutV (ns.map V.int) lo hi = (cutG ns lo hi).map V.int := by
  unfold cutV cutG
  rw [List.length_map, List.map_take, List.map_drop]
theorem ok_law_pot {f : Addr} {fd : FuncData} (F : KT.At K mg "_law_pot" s_law_pot ["_law_script", "_law_k"] f fd) (Z : Ns mg) : FnOk P w K mg base L2.CX0 1 f fd ["_law_script", "_law_k"] (spPot K) := by
  refine F.fn.ok c_law_pot (fun vs H Q E h => ?_) fun cdv A outer s H vs Q E hr h => ?_
  · obtain ⟨a, ns, j, rfl, _⟩ := h
    rfl
  obtain ⟨a, ns, j, rfl, hj, hs, q⟩ := h
  refine ⟨_, (pss_cons (ps_set (i := 2) c_law_pot.nd rfl (.inl rfl) (pe_op op_add (pe_op op_add (pe_op op_mul pe_int (pv 1)) pe_int) (pe_op op_mod (pe_callB (cr_sum rfl) (by rfl) Z.sum_ (by decide +kernel) (pa_cons (pe_slice sl_list (pv 0) po_none (po_some pe_int)) pa_nil)) pe_int))) (pss_cons (ps_if (pt_cmp (pc_lt (pv 1) (pe_callB call_len_seq (by rfl) Z.len_ PySem.boot_len (pa_cons (pv 0) pa_nil)))) (pss_one (ps_set (i := 2) c_law_pot.nd rfl (.inl rfl) (pe_callB call_abs (by rfl) Z.abs_ (by decide +kernel) (pa_cons (pe_ix ix_list (pv 0) (pv 1) (fun _ _ => rfl)) pa_nil)))) pss_nil) (pss_one (ps_ret (pe_lst (pa_cons (pe_callB (call_max2 rfl) (by rfl) Z.max_ (by decide +kernel) (pa_cons pe_int (pa_cons (pe_op op_sub (pv 2) (pe_op op_pow pe_int pe_int)) pa_nil))) (pa_cons (pe_op op_add (pe_op op_mod (pe_op op_mul (pe_op op_add (pe_op op_mod (pv 2) pe_int) pe_int) (pe_op op_pow (pe_op op_add (pe_op op_mul pe_int (pv 1)) pe_int) pe_int)) pe_int) pe_int) pa_nil))))))), ?_⟩
  refine ⟨.int j, rfl, _, _, rfl, rfl, .inl ⟨by decide, by decide⟩, _, _, rfl, rfl, ?_⟩
  refine ⟨.ref a, rfl, _, rfl, a, _, rfl, hs, fun p hp => ?_⟩
  have sm : Same H (upd H p (.lst (cutV (ns.map V.int) none (some 1)))) := TW.same_new hp
  refine ⟨p, cutG ns none (some 1), rfl, SqL.of (by rw [upd_same, cut_map]), _, _, rfl, rfl, (by show (0 : Int) < 1000003; decide), _, _, rfl, rfl, ?_⟩
  generalize upd H p (.lst (cutV (ns.map V.int) none (some 1))) = H1 at sm
  have hs1 := sm.seq hs
  have fin : ∀ c : Int, (tRet (tLst (tCons (tCB (fun xs H Q => ∃ i j, xs = [.int i, .int j] ∧ Q (.int (if j > i then j else i)) H) (tCons (tC (.int 0)) (tCons (tOp (rI0 fun i j => .int (i - j)) (tVar 2) (tOp (rI CPow fun i j => .int (i ^ j.toNat)) (tC (.int 10)) (tC (.int 18)))) tNil)))
      (tCons (tOp (rI0 fun i j => .int (i + j)) (tOp (rI (fun _ j => 0 < j) fun i j => .int (i % j)) (tOp (rI CMul fun i j => .int (i * j)) (tOp (rI0 fun i j => .int (i + j)) (tOp (rI (fun _ j => 0 < j) fun i j => .int (i % j)) (tVar 2) (tC (.int 2147483549))) (tC (.int 18539)))
        (tOp (rI CPow fun i j => .int (i ^ j.toNat)) (tOp (rI0 fun i j => .int (i + j)) (tOp (rI CMul fun i j => .int (i * j)) (tC (.int 2)) (tVar 1)) (tC (.int 5))) (tC (.int 3)))) (tC (.int 2147483477))) (tC (.int 1))) tNil)))) { nx := fun _ H' => Q .non H', rt := Q } [some (.ref a), some (.int j), some (.int c)] H1 := by
    intro c
    refine ⟨.int c, rfl, 10, 18, rfl, rfl, ⟨by decide, by decide, by decide⟩, _, _, rfl, rfl, _, _, rfl, ?_⟩
    refine ⟨.int c, rfl, _, _, rfl, rfl, (by show (0 : Int) < 2147483549; decide), _, _, rfl, rfl, ?_⟩
    have y0 := Int.emod_nonneg c (by decide : (2147483549 : Int) ≠ 0)
    have y1 := Int.emod_lt_of_pos c (by decide : (0 : Int) < 2147483549)
    refine ⟨.int j, rfl, _, _, rfl, rfl, .inl ⟨by decide, by decide⟩, _, _, rfl, rfl, _, 3, rfl, rfl, ⟨by decide, by decide, by omega⟩, _, _, rfl, rfl, .inl ⟨by omega, by omega⟩, _, _, rfl, rfl, (by show (0 : Int) < 2147483477; decide), _, _, rfl, rfl, ?_⟩
    refine ⟨by show 2 ≤ 2 ^ 24; decide, fun p hp => q p _ (sm.trans (TW.same_new hp)) ?_ ⟨_, _, ?_, ?_, upd_same⟩⟩
    · cases e : H p with
      | none => rfl
      | some o => rw [sm p o e] at hp; cases hp
    · split <;> omega
    · exact Int.add_nonneg (Int.emod_nonneg _ (by decide)) (by decide)
  refine ⟨.int j, rfl, .ref a, rfl, a, _, rfl, .inl hs1, _, _, rfl, rfl, _, rfl, ?_⟩
  refine KT.iteB (b := decide ((j : Int) < ((ns.map V.int).length : Nat))) (fun e => ?_) fun e => ?_
  · have e := of_decide_eq_true e
    rw [List.length_map] at e
    have lt : j < ns.length := by omega
    have x0 : (ns.map V.int)[j]? = some (V.int ns[j]) := by rw [List.getElem?_map, List.getElem?_eq_getElem lt]; rfl
    refine ⟨.ref a, rfl, .int j, rfl, a, _, j, _, rfl, rfl, hs1, atI_nat x0, _, rfl, ?_⟩
    exact fin _
  · exact fin _
def K_draw : Kt := fun ds Φ => ∃ (k : Nat) (m : Int), ds = [.pot k, .int m] ∧ 0 < m ∧ m < 1073741824 ∧ ∀ d : Int, 0 ≤ d → d < m → Φ (.cl (.int d))
theorem fnG_of {k : Nat} {f : Addr} {fd : FuncData} {ps : List Str} {sp sp' : Sp} (F : FnOk P w K mg base L2.CX0 k f fd ps sp) (h : ∀ vs H Q E, sp' vs H Q E → sp vs H Q E) : FnG P w K mg base L2.CX0 k f fd ps sp' :=
  ⟨fun vs H Q E q => F.len vs H Q E (h _ _ _ _ q), fun A o s H a us vs Q E _ r e0 b v q => F.run A o s H a us vs Q E r e0 b v (h _ _ _ _ q)⟩
theorem draw_k {f : Addr} {fd : FuncData} (F : FnOk P w K mg base L2.CX0 1 f fd ["_law_pot_here", "_law_many"] spDraw) : FnG P w K mg base L2.CX0 1 f fd ["_law_pot_here", "_law_many"] (Fk (GK K C pots) K_draw) := by
  refine fnG_of F fun vs H Q E h => ?_
  obtain ⟨B, ds, Φ, hB, hp, hd, ⟨k, m, rfl, m0, m1, φ⟩, q⟩ := h
  cases hd with
  | cons a t =>
    cases t with
    | cons b t =>
      cases t
      cases a with
      | @pot _ p ek =>
        cases b
        have pm : p ∈ pots := List.mem_of_getElem? ek
        refine ⟨p, m, rfl, (hp p pm).2, m0, m1, fun d H' d0 d1 bt pt => q _ _ _ ⟨fun c o e nc => bt c o e fun z => nc (by rw [z]; exact pm), fun c hc z => ?_⟩ (.c (.int d)) (φ d d0 d1)⟩
        by_cases e : c = p
        · rw [e]; exact pt
        · exact z.same fun o w => bt c o w e
end
end EN

set_option Elab.async false
set_option linter.all false
set_option maxRecDepth 100000
set_option maxHeartbeats 4000000
namespace EN
open PySem L2 TW RZ
open KT (Txt)
def K_law_number : Kt := fun ds Φ => ∃ k : Nat, ds = [.pot k] ∧ ∀ d q, numD d = some q → Dy 1 4 q → noObj d = true → Φ (.cl d)
def K_law_word : Kt := fun ds Φ => ∃ (k m : Nat), ds = [.pot k, .int m] ∧ 0 < m ∧ m ≤ 6 ∧ ∀ w : List Int, 1 ≤ w.length → w.length ≤ 6 → (∀ i ∈ w, 0 ≤ i ∧ i < 2) → Φ (.nw (.node (w.map fun i => .leaf (.int i))))
def K_law_right : Kt := fun ds Φ => ds = [.pot 0] ∧ Φ (.cl (.bl true))
section
variable {P : Program} {w : World} {K : W.Frag} {mg : Str → Option Value} {base : Heap} {C : Addr} {pots : List Addr}
abbrev s_law_number : Stmt := top 33
theorem c_law_number : FnScope ["_law_pot_here", "_law_top"] ["_law_pot_here"] (defScope s_law_number) := ⟨rfl, rfl, rfl, by decide +kernel, rfl, by decide +kernel, by decide +kernel⟩
def g_law_number : GS := (gSeq (gSet 1 (gOp kSub (gCallK K_draw (gCons (gVar 0) (gCons (gC (.int 13)) gNil))) (gC (.int 6)))) (gRet (gIf (gTest (gOp kEq (gCallK K_draw (gCons (gVar 0) (gCons (gC (.int 4)) gNil))) (gC (.int 0)))) (gMk2 (gVar 1) (gC (.int 2))) (gVar 1))))
theorem ok_law_number {f : Addr} {fd : FuncData} {f_law_draw : Addr} {fd_law_draw : FuncData} (A : KT.At K mg "_law_number" s_law_number ["_law_pot_here"] f fd) (R : RatF P w K mg base C)
    (A_law_draw : KT.At K mg "_law_draw" s_law_draw ["_law_pot_here", "_law_many"] f_law_draw fd_law_draw) (N_law_draw : FnG P w K mg base L2.CX0 1 f_law_draw fd_law_draw ["_law_pot_here", "_law_many"] (Fk (GK K C pots) K_draw))
    (len : ∀ ds Φ, K_law_number ds Φ → ds.length = 1) (hk : ∀ ds Φ, K_law_number ds Φ → g_law_number { nx := fun _ => Φ (.cl .non), rt := Φ } (ds.map .va ++ List.replicate (2 - ds.length) .un)) :
    FnG P w K mg base L2.CX0 9 f fd ["_law_pot_here"] (Fk (GK K C pots) K_law_number) :=
  ok_k A.fn c_law_number len hk fun cdv A0 outer s H E gd hr => ⟨_, (db_cons (ds_set (i := 1) c_law_number.nd rfl (by first | exact .inl rfl | exact .inr rfl) (de_op (op_subA R (hr.mono (by decide))) (os_sub (G := GK K C pots)) (de_call N_law_draw gd (hr.mono (by decide)) (by rfl) A_law_draw.mg A_law_draw.fn.kp A_law_draw.b pass0 (da_cons (de_v 0) (da_cons de_int da_nil))) de_int)) (db_one (ds_ret (de_if (dt_cmp (op_eqA (G := GK K C pots) R rfl (hr.mono (by decide))) (os_eq (G := GK K C pots)) (de_call N_law_draw gd (hr.mono (by decide)) (by rfl) A_law_draw.mg A_law_draw.fn.kp A_law_draw.b pass0 (da_cons (de_v 0) (da_cons de_int da_nil))) de_int (nomark _)) (de_mk2 R (hr.mono (by decide)) (de_v 1) de_int (by rfl)) (de_v 1)))))⟩
abbrev s_law_word : Stmt := top 34
theorem c_law_word : FnScope ["_law_pot_here", "_law_most", "_law_found", "_law_turn"] ["_law_pot_here", "_law_most"] (defScope s_law_word) := ⟨rfl, rfl, rfl, by decide +kernel, rfl, by decide +kernel, by decide +kernel⟩
def g_law_word : GS := (gSeq (gOwn 2 (gLst gNil)) (gSeq (gFor (gRg1 (gOp kAdd (gCallK K_draw (gCons (gVar 0) (gCons (gVar 1) gNil))) (gC (.int 1)))) (uName 3) (gApp 2 (gCallK K_draw (gCons (gVar 0) (gCons (gC (.int 2)) gNil))))) (gRet (gVar 2))))
theorem ok_law_word {f : Addr} {fd : FuncData} {f_law_draw : Addr} {fd_law_draw : FuncData} (A : KT.At K mg "_law_word" s_law_word ["_law_pot_here", "_law_most"] f fd) (R : RatF P w K mg base C) (Z : Ns mg)
    (A_law_draw : KT.At K mg "_law_draw" s_law_draw ["_law_pot_here", "_law_many"] f_law_draw fd_law_draw) (N_law_draw : FnG P w K mg base L2.CX0 1 f_law_draw fd_law_draw ["_law_pot_here", "_law_many"] (Fk (GK K C pots) K_draw))
    (len : ∀ ds Φ, K_law_word ds Φ → ds.length = 2) (hk : ∀ ds Φ, K_law_word ds Φ → g_law_word { nx := fun _ => Φ (.cl .non), rt := Φ } (ds.map .va ++ List.replicate (4 - ds.length) .un)) :
    FnG P w K mg base L2.CX0 9 f fd ["_law_pot_here", "_law_most"] (Fk (GK K C pots) K_law_word) :=
  ok_k A.fn c_law_word len hk fun cdv A0 outer s H E gd hr => ⟨_, (db_cons (ds_own (i := 2) c_law_word.nd rfl (by first | exact .inl rfl | exact .inr rfl) (de_lst da_nil)) (db_cons (ds_for PassesOwn.never rfl (di_rg1 (by rfl) Z.range_ (de_op (op_addA R (hr.mono (by decide))) (os_add (G := GK K C pots)) (de_call N_law_draw gd (hr.mono (by decide)) (by rfl) A_law_draw.mg A_law_draw.fn.kp A_law_draw.b pass0 (da_cons (de_v 0) (da_cons (de_v 1) da_nil))) de_int)) (dg_name (i := 3) c_law_word.nd rfl (by first | exact .inl rfl | exact .inr rfl)) (db_one (ds_app (pv 2) (de_call N_law_draw gd (hr.mono (by decide)) (by rfl) A_law_draw.mg A_law_draw.fn.kp A_law_draw.b pass0 (da_cons (de_v 0) (da_cons de_int da_nil)))))) (db_one (ds_ret (de_v 2)))))⟩
abbrev s_law_right : Stmt := top 35
theorem c_law_right : FnScope ["_law_pot_here", "_law_numbers", "_law_s", "_law_t", "_law_u", "_law_m", "_law_v", "_law_number_here", "_law_short", "_law_word_here", "_law_p", "_law_q", "_law_turn", "_law_told", "_law_at", "_law_apart", "_law_letter", "_law_rise", "_law_fall"] ["_law_pot_here"] (defScope s_law_right) := ⟨rfl, rfl, rfl, by decide +kernel, rfl, by decide +kernel, by decide +kernel⟩
def g_law_right : GS := (gSeq (gSet 1 (gTup (gCons (gCallK K_law_number (gCons (gVar 0) gNil)) (gCons (gCallK K_law_number (gCons (gVar 0) gNil)) (gCons (gCallK K_law_number (gCons (gVar 0) gNil)) (gCons (gCallK K_law_number (gCons (gVar 0) gNil)) (gCons (gCallK K_law_number (gCons (gVar 0) gNil)) gNil))))))) (gSeq (gAsg (uSq (uCons 2 (uCons 3 (uCons 4 (uCons 5 (uCons 6 uNil)))))) (gLc (gSeq' (gVar 1)) (uName 7) gYes (gOp kAdd (gMk1 (gC (.int 0))) (gVar 7)) [7])) (gSeq (gSet 8 (gLc (gSeq' (gLst (gCons (gLst (gCons (gC (.int 0)) gNil)) (gCons (gLst (gCons (gC (.int 1)) gNil)) (gCons (gLst (gCons (gC (.int 0)) (gCons (gC (.int 0)) gNil))) (gCons (gLst (gCons (gC (.int 0)) (gCons (gC (.int 1)) gNil))) (gCons (gLst (gCons (gC (.int 1)) (gCons (gC (.int 1)) gNil))) (gCons (gLst (gCons (gC (.int 1)) (gCons (gC (.int 0)) gNil))) gNil)))))))) (uName 9) gYes (gCallK K_word_by (gCons (gVar 1) (gCons (gVar 9) gNil))) [9])) (gSeq (gIfS (gOr (gTest (gOp kNe (gVar 8) (gLst (gCons (gVar 2) (gCons (gVar 3) (gCons (gVar 4) (gCons (gVar 5) (gCons (gVar 6) (gCons (gVar 5) gNil))))))))) (gTest (gOp kNe (gCallK K_word_by (gCons (gVar 1) (gCons (gLst gNil) gNil))) (gMk1 (gC (.int 2)))))) (gRet (gC (.bl false))) gNext) (gSeq (gPar 10 11 (gCons (gOv (gOp kSub (gOp kMul (gVar 2) (gVar 2)) (gVar 4)) (gC (.int 2))) (gCons (gOv (gOp kSub (gOp kMul (gVar 3) (gVar 3)) (gVar 6)) (gC (.int 2))) gNil))) (gSeq (gFor (gRg1 (gC (.int 3))) (uName 12) (gSeq (gSet 9 (gCallK K_law_word (gCons (gVar 0) (gCons (gC (.int 6)) gNil)))) (gSeq (gPar 13 14 (gCons (gCallK K_word_by (gCons (gVar 1) (gCons (gVar 9) gNil))) (gCons (gCallK K_draw (gCons (gVar 0) (gCons (gCa kLen (gCons (gVar 9) gNil)) gNil))) gNil))) (gSeq (gIfS (gOr (gNot (gTest (gIs isR (gVar 13)))) (gTest (gOp kNe (gCallK K_word_by (gCons (gVar 1) (gCons (gOp kAdd (gSl (gVar 9) (gPt (gVar 14)) gNo) (gSl (gVar 9) gNo (gPt (gVar 14)))) gNil))) (gVar 13)))) (gRet (gC (.bl false))) gNext) (gSeq (gIfS (gTest (gOp kNe (gKw K_word_by [1, 0] 2 (gCons (gSl3 (gVar 9) gNo gNo (gPt (gUn kNeg (gC (.int 1))))) (gCons (gVar 1) gNil))) (gVar 13))) (gRet (gC (.bl false))) gNext) (gSeq (gSet 15 (gMk1 (gC (.int 1)))) (gSeq (gFor (gSeq' (gVar 9)) (uName 16) (gSet 15 (gOp kMul (gVar 15) (gIf (gTest (gOp kEq (gVar 16) (gC (.int 0)))) (gVar 10) (gVar 11))))) (gSeq (gIfS (gTest (gOp kNe (gCallK K_word_by (gCons (gVar 1) (gCons (gOp kAdd (gVar 9) (gVar 9)) gNil))) (gOp kSub (gOp kMul (gVar 13) (gVar 13)) (gOp kMul (gVar 15) (gC (.int 2)))))) (gRet (gC (.bl false))) gNext) (gFor (gSeq' (gLst (gCons (gTup (gCons (gC (.int 0)) (gCons (gVar 2) (gCons (gVar 10) gNil)))) (gCons (gTup (gCons (gC (.int 1)) (gCons (gVar 3) (gCons (gVar 11) gNil)))) gNil)))) (uTup (uCons 16 (uCons 17 (uCons 18 uNil)))) (gIfS (gTest (gOp kNe (gCallK K_word_by (gCons (gVar 1) (gCons (gOp kAdd (gLst (gCons (gVar 16) (gCons (gVar 16) gNil))) (gVar 9)) gNil))) (gOp kSub (gOp kMul (gVar 17) (gCallK K_word_by (gCons (gVar 1) (gCons (gOp kAdd (gLst (gCons (gVar 16) gNil)) (gVar 9)) gNil)))) (gOp kMul (gVar 18) (gVar 13))))) (gRet (gC (.bl false))) gNext)))))))))) (gRet (gC (.bl true)))))))))
theorem ok_law_right {f : Addr} {fd : FuncData} {f_law_number : Addr} {fd_law_number : FuncData} {f_word_by : Addr} {fd_word_by : FuncData} {f_law_word : Addr} {fd_law_word : FuncData} {f_law_draw : Addr} {fd_law_draw : FuncData} (A : KT.At K mg "_law_right" s_law_right ["_law_pot_here"] f fd) (R : RatF P w K mg base C) (T : TyF K C) (Z : Ns mg) {f_o g_o p_o : Addr} {fd_o : FuncData} {mc_o : Value} (V : OvX P w K mg base C f_o g_o p_o fd_o mc_o)
    (A_law_number : KT.At K mg "_law_number" s_law_number ["_law_pot_here"] f_law_number fd_law_number) (N_law_number : FnG P w K mg base L2.CX0 9 f_law_number fd_law_number ["_law_pot_here"] (Fk (GK K C pots) K_law_number))
    (A_word_by : KT.At K mg "word_by" s_word_by ["five", "word"] f_word_by fd_word_by) (N_word_by : FnG P w K mg base L2.CX0 13 f_word_by fd_word_by ["five", "word"] (Fk (GK K C pots) K_word_by))
    (A_law_word : KT.At K mg "_law_word" s_law_word ["_law_pot_here", "_law_most"] f_law_word fd_law_word) (N_law_word : FnG P w K mg base L2.CX0 9 f_law_word fd_law_word ["_law_pot_here", "_law_most"] (Fk (GK K C pots) K_law_word))
    (A_law_draw : KT.At K mg "_law_draw" s_law_draw ["_law_pot_here", "_law_many"] f_law_draw fd_law_draw) (N_law_draw : FnG P w K mg base L2.CX0 1 f_law_draw fd_law_draw ["_law_pot_here", "_law_many"] (Fk (GK K C pots) K_draw)) (W_word_by_word_five : KwB K fd_word_by ["five", "word"] ["word", "five"] [1, 0])
    (len : ∀ ds Φ, K_law_right ds Φ → ds.length = 1) (hk : ∀ ds Φ, K_law_right ds Φ → g_law_right { nx := fun _ => Φ (.cl .non), rt := Φ } (ds.map .va ++ List.replicate (19 - ds.length) .un)) :
    FnG P w K mg base L2.CX0 14 f fd ["_law_pot_here"] (Fk (GK K C pots) K_law_right) :=
  ok_k A.fn c_law_right len hk fun cdv A0 outer s H E gd hr => ⟨_, (db_cons (ds_set (i := 1) c_law_right.nd rfl (by first | exact .inl rfl | exact .inr rfl) (de_tup (da_cons (de_call N_law_number gd (hr.mono (by decide)) (by rfl) A_law_number.mg A_law_number.fn.kp A_law_number.b pass0 (da_cons (de_v 0) da_nil)) (da_cons (de_call N_law_number gd (hr.mono (by decide)) (by rfl) A_law_number.mg A_law_number.fn.kp A_law_number.b pass0 (da_cons (de_v 0) da_nil)) (da_cons (de_call N_law_number gd (hr.mono (by decide)) (by rfl) A_law_number.mg A_law_number.fn.kp A_law_number.b pass0 (da_cons (de_v 0) da_nil)) (da_cons (de_call N_law_number gd (hr.mono (by decide)) (by rfl) A_law_number.mg A_law_number.fn.kp A_law_number.b pass0 (da_cons (de_v 0) da_nil)) (da_cons (de_call N_law_number gd (hr.mono (by decide)) (by rfl) A_law_number.mg A_law_number.fn.kp A_law_number.b pass0 (da_cons (de_v 0) da_nil)) da_nil))))))) (db_cons (ds_asg (de_lc (own := [("_law_number_here", 7)]) (G := GK K C pots) (is := [7]) (u := (uName 7)) rfl c_law_right.nd (di_any (de_v 1)) (blkOk_by (N := ["_law_pot_here", "_law_numbers", "_law_s", "_law_t", "_law_u", "_law_m", "_law_v", "_law_number_here", "_law_short", "_law_word_here", "_law_p", "_law_q", "_law_turn", "_law_told", "_law_at", "_law_apart", "_law_letter", "_law_rise", "_law_fall"]) (sc := defScope s_law_right) (by decide +kernel)) (by decide) (fun _ _ _ _ _ => (dg_name (i := 7) c_law_right.nd rfl (by first | exact .inl rfl | exact .inr rfl))) (fun _ _ _ _ _ => dts_nil) (fun _ _ _ _ _ => (de_op (op_addA R (hr.mono (by decide))) (os_add (G := GK K C pots)) (de_mk1 R (hr.mono (by decide)) de_int (by rfl)) (de_v 7)))) (dg_sq rfl (dgs_cons (dg_name (i := 2) c_law_right.nd rfl (by first | exact .inl rfl | exact .inr rfl)) (dgs_cons (dg_name (i := 3) c_law_right.nd rfl (by first | exact .inl rfl | exact .inr rfl)) (dgs_cons (dg_name (i := 4) c_law_right.nd rfl (by first | exact .inl rfl | exact .inr rfl)) (dgs_cons (dg_name (i := 5) c_law_right.nd rfl (by first | exact .inl rfl | exact .inr rfl)) (dgs_cons (dg_name (i := 6) c_law_right.nd rfl (by first | exact .inl rfl | exact .inr rfl)) dgs_nil))))) (uCons_len (uCons_len (uCons_len (uCons_len (uCons_len uNil_len))))))) (db_cons (ds_lcS (i := 8) (own := [("_law_word_here", 9)]) (G := GK K C pots) (is := [9]) (u := (uName 9)) rfl c_law_right.nd rfl rfl (sw_true rfl rfl rfl (by decide +kernel)) (di_any (de_lst (da_cons (de_lst (da_cons de_int da_nil)) (da_cons (de_lst (da_cons de_int da_nil)) (da_cons (de_lst (da_cons de_int (da_cons de_int da_nil))) (da_cons (de_lst (da_cons de_int (da_cons de_int da_nil))) (da_cons (de_lst (da_cons de_int (da_cons de_int da_nil))) (da_cons (de_lst (da_cons de_int (da_cons de_int da_nil))) da_nil)))))))) (blkOk_by (N := ["_law_pot_here", "_law_numbers", "_law_s", "_law_t", "_law_u", "_law_m", "_law_v", "_law_number_here", "_law_short", "_law_word_here", "_law_p", "_law_q", "_law_turn", "_law_told", "_law_at", "_law_apart", "_law_letter", "_law_rise", "_law_fall"]) (sc := defScope s_law_right) (by decide +kernel)) (by decide) (fun _ _ _ _ _ => (dg_name (i := 9) c_law_right.nd rfl (by first | exact .inl rfl | exact .inr rfl))) (fun _ _ _ _ _ => dts_nil) (fun _ _ _ _ _ => (de_call N_word_by gd (hr.mono (by decide)) (by rfl) A_word_by.mg A_word_by.fn.kp A_word_by.b pass0 (da_cons (de_v 1) (da_cons (de_v 9) da_nil))))) (db_cons (ds_if (DW.t (dw_or (dt_cmp (op_neA (G := GK K C pots) R rfl (hr.mono (by decide))) (os_ne (G := GK K C pots)) (de_v 8) (de_lst (da_cons (de_v 2) (da_cons (de_v 3) (da_cons (de_v 4) (da_cons (de_v 5) (da_cons (de_v 6) (da_cons (de_v 5) da_nil))))))) (nomark _)) (dw_or1 (dt_cmp (op_neA (G := GK K C pots) R rfl (hr.mono (by decide))) (os_ne (G := GK K C pots)) (de_call N_word_by gd (hr.mono (by decide)) (by rfl) A_word_by.mg A_word_by.fn.kp A_word_by.b pass0 (da_cons (de_v 1) (da_cons (de_lst da_nil) da_nil))) (de_mk1 R (hr.mono (by decide)) de_int (by rfl)) (nomark _))))) (db_one (ds_ret de_bl)) db_nil) (db_cons (ds_par rfl c_law_right.nd (i := 10) (j := 11) rfl rfl (by decide) rfl rfl (da_cons (de_over V.cl V.over.m V.over.f V.over.b (hr.mono (by decide)) (de_op (op_subA R (hr.mono (by decide))) (os_sub (G := GK K C pots)) (de_op (op_mulA R (hr.mono (by decide))) (os_mul (G := GK K C pots)) (de_v 2) (de_v 2)) (de_v 4)) de_int) (da_cons (de_over V.cl V.over.m V.over.f V.over.b (hr.mono (by decide)) (de_op (op_subA R (hr.mono (by decide))) (os_sub (G := GK K C pots)) (de_op (op_mulA R (hr.mono (by decide))) (os_mul (G := GK K C pots)) (de_v 3) (de_v 3)) (de_v 6)) de_int) da_nil)) (by rfl)) (db_cons (ds_for PassesOwn.never rfl (di_rg1 (by rfl) Z.range_ de_int) (dg_name (i := 12) c_law_right.nd rfl (by first | exact .inl rfl | exact .inr rfl)) (db_cons (ds_set (i := 9) c_law_right.nd rfl (by first | exact .inl rfl | exact .inr rfl) (de_call N_law_word gd (hr.mono (by decide)) (by rfl) A_law_word.mg A_law_word.fn.kp A_law_word.b pass0 (da_cons (de_v 0) (da_cons de_int da_nil)))) (db_cons (ds_par rfl c_law_right.nd (i := 13) (j := 14) rfl rfl (by decide) rfl rfl (da_cons (de_call N_word_by gd (hr.mono (by decide)) (by rfl) A_word_by.mg A_word_by.fn.kp A_word_by.b pass0 (da_cons (de_v 1) (da_cons (de_v 9) da_nil))) (da_cons (de_call N_law_draw gd (hr.mono (by decide)) (by rfl) A_law_draw.mg A_law_draw.fn.kp A_law_draw.b pass0 (da_cons (de_v 0) (da_cons (de_callB (call_lenG (G := GK K C pots) rfl) (ca_len rfl) (by rfl) Z.len_ PySem.boot_len (da_cons (de_v 9) da_nil)) da_nil))) da_nil)) (by rfl)) (db_cons (ds_if (DW.t (dw_or (dt_not (dt_val (de_isRat T R rfl (de_v 13) Z.isinstance_ (by rfl) (by rfl)))) (dw_or1 (dt_cmp (op_neA (G := GK K C pots) R rfl (hr.mono (by decide))) (os_ne (G := GK K C pots)) (de_call N_word_by gd (hr.mono (by decide)) (by rfl) A_word_by.mg A_word_by.fn.kp A_word_by.b pass0 (da_cons (de_v 1) (da_cons (de_op (op_addA R (hr.mono (by decide))) (os_add (G := GK K C pots)) (de_slice (de_v 9) (do_some (de_v 14)) do_none) (de_slice (de_v 9) do_none (do_some (de_v 14)))) da_nil))) (de_v 13) (nomark _))))) (db_one (ds_ret de_bl)) db_nil) (db_cons (ds_if (dt_cmp (op_neA (G := GK K C pots) R rfl (hr.mono (by decide))) (os_ne (G := GK K C pots)) (de_kw N_word_by gd (hr.mono (by decide)) (by rfl) A_word_by.mg A_word_by.fn.kp W_word_by_word_five pass0 (dk_cons (de_slice3 (de_v 9) do_none do_none (do_some (de_un (un_negA R (hr.mono (by decide))) (us_neg (G := GK K C pots)) de_int))) (dk_cons (de_v 1) dk_nil))) (de_v 13) (nomark _)) (db_one (ds_ret de_bl)) db_nil) (db_cons (ds_set (i := 15) c_law_right.nd rfl (by first | exact .inl rfl | exact .inr rfl) (de_mk1 R (hr.mono (by decide)) de_int (by rfl))) (db_cons (ds_for PassesOwn.never rfl (di_any (de_v 9)) (dg_name (i := 16) c_law_right.nd rfl (by first | exact .inl rfl | exact .inr rfl)) (db_one (ds_set (i := 15) c_law_right.nd rfl (by first | exact .inl rfl | exact .inr rfl) (de_op (op_mulA R (hr.mono (by decide))) (os_mul (G := GK K C pots)) (de_v 15) (de_if (dt_cmp (op_eqA (G := GK K C pots) R rfl (hr.mono (by decide))) (os_eq (G := GK K C pots)) (de_v 16) de_int (nomark _)) (de_v 10) (de_v 11)))))) (db_cons (ds_if (dt_cmp (op_neA (G := GK K C pots) R rfl (hr.mono (by decide))) (os_ne (G := GK K C pots)) (de_call N_word_by gd (hr.mono (by decide)) (by rfl) A_word_by.mg A_word_by.fn.kp A_word_by.b pass0 (da_cons (de_v 1) (da_cons (de_op (op_addA R (hr.mono (by decide))) (os_add (G := GK K C pots)) (de_v 9) (de_v 9)) da_nil))) (de_op (op_subA R (hr.mono (by decide))) (os_sub (G := GK K C pots)) (de_op (op_mulA R (hr.mono (by decide))) (os_mul (G := GK K C pots)) (de_v 13) (de_v 13)) (de_op (op_mulA R (hr.mono (by decide))) (os_mul (G := GK K C pots)) (de_v 15) de_int)) (nomark _)) (db_one (ds_ret de_bl)) db_nil) (db_one (ds_for PassesOwn.never rfl (di_any (de_lst (da_cons (de_tup (da_cons de_int (da_cons (de_v 2) (da_cons (de_v 10) da_nil)))) (da_cons (de_tup (da_cons de_int (da_cons (de_v 3) (da_cons (de_v 11) da_nil)))) da_nil)))) (dg_tup rfl (dgs_cons (dg_name (i := 16) c_law_right.nd rfl (by first | exact .inl rfl | exact .inr rfl)) (dgs_cons (dg_name (i := 17) c_law_right.nd rfl (by first | exact .inl rfl | exact .inr rfl)) (dgs_cons (dg_name (i := 18) c_law_right.nd rfl (by first | exact .inl rfl | exact .inr rfl)) dgs_nil))) (uCons_len (uCons_len (uCons_len uNil_len)))) (db_one (ds_if (dt_cmp (op_neA (G := GK K C pots) R rfl (hr.mono (by decide))) (os_ne (G := GK K C pots)) (de_call N_word_by gd (hr.mono (by decide)) (by rfl) A_word_by.mg A_word_by.fn.kp A_word_by.b pass0 (da_cons (de_v 1) (da_cons (de_op (op_addA R (hr.mono (by decide))) (os_add (G := GK K C pots)) (de_lst (da_cons (de_v 16) (da_cons (de_v 16) da_nil))) (de_v 9)) da_nil))) (de_op (op_subA R (hr.mono (by decide))) (os_sub (G := GK K C pots)) (de_op (op_mulA R (hr.mono (by decide))) (os_mul (G := GK K C pots)) (de_v 17) (de_call N_word_by gd (hr.mono (by decide)) (by rfl) A_word_by.mg A_word_by.fn.kp A_word_by.b pass0 (da_cons (de_v 1) (da_cons (de_op (op_addA R (hr.mono (by decide))) (os_add (G := GK K C pots)) (de_lst (da_cons (de_v 16) da_nil)) (de_v 9)) da_nil)))) (de_op (op_mulA R (hr.mono (by decide))) (os_mul (G := GK K C pots)) (de_v 18) (de_v 13))) (nomark _)) (db_one (ds_ret de_bl)) db_nil)))))))))))) (db_one (ds_ret de_bl))))))))⟩
end
end EN

set_option Elab.async false
set_option linter.all false
set_option maxRecDepth 100000
set_option maxHeartbeats 4000000
namespace EN
open PySem L2 TW RZ
def Vi (gi : GI) (ρ : Ev) (us : List D) : Prop := ∀ Φ : List D → Prop, Φ us → gi ρ Φ
theorem vi_seq {a : GE} {ρ : Ev} {r : R} {d : D} {l : List D} (h : Va a ρ r) (hc : r.c? = some d) (hd : itD d = some l) : Vi (gSeq' a) ρ l := fun Φ φ => h _ (by
  rw [hc]
  cases d <;> first | (cases hd; exact φ) | cases hd)
theorem va_lc {gi : GI} {u : GG} {ge : GE} {vs : List Nat} {ρ : Ev} {us : List D} {ts : List OT} (h : Vi gi ρ us) (hl : us.length ≤ sizeLine) (hw : nOws ρ vs = true) (e : All2 (fun d t => ∃ ρ2 r, u d (wipeE ρ vs) = some ρ2 ∧ Va ge ρ2 r ∧ r.o? = some t) us ts) :
    Va (gLc gi u gYes ge vs) ρ (.nw (.node ts)) := fun Φ φ => h _ ⟨hl, hw, by
  have key : ∀ {us : List D} {ts : List OT} (acc : List OT), All2 (fun d t => ∃ ρ2 r, u d (wipeE ρ vs) = some ρ2 ∧ Va ge ρ2 r ∧ r.o? = some t) us ts → Φ (.nw (.node (acc ++ ts))) → gLoop u gYes ge (wipeE ρ vs) us acc fun l => Φ (.nw (.node l)) := by
    intro us ts acc h
    induction h generalizing acc with
    | nil => intro φ; simpa [gLoop] using φ
    | cons a b ih =>
      intro φ
      obtain ⟨ρ2, r, e1, e2, e3⟩ := a
      refine ⟨ρ2, e1, ?_⟩
      unfold gYes
      refine iteT (e2 _ ?_)
      rw [e3]
      exact ih _ (by simpa using φ)
  exact key [] e (by simpa using φ)⟩
theorem ne_rat {p q : Rat} {Φ : R → Prop} (h : p = q) (φ : Φ (.cl (.bl false))) : kNe (.cl (.rat p)) (.cl (.rat q)) Φ := by
  subst h
  show Φ (.cl (.bl (!decide (p = p))))
  rw [decide_eq_true rfl]
  exact φ
theorem dsO_leaf (l : List D) : dsO (l.map .leaf) = l := by
  rw [dsO_map, List.map_map]
  exact (List.map_congr_left fun _ _ => rfl).trans (List.map_id l)
theorem c_leafs (l : List D) : (R.nw (.node (l.map .leaf))).c? = some (.lst l) := by
  show some (D.lst (dsO _)) = _
  rw [dsO_leaf]
theorem cut_from {α : Type} (xs : List α) (k : Nat) (h : k ≤ xs.length) : cutG xs (some (k : Int)) none = xs.drop k := by
  unfold cutG
  rw [HT.sIx_nat, HT.sIx_none, Nat.min_eq_left h]
  exact List.take_of_length_le (by rw [List.length_drop]; exact Nat.le_refl _)
theorem cut_to {α : Type} (xs : List α) (k : Nat) (h : k ≤ xs.length) : cutG xs none (some (k : Int)) = xs.take k := by
  unfold cutG
  rw [HT.sIx_nat, HT.sIx_none, Nat.min_eq_left h, Nat.sub_zero, List.drop_zero]
def wD (w : List Int) : D := .lst (w.map .int)
theorem wsum_dy {f : F5} (hf : f.ok) {w : List Int} (hw : w.length ≤ 16) : Dy 65 300 (wsum f w) := by
  have ok := run_ok hf w n0_ok
  show Dy 65 300 (tau f (run f w n0))
  generalize run f w n0 = n at ok
  have d2 : Dy 0 2 (((2 : Int)) : Rat) := Dy.int (by decide)
  have p1 : Dy (4 * w.length + 1) (17 * w.length + 6) (n.a * ((2 : Int) : Rat)) := (ok.a.mul d2).to (by omega) (by omega)
  have p2 : Dy (4 * w.length + 1) (17 * w.length + 6) (n.b * f.s) := (ok.b.mul hf.s).to (by omega) (by omega)
  have p3 : Dy (4 * w.length + 1) (17 * w.length + 6) (n.c * f.t) := (ok.c.mul hf.t).to (by omega) (by omega)
  have p4 : Dy (4 * w.length + 1) (17 * w.length + 6) (n.d * f.m) := (ok.d.mul hf.m).to (by omega) (by omega)
  have z := sumQ_dy (l := [n.a * ((2 : Int) : Rat), n.b * f.s, n.c * f.t, n.d * f.m]) (j := 0) (a := 0) (k := 4 * w.length + 1) (m := 17 * w.length + 6) (fun q hq => by
    simp only [List.mem_cons, List.not_mem_nil, or_false] at hq
    rcases hq with rfl | rfl | rfl | rfl
    · exact p1
    · exact p2
    · exact p3
    · exact p4) dy_zero
  exact z.to (by omega) (by show 17 * w.length + 6 + 0 + 4 + (65 - (4 * w.length + 1)) ≤ 300; omega)
theorem dets_dy {f : F5} (hf : f.ok) (i : Int) : Dy 3 9 (dets f i) := by
  unfold dets
  split
  · exact detQ_dy hf.s hf.u
  · exact detQ_dy hf.t hf.v
theorem apart_dy {f : F5} (hf : f.ok) : ∀ (w : List Int) {k m : Nat} {a : Rat}, Dy k m a → Dy (k + 3 * w.length) (m + 9 * w.length) (apart f w a)
  | [], k, m, a, h => h
  | i :: w, k, m, a, h => by
    have z := apart_dy hf w (h.mul (dets_dy hf i))
    have e1 : k + 3 + 3 * w.length = k + 3 * (i :: w).length := by rw [List.length_cons]; omega
    have e2 : m + 9 + 9 * w.length = m + 9 * (i :: w).length := by rw [List.length_cons]; omega
    rw [e1, e2] at z
    exact z
theorem dy_bits {k m : Nat} {q : Rat} (h : Dy k m q) (hk : k < 4000 := by omega) (hm : m ≤ 4000 := by omega) : Bits 4000 q := h.bits hk hm

theorem hk_law_number (ds : List D) (Φ : R → Prop) (h : K_law_number ds Φ) : g_law_number { nx := fun _ => Φ (.cl .non), rt := Φ } (ds.map .va ++ List.replicate (2 - ds.length) .un) := by
  obtain ⟨k, rfl, h⟩ := h
  refine ⟨k, 13, rfl, by decide, by decide, fun d d0 d1 => ?_⟩
  refine ⟨k, 4, rfl, by decide, by decide, fun e e0 e1 => ?_⟩
  refine KT.iteB (b := (e == 0)) (fun z => ?_) fun z => ?_
  · refine ⟨by decide, ?_, ?_⟩
    · show 2 < 2 ^ 9000
      exact Nat.lt_of_lt_of_le (show 2 < 2 ^ 2 by decide) (Nat.pow_le_pow_right (by decide) (by decide))
    · refine h (.rat (Rat.divInt (d - 6) 2)) _ rfl ⟨d - 6, rfl, ?_⟩ rfl
      show (d - 6).natAbs < 16
      omega
  · refine h (.int (d - 6)) _ rfl ⟨2 * (d - 6), ?_, ?_⟩ rfl
    · have : Rat.divInt ((d - 6) * 2) (1 * 2) = Rat.divInt (d - 6) 1 := Rat.divInt_mul_right (by decide)
      rw [divInt_1, Int.one_mul] at this
      rw [← this, Int.mul_comm]
      rfl
    · show (2 * (d - 6)).natAbs < 16
      omega
theorem hk_law_word (ds : List D) (Φ : R → Prop) (h : K_law_word ds Φ) : g_law_word { nx := fun _ => Φ (.cl .non), rt := Φ } (ds.map .va ++ List.replicate (4 - ds.length) .un) := by
  obtain ⟨k, m, rfl, m0, m1, h⟩ := h
  change g_law_word _ [.va (.pot k), .va (.int m), .un, .un]
  refine q_own (l := .node []) (ρ' := [.va (.pot k), .va (.int m), .ow (.node []), .un]) (va_lst (ds := []) vl_nil rfl (Nat.zero_le _)) (by show 2 < 4; decide) rfl ?_
  refine ⟨k, m, rfl, by omega, by omega, fun d d0 d1 => ?_⟩
  refine ⟨⟨by omega, by omega⟩, fun i ρ => ∃ (w : List Int) (s : Sl), nOw [s] 0 = true ∧ w.length = i ∧ (∀ x ∈ w, 0 ≤ x ∧ x < 2) ∧ ρ = [.va (.pot k), .va (.int m), .ow (.node (w.map fun x => .leaf (.int x))), s], ⟨[], .un, rfl, rfl, (fun _ z => nomatch z), rfl⟩, ?_, ?_⟩
  · rintro i e ρ' hi ⟨w, s, hs, hl, hw, rfl⟩
    rw [List.getElem?_map] at hi
    obtain ⟨j, hj, rfl⟩ := Option.map_eq_some_iff.1 hi
    have lt : i < (d + 1).toNat := by
      have := (List.getElem?_eq_some_iff.1 hj).1
      rwa [List.length_range] at this
    refine ⟨[.va (.pot k), .va (.int m), .ow (.node (w.map fun x => .leaf (.int x))), .va (.int (0 + (j : Nat)))], ?_, ?_⟩
    · show (if nOw [_, _, _, s] 3 = true then _ else none) = _
      exact if_pos hs
    · refine ⟨k, 2, rfl, by decide, by decide, fun x x0 x1 => ⟨?_, w ++ [x], .va (.int (0 + (j : Nat))), rfl, ?_, ?_, ?_⟩⟩
      · rw [List.length_map, hl]
        show i < 2 ^ 24
        omega
      · rw [List.length_append, hl]; rfl
      · intro y hy
        rcases List.mem_append.1 hy with z | z
        · exact hw y z
        · rw [List.mem_singleton.1 z]; exact ⟨x0, x1⟩
      · rw [List.map_append]
        rfl
  · rintro ρ' ⟨w, s, hs, hl, hw, rfl⟩
    rw [List.length_map, List.length_range] at hl
    exact h w (by omega) (by omega) hw
end EN

set_option Elab.async false
set_option linter.all false
set_option maxRecDepth 100000
set_option maxHeartbeats 4000000
namespace EN
open PySem L2 TW RZ
/-- five drawn numbers -/
theorem n_five {E : EnD} {k : GS} {l : List Sl} (h : ∀ (ds : List D) (f : F5), ds.length = 5 → numsD ds = some [f.s, f.t, f.u, f.m, f.v] → f.ok → (∀ d ∈ ds, noObj d = true) → k E (.va (.pot 0) :: .va (.tup ds) :: l)) :
    gSeq (gSet 1 (gTup (gCons (gCallK K_law_number (gCons (gVar 0) gNil)) (gCons (gCallK K_law_number (gCons (gVar 0) gNil)) (gCons (gCallK K_law_number (gCons (gVar 0) gNil)) (gCons (gCallK K_law_number (gCons (gVar 0) gNil)) (gCons (gCallK K_law_number (gCons (gVar 0) gNil)) gNil))))))) k E (.va (.pot 0) :: .un :: l) := by
  refine ⟨0, rfl, fun d1 q1 n1 y1 o1 => ?_⟩
  refine ⟨0, rfl, fun d2 q2 n2 y2 o2 => ?_⟩
  refine ⟨0, rfl, fun d3 q3 n3 y3 o3 => ?_⟩
  refine ⟨0, rfl, fun d4 q4 n4 y4 o4 => ?_⟩
  refine ⟨0, rfl, fun d5 q5 n5 y5 o5 => ?_⟩
  refine ⟨by show 5 ≤ 2 ^ 24; decide, ?_⟩
  refine h [d1, d2, d3, d4, d5] ⟨q1, q2, q3, q4, q5⟩ rfl ?_ ⟨y1, y2, y3, y4, y5⟩ fun d hd => ?_
  · simp only [numsD, n1, n2, n3, n4, n5]
  · simp only [List.mem_cons, List.not_mem_nil, or_false] at hd
    rcases hd with rfl | rfl | rfl | rfl | rfl
    · exact o1
    · exact o2
    · exact o3
    · exact o4
    · exact o5
theorem n_call {k : Kt} {gl : GA} {ρ : Ev} {rs : List R} {ds : List D} {Φ : R → Prop} (a : Vl gl ρ rs) (e : cs? rs = some ds) (h : k ds Φ) : gCallK k gl ρ Φ := a _ (by rw [e]; exact h)
theorem va_len {ρ : Ev} {ga : GE} {w : List Int} (h : Va ga ρ (.cl (.lst (w.map .int)))) : Va (gCa kLen (gCons ga gNil)) ρ (.cl (.int w.length)) := fun Φ φ => h _ (by
  show Φ (.cl (.int ((w.map D.int).length : Nat)))
  rw [List.length_map]
  exact φ)
theorem va_cat {ρ : Ev} {ga gb : GE} {x y : R} {a b : List D} (h1 : Va ga ρ x) (h2 : Va gb ρ y) (e1 : x.c? = some (.lst a)) (e2 : y.c? = some (.lst b)) (hl : a.length + b.length ≤ sizeLine) : Va (gOp kAdd ga gb) ρ (.nw (.node ((a ++ b).map .leaf))) := va_op h1 h2 fun Φ φ => by
  unfold kAdd
  rw [e1, e2]
  exact ⟨hl, φ⟩
theorem q_for {it : GI} {u : GG} {body k : GS} {E : EnD} {ρ : Ev} {us : List D} (h : Vi it ρ us) (J : Nat → Ev → Prop) (j0 : J 0 ρ) (st : ∀ i d ρ', us[i]? = some d → J i ρ' → ∃ ρ2, u d ρ' = some ρ2 ∧ body { nx := J (i + 1), rt := E.rt, ct := J (i + 1), bk := k E } ρ2) (fin : ∀ ρ', J us.length ρ' → k E ρ') : gSeq (gFor it u body) k E ρ := h _ ⟨J, j0, st, fin⟩
theorem s_for {it : GI} {u : GG} {body : GS} {E : EnD} {ρ : Ev} {us : List D} (h : Vi it ρ us) (J : Nat → Ev → Prop) (j0 : J 0 ρ) (st : ∀ i d ρ', us[i]? = some d → J i ρ' → ∃ ρ2, u d ρ' = some ρ2 ∧ body { nx := J (i + 1), rt := E.rt, ct := J (i + 1), bk := E.nx } ρ2) (fin : ∀ ρ', J us.length ρ' → E.nx ρ') : gFor it u body E ρ := h _ ⟨J, j0, st, fin⟩
/-- a drawn word -/
theorem n_word {E : EnD} {k : GS} {ρ : Ev} (ρ' : List Int → Ev) (e : ∀ w : List Int, ρ.set 9 (.va (.lst (w.map .int))) = ρ' w) (h0 : ρ[0]? = some (.va (.pot 0))) (h : ∀ w : List Int, 1 ≤ w.length → w.length ≤ 6 → (∀ i ∈ w, 0 ≤ i ∧ i < 2) → k E (ρ' w)) :
    gSeq (gSet 9 (gCallK K_law_word (gCons (gVar 0) (gCons (gC (.int 6)) gNil)))) k E ρ := by
  show gCallK K_law_word (gCons (gVar 0) (gCons (gC (.int 6)) gNil)) ρ _
  refine n_call (vl_cons (va_var h0) (vl_cons va_c vl_nil)) rfl ⟨0, 6, rfl, by decide, by decide, fun w l1 l2 hw => ?_⟩
  have ec : (R.nw (.node (w.map fun i => .leaf (.int i)))).c? = some (.lst (w.map .int)) := by
    have := c_leafs (w.map .int)
    rwa [List.map_map] at this
  show match (R.nw (.node (w.map fun i => .leaf (.int i)))).c? with
    | some d => k E (ρ.set 9 (.va d))
    | none => False
  rw [ec]
  show k E (ρ.set 9 (.va (.lst (w.map .int))))
  rw [e w]
  exact h w l1 l2 hw
/-- its sum, and a place -/
theorem n_told {E : EnD} {k : GS} {ρ : Ev} {N : D} {f : F5} {w : List Int} (ρ' : Nat → Ev) (e : ∀ j : Nat, (ρ.set 13 (.va (.rat (wsum f w)))).set 14 (.va (.int j)) = ρ' j) (h0 : ρ[0]? = some (.va (.pot 0))) (h9 : ρ[9]? = some (.va (.lst (w.map .int)))) (n13 : nOw ρ 13 = true) (n14 : nOw (ρ.set 13 (.va (.rat (wsum f w)))) 14 = true)
    (hW : Va (gCallK K_word_by (gCons (gVar 1) (gCons (gVar 9) gNil))) ρ (.cl (.rat (wsum f w)))) (l1 : 1 ≤ w.length) (l2 : w.length ≤ 6) (h : ∀ j : Nat, j < w.length → k E (ρ' j)) :
    gSeq (gPar 13 14 (gCons (gCallK K_word_by (gCons (gVar 1) (gCons (gVar 9) gNil))) (gCons (gCallK K_draw (gCons (gVar 0) (gCons (gCa kLen (gCons (gVar 9) gNil)) gNil))) gNil))) k E ρ := by
  refine hW _ ?_
  show gCallK K_draw (gCons (gVar 0) (gCons (gCa kLen (gCons (gVar 9) gNil)) gNil)) ρ _
  refine n_call (ds := [.pot 0, .int w.length]) (vl_cons (va_var h0) (vl_cons (va_len (va_var h9)) vl_nil)) rfl ⟨0, _, rfl, by omega, by omega, fun d d0 d1 => ?_⟩
  obtain ⟨j, rfl⟩ := Int.eq_ofNat_of_zero_le d0
  refine ⟨n13, n14, ?_⟩
  show k E ((ρ.set 13 (.va (.rat (wsum f w)))).set 14 (.va (.int j)))
  rw [e j]
  exact h j (by omega)
theorem ok6 (l : List Rat) : (l.map D.rat).all (okD nEq) = true := by
  rw [List.all_map, List.all_eq_true]
  intro x _
  rfl
theorem map_rev (w : List Int) : (w.map D.int).reverse = w.reverse.map D.int := (List.map_reverse ..).symm
abbrev LS (N S : D) (f : F5) (a9 a10 a11 a12 a13 a14 a15 a16 a17 a18 : Sl) : Ev := [.va (.pot 0), .va N, .va (.rat f.s), .va (.rat f.t), .va (.rat f.u), .va (.rat f.m), .va (.rat f.v), .un, .va S, a9, a10, a11, a12, a13, a14, a15, a16, a17, a18]
/-- one turn -/
theorem turn_right {N S : D} {f : F5} {a9 a12 a13 a14 a15 a16 a17 a18 : Sl} {E : EnD} (hf : f.ok) (k13 : nOw [a13] 0 = true) (k14 : nOw [a14] 0 = true) (k16 : nOw [a16] 0 = true) (k17 : nOw [a17] 0 = true) (k18 : nOw [a18] 0 = true)
    (W : ∀ {ρ : Ev} {ga gb : GE} {w : List Int} {r : R}, Va ga ρ (.cl N) → Va gb ρ r → r.c? = some (.lst (w.map .int)) → w.length ≤ 16 → (∀ i ∈ w, 0 ≤ i ∧ i < 2) → Va (gCallK K_word_by (gCons ga (gCons gb gNil))) ρ (.cl (.rat (wsum f w))))
    (WK : ∀ {ρ : Ev} {ga gb : GE} {w : List Int} {r : R}, Va ga ρ (.cl N) → Va gb ρ r → r.c? = some (.lst (w.map .int)) → w.length ≤ 16 → (∀ i ∈ w, 0 ≤ i ∧ i < 2) → Va (gKw K_word_by [1, 0] 2 (gCons gb (gCons ga gNil))) ρ (.cl (.rat (wsum f w))))
    (h : ∀ b9 b13 b14 b15 b16 b17 b18, nOw [b13] 0 = true → nOw [b14] 0 = true → nOw [b16] 0 = true → nOw [b17] 0 = true → nOw [b18] 0 = true → E.nx (LS N S f b9 (.va (.rat (detQ f.s f.u))) (.va (.rat (detQ f.t f.v))) a12 b13 b14 b15 b16 b17 b18)) :
    (gSeq (gSet 9 (gCallK K_law_word (gCons (gVar 0) (gCons (gC (.int 6)) gNil)))) (gSeq (gPar 13 14 (gCons (gCallK K_word_by (gCons (gVar 1) (gCons (gVar 9) gNil))) (gCons (gCallK K_draw (gCons (gVar 0) (gCons (gCa kLen (gCons (gVar 9) gNil)) gNil))) gNil))) (gSeq (gIfS (gOr (gNot (gTest (gIs isR (gVar 13)))) (gTest (gOp kNe (gCallK K_word_by (gCons (gVar 1) (gCons (gOp kAdd (gSl (gVar 9) (gPt (gVar 14)) gNo) (gSl (gVar 9) gNo (gPt (gVar 14)))) gNil))) (gVar 13)))) (gRet (gC (.bl false))) gNext) (gSeq (gIfS (gTest (gOp kNe (gKw K_word_by [1, 0] 2 (gCons (gSl3 (gVar 9) gNo gNo (gPt (gUn kNeg (gC (.int 1))))) (gCons (gVar 1) gNil))) (gVar 13))) (gRet (gC (.bl false))) gNext) (gSeq (gSet 15 (gMk1 (gC (.int 1)))) (gSeq (gFor (gSeq' (gVar 9)) (uName 16) (gSet 15 (gOp kMul (gVar 15) (gIf (gTest (gOp kEq (gVar 16) (gC (.int 0)))) (gVar 10) (gVar 11))))) (gSeq (gIfS (gTest (gOp kNe (gCallK K_word_by (gCons (gVar 1) (gCons (gOp kAdd (gVar 9) (gVar 9)) gNil))) (gOp kSub (gOp kMul (gVar 13) (gVar 13)) (gOp kMul (gVar 15) (gC (.int 2)))))) (gRet (gC (.bl false))) gNext) (gFor (gSeq' (gLst (gCons (gTup (gCons (gC (.int 0)) (gCons (gVar 2) (gCons (gVar 10) gNil)))) (gCons (gTup (gCons (gC (.int 1)) (gCons (gVar 3) (gCons (gVar 11) gNil)))) gNil)))) (uTup (uCons 16 (uCons 17 (uCons 18 uNil)))) (gIfS (gTest (gOp kNe (gCallK K_word_by (gCons (gVar 1) (gCons (gOp kAdd (gLst (gCons (gVar 16) (gCons (gVar 16) gNil))) (gVar 9)) gNil))) (gOp kSub (gOp kMul (gVar 17) (gCallK K_word_by (gCons (gVar 1) (gCons (gOp kAdd (gLst (gCons (gVar 16) gNil)) (gVar 9)) gNil)))) (gOp kMul (gVar 18) (gVar 13))))) (gRet (gC (.bl false))) gNext))))))))) E (LS N S f a9 (.va (.rat (detQ f.s f.u))) (.va (.rat (detQ f.t f.v))) a12 a13 a14 a15 a16 a17 a18) := by
  have l16 : (16 : Nat) ≤ sizeLine := by show 16 ≤ 2 ^ 24; decide
  refine n_word (fun w => LS N S f (.va (.lst (w.map .int))) (.va (.rat (detQ f.s f.u))) (.va (.rat (detQ f.t f.v))) a12 a13 a14 a15 a16 a17 a18) (fun _ => rfl) rfl fun w l1 l2 hw => ?_
  refine n_told (N := N) (f := f) (w := w) (fun j => LS N S f (.va (.lst (w.map .int))) (.va (.rat (detQ f.s f.u))) (.va (.rat (detQ f.t f.v))) a12 (.va (.rat (wsum f w))) (.va (.int j)) a15 a16 a17 a18) (fun _ => rfl) rfl rfl k13 k14 (W (va_var rfl) (va_var rfl) rfl (by omega) hw) l1 l2 fun j hj => ?_
  -- turned
  have v1 : Va (gVar 1) (LS N S f (.va (.lst (w.map .int))) (.va (.rat (detQ f.s f.u))) (.va (.rat (detQ f.t f.v))) a12 (.va (.rat (wsum f w))) (.va (.int j)) a15 a16 a17 a18) (.cl N) := va_var rfl
  have v9 : Va (gVar 9) (LS N S f (.va (.lst (w.map .int))) (.va (.rat (detQ f.s f.u))) (.va (.rat (detQ f.t f.v))) a12 (.va (.rat (wsum f w))) (.va (.int j)) a15 a16 a17 a18) (.cl (.lst (w.map .int))) := va_var rfl
  have v13 : Va (gVar 13) (LS N S f (.va (.lst (w.map .int))) (.va (.rat (detQ f.s f.u))) (.va (.rat (detQ f.t f.v))) a12 (.va (.rat (wsum f w))) (.va (.int j)) a15 a16 a17 a18) (.cl (.rat (wsum f w))) := va_var rfl
  have v14 : Va (gVar 14) (LS N S f (.va (.lst (w.map .int))) (.va (.rat (detQ f.s f.u))) (.va (.rat (detQ f.t f.v))) a12 (.va (.rat (wsum f w))) (.va (.int j)) a15 a16 a17 a18) (.cl (.int j)) := va_var rfl
  have t1 := vt_not (vt_test (ga := gIs isR (gVar 13)) (b := true) fun Φ φ => v13 _ ⟨rfl, φ⟩)
  have sl1 : Va (gSl (gVar 9) (gPt (gVar 14)) gNo) (LS N S f (.va (.lst (w.map .int))) (.va (.rat (detQ f.s f.u))) (.va (.rat (detQ f.t f.v))) a12 (.va (.rat (wsum f w))) (.va (.int j)) a15 a16 a17 a18) (.nw (.node (((w.drop j).map D.int).map .leaf))) := fun Φ φ => v9 _ (v14 _ (by
    show Φ (.nw (.node ((cutG (w.map D.int) (some (j : Int)) none).map .leaf)))
    rw [cut_from _ _ (by rw [List.length_map]; omega), ← List.map_drop]
    exact φ))
  have sl2 : Va (gSl (gVar 9) gNo (gPt (gVar 14))) (LS N S f (.va (.lst (w.map .int))) (.va (.rat (detQ f.s f.u))) (.va (.rat (detQ f.t f.v))) a12 (.va (.rat (wsum f w))) (.va (.int j)) a15 a16 a17 a18) (.nw (.node (((w.take j).map D.int).map .leaf))) := fun Φ φ => v9 _ (by
    unfold gNo
    refine v14 _ ?_
    show Φ (.nw (.node ((cutG (w.map D.int) none (some (j : Int))).map .leaf)))
    rw [cut_to _ _ (by rw [List.length_map]; omega), ← List.map_take]
    exact φ)
  have cat := va_cat sl1 sl2 (c_leafs _) (c_leafs _) (by rw [List.length_map, List.length_map, List.length_drop, List.length_take]; omega)
  have w2 : ∀ i ∈ w.drop j ++ w.take j, 0 ≤ i ∧ i < 2 := fun i hi => (List.mem_append.1 hi).elim (fun z => hw i (List.mem_of_mem_drop z)) fun z => hw i (List.mem_of_mem_take z)
  have t2 := vt_test (va_op (k := kNe) (z := .cl (.bl false)) (W v1 cat (w := w.drop j ++ w.take j) (by rw [c_leafs, List.map_append]) (by rw [List.length_append, List.length_drop, List.length_take]; omega) w2) v13 fun Φ φ => ne_rat (wsum_turn f w j) φ)
  refine q_ifF (vt_orF t1 t2) ?_
  -- backwards
  have sl3 : Va (gSl3 (gVar 9) gNo gNo (gPt (gUn kNeg (gC (.int 1))))) (LS N S f (.va (.lst (w.map .int))) (.va (.rat (detQ f.s f.u))) (.va (.rat (detQ f.t f.v))) a12 (.va (.rat (wsum f w))) (.va (.int j)) a15 a16 a17 a18) (.nw (.node ((w.reverse.map D.int).map .leaf))) := fun Φ φ => v9 _ (by
    show some (-1 : Int) ≠ some 0 ∧ (pickV (w.map D.int) none none (some (-1))).length ≤ sizeLine ∧ Φ (.nw (.node ((pickV (w.map D.int) none none (some (-1))).map .leaf)))
    rw [pickV_rev, map_rev]
    exact ⟨by decide, by rw [List.length_map, List.length_reverse]; omega, φ⟩)
  have t3 := vt_test (va_op (k := kNe) (z := .cl (.bl false)) (WK v1 sl3 (w := w.reverse) (c_leafs _) (by rw [List.length_reverse]; omega) fun i hi => hw i (List.mem_reverse.1 hi)) v13 fun Φ φ => ne_rat (wsum_rev f w) φ)
  refine q_ifF t3 ?_
  -- the determinant
  refine q_set (d := .rat 1) (ρ' := LS N S f (.va (.lst (w.map .int))) (.va (.rat (detQ f.s f.u))) (.va (.rat (detQ f.t f.v))) a12 (.va (.rat (wsum f w))) (.va (.int j)) (.va (.rat 1)) a16 a17 a18) (va_mk1 (j := 1) va_c) (by rw [show ((1 : Int) : Rat) = 1 from rfl]; rfl) rfl ?_
  refine q_for (us := w.map .int) (vi_seq (va_var (i := 9) (d := .lst (w.map .int)) rfl) rfl rfl) (fun i ρ => ∃ b16, nOw [b16] 0 = true ∧ ρ = LS N S f (.va (.lst (w.map .int))) (.va (.rat (detQ f.s f.u))) (.va (.rat (detQ f.t f.v))) a12 (.va (.rat (wsum f w))) (.va (.int j)) (.va (.rat (apart f (w.take i) 1))) b16 a17 a18) ⟨a16, k16, rfl⟩ ?_ ?_
  · rintro i d ρ' hi ⟨b16, kb, rfl⟩
    rw [List.getElem?_map] at hi
    obtain ⟨x, hx, rfl⟩ := Option.map_eq_some_iff.1 hi
    refine ⟨LS N S f (.va (.lst (w.map .int))) (.va (.rat (detQ f.s f.u))) (.va (.rat (detQ f.t f.v))) a12 (.va (.rat (wsum f w))) (.va (.int j)) (.va (.rat (apart f (w.take i) 1))) (.va (.int x)) a17 a18, if_pos kb, ?_⟩
    have ea : apart f (w.take (i + 1)) 1 = apart f (w.take i) 1 * dets f x := by
      unfold apart
      rw [List.take_add_one, hx, List.foldl_append]
      rfl
    have lt : (w.take i).length ≤ 6 := by rw [List.length_take]; omega
    have o1 : Dy 0 1 (1 : Rat) := ⟨1, by decide +kernel, by decide⟩
    have bA : Bits 4000 (apart f (w.take i) 1) := dy_bits (apart_dy hf (w.take i) o1)
    have bD : Bits 4000 (dets f x) := dy_bits (dets_dy hf x)
    have t : Vt (gTest (gOp kEq (gVar 16) (gC (.int 0)))) (LS N S f (.va (.lst (w.map .int))) (.va (.rat (detQ f.s f.u))) (.va (.rat (detQ f.t f.v))) a12 (.va (.rat (wsum f w))) (.va (.int j)) (.va (.rat (apart f (w.take i) 1))) (.va (.int x)) a17 a18) (x == 0) := vt_test (va_op (va_var (d := .int x) rfl) va_c fun Φ φ => φ)
    have c : Va (gIf (gTest (gOp kEq (gVar 16) (gC (.int 0)))) (gVar 10) (gVar 11)) (LS N S f (.va (.lst (w.map .int))) (.va (.rat (detQ f.s f.u))) (.va (.rat (detQ f.t f.v))) a12 (.va (.rat (wsum f w))) (.va (.int j)) (.va (.rat (apart f (w.take i) 1))) (.va (.int x)) a17 a18) (.cl (.rat (dets f x))) := by
      refine va_if t ?_
      unfold dets
      by_cases z : x = 0
      · rw [if_pos z, if_pos (by simp [z])]
        exact va_var rfl
      · rw [if_neg z, if_neg (by simp [z])]
        exact va_var rfl
    exact s_set (d := .rat (apart f (w.take (i + 1)) 1)) (x := .cl (.rat (apart f (w.take i) 1 * dets f x))) (va_mulR (va_var rfl) c bA bD) (by rw [ea]; rfl) rfl ⟨.va (.int x), rfl, rfl⟩
  rintro ρ' ⟨b16, kb, rfl⟩
  have et : w.take (w.map D.int).length = w := by rw [List.length_map, List.take_length]
  rw [et]
  -- twice
  have o1 : Dy 0 1 (1 : Rat) := ⟨1, by decide +kernel, by decide⟩
  have dW := wsum_dy hf (w := w) (by omega)
  have bW : Bits 4000 (wsum f w) := dy_bits dW
  have dA := (apart_dy hf w o1).to (k' := 130) (m' := 400) (by omega) (by omega)
  have bA : Bits 4000 (apart f w 1) := dy_bits dA
  have d2 : Dy 0 2 ((2 : Int) : Rat) := Dy.int (by decide)
  have b2 : Bits 4000 ((2 : Int) : Rat) := dy_bits d2
  have bWW : Bits 4000 (wsum f w * wsum f w) := dy_bits (dW.mul dW)
  have bA2 : Bits 4000 (apart f w 1 * ((2 : Int) : Rat)) := dy_bits (dA.mul d2)
  have u1 : Va (gVar 1) (LS N S f (.va (.lst (w.map .int))) (.va (.rat (detQ f.s f.u))) (.va (.rat (detQ f.t f.v))) a12 (.va (.rat (wsum f w))) (.va (.int j)) (.va (.rat (apart f w 1))) b16 a17 a18) (.cl N) := va_var rfl
  have u9 : Va (gVar 9) (LS N S f (.va (.lst (w.map .int))) (.va (.rat (detQ f.s f.u))) (.va (.rat (detQ f.t f.v))) a12 (.va (.rat (wsum f w))) (.va (.int j)) (.va (.rat (apart f w 1))) b16 a17 a18) (.cl (.lst (w.map .int))) := va_var rfl
  have u13 : Va (gVar 13) (LS N S f (.va (.lst (w.map .int))) (.va (.rat (detQ f.s f.u))) (.va (.rat (detQ f.t f.v))) a12 (.va (.rat (wsum f w))) (.va (.int j)) (.va (.rat (apart f w 1))) b16 a17 a18) (.cl (.rat (wsum f w))) := va_var rfl
  have u15 : Va (gVar 15) (LS N S f (.va (.lst (w.map .int))) (.va (.rat (detQ f.s f.u))) (.va (.rat (detQ f.t f.v))) a12 (.va (.rat (wsum f w))) (.va (.int j)) (.va (.rat (apart f w 1))) b16 a17 a18) (.cl (.rat (apart f w 1))) := va_var rfl
  have cat2 := va_cat u9 u9 rfl rfl (by rw [List.length_map]; omega)
  have rhs := va_subR (va_mulR u13 u13 bW bW) (va_mul u15 (va_c (d := .int 2)) rfl rfl rfl bA b2) bWW bA2
  have t4 := vt_test (va_op (k := kNe) (z := .cl (.bl false)) (W u1 cat2 (w := w ++ w) (by rw [c_leafs, List.map_append]) (by rw [List.length_append]; omega) fun i hi => (List.mem_append.1 hi).elim (hw i) (hw i)) rhs fun Φ φ => ne_rat (wsum_twice f w) φ)
  refine q_ifF t4 ?_
  -- a letter twice ahead
  have u2 : Va (gVar 2) (LS N S f (.va (.lst (w.map .int))) (.va (.rat (detQ f.s f.u))) (.va (.rat (detQ f.t f.v))) a12 (.va (.rat (wsum f w))) (.va (.int j)) (.va (.rat (apart f w 1))) b16 a17 a18) (.cl (.rat f.s)) := va_var rfl
  have u3 : Va (gVar 3) (LS N S f (.va (.lst (w.map .int))) (.va (.rat (detQ f.s f.u))) (.va (.rat (detQ f.t f.v))) a12 (.va (.rat (wsum f w))) (.va (.int j)) (.va (.rat (apart f w 1))) b16 a17 a18) (.cl (.rat f.t)) := va_var rfl
  have u10 : Va (gVar 10) (LS N S f (.va (.lst (w.map .int))) (.va (.rat (detQ f.s f.u))) (.va (.rat (detQ f.t f.v))) a12 (.va (.rat (wsum f w))) (.va (.int j)) (.va (.rat (apart f w 1))) b16 a17 a18) (.cl (.rat (detQ f.s f.u))) := va_var rfl
  have u11 : Va (gVar 11) (LS N S f (.va (.lst (w.map .int))) (.va (.rat (detQ f.s f.u))) (.va (.rat (detQ f.t f.v))) a12 (.va (.rat (wsum f w))) (.va (.int j)) (.va (.rat (apart f w 1))) b16 a17 a18) (.cl (.rat (detQ f.t f.v))) := va_var rfl
  have three : (3 : Nat) ≤ sizeLine := by omega
  have tp1 := va_tup (ds := [.int 0, .rat f.s, .rat (detQ f.s f.u)]) (vl_cons (va_c (d := .int 0)) (vl_cons u2 (vl_cons u10 vl_nil))) rfl three
  have tp2 := va_tup (ds := [.int 1, .rat f.t, .rat (detQ f.t f.v)]) (vl_cons (va_c (d := .int 1)) (vl_cons u3 (vl_cons u11 vl_nil))) rfl three
  have disp := va_lst (ds := [.tup [.int 0, .rat f.s, .rat (detQ f.s f.u)], .tup [.int 1, .rat f.t, .rat (detQ f.t f.v)]]) (vl_cons tp1 (vl_cons tp2 vl_nil)) rfl (by show 2 ≤ sizeLine; omega)
  refine s_for (vi_seq disp (c_leafs _) rfl) (fun _ ρ => ∃ c16 c17 c18, nOw [c16] 0 = true ∧ nOw [c17] 0 = true ∧ nOw [c18] 0 = true ∧ ρ = LS N S f (.va (.lst (w.map .int))) (.va (.rat (detQ f.s f.u))) (.va (.rat (detQ f.t f.v))) a12 (.va (.rat (wsum f w))) (.va (.int j)) (.va (.rat (apart f w 1))) c16 c17 c18) ⟨b16, a17, a18, kb, k17, k18, rfl⟩ ?_ ?_
  · rintro i d ρ' hi ⟨c16, c17, c18, m16, m17, m18, rfl⟩
    have hd : ∃ x : Int, (0 ≤ x ∧ x < 2) ∧ d = .tup [.int x, .rat (if x = 0 then f.s else f.t), .rat (dets f x)] := by
      match i, hi with
      | 0, hi => cases hi; exact ⟨0, by decide, rfl⟩
      | 1, hi => cases hi; exact ⟨1, by decide, rfl⟩
      | i + 2, hi => simp at hi
    obtain ⟨x, hx2, rfl⟩ := hd
    refine ⟨LS N S f (.va (.lst (w.map .int))) (.va (.rat (detQ f.s f.u))) (.va (.rat (detQ f.t f.v))) a12 (.va (.rat (wsum f w))) (.va (.int j)) (.va (.rat (apart f w 1))) (.va (.int x)) (.va (.rat (if x = 0 then f.s else f.t))) (.va (.rat (dets f x))), (if_pos m16).trans ((if_pos m17).trans (if_pos m18)), ?_⟩
    have x1 : Va (gVar 1) (LS N S f (.va (.lst (w.map .int))) (.va (.rat (detQ f.s f.u))) (.va (.rat (detQ f.t f.v))) a12 (.va (.rat (wsum f w))) (.va (.int j)) (.va (.rat (apart f w 1))) (.va (.int x)) (.va (.rat (if x = 0 then f.s else f.t))) (.va (.rat (dets f x)))) (.cl N) := va_var rfl
    have x9 : Va (gVar 9) (LS N S f (.va (.lst (w.map .int))) (.va (.rat (detQ f.s f.u))) (.va (.rat (detQ f.t f.v))) a12 (.va (.rat (wsum f w))) (.va (.int j)) (.va (.rat (apart f w 1))) (.va (.int x)) (.va (.rat (if x = 0 then f.s else f.t))) (.va (.rat (dets f x)))) (.cl (.lst (w.map .int))) := va_var rfl
    have x13 : Va (gVar 13) (LS N S f (.va (.lst (w.map .int))) (.va (.rat (detQ f.s f.u))) (.va (.rat (detQ f.t f.v))) a12 (.va (.rat (wsum f w))) (.va (.int j)) (.va (.rat (apart f w 1))) (.va (.int x)) (.va (.rat (if x = 0 then f.s else f.t))) (.va (.rat (dets f x)))) (.cl (.rat (wsum f w))) := va_var rfl
    have x16 : Va (gVar 16) (LS N S f (.va (.lst (w.map .int))) (.va (.rat (detQ f.s f.u))) (.va (.rat (detQ f.t f.v))) a12 (.va (.rat (wsum f w))) (.va (.int j)) (.va (.rat (apart f w 1))) (.va (.int x)) (.va (.rat (if x = 0 then f.s else f.t))) (.va (.rat (dets f x)))) (.cl (.int x)) := va_var rfl
    have x17 : Va (gVar 17) (LS N S f (.va (.lst (w.map .int))) (.va (.rat (detQ f.s f.u))) (.va (.rat (detQ f.t f.v))) a12 (.va (.rat (wsum f w))) (.va (.int j)) (.va (.rat (apart f w 1))) (.va (.int x)) (.va (.rat (if x = 0 then f.s else f.t))) (.va (.rat (dets f x)))) (.cl (.rat (if x = 0 then f.s else f.t))) := va_var rfl
    have x18 : Va (gVar 18) (LS N S f (.va (.lst (w.map .int))) (.va (.rat (detQ f.s f.u))) (.va (.rat (detQ f.t f.v))) a12 (.va (.rat (wsum f w))) (.va (.int j)) (.va (.rat (apart f w 1))) (.va (.int x)) (.va (.rat (if x = 0 then f.s else f.t))) (.va (.rat (dets f x)))) (.cl (.rat (dets f x))) := va_var rfl
    have in1 : ∀ y ∈ x :: w, 0 ≤ y ∧ y < 2 := fun y hy => (List.mem_cons.1 hy).elim (fun z => by rw [z]; exact hx2) (hw y)
    have in3 : ∀ y ∈ x :: x :: w, 0 ≤ y ∧ y < 2 := fun y hy => (List.mem_cons.1 hy).elim (fun z => by rw [z]; exact hx2) (in1 y)
    have cc2 := va_cat (va_lst (ds := [.int x, .int x]) (vl_cons x16 (vl_cons x16 vl_nil)) rfl (by show 2 ≤ sizeLine; omega)) x9 (c_leafs _) rfl (by rw [List.length_map]; show 2 + w.length ≤ sizeLine; omega)
    have cc1 := va_cat (va_lst (ds := [.int x]) (vl_cons x16 vl_nil) rfl (by show 1 ≤ sizeLine; omega)) x9 (c_leafs _) rfl (by rw [List.length_map]; show 1 + w.length ≤ sizeLine; omega)
    have dR : Dy 1 4 (if x = 0 then f.s else f.t) := by
      split
      · exact hf.s
      · exact hf.t
    have dX := wsum_dy hf (w := x :: w) (by rw [List.length_cons]; omega)
    have dD := dets_dy hf x
    have W1 := W x1 cc1 (w := x :: w) (c_leafs _) (by rw [List.length_cons]; omega) in1
    have W2 := W x1 cc2 (w := x :: x :: w) (c_leafs _) (by rw [List.length_cons, List.length_cons]; omega) in3
    have rr := va_subR (va_mulR x17 W1 (dy_bits dR) (dy_bits dX)) (va_mulR x18 x13 (dy_bits dD) bW) (dy_bits (dR.mul dX)) (dy_bits (dD.mul dW))
    have t5 := vt_test (va_op (k := kNe) (z := .cl (.bl false)) W2 rr fun Φ φ => ne_rat (wsum_square f x w) φ)
    exact s_ifF t5 ⟨_, _, _, rfl, rfl, rfl, rfl⟩
  · rintro ρ' ⟨c16, c17, c18, m16, m17, m18, rfl⟩
    exact h _ _ _ _ _ _ _ rfl rfl m16 m17 m18
theorem hk_law_right (ds : List D) (Φ : R → Prop) (h : K_law_right ds Φ) : g_law_right { nx := fun _ => Φ (.cl .non), rt := Φ } (ds.map .va ++ List.replicate (19 - ds.length) .un) := by
  obtain ⟨rfl, h⟩ := h
  change g_law_right _ [.va (.pot 0), .un, .un, .un, .un, .un, .un, .un, .un, .un, .un, .un, .un, .un, .un, .un, .un, .un, .un]
  refine n_five fun ds f hl hn hf no => ?_
  obtain ⟨d1, d2, d3, d4, d5, rfl⟩ : ∃ a b c d e, ds = [a, b, c, d, e] := match ds, hl with
    | [a, b, c, d, e], _ => ⟨a, b, c, d, e, rfl⟩
  have hn' := hn
  have ea : ∃ q1 q2 q3 q4 q5, numD d1 = some q1 ∧ numD d2 = some q2 ∧ numD d3 = some q3 ∧ numD d4 = some q4 ∧ numD d5 = some q5 := by
    cases h1 : numD d1 <;> cases h2 : numD d2 <;> cases h3 : numD d3 <;> cases h4 : numD d4 <;> cases h5 : numD d5 <;> simp [numsD, h1, h2, h3, h4, h5] at hn'
    exact ⟨_, _, _, _, _, rfl, rfl, rfl, rfl, rfl⟩
  obtain ⟨q1, q2, q3, q4, q5, a1, a2, a3, a4, a5⟩ := ea
  simp only [numsD, a1, a2, a3, a4, a5, Option.some.injEq, List.cons.injEq, and_true] at hn'
  obtain ⟨rfl, rfl, rfl, rfl, rfl⟩ := hn'
  have e0 : ∀ q : Rat, ((0 : Int) : Rat) + q = q := fun q => by
    rw [show ((0 : Int) : Rat) = 0 from rfl]
    exact Rat.zero_add q
  have b0 : Bits 4000 ((0 : Int) : Rat) := ⟨by decide, by decide⟩
  have bf : ∀ {q : Rat}, Dy 1 4 q → Bits 4000 q := fun h => dy_bits h
  -- the five as fractions
  generalize hN : D.tup [d1, d2, d3, d4, d5] = N
  have step : ∀ (d : D) (q : Rat), numD d = some q → Bits 4000 q → ∃ ρ2 r, uName 7 d (wipeE [.va (.pot 0), .va N, .un, .un, .un, .un, .un, .un, .un, .un, .un, .un, .un, .un, .un, .un, .un, .un, .un] [7]) = some ρ2 ∧ Va (gOp kAdd (gMk1 (gC (.int 0))) (gVar 7)) ρ2 r ∧ r.o? = some (.leaf (.rat q)) := by
    intro d q e b
    refine ⟨[.va (.pot 0), .va N, .un, .un, .un, .un, .un, .va d, .un, .un, .un, .un, .un, .un, .un, .un, .un, .un, .un], .cl (.rat q), rfl, ?_, rfl⟩
    have z := va_add (va_mk1 (j := 0) (va_c (ρ := [.va (.pot 0), .va N, .un, .un, .un, .un, .un, .va d, .un, .un, .un, .un, .un, .un, .un, .un, .un, .un, .un]))) (va_var (i := 7) (d := d) rfl) rfl e (by cases d <;> rfl) b0 b
    rw [e0] at z
    exact z
  have vN : Va (gVar 1) [.va (.pot 0), .va N, .un, .un, .un, .un, .un, .un, .un, .un, .un, .un, .un, .un, .un, .un, .un, .un, .un] (.cl N) := va_var rfl
  have r1 : Va (gLc (gSeq' (gVar 1)) (uName 7) gYes (gOp kAdd (gMk1 (gC (.int 0))) (gVar 7)) [7]) [.va (.pot 0), .va N, .un, .un, .un, .un, .un, .un, .un, .un, .un, .un, .un, .un, .un, .un, .un, .un, .un] (.nw (.node (rats [f.s, f.t, f.u, f.m, f.v]))) := by
    subst hN
    refine va_lc (us := [d1, d2, d3, d4, d5]) (vi_seq vN rfl rfl) (by show 5 ≤ 2 ^ 24; decide) rfl ?_
    exact .cons (step _ _ a1 (bf hf.s)) (.cons (step _ _ a2 (bf hf.t)) (.cons (step _ _ a3 (bf hf.u)) (.cons (step _ _ a4 (bf hf.m)) (.cons (step _ _ a5 (bf hf.v)) .nil))))
  refine q_asg (d := .lst f.l) (ρ' := [.va (.pot 0), .va N, .va (.rat f.s), .va (.rat f.t), .va (.rat f.u), .va (.rat f.m), .va (.rat f.v), .un, .un, .un, .un, .un, .un, .un, .un, .un, .un, .un, .un]) r1 rfl rfl ?_
  -- the word's sum
  have W : ∀ {ρ : Ev} {ga gb : GE} {w : List Int} {r : R}, Va ga ρ (.cl N) → Va gb ρ r → r.c? = some (.lst (w.map .int)) → w.length ≤ 16 → (∀ i ∈ w, 0 ≤ i ∧ i < 2) → Va (gCallK K_word_by (gCons ga (gCons gb gNil))) ρ (.cl (.rat (wsum f w))) := by
    intro ρ ga gb w r h1 h2 hr hw hb
    refine va_call (ds := [N, .lst (w.map .int)]) (vl_cons h1 (vl_cons h2 vl_nil)) ?_ fun Φ φ => ?_
    · show (match (R.cl N).c?, cs? [r] with | some d, some ds => some (d :: ds) | _, _ => none) = _
      unfold cs?
      rw [hr]
      rfl
    · subst hN
      exact ⟨f, _, w, rfl, hl, hn, hf, hw, hb, φ⟩
  -- short words
  have sh := wsum_short f
  simp only [List.map_cons, List.map_nil, List.cons.injEq, and_true] at sh
  obtain ⟨s1, s2, s3, s4, s5, s6⟩ := sh
  have stepW : ∀ (w : List Int), w.length ≤ 16 → (∀ i ∈ w, 0 ≤ i ∧ i < 2) → ∃ ρ2 r, uName 9 (.lst (w.map .int)) (wipeE [.va (.pot 0), .va N, .va (.rat f.s), .va (.rat f.t), .va (.rat f.u), .va (.rat f.m), .va (.rat f.v), .un, .un, .un, .un, .un, .un, .un, .un, .un, .un, .un, .un] [9]) = some ρ2 ∧ Va (gCallK K_word_by (gCons (gVar 1) (gCons (gVar 9) gNil))) ρ2 r ∧ r.o? = some (.leaf (.rat (wsum f w))) := by
    intro w hw hb
    exact ⟨[.va (.pot 0), .va N, .va (.rat f.s), .va (.rat f.t), .va (.rat f.u), .va (.rat f.m), .va (.rat f.v), .un, .un, .va (.lst (w.map .int)), .un, .un, .un, .un, .un, .un, .un, .un, .un], _, rfl, W (va_var rfl) (va_var rfl) rfl hw hb, rfl⟩
  have l0 : (2 : Nat) ≤ sizeLine := by show 2 ≤ 2 ^ 24; decide
  have l6 : (6 : Nat) ≤ sizeLine := by show 6 ≤ 2 ^ 24; decide
  have lc : ∀ {ρ : Ev} {i : Int}, Va (gC (.int i)) ρ (.cl (.int i)) := va_c
  have one : ∀ {ρ : Ev} (i : Int), Va (gLst (gCons (gC (.int i)) gNil)) ρ (.nw (.node ([D.int i].map .leaf))) := fun i => va_lst (vl_cons va_c vl_nil) rfl (by show 1 ≤ sizeLine; omega)
  have two : ∀ {ρ : Ev} (i j : Int), Va (gLst (gCons (gC (.int i)) (gCons (gC (.int j)) gNil))) ρ (.nw (.node ([D.int i, D.int j].map .leaf))) := fun i j => va_lst (vl_cons va_c (vl_cons va_c vl_nil)) rfl (by show 2 ≤ sizeLine; omega)
  have in2 : ∀ w : List Int, (∀ i ∈ w, i = 0 ∨ i = 1) → ∀ i ∈ w, 0 ≤ i ∧ i < 2 := fun w h i hi => by rcases h i hi with z | z <;> omega
  refine q_set (d := .lst ([f.s, f.t, f.u, f.m, f.v, f.m].map D.rat)) (ρ' := [.va (.pot 0), .va N, .va (.rat f.s), .va (.rat f.t), .va (.rat f.u), .va (.rat f.m), .va (.rat f.v), .un, .va (.lst ([f.s, f.t, f.u, f.m, f.v, f.m].map D.rat)), .un, .un, .un, .un, .un, .un, .un, .un, .un, .un]) (x := .nw (.node (rats [wsum f [0], wsum f [1], wsum f [0, 0], wsum f [0, 1], wsum f [1, 1], wsum f [1, 0]]))) ?_ ?_ rfl ?_
  · refine va_lc (us := [wD [0], wD [1], wD [0, 0], wD [0, 1], wD [1, 1], wD [1, 0]]) (vi_seq (va_lst (ds := [wD [0], wD [1], wD [0, 0], wD [0, 1], wD [1, 1], wD [1, 0]]) (vl_cons (one 0) (vl_cons (one 1) (vl_cons (two 0 0) (vl_cons (two 0 1) (vl_cons (two 1 1) (vl_cons (two 1 0) vl_nil)))))) rfl l6) rfl rfl) l6 rfl ?_
    exact .cons (stepW [0] (by decide) (in2 _ (by decide))) (.cons (stepW [1] (by decide) (in2 _ (by decide))) (.cons (stepW [0, 0] (by decide) (in2 _ (by decide))) (.cons (stepW [0, 1] (by decide) (in2 _ (by decide))) (.cons (stepW [1, 1] (by decide) (in2 _ (by decide))) (.cons (stepW [1, 0] (by decide) (in2 _ (by decide))) .nil)))))
  · rw [s1, s2, s3, s4, s5, s6]
    rfl
  -- the tests ahead
  have t1 : Vt (gTest (gOp kNe (gVar 8) (gLst (gCons (gVar 2) (gCons (gVar 3) (gCons (gVar 4) (gCons (gVar 5) (gCons (gVar 6) (gCons (gVar 5) gNil))))))))) (LS N (.lst ([f.s, f.t, f.u, f.m, f.v, f.m].map D.rat)) f .un .un .un .un .un .un .un .un .un .un) false :=
    vt_test (va_op (va_var rfl) (va_lst (ds := [.rat f.s, .rat f.t, .rat f.u, .rat f.m, .rat f.v, .rat f.m]) (vl_cons (va_var rfl) (vl_cons (va_var rfl) (vl_cons (va_var rfl) (vl_cons (va_var rfl) (vl_cons (va_var rfl) (vl_cons (va_var rfl) vl_nil)))))) rfl l6) fun Φ φ => ⟨rfl, rfl, φ⟩)
  have t2 : Vt (gTest (gOp kNe (gCallK K_word_by (gCons (gVar 1) (gCons (gLst gNil) gNil))) (gMk1 (gC (.int 2))))) (LS N (.lst ([f.s, f.t, f.u, f.m, f.v, f.m].map D.rat)) f .un .un .un .un .un .un .un .un .un .un) false :=
    vt_test (va_op (W (w := []) (va_var rfl) (va_lst (ds := []) vl_nil rfl (Nat.zero_le _)) rfl (Nat.zero_le _) (fun _ z => nomatch z)) (va_mk1 va_c) fun Φ φ => ne_rat ((wsum_0 f).trans rfl) φ)
  refine q_ifF (vt_orF t1 t2) ?_
  have bs := bf hf.s
  have bt := bf hf.t
  have bss : Bits 4000 (f.s * f.s) := dy_bits (hf.s.mul hf.s)
  have btt : Bits 4000 (f.t * f.t) := dy_bits (hf.t.mul hf.t)
  have bsu : Bits 4000 (f.s * f.s - f.u) := dy_bits (k := 2) (m := 9) ((hf.s.mul hf.s).sub (hf.u.to (k' := 2) (m' := 8) (by decide) (by decide)))
  have btv : Bits 4000 (f.t * f.t - f.v) := dy_bits (k := 2) (m := 9) ((hf.t.mul hf.t).sub (hf.v.to (k' := 2) (m' := 8) (by decide) (by decide)))
  have b2 : Bits 4000 ((2 : Int) : Rat) := ⟨by decide, by decide⟩
  refine q_par (d := .rat (detQ f.s f.u)) (d2 := .rat (detQ f.t f.v)) (ρ' := LS N (.lst ([f.s, f.t, f.u, f.m, f.v, f.m].map D.rat)) f .un (.va (.rat (detQ f.s f.u))) (.va (.rat (detQ f.t f.v))) .un .un .un .un .un .un .un)
    (vl_cons (va_over (va_subR (va_mulR (va_var rfl) (va_var rfl) bs bs) (va_var rfl) bss (bf hf.u)) va_c rfl bsu b2 (by decide)) (vl_cons (va_over (va_subR (va_mulR (va_var rfl) (va_var rfl) bt bt) (va_var rfl) btt (bf hf.v)) va_c rfl btv b2 (by decide)) vl_nil)) rfl rfl rfl rfl ?_
  have WK : ∀ {ρ : Ev} {ga gb : GE} {w : List Int} {r : R}, Va ga ρ (.cl N) → Va gb ρ r → r.c? = some (.lst (w.map .int)) → w.length ≤ 16 → (∀ i ∈ w, 0 ≤ i ∧ i < 2) → Va (gKw K_word_by [1, 0] 2 (gCons gb (gCons ga gNil))) ρ (.cl (.rat (wsum f w))) := by
    intro ρ ga gb w r h1 h2 hr hw hb Φ φ
    refine h2 _ (h1 _ ?_)
    have e : cs? [r, .cl N] = some [.lst (w.map .int), N] := by
      show (match r.c?, cs? [R.cl N] with | some d, some ds => some (d :: ds) | _, _ => none) = _
      rw [hr]
      rfl
    show match cs? [r, .cl N] with
      | some ds => ds.length = 2 ∧ K_word_by (pick [1, 0] ds) Φ
      | none => False
    rw [e]
    subst hN
    exact ⟨rfl, f, _, w, rfl, hl, hn, hf, hw, hb, φ⟩
  refine q_for (us := (List.range 3).map fun i => .int (0 + (i : Nat))) (fun Φ φ => ⟨by decide, φ⟩) (fun _ ρ => ∃ a9 a12 a13 a14 a15 a16 a17 a18, nOw [a12] 0 = true ∧ nOw [a13] 0 = true ∧ nOw [a14] 0 = true ∧ nOw [a16] 0 = true ∧ nOw [a17] 0 = true ∧ nOw [a18] 0 = true ∧
    ρ = LS N (.lst ([f.s, f.t, f.u, f.m, f.v, f.m].map D.rat)) f a9 (.va (.rat (detQ f.s f.u))) (.va (.rat (detQ f.t f.v))) a12 a13 a14 a15 a16 a17 a18) ⟨_, _, _, _, _, _, _, _, rfl, rfl, rfl, rfl, rfl, rfl, rfl⟩ ?_ ?_
  · rintro i d ρ' hi ⟨a9, a12, a13, a14, a15, a16, a17, a18, m12, m13, m14, m16, m17, m18, rfl⟩
    rw [List.getElem?_map] at hi
    obtain ⟨x, hx, rfl⟩ := Option.map_eq_some_iff.1 hi
    refine ⟨LS N (.lst ([f.s, f.t, f.u, f.m, f.v, f.m].map D.rat)) f a9 (.va (.rat (detQ f.s f.u))) (.va (.rat (detQ f.t f.v))) (.va (.int (0 + (x : Nat)))) a13 a14 a15 a16 a17 a18, if_pos m12, ?_⟩
    exact turn_right hf m13 m14 m16 m17 m18 W WK fun b9 b13 b14 b15 b16 b17 b18 n13 n14 n16 n17 n18 => ⟨b9, _, b13, b14, b15, b16, b17, b18, rfl, n13, n14, n16, n17, n18, rfl⟩
  · rintro ρ' ⟨a9, a12, a13, a14, a15, a16, a17, a18, m12, m13, m14, m16, m17, m18, rfl⟩
    exact s_ret va_c h
end EN

set_option Elab.async false
set_option linter.all false
set_option maxRecDepth 100000
set_option maxHeartbeats 4000000
namespace KT
open PySem L2 TW
/-- a def of the top stands -/
def Dn (K : W.Frag) (x : Str) (st : Stmt) : Prop := ∃ (f : Addr) (fd : FuncData), W.nsIn K mainGlobals x = some (some (.ref f)) ∧ Fun K x x st f fd
/-- a method stands -/
def MeAt (K : W.Frag) (C : Addr) (x qual : Str) (st : Stmt) : Prop := ∃ (f : Addr) (fd : FuncData), W.findIn K (.ref C) x = some (some (.ref f)) ∧ W.isFn K (.ref f) = true ∧ Fun K x qual st f fd
section
variable {K : W.Frag} {h : Heap} {mg : Str → Option Value}
theorem dn {x : Str} {st : Stmt} {f : Addr} {oc : Value} {od an : Option Addr} {osl : Array (Option Value)} {kV doc pm cdv ct : Value} (n : W.nsIn K mainGlobals x = some (some (.ref f)))
    (l : K.lookup f = some ⟨oc, od, .func (W.fnOf x x (defArgs st) (defBody st) (defScope st) .none kV doc pm an cdv ct), osl⟩) (c : W.codeIn K cdv x = true) (k : W.keepIn K (.ref f) = true) : Dn K x st := ⟨f, _, n, fun_mk l c k⟩
theorem Dn.at_ {x : Str} {st : Stmt} (X : K.In h) (G : h.Ns mainGlobals mg) (d : Dn K x st) (ps : List Str)
    (hb : ∀ (kV doc pm : Value) (an : Option Addr) (cdv ct : Value) (us : List Value), us.length = ps.length → bindArgs (W.fnOf x x (defArgs st) (defBody st) (defScope st) .none kV doc pm an cdv ct) ⟨us, []⟩ = pure (ps.zip us)) : ∃ (f : Addr) (fd : FuncData), At K mg x st ps f fd := by
  obtain ⟨f, fd, n, F⟩ := d
  exact ⟨f, fd, F, W.mg_of X G n, F.binds hb⟩
theorem tx {C HC : Addr} (X : K.In h) (G : h.Ns mainGlobals mg)
    (aC : W.nsIn K mainGlobals "Ratio" = some (some (.ref C)))
    (z1 : W.nsIn K mainGlobals "isinstance" = some none) (z2 : W.nsIn K mainGlobals "int" = some none) (z3 : W.nsIn K mainGlobals "bool" = some none) (z4 : W.nsIn K mainGlobals "list" = some none) (z5 : W.nsIn K mainGlobals "tuple" = some none)
    (z6 : W.nsIn K mainGlobals "len" = some none) (z7 : W.nsIn K mainGlobals "all" = some none) (g1 : W.nsIn K mainGlobals "gcd" = some (some (.builtin "math.gcd")))
    (pg : W.plainGet K C Str.empty = true) (hd : W.hasDictIn K C = true) (po : W.plainOver K C = true) (sa : W.findIn K (.ref C) "__setattr__" = some (some (.builtin "object.__setattr__")))
    (n1 : W.findIn K (.ref C) "_top" = some none) (n2 : W.findIn K (.ref C) "_bottom" = some none)
    (atC : W.findIn K (.ref C) "__class__" = some (some (.builtin "object.__class__")))
    (cg : W.specialIn K (.builtin "object.__class__") "__get__" = some (some (.builtin "getset_descriptor.__get__"))) (ct : W.takesIn K (.builtin "object.__class__") = some true)
    (moC : W.mroIn K C (.type "object") = some true)
    (k1 : W.kitOne K (.ref C) (.type "int") = some false) (k2 : W.kitOne K (.ref C) (.type "bool") = some false) (k3 : W.kitOne K (.ref C) (.type "list") = some false) (k4 : W.kitOne K (.ref C) (.type "tuple") = some false) (k5 : W.kitOne K (.ref C) (.ref C) = some true)
    (k6 : W.kitOne K (.type "NoneType") (.ref C) = some false) (k7 : W.kitOne K (.type "bool") (.ref C) = some false) (k8 : W.kitOne K (.type "int") (.ref C) = some false) (k9 : W.kitOne K (.type "str") (.ref C) = some false) (k10 : W.kitOne K (.type "list") (.ref C) = some false)
    (k11 : W.kitOne K (.type "tuple") (.ref C) = some false) (k12 : W.kitOne K (.type "dict") (.ref C) = some false) : Txt K mg C HC := by
  exact ⟨W.mg_none_of X G z1, W.mg_none_of X G z2, W.mg_none_of X G z3, W.mg_none_of X G z4, W.mg_none_of X G z5, W.mg_none_of X G z6, W.mg_none_of X G z7, W.mg_of X G g1, W.mg_of X G aC,
    ⟨pg, hd, po, sa⟩, n1, n2, atC, cg, ct, moC, k1, k2, k3, k4, k5, k6, k7, k8, k9, k10, k11, k12⟩
theorem me {C : Addr} {x qual : Str} {st : Stmt} {f : Addr} {oc : Value} {od an : Option Addr} {osl : Array (Option Value)} {kV doc pm cdv ct : Value} (a : W.findIn K (.ref C) x = some (some (.ref f))) (i : W.isFn K (.ref f) = true)
    (l : K.lookup f = some ⟨oc, od, .func (W.fnOf x qual (defArgs st) (defBody st) (defScope st) .none kV doc pm an cdv ct), osl⟩) (c : W.codeIn K cdv qual = true) (k : W.keepIn K (.ref f) = true) : MeAt K C x qual st := ⟨f, _, a, i, fun_mk l c k⟩
theorem MeAt.own {C : Addr} {x qual : Str} {st : Stmt} {f : Addr} {fd : FuncData} (a : W.findIn K (.ref C) x = some (some (.ref f))) (i : W.isFn K (.ref f) = true) (F : Fun K x qual st f fd) : Own K C f x ∧ Meth K C x f := ⟨⟨a, i⟩, ⟨a, i, F.kp⟩⟩
theorem prop_ {C p g : Addr} {x qual : Str} {st : Stmt} {oc : Value} {od an : Option Addr} {osl : Array (Option Value)} {kV doc pm cdv ct : Value} {rest : List Value} (hb : ∀ (kV doc pm : Value) (an : Option Addr) (cdv ct : Value) (us : List Value), us.length = 1 → bindArgs (W.fnOf x qual (defArgs st) (defBody st) (defScope st) .none kV doc pm an cdv ct) ⟨us, []⟩ = pure ((["self"] : List Str).zip us))
    (a : W.findIn K (.ref C) x = some (some (.ref p))) (s : W.specialIn K (.ref p) "__get__" = some (some (.builtin "property.__get__")))
    (t : W.takesIn K (.ref p) = some true) (r : W.recIn K p "property" = some (.ref g :: rest))
    (l : K.lookup g = some ⟨oc, od, .func (W.fnOf x qual (defArgs st) (defBody st) (defScope st) .none kV doc pm an cdv ct), osl⟩) (c : W.codeIn K cdv qual = true) (k : W.keepIn K (.ref g) = true) :
    ∃ (p g : Addr) (gd : FuncData), PrAt K C x qual st p g gd := by
  have F := fun_mk (st := st) l c k
  exact ⟨p, g, _, ⟨⟨a, s, t, rest, r⟩, F, F.binds (ps := ["self"]) hb⟩⟩
theorem initR {C f : Addr} {oc : Value} {od an : Option Addr} {osl : Array (Option Value)} {kV doc pm cdv ct : Value} {Td t : Addr} {ot : Value} {odt : Option Addr} {slt : Array (Option Value)} {n : Nat} (a : W.findIn K (.ref C) "__init__" = some (some (.ref f))) (i : W.isFn K (.ref f) = true)
    (l : K.lookup f = some ⟨oc, od, .func (W.fnOf "__init__" "Ratio.__init__" (defArgs r_init) (defBody r_init) (defScope r_init) (.ref Td) kV doc pm an cdv ct), osl⟩) (c : W.codeIn K cdv "Ratio.__init__" = true) (k : W.keepIn K (.ref f) = true)
    (lt : K.lookup Td = some ⟨ot, odt, .seq #[.int 1 t] n, slt⟩) (mk : W.makesIn K C = true) (kc : W.keepIn K (.ref C) = true) : ∃ (f : Addr) (fd : FuncData), InitR K f fd ∧ Mk K C f :=
  ⟨f, _, ⟨⟨oc, od, .ref Td, kV, doc, pm, an, cdv, ct, osl, rfl, l, c, .inr ⟨by simp, Td, _, [.int 1 t], n, rfl, lt, rfl, .cons ⟨t, rfl⟩ .nil⟩, .inl rfl⟩, k⟩, ⟨mk, a, i, kc⟩⟩
theorem strKeys_of {es : Array DictEntry} (h : (es.toList.all fun e => match e.key with | .str _ _ => true | _ => false) = true) : StrKeys es := fun e he => by
  have z := List.all_eq_true.mp h e (Array.mem_toList_iff.2 he)
  cases ek : e.key with
  | str n t => exact ⟨n, t, rfl⟩
  | _ => rw [ek] at z; cases z
/-- the own __eq__, and no __ne__ -/
theorem eqs {C f N : Addr} {nm q : Str} {bs : List Value} {hd : Bool} {sn : List Str} {sub : List Value} {ab : Bool} {col : Option Bool} {dd : Option Addr} {k0 k1 k2 k3 k5 : Option Value} {ni : String} {od an od' : Option Addr} {osl sl : Array (Option Value)} {kV doc pm cdv ct oc' : Value} {es : Array DictEntry} {ep : Nat}
    (a : W.findIn K (.ref C) "__eq__" = some (some (.ref f))) (i : W.isFn K (.ref f) = true)
    (l : K.lookup f = some ⟨.type "function", od, .func (W.fnOf "__eq__" "Ratio.__eq__" (defArgs m_eq) (defBody m_eq) (defScope m_eq) .none kV doc pm an cdv ct), osl⟩) (c : W.codeIn K cdv "Ratio.__eq__" = true) (k : W.keepIn K (.ref f) = true)
    (cl : K.lookup C = some (excClassObj nm q C N bs [.type "object"] hd sn sub ab col dd k0 k1 k2 k3 k5 ni)) (nl : K.lookup N = some ⟨oc', od', .dict es ep, sl⟩) (sk : (es.toList.all fun e => match e.key with | .str _ _ => true | _ => false) = true)
    (n1 : nsFind es "__eq__" = some (.ref f)) (n2 : nsFind es "__ne__" = none) : ∃ (f : Addr) (fd : FuncData), W.findIn K (.ref C) "__eq__" = some (some (.ref f)) ∧ W.isFn K (.ref f) = true ∧ Fun K "__eq__" "Ratio.__eq__" m_eq f fd ∧ NeK K C f :=
  ⟨f, _, a, i, fun_mk l c k, ⟨nm, q, N, bs, hd, sn, sub, ab, col, dd, k0, k1, k2, k3, k5, ni, oc', od', es, ep, sl, _, _, cl, nl, strKeys_of sk, n1, n2, l, rfl, rfl, rfl⟩⟩
/-- a class method stands -/
theorem tot {C p g : Addr} {mc : Value} {oc : Value} {od an : Option Addr} {osl : Array (Option Value)} {kV doc pm cdv ct : Value} {rest : List Value} (a : W.findCls K (.ref C) mc "total" = some (.get (.builtin "classmethod.__get__") (.ref p) .none (.ref C))) (r : W.recIn K p "classmethod" = some (.ref g :: rest)) (fi : W.fnIn K g = true)
    (l : K.lookup g = some ⟨oc, od, .func (W.fnOf "total" "Ratio.total" (defArgs r_total) (defBody r_total) (defScope r_total) .none kV doc pm an cdv ct), osl⟩) (c : W.codeIn K cdv "Ratio.total" = true) (k : W.keepIn K (.ref g) = true) :
    ∃ (p g : Addr) (gd : FuncData), ClX.CMet K C mc "total" p g ∧ Fun K "total" "Ratio.total" r_total g gd := ⟨p, g, _, ⟨a, ⟨rest, r⟩, fi⟩, fun_mk l c k⟩
/-- int's own -/
def IntAt (K : W.Frag) (nm : String) : Prop := ∃ fo ro, W.findIn K (.type "int") (dunder nm) = some fo ∧ W.findIn K (.type "int") (dunderR nm) = some ro ∧ (fo.isSome && !isSeqSlot fo || ro.isSome && !isSeqSlot ro) = true
theorem int_ {nm : String} {x y : Str} {fo ro : Option Value} (e1 : dunder nm = x) (e2 : dunderR nm = y) (h1 : W.findIn K (.type "int") x = some fo) (h2 : W.findIn K (.type "int") y = some ro) (h3 : (fo.isSome && !isSeqSlot fo || ro.isSome && !isSeqSlot ro) = true) : IntAt K nm := ⟨fo, ro, by rw [e1]; exact h1, by rw [e2]; exact h2, h3⟩
theorem ownI_of {C f g : Addr} {nm : String} (hr : W.findIn K (.ref C) (dunderR nm) = some (some (.ref g))) (I : IntAt K nm) (si : W.subIn K (.type "int") (.ref C) = some false) : OwnI K C nm := by
  obtain ⟨fo, ro, h1, h2, _⟩ := I
  exact ⟨⟨_, hr, .inr ⟨g, rfl⟩⟩, ⟨fo, h1⟩, ⟨ro, h2⟩, si⟩
theorem ownR_of {C f g : Addr} {nm : String} (hl : W.findIn K (.ref C) (dunder nm) = some (some (.ref f))) (hr : W.findIn K (.ref C) (dunderR nm) = some (some (.ref g))) (fn : W.isFn K (.ref g) = true) (I : IntAt K nm) (sc : W.subIn K (.ref C) (.type "int") = some false) (sf : W.selfFirst K C = true) : OwnR K C g nm := by
  obtain ⟨fo, ro, h1, h2, h3⟩ := I
  exact ⟨⟨f, hl⟩, hr, fn, ⟨fo, ro, h1, h2, h3⟩, sc, sf⟩
end
end KT
namespace EN
open PySem L2 TW RZ
open KT (Txt Dn MeAt IntAt PrAt InitR)
theorem kw2 {K : W.Frag} {x qual : Str} {st : Stmt} {f : Addr} {fd : FuncData} {ps ks : List Str} {js : List Nat} (F : Fun K x qual st f fd) (hk : ks.length = 2)
    (hb : ∀ (kV doc pm : Value) (an : Option Addr) (cdv ct : Value) (a b : Value), bindArgs (W.fnOf x qual (defArgs st) (defBody st) (defScope st) .none kV doc pm an cdv ct) ⟨[], ks.zip [a, b]⟩ = pure (ps.zip (pick js [a, b]))) : KwB K fd ps ks js := by
  obtain ⟨oc, od, kV, doc, pm, an, cdv, ct, osl, rfl, lk, hcd⟩ := F.ex
  refine ⟨fun s ws X hl => ?_⟩
  match ws, hl.trans hk with
  | [a, b], _ => exact BindsTo.of_looks fun M => W.Looks.of_pure (hb kV doc pm an cdv ct a b)
abbrev s_law : Stmt := top 36
theorem c_law : FnScope ["_law_script", "_law_k"] ["_law_script"] (defScope s_law) := ⟨rfl, rfl, rfl, by decide +kernel, rfl, by decide +kernel, by decide +kernel⟩
def spLaw (K : W.Frag) : Sp := fun vs H Q _ => ∃ (a : Addr) (ns : List Int), vs = [.ref a] ∧ SqL K H a (ns.map V.int) ∧ ns.length ≤ 1000 ∧ ∀ H', Q (.bl true) H'
def spRight : Sp := fun vs H Q _ => ∃ p : Addr, vs = [.ref p] ∧ PotAt H p ∧ ∀ H', But p H H' → Q (.bl true) H'
section
variable {P : Program} {w : World} {K : W.Frag} {mg : Str → Option Value} {base : Heap} {C : Addr} {pots : List Addr}
theorem right_k {k : Nat} {f : Addr} {fd : FuncData} (F : ∀ p : Addr, FnG P w K mg base L2.CX0 k f fd ["_law_pot_here"] (Fk (GK K C [p]) K_law_right)) : FnG P w K mg base L2.CX0 k f fd ["_law_pot_here"] spRight := by
  have key : ∀ vs H (Q : VK) E, spRight vs H Q E → ∃ p, Fk (GK K C [p]) K_law_right vs H Q E := by
    rintro vs H Q E ⟨p, rfl, hp, q⟩
    refine ⟨p, [p], [.pot 0], fun r => r = .cl (.bl true), fun a ha => ?_, fun a ha => ?_, .cons (.pot rfl) .nil, ⟨rfl, rfl⟩, fun v H' r s rv er => ?_⟩
    · rw [List.mem_singleton.1 ha]; exact hp.isl
    · rw [List.mem_singleton.1 ha]; exact ⟨List.mem_singleton.2 rfl, hp⟩
    · subst er
      have z := rv.of_c
      cases z
      exact q H' fun b o e hb => s.keep b o e fun z => hb (List.mem_singleton.1 z)
  refine ⟨fun vs H Q E h => ?_, fun A o s H a us vs Q E gd r e0 b v h => ?_⟩
  · obtain ⟨p, h⟩ := key vs H Q E h
    exact (F p).len vs H Q E h
  · obtain ⟨p, h⟩ := key vs H Q E h
    exact (F p).go A o s H a us vs Q E gd r e0 b v h
theorem ok_law {k : Nat} {f g r : Addr} {fd gd_ rd : FuncData} (F : Fun K "law" "law" s_law f fd) (Z : Ns mg)
    (G : KT.At K mg "_law_pot" s_law_pot ["_law_script", "_law_k"] g gd_) (N : FnOk P w K mg base L2.CX0 1 g gd_ ["_law_script", "_law_k"] (spPot K)) (hk : 1 ≤ k)
    (Rt : KT.At K mg "_law_right" s_law_right ["_law_pot_here"] r rd) (NR : FnG P w K mg base L2.CX0 k r rd ["_law_pot_here"] spRight) : FnG P w K mg base L2.CX0 (k + 1) f fd ["_law_script"] (spLaw K) := by
  refine okG F c_law (fun vs H Q E h => ?_) fun cdv A outer s H vs Q E gd hr h => ?_
  · obtain ⟨a, ns, rfl, _⟩ := h
    rfl
  obtain ⟨a, ns, rfl, hs, hl, q⟩ := h
  have hr1 : Room 1 _ := hr.mono hk
  refine ⟨_, (pss_one (ps_ret (pe_callB (cr_all rfl) (by rfl) Z.all_ (by decide +kernel) (pa_cons (pe_lc (own := [("_law_k", 1)]) (g := gName 1) (tt := tYes) rfl c_law.nd (pi_range1 (by rfl) Z.range_ (pa_cons (pe_callB (call_max2 rfl) (by rfl) Z.max_ (by decide +kernel) (pa_cons pe_int (pa_cons (pe_callB (call_min2 rfl) (by rfl) Z.min_ (by decide +kernel) (pa_cons pe_int (pa_cons (pe_callB call_len_seq (by rfl) Z.len_ PySem.boot_len (pa_cons (pv 0) pa_nil)) pa_nil))) pa_nil))) pa_nil)) (blkOk_by (N := ["_law_script", "_law_k"]) (sc := defScope s_law) (by decide +kernel)) (fun _ _ _ _ _ => pg_name (i := 1) c_law.nd rfl (Or.inl rfl)) (fun _ _ _ _ _ => pts_nil) (fun _ _ _ _ _ => (pe_callG NR gd hr (by rfl) Rt.mg Rt.fn.kp Rt.b pass0 (pa_cons (pe_call N hr1 (by rfl) G.mg G.fn.kp G.b .nil pass0 (pa_cons (pv 0) (pa_cons (pv 1) pa_nil))) pa_nil)))) pa_nil)))), ?_⟩
  refine ⟨.ref a, rfl, a, _, rfl, .inl hs, _, _, rfl, _, _, rfl, ?_⟩
  generalize hm : (if (if (((ns.map V.int).length : Nat) : Int) < 2 then (((ns.map V.int).length : Nat) : Int) else 2) > 1 then (if (((ns.map V.int).length : Nat) : Int) < 2 then (((ns.map V.int).length : Nat) : Int) else 2) else 1) = m
  have m2 : 1 ≤ m ∧ m ≤ 2 := by
    rw [← hm]
    split <;> split <;> omega
  refine ⟨m, rfl, by omega, by omega, fun D hD => ?_⟩
  refine lc_range (lo := 0) (n := m.toNat) (fun i H' => (∀ b o, H b = some o → H' b = some o) ∧ H' D = some (.lst (List.replicate i (.bl true)))) ⟨fun b o e => ?_, upd_same⟩ ?_ ?_
  · rw [upd_ne (ne_of_none e hD)]
    exact e
  · rintro i H1 hi ⟨k1, k2⟩
    refine ⟨rfl, ?_⟩
    unfold tYes
    dsimp only
    rw [if_pos rfl]
    have hs1 : SqL K H1 a (ns.map V.int) := Same.seq k1 hs
    refine ⟨.ref a, rfl, .int (0 + (i : Nat)), rfl, a, ns, i, by rw [Int.zero_add]; rfl, by omega, hs1, fun p H2 s2 np pp => ?_⟩
    refine ⟨p, rfl, pp, fun H3 b3 => ?_⟩
    have keep : ∀ b o, H1 b = some o → H3 b = some o := fun b o e => b3 b o (s2 b o e) (ne_of_none e np)
    refine ⟨_, keep _ _ k2, ?_, fun b o e => ?_, ?_⟩
    · rw [List.length_replicate]
      show i < 2 ^ 24
      omega
    · rw [upd_ne (ne_of_none e hD)]
      exact keep _ _ (k1 _ _ e)
    · rw [upd_same, List.replicate_succ']
  · rintro H1 ⟨k1, k2⟩
    refine ⟨D, List.replicate m.toNat true, rfl, SqL.of (by rw [k2, List.map_replicate]), ?_⟩
    have e : (List.replicate m.toNat true).all id = true := by
      rw [List.all_eq_true]
      intro x hx
      rw [(List.mem_replicate.1 hx).2]
      rfl
    rw [e]
    exact q _
end
theorem nsx {K : W.Frag} {h : Heap} {mg : Str → Option Value} (X : K.In h) (G : h.Ns mainGlobals mg) (z0 : W.nsIn K mainGlobals "isinstance" = some none) (z1 : W.nsIn K mainGlobals "int" = some none) (z2 : W.nsIn K mainGlobals "bool" = some none) (z3 : W.nsIn K mainGlobals "list" = some none) (z4 : W.nsIn K mainGlobals "tuple" = some none) (z5 : W.nsIn K mainGlobals "len" = some none) (z6 : W.nsIn K mainGlobals "all" = some none) (z7 : W.nsIn K mainGlobals "abs" = some none) (z8 : W.nsIn K mainGlobals "max" = some none) (z9 : W.nsIn K mainGlobals "min" = some none) (z10 : W.nsIn K mainGlobals "sum" = some none) (z11 : W.nsIn K mainGlobals "divmod" = some none) (z12 : W.nsIn K mainGlobals "range" = some none) (z13 : W.nsIn K mainGlobals "zip" = some none) (z14 : W.nsIn K mainGlobals "enumerate" = some none) : Ns mg := ⟨W.mg_none_of X G z0, W.mg_none_of X G z1, W.mg_none_of X G z2, W.mg_none_of X G z3, W.mg_none_of X G z4, W.mg_none_of X G z5, W.mg_none_of X G z6, W.mg_none_of X G z7, W.mg_none_of X G z8, W.mg_none_of X G z9, W.mg_none_of X G z10, W.mg_none_of X G z11, W.mg_none_of X G z12, W.mg_none_of X G z13, W.mg_none_of X G z14⟩
theorem con_ {K : W.Frag} {h : Heap} {mg : Str → Option Value} {x : Str} {i : Int} {t : Tok} (X : K.In h) (G : h.Ns mainGlobals mg) (n : W.nsIn K mainGlobals x = some (some (.int i t))) : ∃ t, mg x = some (.int i t) := ⟨t, W.mg_of X G n⟩
theorem all_mk {K : W.Frag} {h : Heap} {mg : Str → Option Value} {l : W.OpenLaw} {w : World} {fa C : Addr} {mc : Value} (X : K.In h) (G : h.Ns mainGlobals mg) (hfa : mg "law" = some (.ref fa)) (T : Txt K mg C C) (Z : Ns mg)
    (I : ∃ (f : Addr) (fd : FuncData), InitR K f fd ∧ Mk K C f)
    (Zadd : MeAt K C "__add__" "Ratio.__add__" KT.r_add)
    (Zradd : MeAt K C "__radd__" "Ratio.__radd__" KT.m_radd)
    (Zsub : MeAt K C "__sub__" "Ratio.__sub__" KT.r_sub)
    (Zrsub : MeAt K C "__rsub__" "Ratio.__rsub__" KT.m_rsub)
    (Zmul : MeAt K C "__mul__" "Ratio.__mul__" KT.r_mul)
    (Zrmul : MeAt K C "__rmul__" "Ratio.__rmul__" KT.m_rmul)
    (Zneg : MeAt K C "__neg__" "Ratio.__neg__" KT.r_neg)
    (Zover : MeAt K C "over" "Ratio.over" KT.m_over)
    (Ytop : ∃ (p g : Addr) (gd : FuncData), PrAt K C "top" "Ratio.top" KT.r_top p g gd)
    (Ybot : ∃ (p g : Addr) (gd : FuncData), PrAt K C "bottom" "Ratio.bottom" KT.r_bottom p g gd)
    (Ysign : ∃ (p g : Addr) (gd : FuncData), PrAt K C "sign" "Ratio.sign" KT.m_sign p g gd)
    (EQ : ∃ (f : Addr) (fd : FuncData), W.findIn K (.ref C) "__eq__" = some (some (.ref f)) ∧ W.isFn K (.ref f) = true ∧ Fun K "__eq__" "Ratio.__eq__" KT.m_eq f fd ∧ TW.NeK K C f)
    (cr : ClX.CRead K C mc) (TT : ∃ (p g : Addr) (gd : FuncData), ClX.CMet K C mc "total" p g ∧ Fun K "total" "Ratio.total" KT.r_total g gd)
    (i1 : IntAt K "add") (i2 : IntAt K "sub") (i3 : IntAt K "mul") (sf : W.selfFirst K C = true) (si : W.subIn K (.type "int") (.ref C) = some false) (sc : W.subIn K (.ref C) (.type "int") = some false)
    (n_LONGEST_WORD : ∃ t, mg "LONGEST_WORD" = some (.int 16 t))
    (D_is_integer : Dn K "is_integer" s_is_integer)
    (D_is_count : Dn K "is_count" s_is_count)
    (D_is_list : Dn K "is_list" s_is_list)
    (D_is_number : Dn K "is_number" s_is_number)
    (D_are_numbers : Dn K "are_numbers" s_are_numbers)
    (D_ratio_of : Dn K "ratio_of" s_ratio_of)
    (D_ratio_row : Dn K "ratio_row" s_ratio_row)
    (D_led_to : Dn K "led_to" s_led_to)
    (D_are_letters_at : Dn K "are_letters_at" s_are_letters_at)
    (D_told_five : Dn K "told_five" s_told_five)
    (D_determinant_by : Dn K "determinant_by" s_determinant_by)
    (D_first_behind : Dn K "first_behind" s_first_behind)
    (D_second_behind : Dn K "second_behind" s_second_behind)
    (D_sum_by : Dn K "sum_by" s_sum_by)
    (D_word_by : Dn K "word_by" s_word_by)
    (D_law_number : Dn K "_law_number" s_law_number)
    (D_law_word : Dn K "_law_word" s_law_word)
    (D_law_right : Dn K "_law_right" s_law_right)
    (D_law_pot : Dn K "_law_pot" s_law_pot)
    (D_law_draw : Dn K "_law_draw" s_law_draw)
    (ee : Dn K "law" s_law) :
    ∃ fd : FuncData, (∀ (s : Shared) (v : Value), BindsTo s fd ⟨[v], []⟩ [("_law_script", v)]) ∧ ∀ base : Heap, K.In base → base.Ns mainGlobals mg → FnG l.prog w K mg base L2.CX0 15 fa fd ["_law_script"] (spLaw K) := by
  obtain ⟨f_is_integer, fd_is_integer, A_is_integer⟩ := D_is_integer.at_ X G ["value"] fun _ _ _ _ _ _ us hl => match us, hl with | [_], _ => rfl
  obtain ⟨f_is_count, fd_is_count, A_is_count⟩ := D_is_count.at_ X G ["value"] fun _ _ _ _ _ _ us hl => match us, hl with | [_], _ => rfl
  obtain ⟨f_is_list, fd_is_list, A_is_list⟩ := D_is_list.at_ X G ["value"] fun _ _ _ _ _ _ us hl => match us, hl with | [_], _ => rfl
  obtain ⟨f_is_number, fd_is_number, A_is_number⟩ := D_is_number.at_ X G ["value"] fun _ _ _ _ _ _ us hl => match us, hl with | [_], _ => rfl
  obtain ⟨f_are_numbers, fd_are_numbers, A_are_numbers⟩ := D_are_numbers.at_ X G ["value"] fun _ _ _ _ _ _ us hl => match us, hl with | [_], _ => rfl
  obtain ⟨f_ratio_of, fd_ratio_of, A_ratio_of⟩ := D_ratio_of.at_ X G ["number"] fun _ _ _ _ _ _ us hl => match us, hl with | [_], _ => rfl
  obtain ⟨f_ratio_row, fd_ratio_row, A_ratio_row⟩ := D_ratio_row.at_ X G ["numbers"] fun _ _ _ _ _ _ us hl => match us, hl with | [_], _ => rfl
  obtain ⟨f_led_to, fd_led_to, A_led_to⟩ := D_led_to.at_ X G ["row", "other"] fun _ _ _ _ _ _ us hl => match us, hl with | [_, _], _ => rfl
  obtain ⟨f_are_letters_at, fd_are_letters_at, A_are_letters_at⟩ := D_are_letters_at.at_ X G ["value", "many"] fun _ _ _ _ _ _ us hl => match us, hl with | [_, _], _ => rfl
  obtain ⟨f_told_five, fd_told_five, A_told_five⟩ := D_told_five.at_ X G ["value"] fun _ _ _ _ _ _ us hl => match us, hl with | [_], _ => rfl
  obtain ⟨f_determinant_by, fd_determinant_by, A_determinant_by⟩ := D_determinant_by.at_ X G ["number", "squared"] fun _ _ _ _ _ _ us hl => match us, hl with | [_, _], _ => rfl
  obtain ⟨f_first_behind, fd_first_behind, A_first_behind⟩ := D_first_behind.at_ X G ["told", "numbers"] fun _ _ _ _ _ _ us hl => match us, hl with | [_, _], _ => rfl
  obtain ⟨f_second_behind, fd_second_behind, A_second_behind⟩ := D_second_behind.at_ X G ["told", "numbers"] fun _ _ _ _ _ _ us hl => match us, hl with | [_, _], _ => rfl
  obtain ⟨f_sum_by, fd_sum_by, A_sum_by⟩ := D_sum_by.at_ X G ["told", "word"] fun _ _ _ _ _ _ us hl => match us, hl with | [_, _], _ => rfl
  obtain ⟨f_word_by, fd_word_by, A_word_by⟩ := D_word_by.at_ X G ["five", "word"] fun _ _ _ _ _ _ us hl => match us, hl with | [_, _], _ => rfl
  obtain ⟨f_law_number, fd_law_number, A_law_number⟩ := D_law_number.at_ X G ["_law_pot_here"] fun _ _ _ _ _ _ us hl => match us, hl with | [_], _ => rfl
  obtain ⟨f_law_word, fd_law_word, A_law_word⟩ := D_law_word.at_ X G ["_law_pot_here", "_law_most"] fun _ _ _ _ _ _ us hl => match us, hl with | [_, _], _ => rfl
  obtain ⟨f_law_right, fd_law_right, A_law_right⟩ := D_law_right.at_ X G ["_law_pot_here"] fun _ _ _ _ _ _ us hl => match us, hl with | [_], _ => rfl
  obtain ⟨f_law_pot, fd_law_pot, A_law_pot⟩ := D_law_pot.at_ X G ["_law_script", "_law_k"] fun _ _ _ _ _ _ us hl => match us, hl with | [_, _], _ => rfl
  obtain ⟨f_law_draw, fd_law_draw, A_law_draw⟩ := D_law_draw.at_ X G ["_law_pot_here", "_law_many"] fun _ _ _ _ _ _ us hl => match us, hl with | [_, _], _ => rfl
  obtain ⟨f_add, fd_add, at_add, is_add, Fadd⟩ := Zadd
  have badd := Fadd.binds (ps := ["self", "other"]) fun _ _ _ _ _ _ us hl => match us, hl with | [_, _], _ => rfl
  obtain ⟨f_radd, fd_radd, at_radd, is_radd, Fradd⟩ := Zradd
  have bradd := Fradd.binds (ps := ["self", "other"]) fun _ _ _ _ _ _ us hl => match us, hl with | [_, _], _ => rfl
  obtain ⟨f_sub, fd_sub, at_sub, is_sub, Fsub⟩ := Zsub
  have bsub := Fsub.binds (ps := ["self", "other"]) fun _ _ _ _ _ _ us hl => match us, hl with | [_, _], _ => rfl
  obtain ⟨f_rsub, fd_rsub, at_rsub, is_rsub, Frsub⟩ := Zrsub
  have brsub := Frsub.binds (ps := ["self", "other"]) fun _ _ _ _ _ _ us hl => match us, hl with | [_, _], _ => rfl
  obtain ⟨f_mul, fd_mul, at_mul, is_mul, Fmul⟩ := Zmul
  have bmul := Fmul.binds (ps := ["self", "other"]) fun _ _ _ _ _ _ us hl => match us, hl with | [_, _], _ => rfl
  obtain ⟨f_rmul, fd_rmul, at_rmul, is_rmul, Frmul⟩ := Zrmul
  have brmul := Frmul.binds (ps := ["self", "other"]) fun _ _ _ _ _ _ us hl => match us, hl with | [_, _], _ => rfl
  obtain ⟨f_neg, fd_neg, at_neg, is_neg, Fneg⟩ := Zneg
  have bneg := Fneg.binds (ps := ["self"]) fun _ _ _ _ _ _ us hl => match us, hl with | [_], _ => rfl
  obtain ⟨f_over, fd_over, at_over, is_over, Fover⟩ := Zover
  have bover := Fover.binds (ps := ["self", "other"]) fun _ _ _ _ _ _ us hl => match us, hl with | [_, _], _ => rfl
  obtain ⟨p_top, g_top, gd_top, PRtop⟩ := Ytop
  obtain ⟨p_bot, g_bot, gd_bot, PRbot⟩ := Ybot
  obtain ⟨p_sign, g_sign, gd_sign, PRsign⟩ := Ysign
  obtain ⟨f_eq, fd_eq, at_eq, is_eq, Feq, NEk⟩ := EQ
  have beq := Feq.binds (ps := ["self", "other"]) fun _ _ _ _ _ _ us hl => match us, hl with | [_, _], _ => rfl
  obtain ⟨p_tot, g_tot, gd_tot, cm, Ftot⟩ := TT
  have btot := Ftot.binds (ps := ["cls", "numbers"]) fun _ _ _ _ _ _ us hl => match us, hl with | [_, _], _ => rfl
  obtain ⟨g8, gd8, n8, F8⟩ := ee
  obtain ⟨fi, fid, FI, MI⟩ := I
  obtain ⟨ds, vd, bd⟩ := KT.initR_all FI
  obtain ⟨ds1, vd1, bd1⟩ := KT.initR_binds FI
  have e := hfa.symm.trans (W.mg_of X G n8)
  cases e
  refine ⟨gd8, ?_, fun base _ _ => ?_⟩
  · obtain ⟨oc, od, kV, doc, pm, an, cdv, ct, osl, rfl, lk, hcd⟩ := F8.ex
    exact fun s v => .of_eq rfl
  have Nm := KT.ok_mk (P := l.prog) (w := w) (base := base) FI T A_is_integer
  have Nof := KT.ok_of (P := l.prog) (w := w) (base := base) A_ratio_of T A_is_integer FI MI
  have O : KT.Ops l.prog w K mg base C := ⟨⟨_, _, A_ratio_of, Nof⟩, ⟨_, _, ds, MI, Nm, vd, bd⟩, ⟨_, _, _, PRtop⟩, ⟨_, _, _, PRbot⟩⟩
  have Add : KT.OpAt l.prog w K mg base C "__add__" ["self", "other"] (KT.spOp2 C (· + ·)) := ⟨_, _, ⟨at_add, is_add⟩, KT.ok_add Fadd T O, badd⟩
  have Mul : KT.OpAt l.prog w K mg base C "__mul__" ["self", "other"] (KT.spOp2 C (· * ·)) := ⟨_, _, ⟨at_mul, is_mul⟩, KT.ok_mul Fmul T O, bmul⟩
  have Nneg := KT.ok_neg Fneg T O
  have Neg : KT.OpAt l.prog w K mg base C "__neg__" ["self"] (KT.spOp1 C fun p => -p) := ⟨_, _, ⟨at_neg, is_neg⟩, Nneg, bneg⟩
  have Nsub := KT.ok_sub Fsub T O sf Add Neg
  have Nradd := KT.ok_radd Fradd O sf Add
  have Nrsub := KT.ok_rsub Frsub O sf ⟨at_sub, is_sub⟩ Nsub bsub
  have Nrmul := KT.ok_rmul Frmul O sf Mul
  have OIa : OwnI K C "add" := KT.ownI_of (f := fi) at_radd i1 si
  have OIs : OwnI K C "sub" := KT.ownI_of (f := fi) at_rsub i2 si
  have OIm : OwnI K C "mul" := KT.ownI_of (f := fi) at_rmul i3 si
  have ORa : OwnR K C f_radd "add" := KT.ownR_of at_add at_radd is_radd i1 sc sf
  have ORs : OwnR K C f_rsub "sub" := KT.ownR_of at_sub at_rsub is_rsub i2 sc sf
  have ORm : OwnR K C f_rmul "mul" := KT.ownR_of at_mul at_rmul is_rmul i3 sc sf
  have Nover := KT.ok_over Fover T O PRsign
  have Neq := KT.ok_eq (P := l.prog) (w := w) (mg := mg) (base := base) Feq T
  have Ntot := KT.ok_total Ftot T A_is_list FI MI ⟨_, _, A_is_integer⟩ sf OIa Add
  have R : RatF l.prog w K mg base C := ⟨T.clC, sf, ⟨_, _, ⟨at_add, is_add⟩, KT.ok_add Fadd T O, badd⟩, ⟨_, _, ⟨at_sub, is_sub⟩, Nsub, bsub⟩, ⟨_, _, ⟨at_mul, is_mul⟩, KT.ok_mul Fmul T O, bmul⟩, ⟨_, _, ⟨at_neg, is_neg⟩, Nneg, bneg⟩,
    OIa, OIs, OIm, ⟨_, _, ORa, Nradd.mono (by decide), bradd⟩, ⟨_, _, ORs, Nrsub.mono (by decide), brsub⟩, ⟨_, _, ORm, Nrmul.mono (by decide), brmul⟩, ⟨_, _, ⟨at_eq, is_eq⟩, Neq, beq, NEk⟩, si, sc, ⟨_, _, _, _, MI, Nm, vd, bd, vd1, bd1⟩, T.mgC⟩
  have Ty := tyF T
  have Vt : FnR l.prog w K mg base L2.CX0 6 g_tot (fun vs H Q E => spTo K C (vs ++ []) H Q E) := (Ntot.imp (sp' := spTo K C) fun vs H Q E h => by
    obtain ⟨a, xs, q, e1, e2, e3, e4, e5, e6, e7⟩ := h
    refine ⟨a, xs, q, e1, e2, e3, ?_, e5, e6, e7⟩
    clear e1 e2 e3 e5 e6 e7
    induction e4 with
    | nil => exact .nil
    | cons a _ ih => exact .cons a ih).raw btot .nil
  have Vt2 : FnR l.prog w K mg base L2.CX0 6 g_tot (spTo K C) := by
    have e0 : (fun vs H Q E => spTo K C (vs ++ []) H Q E) = spTo K C := by
      funext vs H Q E
      rw [List.append_nil]
    rw [e0] at Vt
    exact Vt
  have V : OvX l.prog w K mg base C f_over g_tot p_tot fd_over mc := ⟨T.clC, ⟨⟨at_over, is_over, Fover.kp⟩, Nover.mono (by decide), bover⟩, cr, cm, Vt2⟩
  have Np := ok_law_pot (P := l.prog) (w := w) (base := base) A_law_pot Z
  have Nd := ok_law_draw (P := l.prog) (w := w) (base := base) A_law_draw Z
  have N_law_draw : ∀ pots, FnG l.prog w K mg base L2.CX0 1 f_law_draw fd_law_draw ["_law_pot_here", "_law_many"] (Fk (GK K C pots) K_draw) := fun pots => draw_k Nd
  have N_is_integer : ∀ pots, FnG l.prog w K mg base L2.CX0 9 f_is_integer fd_is_integer ["value"] (Fk (GK K C pots) K_is_integer) := fun pots => ok_is_integer A_is_integer Ty Z (fun ds Φ h => by obtain ⟨_, rfl, _⟩ := h; rfl) hk_is_integer
  have N_is_count : ∀ pots, FnG l.prog w K mg base L2.CX0 10 f_is_count fd_is_count ["value"] (Fk (GK K C pots) K_is_count) := fun pots => ok_is_count A_is_count A_is_integer (N_is_integer pots) (fun ds Φ h => by obtain ⟨_, rfl, _⟩ := h; rfl) hk_is_count
  have N_is_list : ∀ pots, FnG l.prog w K mg base L2.CX0 9 f_is_list fd_is_list ["value"] (Fk (GK K C pots) K_is_list) := fun pots => ok_is_list A_is_list Ty Z (fun ds Φ h => by obtain ⟨_, rfl, _⟩ := h; rfl) hk_is_list
  have N_is_number : ∀ pots, FnG l.prog w K mg base L2.CX0 10 f_is_number fd_is_number ["value"] (Fk (GK K C pots) K_is_number) := fun pots => ok_is_number A_is_number R Ty Z A_is_integer (N_is_integer pots) (fun ds Φ h => by obtain ⟨_, rfl, _⟩ := h; rfl) hk_is_number
  have N_are_numbers : ∀ pots, FnG l.prog w K mg base L2.CX0 11 f_are_numbers fd_are_numbers ["value"] (Fk (GK K C pots) K_are_numbers) := fun pots => ok_are_numbers A_are_numbers Z A_is_list (N_is_list pots) A_is_number (N_is_number pots) (fun ds Φ h => by obtain ⟨_, _, rfl, _⟩ := h; rfl) hk_are_numbers
  have N_ratio_of : ∀ pots, FnG l.prog w K mg base L2.CX0 9 f_ratio_of fd_ratio_of ["number"] (Fk (GK K C pots) K_ratio_of) := fun pots => ok_ratio_of A_ratio_of R Ty Z (fun ds Φ h => by obtain ⟨_, _, rfl, _⟩ := h; rfl) hk_ratio_of
  have N_ratio_row : ∀ pots, FnG l.prog w K mg base L2.CX0 10 f_ratio_row fd_ratio_row ["numbers"] (Fk (GK K C pots) K_ratio_row) := fun pots => ok_ratio_row A_ratio_row A_ratio_of (N_ratio_of pots) (fun ds Φ h => by obtain ⟨_, _, _, rfl, _⟩ := h; rfl) hk_ratio_row
  have N_led_to : ∀ pots, FnG l.prog w K mg base L2.CX0 10 f_led_to fd_led_to ["row", "other"] (Fk (GK K C pots) K_led_to) := fun pots => ok_led_to A_led_to R Z V A_ratio_of (N_ratio_of pots) (fun ds Φ h => by obtain ⟨_, _, _, _, rfl, _⟩ := h; rfl) hk_led_to
  have N_are_letters_at : ∀ pots, FnG l.prog w K mg base L2.CX0 11 f_are_letters_at fd_are_letters_at ["value", "many"] (Fk (GK K C pots) K_are_letters_at) := fun pots => ok_are_letters_at A_are_letters_at Z n_LONGEST_WORD A_is_list (N_is_list pots) A_is_count (N_is_count pots) (fun ds Φ h => by obtain ⟨_, _, rfl, _⟩ := h; rfl) hk_are_letters_at
  have N_told_five : ∀ pots, FnG l.prog w K mg base L2.CX0 12 f_told_five fd_told_five ["value"] (Fk (GK K C pots) K_told_five) := fun pots => ok_told_five A_told_five R Ty Z A_are_numbers (N_are_numbers pots) A_ratio_row (N_ratio_row pots) (fun ds Φ h => by obtain ⟨_, _, rfl, _⟩ := h; rfl) hk_told_five
  have N_determinant_by : ∀ pots, FnG l.prog w K mg base L2.CX0 9 f_determinant_by fd_determinant_by ["number", "squared"] (Fk (GK K C pots) K_determinant_by) := fun pots => ok_determinant_by A_determinant_by R V (fun ds Φ h => by obtain ⟨_, _, rfl, _⟩ := h; rfl) hk_determinant_by
  have N_first_behind : ∀ pots, FnG l.prog w K mg base L2.CX0 10 f_first_behind fd_first_behind ["told", "numbers"] (Fk (GK K C pots) K_first_behind) := fun pots => ok_first_behind A_first_behind R A_determinant_by (N_determinant_by pots) (fun ds Φ h => by obtain ⟨_, _, _, _, rfl, _⟩ := h; rfl) hk_first_behind
  have N_second_behind : ∀ pots, FnG l.prog w K mg base L2.CX0 10 f_second_behind fd_second_behind ["told", "numbers"] (Fk (GK K C pots) K_second_behind) := fun pots => ok_second_behind A_second_behind R A_determinant_by (N_determinant_by pots) (fun ds Φ h => by obtain ⟨_, _, _, _, rfl, _⟩ := h; rfl) hk_second_behind
  have N_sum_by : ∀ pots, FnG l.prog w K mg base L2.CX0 11 f_sum_by fd_sum_by ["told", "word"] (Fk (GK K C pots) K_sum_by) := fun pots => ok_sum_by A_sum_by R A_first_behind (N_first_behind pots) A_second_behind (N_second_behind pots) A_led_to (N_led_to pots) (fun ds Φ h => by obtain ⟨_, _, rfl, _⟩ := h; rfl) hk_sum_by
  have N_word_by : ∀ pots, FnG l.prog w K mg base L2.CX0 13 f_word_by fd_word_by ["five", "word"] (Fk (GK K C pots) K_word_by) := fun pots => ok_word_by A_word_by A_told_five (N_told_five pots) A_are_letters_at (N_are_letters_at pots) A_sum_by (N_sum_by pots) (fun ds Φ h => by obtain ⟨_, _, _, rfl, _⟩ := h; rfl) hk_word_by
  have N_law_number : ∀ pots, FnG l.prog w K mg base L2.CX0 9 f_law_number fd_law_number ["_law_pot_here"] (Fk (GK K C pots) K_law_number) := fun pots => ok_law_number A_law_number R A_law_draw (N_law_draw pots) (fun ds Φ h => by obtain ⟨_, rfl, _⟩ := h; rfl) hk_law_number
  have N_law_word : ∀ pots, FnG l.prog w K mg base L2.CX0 9 f_law_word fd_law_word ["_law_pot_here", "_law_most"] (Fk (GK K C pots) K_law_word) := fun pots => ok_law_word A_law_word R Z A_law_draw (N_law_draw pots) (fun ds Φ h => by obtain ⟨_, _, rfl, _⟩ := h; rfl) hk_law_word
  have N_law_right : ∀ pots, FnG l.prog w K mg base L2.CX0 14 f_law_right fd_law_right ["_law_pot_here"] (Fk (GK K C pots) K_law_right) := fun pots => ok_law_right A_law_right R Ty Z V A_law_number (N_law_number pots) A_word_by (N_word_by pots) A_law_word (N_law_word pots) A_law_draw (N_law_draw pots) (kw2 A_word_by.fn rfl fun _ _ _ _ _ _ _ _ => rfl) (fun ds Φ h => by obtain ⟨rfl, _⟩ := h; rfl) hk_law_right
  exact ok_law F8 Z A_law_pot Np (by decide) A_law_right (right_k fun p => N_law_right [p])
theorem walk {l : W.OpenLaw} {q : Program} {loose : List Str} {XP : (Str → Option Value) → Heap → Prop} {YP : World → Heap → Prop} {d : DefRec} {K : Params → W.Frag} (hn : l.most = some 63) (hdf : d.params.defaults = [])
    (hY : ∀ (w : World) (h : Heap), YP w h → (K w.params).In h)
    (F : ∀ (w : World) (mg : Str → Option Value) (fa : Addr) (h : Heap), (K w.params).In h → h.Ns mainGlobals mg → mg d.name = some (.ref fa) →
      ∃ fd : FuncData, (∀ (s : Shared) (u : Value), BindsTo s fd ⟨[u], []⟩ [("_law_script", u)]) ∧ ∀ base : Heap, (K w.params).In base → base.Ns mainGlobals mg → FnG l.prog w (K w.params) mg base L2.CX0 15 fa fd ["_law_script"] (spLaw (K w.params))) :
    W.WalkO q loose XP YP l.row.toRowW d [] (fun f vs => PySem.call f vs) :=
  walkG (n := 63) (k := 15) (x := "_law_script") (sp := spLaw) hn (by decide) hdf ⟨rfl, by decide, by decide⟩ hY F fun K H a ns hl _ hS => ⟨a, ns, rfl, hS, Nat.le_trans hl (by decide), fun _ => rfl⟩
end EN

set_option Elab.async false
set_option linter.all false
open PySem PySem.W PyProof.Rows
set_option maxRecDepth 100000 in
set_option maxHeartbeats 0 in
theorem PySem.Challenge.cw_tracewords_k87_any_five_and_its_words_holds : PySem.Challenge.rw_tracewords_k87_any_five_and_its_words.Holds := by
  w_on; o_law; k_head; (case hw => w_witness2)
  k_fill
  refine EN.walk (l := PySem.Challenge.rw_tracewords_k87_any_five_and_its_words) rfl rfl (fun w h Y => PySem.W.kIn_of Y) ?F
  case F =>
    intro w mg fa h KX G hmg
    refine' EN.all_mk (mc := .type "type") KX G hmg (KT.tx KX G ?q_aC ?q_z1 ?q_z2 ?q_z3 ?q_z4 ?q_z5 ?q_z6 ?q_z7 ?q_g1 ?q_pg ?q_hd ?q_po ?q_sa ?q_n1 ?q_n2 ?q_atC ?q_cg ?q_ct ?q_moC ?q_k1 ?q_k2 ?q_k3 ?q_k4 ?q_k5 ?q_k6 ?q_k7 ?q_k8 ?q_k9 ?q_k10 ?q_k11 ?q_k12) (EN.nsx KX G ?q_y0 ?q_y1 ?q_y2 ?q_y3 ?q_y4 ?q_y5 ?q_y6 ?q_y7 ?q_y8 ?q_y9 ?q_y10 ?q_y11 ?q_y12 ?q_y13 ?q_y14) (KT.initR ?q_ia ?q_ii ?q_il ?q_ic ?q_ik ?q_it ?q_im ?q_ikc) (KT.me ?q_madda ?q_maddi ?q_maddl ?q_maddc ?q_maddk) (KT.me ?q_mradda ?q_mraddi ?q_mraddl ?q_mraddc ?q_mraddk) (KT.me ?q_msuba ?q_msubi ?q_msubl ?q_msubc ?q_msubk) (KT.me ?q_mrsuba ?q_mrsubi ?q_mrsubl ?q_mrsubc ?q_mrsubk) (KT.me ?q_mmula ?q_mmuli ?q_mmull ?q_mmulc ?q_mmulk) (KT.me ?q_mrmula ?q_mrmuli ?q_mrmull ?q_mrmulc ?q_mrmulk) (KT.me ?q_mnega ?q_mnegi ?q_mnegl ?q_mnegc ?q_mnegk) (KT.me ?q_movera ?q_moveri ?q_moverl ?q_moverc ?q_moverk) (KT.prop_ (fun _ _ _ _ _ _ us hl => match us, hl with | [_], _ => rfl) ?q_ptopa ?q_ptops ?q_ptopt ?q_ptopr ?q_ptopl ?q_ptopc ?q_ptopk) (KT.prop_ (fun _ _ _ _ _ _ us hl => match us, hl with | [_], _ => rfl) ?q_pbota ?q_pbots ?q_pbott ?q_pbotr ?q_pbotl ?q_pbotc ?q_pbotk) (KT.prop_ (fun _ _ _ _ _ _ us hl => match us, hl with | [_], _ => rfl) ?q_psigna ?q_psigns ?q_psignt ?q_psignr ?q_psignl ?q_psignc ?q_psignk) (KT.eqs ?q_eqa ?q_eqi ?q_eql ?q_eqc ?q_eqk ?q_eqcl ?q_eqnl ?q_eqsk ?q_eqn1 ?q_eqn2) ⟨?q_crr, ?q_crg⟩ (KT.tot ?q_ta ?q_tr ?q_tf ?q_tl ?q_tc ?q_tk) (KT.int_ (x := "__add__") (y := "__radd__") rfl rfl ?q_iadd1 ?q_iadd2 ?q_iadd3) (KT.int_ (x := "__sub__") (y := "__rsub__") rfl rfl ?q_isub1 ?q_isub2 ?q_isub3) (KT.int_ (x := "__mul__") (y := "__rmul__") rfl rfl ?q_imul1 ?q_imul2 ?q_imul3) ?q_sf ?q_si ?q_sc (EN.con_ KX G ?q_conLONGEST_WORD) (KT.dn ?q_d_is_integern ?q_d_is_integerl ?q_d_is_integerc ?q_d_is_integerk) (KT.dn ?q_d_is_countn ?q_d_is_countl ?q_d_is_countc ?q_d_is_countk) (KT.dn ?q_d_is_listn ?q_d_is_listl ?q_d_is_listc ?q_d_is_listk) (KT.dn ?q_d_is_numbern ?q_d_is_numberl ?q_d_is_numberc ?q_d_is_numberk) (KT.dn ?q_d_are_numbersn ?q_d_are_numbersl ?q_d_are_numbersc ?q_d_are_numbersk) (KT.dn ?q_d_ratio_ofn ?q_d_ratio_ofl ?q_d_ratio_ofc ?q_d_ratio_ofk) (KT.dn ?q_d_ratio_rown ?q_d_ratio_rowl ?q_d_ratio_rowc ?q_d_ratio_rowk) (KT.dn ?q_d_led_ton ?q_d_led_tol ?q_d_led_toc ?q_d_led_tok) (KT.dn ?q_d_are_letters_atn ?q_d_are_letters_atl ?q_d_are_letters_atc ?q_d_are_letters_atk) (KT.dn ?q_d_told_fiven ?q_d_told_fivel ?q_d_told_fivec ?q_d_told_fivek) (KT.dn ?q_d_determinant_byn ?q_d_determinant_byl ?q_d_determinant_byc ?q_d_determinant_byk) (KT.dn ?q_d_first_behindn ?q_d_first_behindl ?q_d_first_behindc ?q_d_first_behindk) (KT.dn ?q_d_second_behindn ?q_d_second_behindl ?q_d_second_behindc ?q_d_second_behindk) (KT.dn ?q_d_sum_byn ?q_d_sum_byl ?q_d_sum_byc ?q_d_sum_byk) (KT.dn ?q_d_word_byn ?q_d_word_byl ?q_d_word_byc ?q_d_word_byk) (KT.dn ?q_d_law_numbern ?q_d_law_numberl ?q_d_law_numberc ?q_d_law_numberk) (KT.dn ?q_d_law_wordn ?q_d_law_wordl ?q_d_law_wordc ?q_d_law_wordk) (KT.dn ?q_d_law_rightn ?q_d_law_rightl ?q_d_law_rightc ?q_d_law_rightk) (KT.dn ?q_d_law_potn ?q_d_law_potl ?q_d_law_potc ?q_d_law_potk) (KT.dn ?q_d_law_drawn ?q_d_law_drawl ?q_d_law_drawc ?q_d_law_drawk) (KT.dn ?q_een ?q_eel ?q_eec ?q_eek)
    (case q_aC => first | k_is | kit_is)
    (case q_z1 => first | k_is | kit_is)
    (case q_z2 => first | k_is | kit_is)
    (case q_z3 => first | k_is | kit_is)
    (case q_z4 => first | k_is | kit_is)
    (case q_z5 => first | k_is | kit_is)
    (case q_z6 => first | k_is | kit_is)
    (case q_z7 => first | k_is | kit_is)
    (case q_g1 => first | k_is | kit_is)
    (case q_pg => first | k_is | kit_is)
    (case q_hd => first | k_is | kit_is)
    (case q_po => first | k_is | kit_is)
    (case q_sa => first | k_is | kit_is)
    (case q_n1 => first | k_is | kit_is)
    (case q_n2 => first | k_is | kit_is)
    (case q_atC => first | k_is | kit_is)
    (case q_cg => first | k_is | kit_is)
    (case q_ct => first | k_is | kit_is)
    (case q_moC => first | k_is | kit_is)
    (case q_k1 => first | k_is | kit_is)
    (case q_k2 => first | k_is | kit_is)
    (case q_k3 => first | k_is | kit_is)
    (case q_k4 => first | k_is | kit_is)
    (case q_k5 => first | k_is | kit_is)
    (case q_k6 => first | k_is | kit_is)
    (case q_k7 => first | k_is | kit_is)
    (case q_k8 => first | k_is | kit_is)
    (case q_k9 => first | k_is | kit_is)
    (case q_k10 => first | k_is | kit_is)
    (case q_k11 => first | k_is | kit_is)
    (case q_k12 => first | k_is | kit_is)
    (case q_y0 => first | k_is | kit_is)
    (case q_y1 => first | k_is | kit_is)
    (case q_y2 => first | k_is | kit_is)
    (case q_y3 => first | k_is | kit_is)
    (case q_y4 => first | k_is | kit_is)
    (case q_y5 => first | k_is | kit_is)
    (case q_y6 => first | k_is | kit_is)
    (case q_y7 => first | k_is | kit_is)
    (case q_y8 => first | k_is | kit_is)
    (case q_y9 => first | k_is | kit_is)
    (case q_y10 => first | k_is | kit_is)
    (case q_y11 => first | k_is | kit_is)
    (case q_y12 => first | k_is | kit_is)
    (case q_y13 => first | k_is | kit_is)
    (case q_y14 => first | k_is | kit_is)
    (case q_ia => first | k_is | kit_is)
    (case q_ii => first | k_is | kit_is)
    (case q_il => first | k_is | kit_is)
    (case q_ic => first | k_is | kit_is)
    (case q_ik => first | k_is | kit_is)
    (case q_it => first | k_is | kit_is)
    (case q_im => first | k_is | kit_is)
    (case q_ikc => first | k_is | kit_is)
    (case q_madda => first | k_is | kit_is)
    (case q_maddi => first | k_is | kit_is)
    (case q_maddl => first | k_is | kit_is)
    (case q_maddc => first | k_is | kit_is)
    (case q_maddk => first | k_is | kit_is)
    (case q_mradda => first | k_is | kit_is)
    (case q_mraddi => first | k_is | kit_is)
    (case q_mraddl => first | k_is | kit_is)
    (case q_mraddc => first | k_is | kit_is)
    (case q_mraddk => first | k_is | kit_is)
    (case q_msuba => first | k_is | kit_is)
    (case q_msubi => first | k_is | kit_is)
    (case q_msubl => first | k_is | kit_is)
    (case q_msubc => first | k_is | kit_is)
    (case q_msubk => first | k_is | kit_is)
    (case q_mrsuba => first | k_is | kit_is)
    (case q_mrsubi => first | k_is | kit_is)
    (case q_mrsubl => first | k_is | kit_is)
    (case q_mrsubc => first | k_is | kit_is)
    (case q_mrsubk => first | k_is | kit_is)
    (case q_mmula => first | k_is | kit_is)
    (case q_mmuli => first | k_is | kit_is)
    (case q_mmull => first | k_is | kit_is)
    (case q_mmulc => first | k_is | kit_is)
    (case q_mmulk => first | k_is | kit_is)
    (case q_mrmula => first | k_is | kit_is)
    (case q_mrmuli => first | k_is | kit_is)
    (case q_mrmull => first | k_is | kit_is)
    (case q_mrmulc => first | k_is | kit_is)
    (case q_mrmulk => first | k_is | kit_is)
    (case q_mnega => first | k_is | kit_is)
    (case q_mnegi => first | k_is | kit_is)
    (case q_mnegl => first | k_is | kit_is)
    (case q_mnegc => first | k_is | kit_is)
    (case q_mnegk => first | k_is | kit_is)
    (case q_movera => first | k_is | kit_is)
    (case q_moveri => first | k_is | kit_is)
    (case q_moverl => first | k_is | kit_is)
    (case q_moverc => first | k_is | kit_is)
    (case q_moverk => first | k_is | kit_is)
    (case q_ptopa => first | k_is | kit_is)
    (case q_ptops => first | k_is | kit_is)
    (case q_ptopt => first | k_is | kit_is)
    (case q_ptopr => first | k_is | kit_is)
    (case q_ptopl => first | k_is | kit_is)
    (case q_ptopc => first | k_is | kit_is)
    (case q_ptopk => first | k_is | kit_is)
    (case q_pbota => first | k_is | kit_is)
    (case q_pbots => first | k_is | kit_is)
    (case q_pbott => first | k_is | kit_is)
    (case q_pbotr => first | k_is | kit_is)
    (case q_pbotl => first | k_is | kit_is)
    (case q_pbotc => first | k_is | kit_is)
    (case q_pbotk => first | k_is | kit_is)
    (case q_psigna => first | k_is | kit_is)
    (case q_psigns => first | k_is | kit_is)
    (case q_psignt => first | k_is | kit_is)
    (case q_psignr => first | k_is | kit_is)
    (case q_psignl => first | k_is | kit_is)
    (case q_psignc => first | k_is | kit_is)
    (case q_psignk => first | k_is | kit_is)
    (case q_eqa => first | k_is | kit_is)
    (case q_eqi => first | k_is | kit_is)
    (case q_eql => first | k_is | kit_is)
    (case q_eqc => first | k_is | kit_is)
    (case q_eqk => first | k_is | kit_is)
    (case q_eqcl => first | k_is | kit_is)
    (case q_eqnl => first | k_is | kit_is)
    (case q_eqsk => first | k_is | kit_is | rfl | decide +kernel)
    (case q_eqn1 => first | k_is | kit_is | rfl | decide +kernel)
    (case q_eqn2 => first | k_is | kit_is | rfl | decide +kernel)
    (case q_crr => first | k_is | kit_is)
    (case q_crg => first | k_is | kit_is)
    (case q_ta => first | k_is | kit_is)
    (case q_tr => first | k_is | kit_is)
    (case q_tf => first | k_is | kit_is)
    (case q_tl => first | k_is | kit_is)
    (case q_tc => first | k_is | kit_is)
    (case q_tk => first | k_is | kit_is)
    (case q_iadd1 => first | k_is | kit_is)
    (case q_iadd2 => first | k_is | kit_is)
    (case q_iadd3 => first | k_is | kit_is | rfl | decide +kernel)
    (case q_isub1 => first | k_is | kit_is)
    (case q_isub2 => first | k_is | kit_is)
    (case q_isub3 => first | k_is | kit_is | rfl | decide +kernel)
    (case q_imul1 => first | k_is | kit_is)
    (case q_imul2 => first | k_is | kit_is)
    (case q_imul3 => first | k_is | kit_is | rfl | decide +kernel)
    (case q_sf => first | k_is | kit_is)
    (case q_si => first | k_is | kit_is)
    (case q_sc => first | k_is | kit_is)
    (case q_conLONGEST_WORD => first | k_is | kit_is)
    (case q_d_is_integern => first | k_is | kit_is)
    (case q_d_is_integerl => first | k_is | kit_is)
    (case q_d_is_integerc => first | k_is | kit_is)
    (case q_d_is_integerk => first | k_is | kit_is)
    (case q_d_is_countn => first | k_is | kit_is)
    (case q_d_is_countl => first | k_is | kit_is)
    (case q_d_is_countc => first | k_is | kit_is)
    (case q_d_is_countk => first | k_is | kit_is)
    (case q_d_is_listn => first | k_is | kit_is)
    (case q_d_is_listl => first | k_is | kit_is)
    (case q_d_is_listc => first | k_is | kit_is)
    (case q_d_is_listk => first | k_is | kit_is)
    (case q_d_is_numbern => first | k_is | kit_is)
    (case q_d_is_numberl => first | k_is | kit_is)
    (case q_d_is_numberc => first | k_is | kit_is)
    (case q_d_is_numberk => first | k_is | kit_is)
    (case q_d_are_numbersn => first | k_is | kit_is)
    (case q_d_are_numbersl => first | k_is | kit_is)
    (case q_d_are_numbersc => first | k_is | kit_is)
    (case q_d_are_numbersk => first | k_is | kit_is)
    (case q_d_ratio_ofn => first | k_is | kit_is)
    (case q_d_ratio_ofl => first | k_is | kit_is)
    (case q_d_ratio_ofc => first | k_is | kit_is)
    (case q_d_ratio_ofk => first | k_is | kit_is)
    (case q_d_ratio_rown => first | k_is | kit_is)
    (case q_d_ratio_rowl => first | k_is | kit_is)
    (case q_d_ratio_rowc => first | k_is | kit_is)
    (case q_d_ratio_rowk => first | k_is | kit_is)
    (case q_d_led_ton => first | k_is | kit_is)
    (case q_d_led_tol => first | k_is | kit_is)
    (case q_d_led_toc => first | k_is | kit_is)
    (case q_d_led_tok => first | k_is | kit_is)
    (case q_d_are_letters_atn => first | k_is | kit_is)
    (case q_d_are_letters_atl => first | k_is | kit_is)
    (case q_d_are_letters_atc => first | k_is | kit_is)
    (case q_d_are_letters_atk => first | k_is | kit_is)
    (case q_d_told_fiven => first | k_is | kit_is)
    (case q_d_told_fivel => first | k_is | kit_is)
    (case q_d_told_fivec => first | k_is | kit_is)
    (case q_d_told_fivek => first | k_is | kit_is)
    (case q_d_determinant_byn => first | k_is | kit_is)
    (case q_d_determinant_byl => first | k_is | kit_is)
    (case q_d_determinant_byc => first | k_is | kit_is)
    (case q_d_determinant_byk => first | k_is | kit_is)
    (case q_d_first_behindn => first | k_is | kit_is)
    (case q_d_first_behindl => first | k_is | kit_is)
    (case q_d_first_behindc => first | k_is | kit_is)
    (case q_d_first_behindk => first | k_is | kit_is)
    (case q_d_second_behindn => first | k_is | kit_is)
    (case q_d_second_behindl => first | k_is | kit_is)
    (case q_d_second_behindc => first | k_is | kit_is)
    (case q_d_second_behindk => first | k_is | kit_is)
    (case q_d_sum_byn => first | k_is | kit_is)
    (case q_d_sum_byl => first | k_is | kit_is)
    (case q_d_sum_byc => first | k_is | kit_is)
    (case q_d_sum_byk => first | k_is | kit_is)
    (case q_d_word_byn => first | k_is | kit_is)
    (case q_d_word_byl => first | k_is | kit_is)
    (case q_d_word_byc => first | k_is | kit_is)
    (case q_d_word_byk => first | k_is | kit_is)
    (case q_d_law_numbern => first | k_is | kit_is)
    (case q_d_law_numberl => first | k_is | kit_is)
    (case q_d_law_numberc => first | k_is | kit_is)
    (case q_d_law_numberk => first | k_is | kit_is)
    (case q_d_law_wordn => first | k_is | kit_is)
    (case q_d_law_wordl => first | k_is | kit_is)
    (case q_d_law_wordc => first | k_is | kit_is)
    (case q_d_law_wordk => first | k_is | kit_is)
    (case q_d_law_rightn => first | k_is | kit_is)
    (case q_d_law_rightl => first | k_is | kit_is)
    (case q_d_law_rightc => first | k_is | kit_is)
    (case q_d_law_rightk => first | k_is | kit_is)
    (case q_d_law_potn => first | k_is | kit_is)
    (case q_d_law_potl => first | k_is | kit_is)
    (case q_d_law_potc => first | k_is | kit_is)
    (case q_d_law_potk => first | k_is | kit_is)
    (case q_d_law_drawn => first | k_is | kit_is)
    (case q_d_law_drawl => first | k_is | kit_is)
    (case q_d_law_drawc => first | k_is | kit_is)
    (case q_d_law_drawk => first | k_is | kit_is)
    (case q_een => first | k_is | kit_is)
    (case q_eel => first | k_is | kit_is)
    (case q_eec => first | k_is | kit_is)
    (case q_eek => first | k_is | kit_is)
#print axioms PySem.Challenge.cw_tracewords_k87_any_five_and_its_words_holds
