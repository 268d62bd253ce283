import PyProof.Rows.All
import Wide.All
import OpenK.AllK
import Wide.FinOn
import HandS.ForMost
import HandS.IsInst
import HandS.Property
import HandS.Call
import HandS.List
import HandS.Ends
import KE.KOpsOwn
import HandS.Gcd
import HandS.Wide
import HandS.OwnEq
import HandS.MakeKwOnly
import HandS.More
import HandS.Walk
import HandS.ClsMeth
import HandS.Defaults
import HandS.FStr
import HandS.Style
import HandS.TupMul
import HandS.MakeKw
import HandS.Small
import HandS.CallLocal
import PySem.Challenge.RW_tracewords_k11_ratios_reckoned
set_option Elab.async false
set_option linter.all false
set_option maxRecDepth 100000
set_option maxHeartbeats 2000000
namespace TW
open PySem L2 Builtin

/-- x is written as t at every place where the frames are ours, no writing of the objects as is under way, and Room lv is left; nothing that is tracked changes -/
def Rp (X : Cx) (H : Hp) (as : List Addr) (lv : Nat) (x : V) (t : Str) : Prop :=
  ∀ (A : Around) (g : List Code) (pins : List (Addr × Obj)) (σ : L2.St) (s : Shared) (u : Value) (b : Nat) (E : Value → Shared → Prop) (Q : Str → Shared → Prop),
    A.frames = some X.stack → A.guards = some g → (∀ a ∈ as, Clear g a) → Room lv A → Inv X pins σ H s → RelV x u → b + t.length ≤ sizeLine →
    (∀ s', Inv X pins σ H s' → Q t s') → wpAny (model X.prog X.w) A (pyReprUnder b u) Q E s

section
variable {X : Cx} {H : Hp}
theorem Rp.leaf {as : List Addr} {lv : Nat} {x : V} {t : Str} (h : ∀ u, RelV x u → ReprIs X.prog X.w u t) : Rp X H as lv x t := by
  intro A g pins σ s u b E Q _ _ _ _ I r hb hQ
  exact h u r b hb A E s Q fun tk => hQ _ (I.tok tk)
theorem Rp.more {as as' : List Addr} {lv lv' : Nat} {x : V} {t : Str} (h : Rp X H as lv x t) (hs : ∀ c ∈ as, c ∈ as') (hl : lv ≤ lv') : Rp X H as' lv' x t :=
  fun A g pins σ s u b E Q hf hg hc hr I r hb hQ => h A g pins σ s u b E Q hf hg (fun c z => hc c (hs c z)) (hr.mono hl) I r hb hQ
theorem Rp.non {as : List Addr} {lv : Nat} : Rp X H as lv .non "None" := Rp.leaf fun u r => by
  cases (show u = Value.none from r)
  exact ReprIs.none
theorem Rp.bl {as : List Addr} {lv : Nat} (y : Bool) : Rp X H as lv (.bl y) (if y then "True" else "False") := Rp.leaf fun u r => by
  cases (show u = Value.bool y from r)
  exact ReprIs.bool y
theorem Rp.int {as : List Addr} {lv : Nat} {i : Int} (h : i.natAbs.log2 < 1920) : Rp X H as lv (.int i) (toString i) := Rp.leaf fun u r => by
  obtain ⟨t, q⟩ := (show ∃ t, u = Value.int i t from r)
  subst q
  exact ReprIs.int t h
theorem Rp.str {as : List Addr} {lv : Nat} {z : Str} (h : (reprText z).length ≤ sizeLine) : Rp X H as lv (.str z) (reprText z) := Rp.leaf fun u r => by
  obtain ⟨t, q⟩ := (show ∃ t, u = Value.str z t from r)
  subst q
  exact ReprIs.str z t h

theorem fr_loop {A : Around} {args : Args} : (A.under (.builtin "list.__repr__.loop" args)).frames = A.frames := by
  first | rfl | simp [Around.under, Code.envs, Code.isFrame, pushEnvs]
theorem dp_loop {A : Around} {args : Args} : (A.under (.builtin "list.__repr__.loop" args)).depth = A.depth + 1 := by
  first | rfl | simp [Around.under, Code.weight, Code.isCreation, Code.isGuard, Code.isCaller, Code.frames, Code.isFrame, guardIds]
theorem hd_loop {A : Around} {args : Args} : (A.under (.builtin "list.__repr__.loop" args)).handled = A.handled := by
  first | rfl | simp [Around.under]
theorem room_loop {A : Around} {lv : Nat} (r : Room (lv + 1) A) (args : Args) : Room lv (A.under (.builtin "list.__repr__.loop" args)) := by
  obtain ⟨h1, h2, h3⟩ := r
  refine ⟨hd_loop.trans h1, ?_, ?_⟩
  · rw [dp_loop]; omega
  · rw [units_under_list_loop]; omega

/-- the loop of a list's writing: P holds the parts written so far -/
theorem loopR {as : List Addr} {lv : Nat} {a P : Addr} {xs : List V} {ts : List Str} {b : Nat} {A : Around} {g : List Code} {R : Result → Shared → Prop} {pins : List (Addr × Obj)} {σ : L2.St}
    (hlen : ts.length = xs.length) (hT : ∀ (i : Nat) (x : V), xs[i]? = some x → ∃ t, ts[i]? = some t ∧ Rp X H as lv x t) (ha : SqL X.K H a xs) (hna : a ∉ as)
    (hf : A.frames = some X.stack) (hg : A.guards = some g) (hcl : ∀ c ∈ as, Clear g c) (hr : Room (lv + 1) A) (hsz : b + (listText ts).length ≤ sizeLine) (fp : FpOk X pins H P)
    (hR : ∀ s' u, Inv X pins σ H s' → R (.ok (.ret (.str (listText ts) u))) s') :
    ∀ (k i : Nat) (s : Shared) (acc : Array Value) (c : Nat) (done : List (Str × Tok)), xs.length - i = k → i ≤ xs.length → Inv X pins σ H s →
      s.heap.get? P = some { cls := .type "list", dict := none, data := .seq acc c, slots := #[] } → acc.toList = strValues done → done.map (·.1) = ts.take i →
      codeAny (model X.prog X.w) A (.builtin "list.__repr__.loop" ⟨[.ref a, rawInt i, .ref P, rawInt ((b + piled (ts.take i) : Nat) : Int)], []⟩) R s := by
  have eL : (listText ts).length = (textFrom 0 "[" ts).length + 1 := by
    show (textFrom 0 "[" ts ++ "]").length = _
    rw [strLen_append]
    rfl
  have tl := textFrom_len ts 0 "["
  have z1 : xs.length ≤ sizeLine := by
    have q := tl.1
    rw [if_neg (Nat.lt_irrefl 0)] at q
    omega
  have z2 : ∀ t ∈ ts, t.length ≤ sizeLine := fun t ht => by
    have q := tl.2.1 t ht
    omega
  have z3 := piled_le_listText ts
  have z5 : (listText ts).length ≤ sizeLine := by omega
  obtain ⟨f0, f1, f2, f3, f4, f5⟩ := fp
  intro k
  induction k with
  | zero =>
    intro i s acc c done hk hi I hP hacc hdone
    have ei : i = xs.length := by omega
    obtain ⟨its, rv, ⟨o, n, e1, _, _, e2⟩, _⟩ := I.list ha
    have li := rv.length
    refine codeAny_builtin F.entry_list_repr_loop ?_
    show wpAny _ _ («list.__repr__.loop» ⟨[.ref a, .int i 0, .ref P, .int ((b + piled (ts.take i) : Nat) : Int) 0], []⟩) _ _ s
    rw [repr_loop_tree]
    refine wpAny_bind (wpAny_listItems e1 e2 ?_)
    have no : its.toArray[(i : Int).toNat]? = none := by simp; omega
    simp only [no]
    unfold reprEnd
    refine wpAny_bind (wpAny_listItems hP rfl ?_)
    rw [hacc, repr_fold]
    refine wpAny_bind (wpAny_pure ?_)
    have ed : done.map (·.1) = ts := by rw [hdone, ei, ← hlen, List.take_length]
    rw [ed]
    exact wpAny_bind (wpAny_mkStr (wpAny_pure (hR _ _ (I.tok _))) z5)
  | succ k ih =>
    intro i s acc c done hk hi I hP hacc hdone
    have lt : i < xs.length := by omega
    obtain ⟨its, rv, ⟨o, n, e1, _, _, e2⟩, _⟩ := I.list ha
    obtain ⟨u, eu, ru⟩ := rv.get (i := i) (x := xs[i]) (by simp [lt])
    obtain ⟨t, et, rp⟩ := hT i xs[i] (by simp [lt])
    have p1 := piled_take_succ et
    have p2 := piled_take_le ts (i + 1)
    refine codeAny_builtin F.entry_list_repr_loop ?_
    show wpAny _ _ («list.__repr__.loop» ⟨[.ref a, .int i 0, .ref P, .int ((b + piled (ts.take i) : Nat) : Int) 0], []⟩) _ _ s
    rw [repr_loop_tree]
    refine wpAny_bind (wpAny_listItems e1 e2 ?_)
    have so : its.toArray[(i : Int).toNat]? = some u := by simpa using eu
    simp only [so]
    rw [Int.toNat_natCast]
    have I1 : Inv X (pins ++ pinsAt [P] s.heap) σ H s := I.pinned (fp := [P]) (fun c hc => by
      cases List.mem_singleton.mp hc
      exact ⟨f0, f1, f2, f3, f4, f5⟩) fun c hc => by
      cases List.mem_singleton.mp hc
      exact ⟨_, hP, fun _ q => nomatch q⟩
    refine wpAny_bind (wpAny_holding (rp _ _ (pins ++ pinsAt [P] s.heap) σ s u _ _ _ (fr_loop.trans hf) (guards_under_guard (isGuard_list_loop _) hg) (fun c hc => (hcl c hc).cons (a := a) fun e => hna (e ▸ hc)) (room_loop hr _) I1 ru (by omega) fun s' I2 => ?_))
    have hP2 : s'.heap.get? P = some { cls := .type "list", dict := none, data := .seq acc c, slots := #[] } := (I2.pin (P, _) (List.mem_append_right _ (List.mem_append_right _ (mem_pinsAt (List.mem_singleton.mpr rfl) hP)))).1
    have I3 := I2.unpinned
    refine wpAny_bind (wpAny_mkStr ?_ (z2 t (List.mem_of_getElem? et)))
    refine wpAny_bind ?_
    show wpAny _ _ (updateSeq P _) _ _ _
    have hasz : acc.size ≤ sizeLine := by
      have q1 : acc.toList.length = acc.size := by simp
      have q2 : (strValues done).length = done.length := by simp [strValues]
      have q3 : done.length = (ts.take i).length := by rw [← hdone, List.length_map]
      have q4 : (ts.take i).length ≤ i := by rw [List.length_take]; omega
      rw [hacc] at q1
      omega
    refine wpAny_updateSeq hP2 rfl (wpAny_pure ⟨F.quiet_list_repr_loop _, ?_⟩) hasz
    have q1 : ((i : Int) + 1) = ((i + 1 : Nat) : Int) := by omega
    have q2 : b + piled (ts.take i) + (t.length + 2) = b + piled (ts.take (i + 1)) := by omega
    rw [q1, q2]
    refine ih (i + 1) _ (acc.push (.str t s'.toks)) _ (done ++ [(t, s'.toks)]) (by omega) lt ?_ (Heap.get?_update_self _ hP2 rfl) (by simp [hacc, strValues]) (by simp [List.take_add_one, et, hdone])
    exact I3.turned (fun c o' hc e => (Heap.get?_update_other _ _ (fun h : P = c => hc h.symm)).trans e) f0 f1 f3 f4 f5

abbrev EndOf (X : Cx) (A : Around) (R : Result → Shared → Prop) : Fin → Shared → Prop := fun fin s' => match fin with
  | .done f => R (.ok f) s'
  | .again c' => c'.quiet = true ∧ codeAny (model X.prog X.w) A c' R s'

theorem no_same {g : List Code} {a : Addr} (h : Clear g a) : ∀ v rest kw, Code.builtin "list.__repr__.loop" ⟨v :: rest, kw⟩ ∈ g → Builtin.List.listSameRef v (.ref a) = false :=
  fun v rest kw hm => listSameRef_of_ne (h _ v rest kw hm)

theorem list_at {as : List Addr} {lv : Nat} {a : Addr} {xs : List V} {ts : List Str} {b : Nat} {A : Around} {g : List Code} {R : Result → Shared → Prop} {pins : List (Addr × Obj)} {σ : L2.St} {s : Shared}
    (hlen : ts.length = xs.length) (hT : ∀ (i : Nat) (x : V), xs[i]? = some x → ∃ t, ts[i]? = some t ∧ Rp X H as lv x t) (ha : SqL X.K H a xs) (hna : a ∉ as)
    (hf : A.frames = some X.stack) (hg : A.guards = some g) (hcl : ∀ c ∈ a :: as, Clear g c) (hr : Room (lv + 1) A) (hsz : b + (listText ts).length ≤ sizeLine) (I : Inv X pins σ H s)
    (hR : ∀ s' u, Inv X pins σ H s' → R (.ok (.ret (.str (listText ts) u))) s') :
    wpAny (model X.prog X.w) A.in1 (Builtin.listReprAt b ⟨[.ref a], []⟩) (EndOf X A R) (fun e s' => R (.error e) s') s := by
  obtain ⟨its, rv, ⟨o, n, e1, _, _, e2⟩, _⟩ := I.list ha
  have li := rv.length
  cases its with
  | nil =>
    obtain rfl : xs = [] := List.eq_nil_of_length_eq_zero li
    obtain rfl : ts = [] := List.eq_nil_of_length_eq_zero hlen
    exact wpAny_list_repr_empty e1 e2 (hR _ _ (I.tok _))
  | cons v l =>
    refine wpAny_list_repr_head (A := A.in1) hg (no_same (hcl a (List.Mem.head _))) e1 e2 ?_
    refine wpAny_bind (m := newList []) (wpAny_newObj_type ?_)
    refine wpAny_pure ⟨F.quiet_list_repr_loop _, ?_⟩
    have I1 : Inv X pins σ H { s with heap := s.heap.push { cls := .type "list", data := .seq #[] } } := I.kept (t' := s.toks) fun b u e => Heap.get?_push_of_some _ e
    exact loopR hlen hT ha hna hf hg (fun c hc => hcl c (List.Mem.tail _ hc)) hr hsz (I.fpOk (Nat.le_refl _) (I.hok.fresh (Nat.le_refl _))) hR xs.length 0 _ #[] _ [] rfl (Nat.zero_le _) I1 (Heap.get?_push_size _ rfl) rfl (by simp)

/-- the same of a whole call of the built-in repr -/
def Rc (X : Cx) (H : Hp) (as : List Addr) (lv : Nat) (x : V) (t : Str) : Prop :=
  ∀ (A : Around) (g : List Code) (pins : List (Addr × Obj)) (σ : L2.St) (s : Shared) (u : Value) (E : Value → Shared → Prop) (Q : Value → Shared → Prop),
    A.frames = some X.stack → A.guards = some g → (∀ a ∈ as, Clear g a) → Room lv A → Inv X pins σ H s → RelV x u → t.length ≤ sizeLine →
    (∀ s' tk, Inv X pins σ H s' → Q (.str t tk) s') → wpAny (model X.prog X.w) A (call (.builtin "repr") [u]) Q E s

theorem Rp.list {as : List Addr} {lv : Nat} {a : Addr} {xs : List V} {ts : List Str} (ha : SqL X.K H a xs) (hna : a ∉ as)
    (hlen : ts.length = xs.length) (hT : ∀ (i : Nat) (x : V), xs[i]? = some x → ∃ t, ts[i]? = some t ∧ Rp X H as lv x t) : Rp X H (a :: as) (lv + 1) (.ref a) (listText ts) := by
  intro A g pins σ s u b E Q hf hg hcl hr I r hb hQ
  cases (show u = Value.ref a from r)
  obtain ⟨its, rv, ⟨o, n, e1, e3, _, e2⟩, _⟩ := I.list ha
  refine wpAny_pyReprUnder_ref (by omega) (wpAny_pyReprObjUnder_twin (twin := "list.__repr__.under") ⟨o, e1, e3⟩ F.slot_list_repr.toG rfl hr.units0 ?_)
  exact call_twin_plain F.plain_list_repr_under F.entry_list_repr_under F.check_list_repr_under ⟨o, e1, e3⟩ F.slot_list_repr.toG (F.args_list_repr_1 _)
    (list_at (R := callEnd (fun v s' => (∃ x u, v = Value.str x u) ∧ ∃ x u, v = Value.str x u ∧ Q x s') E) hlen hT ha hna hf hg hcl hr hb I fun s' u I' => ⟨⟨_, _, rfl⟩, _, _, rfl, hQ s' I'⟩)

theorem Rc.list {as : List Addr} {lv : Nat} {a : Addr} {xs : List V} {ts : List Str} (ha : SqL X.K H a xs) (hna : a ∉ as)
    (hlen : ts.length = xs.length) (hT : ∀ (i : Nat) (x : V), xs[i]? = some x → ∃ t, ts[i]? = some t ∧ Rp X H as lv x t) : Rc X H (a :: as) (lv + 2) (.ref a) (listText ts) := by
  intro A g pins σ s u E Q hf hg hcl hr I r hb hQ
  cases (show u = Value.ref a from r)
  obtain ⟨its, rv, ⟨o, n, e1, e3, _, e2⟩, _⟩ := I.list ha
  refine call_repr_slot (by have := hr.un; omega) ⟨o, e1, e3⟩ F.slot_list_repr.toG ?_
  exact wpAny_call (codeAny_call_builtin F.slot_list_repr.plain F.entry_list_repr (F.slot_list_repr.check _ _ _ _ _ _ _ _ ⟨o, e1, e3⟩ (F.args_list_repr_1 _)
    (list_at (A := A.in1) (b := 0) (R := callEnd (fun v s' => ∃ x u, v = Value.str x u ∧ Q v s') E) hlen hT ha hna hf hg hcl hr.in1 (by omega) I fun s' u I' => ⟨_, _, rfl, hQ s' u I'⟩)))

/-! tuples -/
inductive RpAll (X : Cx) (H : Hp) (as : List Addr) (lv : Nat) : List V → List Str → Prop
  | nil : RpAll X H as lv [] []
  | cons {x : V} {t : Str} {l : List V} {ts : List Str} : Rp X H as lv x t → RpAll X H as lv l ts → RpAll X H as lv (x :: l) (t :: ts)
theorem RpAll.len {as : List Addr} {lv : Nat} : ∀ {l : List V} {ts : List Str}, RpAll X H as lv l ts → ts.length = l.length
  | _, _, .nil => rfl
  | _, _, .cons _ h => by simp [h.len]
theorem RpAll.at {as : List Addr} {lv : Nat} : ∀ {l : List V} {ts : List Str}, RpAll X H as lv l ts → ∀ (i : Nat) (x : V), l[i]? = some x → ∃ t, ts[i]? = some t ∧ Rp X H as lv x t
  | _, _, .nil, _, _, q => by simp at q
  | _, _, .cons h _, 0, _, q => by
    simp at q
    subst q
    exact ⟨_, rfl, h⟩
  | _, _, .cons _ h, i + 1, x, q => by
    obtain ⟨t, e, r⟩ := h.at i x (by simpa using q)
    exact ⟨t, by simpa using e, r⟩

theorem tup_fold {as : List Addr} {lv : Nat} {A : Around} {g : List Code} {E : Value → Shared → Prop} {pins : List (Addr × Obj)} {σ : L2.St} (hf : A.frames = some X.stack) (hg : A.guards = some g) (hcl : ∀ c ∈ as, Clear g c) (hr : Room lv A) :
    ∀ (xs : List V) (us : List Value) (ts : List Str) (acc : Array Str) (n : Nat) (s : Shared) (Q : (Array Str × Nat) → Shared → Prop), Vals xs us → RpAll X H as lv xs ts → n + piled ts ≤ sizeLine → Inv X pins σ H s →
      (∀ s', Inv X pins σ H s' → Q ⟨acc ++ ts.toArray, n + piled ts⟩ s') → wpAny (model X.prog X.w) A (forIn us (⟨acc, n⟩ : (Array Str × Nat)) tupBody) Q E s := by
  intro xs
  induction xs with
  | nil =>
    intro us ts acc n s Q rv hT _ I h
    cases rv
    cases hT
    simp only [List.forIn_nil]
    exact wpAny_pure (by simpa [piled] using h s I)
  | cons x l ih =>
    intro us ts acc n s Q rv hT hn I h
    cases rv with
    | cons r1 r2 =>
      cases hT with
      | cons hx hl =>
        rename_i u us' t ts'
        rw [piled_cons] at hn
        rw [List.forIn_cons]
        refine wpAny_bind (wpAny_bind (hx A g pins σ s _ (n + 1) _ _ hf hg hcl hr I r1 (by omega) fun s' I' => wpAny_pure ?_))
        refine ih us' ts' (acc.push t) (n + (t.length + 2)) _ Q r2 hl (by omega) I' fun s2 I2 => ?_
        have q := h s2 I2
        have e : n + piled (t :: ts') = n + (t.length + 2) + piled ts' := by rw [piled_cons]; omega
        rw [e] at q
        simpa using q

theorem fr_id {A : Around} {id : String} {args : Args} (h1 : id = "tuple.__repr__" ∨ id = "tuple.__repr__.under") : (A.under (.builtin id args)).frames = A.frames ∧ (A.under (.builtin id args)).handled = A.handled ∧ (A.under (.builtin id args)).depth = A.depth + 1 ∧ (A.under (.builtin id args)).units = A.units + 1 := by
  rcases h1 with rfl | rfl
  · refine ⟨?_, ?_, ?_, ?_⟩ <;> first | rfl | simp [Around.under, Code.envs, Code.isFrame, pushEnvs, Code.weight, Code.isCreation, Code.isGuard, Code.isCaller, Code.frames, guardIds, Code.cUnits]
  · refine ⟨?_, ?_, ?_, ?_⟩ <;> first | rfl | simp [Around.under, Code.envs, Code.isFrame, pushEnvs, Code.weight, Code.isCreation, Code.isGuard, Code.isCaller, Code.frames, guardIds, Code.cUnits]

theorem tup_at {as : List Addr} {lv : Nat} {a : Addr} {xs : List V} {ts : List Str} {b : Nat} {A : Around} {g : List Code} {R : Result → Shared → Prop} {pins : List (Addr × Obj)} {σ : L2.St} {s : Shared} {id : String} {rest : List Value}
    (hid : id = "tuple.__repr__" ∨ id = "tuple.__repr__.under") (hgd : (Code.builtin id ⟨.ref a :: rest, []⟩).isGuard = true)
    (hT : RpAll X H as lv xs ts) (ha : SqT X.K H a xs) (hna : a ∉ as)
    (hf : A.frames = some X.stack) (hg : A.guards = some g) (hcl : ∀ c ∈ a :: as, Clear g c) (hr : Room (lv + 1) A) (hsz : b + (tupleText ts).length ≤ sizeLine) (I : Inv X pins σ H s)
    (hR : ∀ s' u, Inv X pins σ H s' → R (.ok (.ret (.str (tupleText ts) u))) s') :
    wpOwn (model X.prog X.w) A (.builtin id ⟨.ref a :: rest, []⟩) (Builtin.tupleReprAt b ⟨[.ref a], []⟩) (EndOf X A R) (fun e s' => R (.error e) s') s := by
  obtain ⟨its, rv, ⟨o, e1, e3, n, e2⟩, _⟩ := I.tuple ha
  obtain ⟨q1, q2, q3, q4⟩ := fr_id (A := A) (args := ⟨.ref a :: rest, []⟩) hid
  have hlen : ts.length = its.toArray.size := by rw [hT.len, rv.length]; simp
  have hp := piled_le_tupleText ts
  have clr : Clear g a := hcl a (List.Mem.head _)
  rw [tuple_repr_tree, tupleReprUnderWay_eq]
  refine wpOwn_bind (wpOwn_stackTailAny hg (tupGuardF_off _) (tupGuardF_pos _) ?_)
  have no : (g.any fun c => tupGuardF (.ref a) (c, default)) = false := List.any_eq_false.mpr fun c hc => by
    rw [tupGuardF_of_clear clr c hc]
    exact Bool.false_ne_true
  rw [no]
  refine wpOwn_of_wpAny ?_
  show wpAny _ _ (tupleReprRest b (.ref a)) _ _ s
  unfold tupleReprRest Builtin.Tuple.tupleItemsOf
  refine wpAny_bind (wpAny_bind (wpAny_seqItems e1 e2 (wpAny_pure ?_)))
  rw [← Array.forIn_toList]
  have rm : Room lv (A.under (.builtin id ⟨.ref a :: rest, []⟩)) := ⟨q2.trans hr.hd, by have := hr.dp; rw [q3]; omega, by have := hr.un; rw [q4]; omega⟩
  refine wpAny_bind (tup_fold (pins := pins) (σ := σ) (q1.trans hf) (guards_under_guard hgd hg) (fun c hc => (hcl c (List.Mem.tail _ hc)).cons (a := a) fun e => hna (e ▸ hc)) rm xs its ts _ _ s _ (by simpa using rv) hT (by omega) I fun s' I' => ?_)
  refine wpAny_bind (wpAny_mkStr (wpAny_pure ?_) (by have z : (tupleText ts).length ≤ sizeLine := by omega
                                                     simpa [tupleText, hlen] using z))
  have q := hR _ s'.toks (I'.tok (s'.toks + 1))
  simpa [tupleText, hlen] using q

theorem Rp.tup {as : List Addr} {lv : Nat} {a : Addr} {xs : List V} {ts : List Str} (ha : SqT X.K H a xs) (hna : a ∉ as) (hT : RpAll X H as lv xs ts) : Rp X H (a :: as) (lv + 1) (.ref a) (tupleText ts) := by
  intro A g pins σ s u b E Q hf hg hcl hr I r hb hQ
  cases (show u = Value.ref a from r)
  obtain ⟨its, rv, ⟨o, e1, e3, n, e2⟩, _⟩ := I.tuple ha
  refine wpAny_pyReprUnder_ref (by omega) (wpAny_pyReprObjUnder_twin (twin := "tuple.__repr__.under") ⟨o, e1, e3⟩ F.slot_tuple_repr rfl hr.units0 ?_)
  exact call_twin_own (F.quiet_tuple_repr_under _) F.entry_tuple_repr_under F.check_tuple_repr_under ⟨o, e1, e3⟩ F.slot_tuple_repr (F.args_tuple_repr_1 _)
    (tup_at (R := callEnd (fun v s' => (∃ x u, v = Value.str x u) ∧ ∃ x u, v = Value.str x u ∧ Q x s') E) (.inr rfl) (isGuard_tuple_repr_under _) hT ha hna hf hg hcl hr hb I fun s' u I' => ⟨⟨_, _, rfl⟩, _, _, rfl, hQ s' I'⟩)

theorem Rc.tup {as : List Addr} {lv : Nat} {a : Addr} {xs : List V} {ts : List Str} (ha : SqT X.K H a xs) (hna : a ∉ as) (hT : RpAll X H as lv xs ts) : Rc X H (a :: as) (lv + 2) (.ref a) (tupleText ts) := by
  intro A g pins σ s u E Q hf hg hcl hr I r hb hQ
  cases (show u = Value.ref a from r)
  obtain ⟨its, rv, ⟨o, e1, e3, n, e2⟩, _⟩ := I.tuple ha
  refine call_repr_slot (by have := hr.un; omega) ⟨o, e1, e3⟩ F.slot_tuple_repr ?_
  exact wpAny_call (codeAny_call_builtin_own (Code.quiet_builtin _ (by decide +kernel)) F.entry_tuple_repr (F.slot_tuple_repr.check _ _ _ _ _ _ _ _ ⟨o, e1, e3⟩ (F.args_tuple_repr_1 _)
    (tup_at (A := A.in1) (b := 0) (R := callEnd (fun v s' => ∃ x u, v = Value.str x u ∧ Q v s') E) (.inl rfl) (isGuard_tuple_repr _) hT ha hna hf hg hcl hr.in1 (by omega) I fun s' u I' => ⟨_, _, rfl, hQ s' u I'⟩)))

/-! dicts of ints -/
def kvText : List (Key × V) → List Str
  | [] => []
  | (Sum.inl k, .int v) :: r => (toString k ++ ": " ++ toString v : Str) :: kvText r
  | _ :: r => "" :: kvText r
def KvSmall : List (Key × V) → Prop
  | [] => True
  | (Sum.inl k, .int v) :: r => k.natAbs.log2 < 1920 ∧ v.natAbs.log2 < 1920 ∧ (toString k : Str).length ≤ sizeLine ∧ KvSmall r
  | _ :: _ => False
theorem entries_of {as : List Addr} {h₀ : Heap} : ∀ (kvs : List (Key × V)) (vs : List (Key × Value)) (es : List DictEntry), KV kvs vs → Pairs (mixKind X.prog X.w) es vs → KvSmall kvs → ReprEntriesK X.prog X.w as h₀ 0 es (kvText kvs)
  | [], _, _, .nil, .nil, _ => .nil
  | (k, v) :: r, _, _, .cons ⟨e1, e2⟩ t, .cons (e := e) p1 p2 p3, z => by
    rename_i kv _ _
    obtain ⟨k', v'⟩ := kv
    simp only at e1 e2 p1 p2
    subst e1
    rcases k with k | k
    · cases v with
      | int i =>
        obtain ⟨z1, z2, z3, z4⟩ := z
        rcases keyIs_shape (show keyIs (Sum.inl k) e.key = true from p1) with ⟨j, t1, q1, q2⟩ | ⟨x, t1, q1, q2⟩
        · cases q1
          obtain ⟨t2, q3⟩ := e2
          obtain ⟨ek, ev, eh⟩ := e
          simp only at p1 p2 q2
          subst q2
          subst p2
          subst q3
          exact .cons (ReprK.of_is (ReprIs.int t1 z1) _ _ _) (ReprK.of_is (ReprIs.int t2 z2) _ _ _) (entries_of r _ _ t p3 z4)
        · cases q1
      | _ => exact z.elim
    · exact z.elim
theorem Rp.of_K {as : List Addr} {lv d : Nat} {x : V} {t : Str} (hd : d ≤ 16 * lv + 200) (h : ∀ pins σ s u, Inv X pins σ H s → RelV x u → ReprK X.prog X.w as s.heap d u t) : Rp X H as lv x t := by
  intro A g pins σ s u b E Q hf hg hcl hr I r hb hQ
  exact h pins σ s u I r b hb A g E s Q hg hcl (by have := hr.un; omega) (fun _ _ e => e) fun h' tk hk => hQ _ (I.kept hk)
theorem Rp.dct {as : List Addr} {lv : Nat} {a : Addr} {kvs : List (Key × V)} (hd : H a = some (.dK kvs)) (hna : a ∉ as) (hz : KvSmall kvs) : Rp X H (a :: as) lv (.ref a) (dictText (kvText kvs)) :=
  Rp.of_K (d := 1) (by omega) fun pins σ s u I r => by
    cases (show u = Value.ref a from r)
    obtain ⟨z, hs, vs, kv, o, es, ep, e1, ⟨e2, _, _⟩, e3, _, pr, _⟩ := (show ObjOk X.prog X.w H s.heap a (.dK kvs) from I.hok a _ hd)
    exact ReprK.dict e1 e2 e3 hs hna (entries_of kvs vs es.toList kv pr hz)
theorem Rc.dct {as : List Addr} {lv : Nat} {a : Addr} {kvs : List (Key × V)} (hd : H a = some (.dK kvs)) (hna : a ∉ as) (hz : KvSmall kvs) : Rc X H (a :: as) lv (.ref a) (dictText (kvText kvs)) := by
  intro A g pins σ s u E Q hf hg hcl hr I r hb hQ
  cases (show u = Value.ref a from r)
  obtain ⟨z, hs, vs, kv, o, es, ep, e1, ⟨e2, _, _⟩, e3, _, pr, _⟩ := (show ObjOk X.prog X.w H s.heap a (.dK kvs) from I.hok a _ hd)
  refine call_repr_slot (by have := hr.un; omega) ⟨o, e1, e2⟩ F.slot_dict_repr ?_
  exact call_dict_reprK (h₀ := s.heap) (d := 0) e1 e2 e3 hs hna (entries_of kvs vs es.toList kv pr hz) hg hcl (by have := hr.un; show A.units + 1 + 1 < cLine; omega) (fun _ _ e => e) (fun h' u tk hk => ⟨_, _, rfl, hQ _ _ (I.kept hk)⟩) hb

/-! a dict of one list of an int -/
theorem entries_dl {as : List Addr} {pins : List (Addr × Obj)} {σ : L2.St} {sh : Shared} {b : Addr} {i j : Int} {vs : List (Key × Value)} {es : List DictEntry} (I : Inv X pins σ H sh) (hb : H b = some (.lst [.int j])) (hba : b ∉ as)
    (kv : KV [((Sum.inl i : Key), V.ref b)] vs) (pr : Pairs (mixKind X.prog X.w) es vs) (hi : i.natAbs.log2 < 1920) (hj : j.natAbs.log2 < 1920) : ReprEntriesK X.prog X.w (b :: as) sh.heap 1 es [(toString i ++ ": " ++ listText [toString j] : Str)] := by
  cases kv with
  | cons e12 t =>
    rename_i kv' _
    obtain ⟨k', v'⟩ := kv'
    obtain ⟨e1, e2⟩ := e12
    cases t
    cases pr with
    | cons p1 p2 p3 =>
      rename_i e _
      cases p3
      simp only at e1 e2 p1 p2
      subst e1
      rcases keyIs_shape (show keyIs (Sum.inl i) e.key = true from p1) with ⟨m, t1, q1, q2⟩ | ⟨x, t1, q1, q2⟩
      · cases q1
        cases (show v' = Value.ref b from e2)
        obtain ⟨ek, ev, eh⟩ := e
        simp only at p1 p2 q2
        subst q2
        subst p2
        obtain ⟨z, its, n, r, hl, eb⟩ := I.lstM hb
        cases r with
        | cons r1 r2 =>
          cases r2
          obtain ⟨t2, q3⟩ := r1
          subst q3
          have one : ∀ (m : Nat) (y : Value), ([Value.int j t2]).toArray[m]? = some y → ∃ t, [(toString j : Str)][m]? = some t ∧ ReprK X.prog X.w as sh.heap 0 y t := fun m y hy => by
            match m with
            | 0 =>
              have : Value.int j t2 = y := by simpa using hy
              subst this
              exact ⟨_, rfl, ReprK.of_is (ReprIs.int t2 hj) _ _ _⟩
            | m + 1 => simp at hy
          exact .cons (ReprK.of_is (ReprIs.int t1 hi) _ _ _) (ReprK.list eb rfl rfl hba rfl one) .nil
      · cases q1
theorem Rp.dl {as : List Addr} {lv : Nat} {a b : Addr} {i j : Int} (hd : H a = some (.dK [((Sum.inl i : Key), V.ref b)])) (hb : H b = some (.lst [.int j])) (hna : a ∉ b :: as) (hba : b ∉ as) (hi : i.natAbs.log2 < 1920) (hj : j.natAbs.log2 < 1920) :
    Rp X H (a :: b :: as) lv (.ref a) (dictText [(toString i ++ ": " ++ listText [toString j] : Str)]) :=
  Rp.of_K (d := 2) (by omega) fun pins σ s u I r => by
    cases (show u = Value.ref a from r)
    obtain ⟨z, hs, vs, kv, o, es, ep, e1, ⟨e2, _, _⟩, e3, _, pr, _⟩ := (show ObjOk X.prog X.w H s.heap a (.dK [((Sum.inl i : Key), V.ref b)]) from I.hok a _ hd)
    exact ReprK.dict e1 e2 e3 hs hna (entries_dl I hb hba kv pr hi hj)
theorem Rc.dl {as : List Addr} {lv : Nat} {a b : Addr} {i j : Int} (hd : H a = some (.dK [((Sum.inl i : Key), V.ref b)])) (hb : H b = some (.lst [.int j])) (hna : a ∉ b :: as) (hba : b ∉ as) (hi : i.natAbs.log2 < 1920) (hj : j.natAbs.log2 < 1920) :
    Rc X H (a :: b :: as) lv (.ref a) (dictText [(toString i ++ ": " ++ listText [toString j] : Str)]) := by
  intro A g pins σ s u E Q hf hg hcl hr I r hz hQ
  cases (show u = Value.ref a from r)
  obtain ⟨z, hs, vs, kv, o, es, ep, e1, ⟨e2, _, _⟩, e3, _, pr, _⟩ := (show ObjOk X.prog X.w H s.heap a (.dK [((Sum.inl i : Key), V.ref b)]) from I.hok a _ hd)
  refine call_repr_slot (by have := hr.un; omega) ⟨o, e1, e2⟩ F.slot_dict_repr ?_
  exact call_dict_reprK (h₀ := s.heap) (d := 1) e1 e2 e3 hs hna (entries_dl I hb hba kv pr hi hj) hg hcl (by have := hr.un; show A.units + 1 + 1 + 1 < cLine; omega) (fun _ _ e => e) (fun h' u tk hk => ⟨_, _, rfl, hQ _ _ (I.kept hk)⟩) hz

/-! leaves -/
theorem Rc.leaf {as : List Addr} {lv : Nat} {x : V} {t : Str} (h : ∀ u, RelV x u → ∀ (A : Around) (E : Value → Shared → Prop) (s : Shared) (Q : Value → Shared → Prop), t.length ≤ sizeLine → (∀ tk tk', Q (.str t tk) { s with toks := tk' }) → wpAny (model X.prog X.w) A (call (.builtin "repr") [u]) Q E s) : Rc X H as lv x t := by
  intro A g pins σ s u E Q _ _ _ _ I r hb hQ
  exact h u r A E s Q hb fun tk tk' => hQ _ _ (I.tok _)
theorem Rc.int {as : List Addr} {lv : Nat} {i : Int} (h : i.natAbs.log2 < 1920) : Rc X H as lv (.int i) (toString i) := Rc.leaf fun u r A E s Q hb hQ => by
  obtain ⟨t, q⟩ := (show ∃ t, u = Value.int i t from r)
  subst q
  exact PySem.P.repr_of_int h (hQ _ _)

theorem Rc.bl {as : List Addr} {lv : Nat} (y : Bool) : Rc X H as lv (.bl y) (if y then "True" else "False") := Rc.leaf fun u r A E s Q hb hQ => by
  cases (show u = Value.bool y from r)
  exact PySem.P.repr_of_bool (hQ _ _)
theorem Rc.non {as : List Addr} {lv : Nat} : Rc X H as lv .non "None" := Rc.leaf fun u r A E s Q hb hQ => by
  cases (show u = Value.none from r)
  exact PySem.P.repr_of_none (hQ _ _)
theorem Rc.str {as : List Addr} {lv : Nat} {z : Str} : Rc X H as lv (.str z) (reprText z) := Rc.leaf fun u r A E s Q hb hQ => by
  obtain ⟨t, q⟩ := (show ∃ t, u = Value.str z t from r)
  subst q
  exact PySem.P.repr_of_str (hQ _ _) hb

/-! an instance with a __repr__ of its own -/
theorem own_call {a f : Addr} {k : Nat} {fd : FuncData} {sp : Sp} {t : Str} {A : Around} {pins : List (Addr × Obj)} {σ : L2.St} {s : Shared} {E : Value → Shared → Prop} {Q : Value → Shared → Prop}
    (F : FnOk X.prog X.w X.K X.mg X.base CX0 k f fd ["self"] sp) (hb : Binds X.K fd ["self"] []) (hq : ∀ (Q : VK) (E : XK), Q (.str t) H → sp [.ref a] H Q E)
    (I : Inv X pins σ H s) (hf : A.frames = some X.stack) (hr : Room k A) (hQ : ∀ s' tk, Inv X pins σ H s' → Q (.str t tk) s') : wpAny (model X.prog X.w) A (call (.ref f) [.ref a]) Q E s := by
  refine wpAny_call (codeAny_mono (F.run A X.stack s H ⟨[.ref a], []⟩ [.ref a] [.ref a] (fun v H' => v = .str t ∧ H' = H) (fun _ _ _ => False) hr { I.env0 with frames := hf } (hb s [.ref a] I.kIn rfl) (.cons rfl .nil) (hq _ _ ⟨rfl, rfl⟩)) fun r s' h => ?_)
  cases r with
  | error e => exact False.elim h
  | ok fl =>
    cases fl with
    | ret u =>
      obtain ⟨v, H', I3, rv, ev, eh⟩ := I.after h
      subst ev
      subst eh
      obtain ⟨tk, q⟩ := (show ∃ tk, u = Value.str t tk from rv)
      subst q
      exact hQ s' tk I3
    | next => exact False.elim h
    | brk => exact False.elim h
    | cont => exact False.elim h

theorem bound_by {M : Model} {A : Around} {E : Value → Shared → Prop} {s : Shared} {K : PySem.W.Frag} {x C f : Addr} {ox : Obj} {od : Option Obj} {name : Str} {last : Value → List Value → Sem Value} {Q : Option Value → Shared → Prop}
    (kin : K.In s.heap) (at_ : PySem.W.InstAt s.heap x ox C od) (hs : PySem.W.findIn K (.ref C) name = some (some (.ref f))) (fn : PySem.W.isFn K (.ref f) = true)
    (h : wpAny M A (last (.ref f) [.ref x]) (fun v => Q (some v)) E s) : wpAny M A (callSpecialIfBoundBy? last (.ref x) name) Q E s := by
  have fin : wpAny M A (last (.ref f) [.ref x] >>= fun v => pure (some v)) Q E s := wpAny_bind (wpAny_mono h (fun _ _ z => wpAny_pure z) fun _ _ z => z)
  have bnd := PySem.W.bind_fn (M := M) kin (.ref x) (beq_iff_eq.mp fn)
  simp only [callSpecialIfBoundBy?, bindSpecialIfBound?]
  refine wpAny_holding (wpAny_bind (wpAny_bind (wpAny_bind (at_.type.here ((PySem.W.looks_findIn kin hs).here ?_)))))
  refine wpAny_bind (wpAny_askSetting (wpAny_ite ?_))
  split
  · exact wpAny_bind (bnd.here (wpAny_pure (by exact fin)))
  · exact wpAny_tryCatch (wpAny_bind (bnd.here (wpAny_pure (by exact fin))))

theorem Rp.own {as : List Addr} {C a f dx : Addr} {fs : List (Str × V)} {k : Nat} {fd : FuncData} {sp : Sp} {t : Str} (ha : H a = some (.ins C dx fs)) (hs : PySem.W.findIn X.K (.ref C) "__repr__" = some (some (.ref f))) (fn : PySem.W.isFn X.K (.ref f) = true)
    (F : FnOk X.prog X.w X.K X.mg X.base CX0 k f fd ["self"] sp) (hb : Binds X.K fd ["self"] []) (hq : ∀ (Q : VK) (E : XK), Q (.str t) H → sp [.ref a] H Q E) : Rp X H as k (.ref a) t := by
  intro A g pins σ s u b E Q hf hg hcl hr I r hz hQ
  cases (show u = Value.ref a from r)
  obtain ⟨mA, O, _⟩ := ins_get I.hok ha
  obtain ⟨od, J, _⟩ := O.look
  refine wpAny_pyReprUnder_ref (by omega) ?_
  unfold pyReprObjUnder pyReprObjBy
  refine wpAny_bind (wpAny_cRoomFor hr.units0 ?_)
  refine wpAny_bind (wpAny_bind (J.type.here ((PySem.W.looks_findIn I.kIn hs).here ?_)))
  show wpAny _ _ (if (some (Value.ref f)).isNone = true then _ else _) _ _ _
  rw [if_neg (by simp)]
  refine wpAny_bind (bound_by (name := Str.ofString "__repr__") I.kIn J hs fn ?_)
  refine own_call F hb hq I hf hr fun s' tk I' => ?_
  exact wpAny_bind (wpAny_isInstance (T := "str") (b := true) rfl isSubtype_str_str (wpAny_pure ⟨_, _, rfl, hQ s' I'⟩))
theorem Rc.own {as : List Addr} {C a f dx : Addr} {fs : List (Str × V)} {k : Nat} {fd : FuncData} {sp : Sp} {t : Str} (ha : H a = some (.ins C dx fs)) (hs : PySem.W.findIn X.K (.ref C) "__repr__" = some (some (.ref f))) (fn : PySem.W.isFn X.K (.ref f) = true)
    (F : FnOk X.prog X.w X.K X.mg X.base CX0 k f fd ["self"] sp) (hb : Binds X.K fd ["self"] []) (hq : ∀ (Q : VK) (E : XK), Q (.str t) H → sp [.ref a] H Q E) : Rc X H as (k + 1) (.ref a) t := by
  intro A g pins σ s u E Q hf hg hcl hr I r hz hQ
  cases (show u = Value.ref a from r)
  obtain ⟨mA, O, _⟩ := ins_get I.hok ha
  obtain ⟨od, J, _⟩ := O.look
  obtain ⟨m, Fm⟩ := I.fr
  refine PySem.W.repr_K hr.in1.units0 Fm I.ok.mod.kin J hs fn ?_
  exact own_call F hb hq I hf hr.in1 fun s' tk I' => hQ s' tk I'
end
end TW

set_option Elab.async false
set_option linter.all false
set_option maxRecDepth 100000
set_option maxHeartbeats 2000000
namespace TW
open PySem PySem.Spec L2

/-- a def's promise, as FnOk, where it is known that no writing of an object is under way -/
structure FnG (P : Program) (w : World) (K : W.Frag) (mg : Str → Option Value) (base : Heap) (CX : CXT) (k : Nat) (f : Addr) (fd : FuncData) (ps : List Str) (sp : Sp) : Prop where
  len : ∀ vs H Q E, sp vs H Q E → vs.length = ps.length
  go : ∀ (A : Around) (outer : List Env) (s : Shared) (H : Hp) (args : Args) (us : List Value) (vs : List V) (Q : VK) (E : XK), A.guards = some [] → Room k A → Env0 P w K mg base A outer s H →
    BindsTo s fd args (ps.zip us) → Vals vs us → sp vs H Q E → codeAny (model P w) A (.call (.ref f) args) (CR CX outer P w H s Q E) s

section
variable {P : Program} {w : World} {K : W.Frag} {mg : Str → Option Value} {base : Heap}
theorem FnG.mono {CX : CXT} {j k : Nat} {f : Addr} {fd : FuncData} {ps : List Str} {sp : Sp} (F : FnG P w K mg base CX j f fd ps sp) (h : j ≤ k) : FnG P w K mg base CX k f fd ps sp :=
  ⟨F.len, fun A o s H a us vs Q E g r => F.go A o s H a us vs Q E g (r.mono h)⟩

theorem okG {x qual : Str} {st : Stmt} {f : Addr} {fd : FuncData} {N ps : List Str} {k : Nat} {sp : Sp} (F : Fun K x qual st f fd) (S : FnScope N ps (defScope st))
    (len : ∀ vs H Q E, sp vs H Q E → vs.length = ps.length)
    (body : ∀ (cdv : Value) (A : Around) (outer : List Env) (s : Shared) (H : Hp) (vs : List V) (Q : VK) (E : XK), A.guards = some [] → Room k (A.deeper (PyProof.Rows.envOfC qual (defScope st) s.heap.objs.size f cdv)) → sp vs H Q E →
      ∃ t, PSs (cxOf L2.CX0 P w K mg base N qual (defScope st) f cdv A outer s H E).nox (defBody st) t ∧ t { nx := fun _ H' => Q .non H', rt := Q } (start N vs) H) : FnG P w K mg base L2.CX0 (k + 1) f fd ps sp := by
  obtain ⟨oc, od, kV, doc, pm, an, cdv, ct, osl, rfl, lk, hcd⟩ := F.ex
  refine ⟨len, fun A outer s H args us vs Q E gd room e0 bnd rv want => ?_⟩
  have lenV := len _ _ _ _ want
  have there : K.In s.heap := e0.mod.kin.keeps fun b o e => (e0.bs b o e).1
  have nolim : s.heap.NoLimit := e0.mod.nolimit.keeps fun b o e => (e0.bs b o e).1
  have kinds : ∀ y ∈ ps.zip us, (defScope st).names.lookup y.1 = some .local ∨ ((defScope st).names.lookup y.1 = some .cell ∧ ((cellsFrom (s.heap.objs.size + 1) (defScope st).names []).lookup y.1).isSome = true) := by
    rintro ⟨n, v⟩ hy
    rcases S.par n (List.of_mem_zip hy).1 with q | q
    · exact .inl q
    · exact .inr ⟨q, W.cellsFrom_some _ _ _ (.inl q)⟩
  obtain ⟨t, ht, hq⟩ := body cdv A outer s H vs Q E gd (room.deeper _) want
  refine codeAny_call_function room.depth (there _ _ lk) rfl S.co S.gen rfl (W.codeRec_of there hcd) (bnd _ _ _ _ ?_)
  refine wpAny_newFunctionEnv_cells S.kind kinds fun env he s1 x => ?_
  subst he
  refine ⟨nolim.keeps x.toInCall.keep, codeAny_func ?_⟩
  have I := inv_start (CX := L2.CX0) (E := E) S room.hd e0 lenV rv x
  refine wpAny_mono (ht.nox.run [] s1 (start N vs) H _ I hq) (fun fl s' hs => ?_) fun e s' hs => hs
  cases fl with
  | ret u =>
    obtain ⟨v, σ', H', J, r, q⟩ := hs
    exact ⟨v, H', J.os, J.bare, J.base, J.hok, r, q⟩
  | next =>
    obtain ⟨σ', H', J, q⟩ := hs
    exact ⟨V.non, H', J.os, J.bare, J.base, J.hok, rfl, q⟩
  | brk =>
    obtain ⟨_, _, _, q⟩ := hs
    exact q.elim
  | cont =>
    obtain ⟨_, _, _, q⟩ := hs
    exact q.elim
end

section
variable {X : Cx} {CX : CXT} {k : Nat} {f : Addr} {fd : FuncData} {ps : List Str} {sp : Sp} {E : XK} {x : Str} {p pos : Pos} {e : Expr} {es : List Expr} {t : TA}
/-- a call of such a def -/
theorem pe_callG (F : FnG X.prog X.w X.K X.mg X.base CX k f fd ps sp) (gd : X.A.guards = some []) (hr : Room k X.A) (hg : Gl X x) (hm : X.mg x = some (.ref f)) (hk : W.keepIn X.K (.ref f) = true) (hb : Binds X.K fd ps []) (hx : Passes CX X E)
    (ha : PA X (e :: es) t) (hdb : (x == ("__debug__" : Str)) = false := by decide) (he : starEach (e :: es) X.env = (false, eval e X.env) :: starEach es X.env := by rfl) (hpl : (backTo pos (starEach es X.env)).any (·.1) = false := by rfl) :
    PE X (.Call (.Name x p) (e :: es) [] pos) (tCall sp [] E t) := by
  refine ⟨fun pins s σ H Q I h => ?_⟩
  refine wpAny_Call_Name_kw (ld_glob I hg hm ?_ hdb)
  refine W.callWith_K (h₀ := X.base) I.ok.mod.kin hk (thn (ha.run pos pins s σ H _ I h) fun us s1 ⟨vs, H1, I1, r, q⟩ => ⟨I1.kIn, ?_⟩) he hpl
  have q' : sp vs H1 Q E := by simpa using q
  have hl : us.length = ps.length := by rw [← r.length]; exact F.len _ _ _ _ q'
  have bd := hb s1 us I1.kIn (by simpa using hl)
  rw [List.append_nil] at bd
  refine wpAny_call (codeAny_mono (F.go X.A X.stack s1 H1 ⟨us, []⟩ us vs Q E gd hr I1.env0 bd r q') fun rs s' hq => ?_)
  cases rs with
  | error e => exact hx pins σ H1 s1 e s' I1 hq
  | ok fl =>
    cases fl with
    | ret u => exact I1.after hq
    | next => exact False.elim hq
    | brk => exact False.elim hq
    | cont => exact False.elim hq
end

/-! the law's own call, from such a promise -/
section
variable {P : Program} {w : World} {K : W.Frag} {mg mb : Str → Option Value} {CX : CXT} {k : Nat} {fa a : Addr} {fd : FuncData} {x : Str} {sp : Sp} {s₁ : Shared} {vs : List Value} {ns : List Int}
abbrev EndT (s₁ : Shared) : Result → Shared → Prop := fun r s' => r = .ok (.ret (.bool true)) ∧ OldK s₁.heap s'.heap ∧ s'.os = s₁.os ∧ PyProof.Rows.AllBare s'.gens

/-- where at most the script is tracked -/
theorem go_from (KX : K.In s₁.heap) (hns : s₁.heap.Ns mainGlobals mg) (hb : s₁.heap.Ns builtinsNs mb) (hbb : ∀ x : Str, x ≠ "__name__" → mb x = bootBuiltins x) (lim : s₁.heap.NoLimit) (hg : s₁.gens = #[])
    (ha : s₁.heap.get? a = some { cls := .type "list", data := .seq vs.toArray }) (hr : Room k callerA)
    (F : ∀ base : Heap, K.In base → base.Ns mainGlobals mg → FnG P w K mg base CX k fa fd [x] sp) (hbind : ∀ (s : Shared) (u : Value), BindsTo s fd ⟨[u], []⟩ [(x, u)])
    (hCX : ∀ H e s', CX [] H s₁ (fun _ _ _ => False) e s' → False) (H : Hp) (only : Only H) (hsp : sp [.ref a] H (fun v _ => v = .bl true) fun _ _ _ => False)
    (hok : HOk P w H s₁.heap) (sole : ∀ b u, H b = some u → b = a) (out : ∀ u, H a = some u → K.lookup a = none) :
    codeAny (model P w) callerA (.call (.ref fa) ⟨[.ref a], []⟩) (EndT s₁) s₁ := by
  have untracked : ∀ {b : Addr} {o : Obj} {es : Array DictEntry} {ep : Nat}, s₁.heap.get? b = some o → o.data = .dict es ep → H b = none := by
    intro b o es ep e d
    match q : H b with
    | none => rfl
    | some u =>
      cases sole b u q
      rw [ha] at e
      cases e
      exact nomatch d
  have carry : ∀ {b : Addr} {m : Str → Option Value}, s₁.heap.Ns b m → (hidT s₁.heap H).Ns b m := by
    rintro b m ⟨o, es, ep, e, d, r⟩
    exact ⟨o, es, ep, hidT_get e (untracked e d), d, r⟩
  have inB : K.In (hidT s₁.heap H) := by
    intro b o e
    refine hidT_get (KX b o e) ?_
    match q : H b with
    | none => rfl
    | some u =>
      cases sole b u q
      rw [out u q] at e
      cases e
  obtain ⟨mc, l1, l2⟩ := lim
  have M : L2.Mod K mg (hidT s₁.heap H) := ⟨inB, carry hns, ⟨mb, carry hb, hbb⟩, ⟨mc, carry l1, l2⟩⟩
  have e0 : Env0 P w K mg (hidT s₁.heap H) callerA [] s₁ H :=
    { frames := rfl, mod := M, bs := fun b o e => of_hidT e, bsz := Nat.le_of_eq (hidT_size _ _), funs := trivial, frf := fun b z => (by cases z), hok := hok, bare := .of_eq hg }
  refine codeAny_mono ((F _ inB (carry hns)).go callerA [] s₁ H ⟨[.ref a], []⟩ [.ref a] [.ref a] _ _ rfl hr e0 (hbind s₁ (.ref a)) (.cons rfl .nil) hsp) fun r s' h => ?_
  cases r with
  | error e => exact (hCX H e s' h).elim
  | ok fl =>
    cases fl with
    | next => exact h.elim
    | brk => exact h.elim
    | cont => exact h.elim
    | ret u =>
      obtain ⟨v, H', os, bare, un, hok', rv, q⟩ := h
      cases (show v = V.bl true from q)
      cases (show u = Value.bool true from rv)
      refine ⟨rfl, OldK.of_keep fun b o e => ?_, os, bare⟩
      match q : H b with
      | none => exact un.keep b o e q (by intro z; cases z) (by intro z; cases z)
      | some u =>
        rcases only b with z | ⟨ob, xs, z⟩
        · rw [q] at z
          cases z
        · obtain ⟨k1, _⟩ := hok b _ z
          obtain ⟨k2, _⟩ := hok' b _ (un.frzs b ob _ z)
          rw [e] at k1
          cases k1
          exact k2

theorem law_go (KX : K.In s₁.heap) (hns : s₁.heap.Ns mainGlobals mg) (hb : s₁.heap.Ns builtinsNs mb) (hbb : ∀ x : Str, x ≠ "__name__" → mb x = bootBuiltins x) (lim : s₁.heap.NoLimit) (hg : s₁.gens = #[])
    (ha : s₁.heap.get? a = some { cls := .type "list", data := .seq vs.toArray }) (hi : PyProof.Rows.IntsAre vs ns) (hl : ns.length ≤ sizeLine) (hr : Room k callerA)
    (F : ∀ base : Heap, K.In base → base.Ns mainGlobals mg → FnG P w K mg base CX k fa fd [x] sp) (hbind : ∀ (s : Shared) (u : Value), BindsTo s fd ⟨[u], []⟩ [(x, u)])
    (hsp : ∀ H : Hp, Only H → SqL K H a (ns.map V.int) → sp [.ref a] H (fun v _ => v = .bl true) fun _ _ _ => False)
    (hCX : ∀ H e s', CX [] H s₁ (fun _ _ _ => False) e s' → False) : codeAny (model P w) callerA (.call (.ref fa) ⟨[.ref a], []⟩) (EndT s₁) s₁ := by
  have rv := vals_ints hi
  match hk : K.lookup a with
  | some o =>
    have e := KX a o hk
    rw [ha] at e
    cases e
    have S : SqL K (fun _ => none) a (ns.map V.int) := .inr ⟨_, vs.toArray, _, hk, rfl, rfl, rfl, by rw [List.size_toArray, hi.length]; exact hl, by simpa using rv⟩
    have O : Only (fun _ => none) := fun _ => .inl rfl
    exact go_from KX hns hb hbb lim hg ha hr F hbind hCX _ O (hsp _ O S) (fun b u z => nomatch (show (none : Option HO) = some u from z)) (fun b u z => nomatch (show (none : Option HO) = some u from z)) fun u z => nomatch (show (none : Option HO) = some u from z)
  | none =>
    let ob : Obj := { cls := .type "list", data := .seq vs.toArray }
    let H : Hp := fun b => if b = a then some (.frz ob (.lst (ns.map V.int))) else none
    have at_ : H a = some (.frz ob (.lst (ns.map V.int))) := if_pos rfl
    have off : ∀ b, b ≠ a → H b = none := fun b z => if_neg z
    have O : Only H := fun b => by
      by_cases z : b = a
      · exact .inr ⟨ob, ns.map V.int, z ▸ at_⟩
      · exact .inl (off b z)
    have S : SqL K H a (ns.map V.int) := .inl (.inr ⟨ob, at_⟩)
    refine go_from KX hns hb hbb lim hg ha hr F hbind hCX H O (hsp H O S) (fun b u z => ?_) (fun b u z => ?_) fun _ _ => hk
    · by_cases y : b = a
      · subst y
        rw [at_] at z
        cases z
        exact ⟨ha, by rw [List.length_map]; exact hl, vs, _, rv, ha⟩
      · rw [off b y] at z
        cases z
    · by_cases y : b = a
      · exact y
      · rw [off b y] at z
        cases z
end

theorem walkG {l : W.OpenLaw} {n k : Nat} {q : Program} {loose : List Str} {XP : (Str → Option Value) → Heap → Prop} {YP : World → Heap → Prop} {d : DefRec} {K : Params → W.Frag} {sp : W.Frag → Sp} {x : Str}
    (hn : l.most = some n) (hn2 : n ≤ sizeLine) (hdf : d.params.defaults = []) (hr : Room k callerA) (hY : ∀ (w : World) (h : Heap), YP w h → (K w.params).In h)
    (F : ∀ (w : World) (mg : Str → Option Value) (fa : Addr) (h : Heap), (K w.params).In h → h.Ns mainGlobals mg → mg d.name = some (.ref fa) →
      ∃ fd : FuncData, (∀ (s : Shared) (u : Value), BindsTo s fd ⟨[u], []⟩ [(x, u)]) ∧ ∀ base : Heap, (K w.params).In base → base.Ns mainGlobals mg → FnG l.prog w (K w.params) mg base L2.CX0 k fa fd [x] (sp (K w.params)))
    (hsp : ∀ (K : W.Frag) (H : Hp) (a : Addr) (ns : List Int), ns.length ≤ n → Only H → SqL K H a (ns.map V.int) → sp K [.ref a] H (fun v _ => v = .bl true) fun _ _ _ => False) :
    W.WalkO q loose XP YP l.row.toRowW d [] (fun f vs => PySem.call f vs) := by
  refine Att.attach_call hn hdf fun w s₀ s₁ mg mb fa o pm cd doc a vs ns G Y ho hd hcd hmg hobj hints hlen hg => ?_
  have there := hY w _ Y
  obtain ⟨fd, hb, hF⟩ := F w mg fa _ there G.T.g hmg
  exact law_go there G.T.g G.T.b G.T.builtins G.T.nolimit hg hobj hints (Nat.le_trans hlen hn2) hr hF hb (fun H hO hS => hsp _ H a ns hlen hO hS) fun H e s' z => z
end TW

set_option Elab.async false
set_option linter.all false
set_option maxRecDepth 100000
set_option maxHeartbeats 2000000
namespace TW
open PySem L2

/-- what a value is, without the heap -/
inductive D where
  | non | bl (b : Bool) | int (i : Int) | str (z : Str) | rat (t b : Int) | lst (l : List D) | tup (l : List D) | dct (l : List (Int × Int)) | dl (i : Int) (l : List D)

def ratText (t b : Int) : Str := Str.empty ++ "Ratio(" ++ toString t ++ ", " ++ toString b ++ ")"
def kvs (l : List (Int × Int)) : List (Key × V) := l.map fun p => (Sum.inl p.1, V.int p.2)
mutual
def D.shown : D → Str
  | .non => "None"
  | .bl b => if b then "True" else "False"
  | .int i => toString i
  | .str z => reprText z
  | .rat t b => ratText t b
  | .lst l => listText (showns l)
  | .tup l => tupleText (showns l)
  | .dct l => dictText (kvText (kvs l))
  | .dl i l => dictText [(toString i ++ ": " ++ listText (showns l) : Str)]
def showns : List D → List Str
  | [] => []
  | d :: l => d.shown :: showns l
end
def SmallI (i : Int) : Prop := i.natAbs.log2 < 1920
mutual
/-- at most so many signs -/
def D.len : D → Nat
  | .non => 4
  | .bl _ => 5
  | .int _ => 1921
  | .str z => (reprText z).length
  | .rat _ _ => 4000
  | .lst l => 2 + lens l
  | .tup l => 3 + lens l
  | .dct l => 2 + 4000 * l.length
  | .dl _ _ => 8000
def lens : List D → Nat
  | [] => 0
  | d :: l => d.len + 2 + lens l
end
mutual
def D.ok : D → Prop
  | .int i => SmallI i
  | .rat t b => SmallI t ∧ SmallI b
  | .lst l => oks l
  | .tup l => oks l
  | .dct l => ∀ p ∈ l, SmallI p.1 ∧ SmallI p.2
  | .dl i l => SmallI i ∧ ∃ j : Int, l = [.int j] ∧ SmallI j
  | _ => True
def oks : List D → Prop
  | [] => True
  | d :: l => d.ok ∧ oks l
end
mutual
def D.deep : D → Nat
  | .lst l => deeps l + 1
  | .tup l => deeps l + 1
  | _ => 0
def deeps : List D → Nat
  | [] => 0
  | d :: l => max d.deep (deeps l)
end

mutual
inductive Dt (C : Addr) (H : Hp) : V → D → Prop
  | non : Dt C H .non .non
  | bl (b : Bool) : Dt C H (.bl b) (.bl b)
  | int (i : Int) : Dt C H (.int i) (.int i)
  | str (z : Str) : Dt C H (.str z) (.str z)
  | rat {a dx : Addr} {fs : List (Str × V)} {t b : Int} : H a = some (.ins C dx fs) → fs.lookup ("_top" : Str) = some (V.int t) → fs.lookup ("_bottom" : Str) = some (V.int b) → Dt C H (.ref a) (.rat t b)
  | lst {a : Addr} {xs : List V} {l : List D} : H a = some (.lst xs) → Dts C H xs l → Dt C H (.ref a) (.lst l)
  | tup {a : Addr} {xs : List V} {l : List D} : H a = some (.tup xs) → Dts C H xs l → Dt C H (.ref a) (.tup l)
  | dct {a : Addr} {l : List (Int × Int)} : H a = some (.dK (kvs l)) → Dt C H (.ref a) (.dct l)
  | dl {a b : Addr} {xs : List V} {i : Int} {l : List D} : H a = some (.dK [((Sum.inl i : Key), V.ref b)]) → H b = some (.lst xs) → Dts C H xs l → Dt C H (.ref a) (.dl i l)
inductive Dts (C : Addr) (H : Hp) : List V → List D → Prop
  | nil : Dts C H [] []
  | cons {v : V} {d : D} {xs : List V} {l : List D} : Dt C H v d → Dts C H xs l → Dts C H (v :: xs) (d :: l)
end
theorem Dts.length {C : Addr} {H : Hp} : ∀ {xs : List V} {l : List D}, Dts C H xs l → xs.length = l.length
  | _, _, .nil => rfl
  | _, _, .cons _ h => by simp [h.length]
theorem Dts.at {C : Addr} {H : Hp} : ∀ {xs : List V} {l : List D}, Dts C H xs l → ∀ {i : Nat} {x : V}, xs[i]? = some x → ∃ d, l[i]? = some d ∧ Dt C H x d
  | _, _, .nil, _, _, e => by simp at e
  | _, _, .cons h _, 0, _, e => by
    simp at e
    subst e
    exact ⟨_, rfl, h⟩
  | _, _, .cons _ h, i + 1, x, e => by
    obtain ⟨d, q, r⟩ := h.at (i := i) (x := x) (by simpa using e)
    exact ⟨d, by simpa using q, r⟩
mutual
theorem Dt.same {C : Addr} {H H' : Hp} (s : Same H H') : ∀ {d : D} {v : V}, Dt C H v d → Dt C H' v d
  | _, _, .non => .non
  | _, _, .bl b => .bl b
  | _, _, .int i => .int i
  | _, _, .str z => .str z
  | _, _, .rat h1 h2 h3 => .rat (s _ _ h1) h2 h3
  | _, _, .lst h1 h2 => .lst (s _ _ h1) (h2.same s)
  | _, _, .tup h1 h2 => .tup (s _ _ h1) (h2.same s)
  | _, _, .dct h1 => .dct (s _ _ h1)
  | _, _, .dl h1 h2 h3 => .dl (s _ _ h1) (s _ _ h2) (h3.same s)
theorem Dts.same {C : Addr} {H H' : Hp} (s : Same H H') : ∀ {l : List D} {xs : List V}, Dts C H xs l → Dts C H' xs l
  | _, _, .nil => .nil
  | _, _, .cons h1 h2 => .cons (h1.same s) (h2.same s)
end
theorem kvs_ref {l : List (Int × Int)} {i : Int} {b : Addr} (h : kvs l = [((Sum.inl i : Key), V.ref b)]) : False := by
  match l with
  | [] => simp [kvs] at h
  | (c, d) :: l => simp [kvs] at h
theorem kvs_inj : ∀ {l l' : List (Int × Int)}, kvs l = kvs l' → l = l'
  | [], [], _ => rfl
  | [], _ :: _, h => by simp [kvs] at h
  | _ :: _, [], h => by simp [kvs] at h
  | (a, b) :: l, (c, d) :: l', h => by
    simp only [kvs, List.map_cons, List.cons.injEq, Prod.mk.injEq, Sum.inl.injEq, V.int.injEq] at h
    obtain ⟨⟨rfl, rfl⟩, h⟩ := h
    rw [kvs_inj (l := l) (l' := l') h]
mutual
theorem Dt.uniq {C : Addr} {H : Hp} : ∀ {d d' : D} {v : V}, Dt C H v d → Dt C H v d' → d = d'
  | _, _, _, .non, h => by cases h; rfl
  | _, _, _, .bl b, h => by cases h; rfl
  | _, _, _, .int i, h => by cases h; rfl
  | _, _, _, .str z, h => by cases h; rfl
  | _, _, _, .rat h1 h2 h3, h => by
    cases h with
    | rat g1 g2 g3 =>
      rw [h1] at g1; cases g1
      rw [h2] at g2; cases g2
      rw [h3] at g3; cases g3
      rfl
    | lst g1 _ => rw [h1] at g1; cases g1
    | tup g1 _ => rw [h1] at g1; cases g1
    | dct g1 => rw [h1] at g1; cases g1
    | dl g1 g2 g3 => rw [h1] at g1; cases g1
  | _, _, _, .lst h1 h2, h => by
    cases h with
    | rat g1 g2 g3 => rw [h1] at g1; cases g1
    | lst g1 g2 =>
      rw [h1] at g1; cases g1
      rw [h2.uniq g2]
    | tup g1 _ => rw [h1] at g1; cases g1
    | dct g1 => rw [h1] at g1; cases g1
    | dl g1 g2 g3 => rw [h1] at g1; cases g1
  | _, _, _, .tup h1 h2, h => by
    cases h with
    | rat g1 g2 g3 => rw [h1] at g1; cases g1
    | tup g1 g2 =>
      rw [h1] at g1; cases g1
      rw [h2.uniq g2]
    | lst g1 _ => rw [h1] at g1; cases g1
    | dct g1 => rw [h1] at g1; cases g1
    | dl g1 g2 g3 => rw [h1] at g1; cases g1
  | _, _, _, .dct h1, h => by
    cases h with
    | rat g1 g2 g3 => rw [h1] at g1; cases g1
    | tup g1 g2 => rw [h1] at g1; cases g1
    | lst g1 _ => rw [h1] at g1; cases g1
    | dct g1 =>
      rw [h1] at g1
      have e : kvs _ = kvs _ := HO.dK.inj (Option.some.inj g1)
      rw [kvs_inj e]
    | dl g1 g2 g3 =>
      rw [h1] at g1
      exact (kvs_ref (HO.dK.inj (Option.some.inj g1))).elim
  | _, _, _, .dl h1 h2 h3, h => by
    cases h with
    | rat g1 g2 g3 => rw [h1] at g1; cases g1
    | tup g1 g2 => rw [h1] at g1; cases g1
    | lst g1 _ => rw [h1] at g1; cases g1
    | dct g1 =>
      rw [h1] at g1
      exact (kvs_ref (HO.dK.inj (Option.some.inj g1)).symm).elim
    | dl g1 g2 g3 =>
      rw [h1] at g1; cases g1
      rw [h2] at g2; cases g2
      rw [h3.uniq g3]
theorem Dts.uniq {C : Addr} {H : Hp} : ∀ {l l' : List D} {xs : List V}, Dts C H xs l → Dts C H xs l' → l = l'
  | _, _, _, .nil, h => by cases h; rfl
  | _, _, _, .cons h1 h2, h => by
    cases h with
    | cons g1 g2 => rw [h1.uniq g1, h2.uniq g2]
end

/-! lengths -/
theorem len_int {i : Int} (h : SmallI i) : (toString i : Str).length ≤ 1921 := PyProof.Rows.int_text_len_1921 h
theorem len_list (ts : List Str) : (listText ts).length ≤ 2 + piled ts := by
  cases ts with
  | nil => decide
  | cons t r =>
    have q := textFrom_length_pos r 1 (("[" : Str) ++ (if (0 : Nat) > 0 then ", " else "" : String) ++ t) (Nat.succ_pos 0)
    have e1 : (listText (t :: r)).length = (textFrom 1 (("[" : Str) ++ (if (0 : Nat) > 0 then ", " else "" : String) ++ t) r).length + 1 := by
      show (textFrom 1 (("[" : Str) ++ (if (0 : Nat) > 0 then ", " else "" : String) ++ t) r ++ "]").length = _
      rw [strLen_append]
      rfl
    have e2 : (("[" : Str) ++ (if (0 : Nat) > 0 then ", " else "" : String) ++ t).length = 1 + t.length := by
      rw [strLen_append, strLen_append]
      rfl
    rw [e1, q, e2, piled_cons]
    omega
theorem len_join (ts : List Str) : (Str.join ", " ts).length ≤ piled ts := by
  by_cases h : ts = []
  · subst h
    exact Nat.zero_le _
  · have := join_length_add ts h
    omega
theorem len_tup (ts : List Str) : (tupleText ts).length ≤ 3 + piled ts := by
  unfold tupleText
  rw [strLen_append, strLen_append]
  have q := len_join ts
  have e1 : (("(" : Str)).length = 1 := rfl
  have e3 : ((if ts.length == 1 then ",)" else ")" : String) : Str).length ≤ 2 := by split <;> decide
  rw [e1]
  omega
theorem len_dict (ts : List Str) : (dictText ts).length ≤ 2 + piled ts := by
  unfold dictText
  rw [strLen_append, strLen_append]
  have q := len_join ts
  have e1 : (("{" : Str)).length = 1 := rfl
  have e3 : (("}" : Str)).length = 1 := rfl
  rw [e1, e3]
  omega
theorem len_kv : ∀ (l : List (Int × Int)), (∀ p ∈ l, SmallI p.1 ∧ SmallI p.2) → piled (kvText (kvs l)) ≤ 4000 * l.length
  | [], _ => Nat.zero_le _
  | (a, b) :: l, h => by
    have h1 := h (a, b) (List.Mem.head _)
    have h2 := len_kv l fun p hp => h p (List.Mem.tail _ hp)
    have e : piled (kvText (kvs ((a, b) :: l))) = ((toString a ++ ": " ++ toString b : Str).length + 2) + piled (kvText (kvs l)) := piled_cons _ _
    rw [e, strLen_append, strLen_append]
    have e1 : ((": " : String) : Str).length = 2 := rfl
    have q1 : (toString a : Str).length ≤ 1921 := len_int h1.1
    have q2 : (toString b : Str).length ≤ 1921 := len_int h1.2
    rw [e1, List.length_cons]
    omega
theorem len_rat {t b : Int} (h1 : SmallI t) (h2 : SmallI b) : (ratText t b).length ≤ 4000 := by
  unfold ratText
  rw [strLen_append, strLen_append, strLen_append, strLen_append, strLen_append]
  have q1 := len_int h1
  have q2 := len_int h2
  have e0 : (Str.empty).length = 0 := rfl
  have e1 : (("Ratio(" : String) : Str).length = 6 := rfl
  have e2 : ((", " : String) : Str).length = 2 := rfl
  have e3 : ((")" : String) : Str).length = 1 := rfl
  rw [e0, e1, e2, e3]
  omega
mutual
theorem len_shown : ∀ (d : D), d.ok → d.shown.length ≤ d.len
  | .non, _ => by decide
  | .bl b, _ => by cases b <;> decide
  | .int i, h => len_int h
  | .str z, _ => Nat.le_refl _
  | .rat t b, h => len_rat h.1 h.2
  | .lst l, h => by
    have q := len_showns l h
    have z := len_list (showns l)
    simp only [D.shown, D.len]
    omega
  | .tup l, h => by
    have q := len_showns l h
    have z := len_tup (showns l)
    simp only [D.shown, D.len]
    omega
  | .dct l, h => by
    have q := len_kv l h
    have z := len_dict (kvText (kvs l))
    simp only [D.shown, D.len]
    omega
  | .dl i l, h => by
    obtain ⟨hi, j, rfl, hj⟩ := h
    show (dictText [(toString i ++ ": " ++ listText [(toString j : Str)] : Str)]).length ≤ 8000
    have z := len_dict [(toString i ++ ": " ++ listText [(toString j : Str)] : Str)]
    have z2 := len_list [(toString j : Str)]
    rw [piled_cons] at z z2
    rw [strLen_append, strLen_append] at z
    have e1 : ((": " : String) : Str).length = 2 := rfl
    have e0 : piled ([] : List Str) = 0 := rfl
    have q1 := len_int hi
    have q2 := len_int hj
    rw [e1] at z
    rw [e0] at z z2
    omega
theorem len_showns : ∀ (l : List D), oks l → piled (showns l) ≤ lens l
  | [], _ => Nat.le_refl _
  | d :: l, h => by
    have q1 := len_shown d h.1
    have q2 := len_showns l h.2
    simp only [showns, lens, piled_cons]
    omega
end

/-! writing such values -/
/-- what Ratio's __repr__ promises -/
def spRepr (C : Addr) : Sp := fun vs H Q _ => ∃ (a dx : Addr) (fs : List (Str × V)) (t b : Int), vs = [.ref a] ∧ H a = some (.ins C dx fs) ∧ fs.lookup ("_top" : Str) = some (V.int t) ∧ fs.lookup ("_bottom" : Str) = some (V.int b) ∧ SmallI t ∧ SmallI b ∧ Q (.str (ratText t b)) H
/-- that it stands there -/
structure RatR (P : Program) (w : World) (K : W.Frag) (mg : Str → Option Value) (base : Heap) (C : Addr) (k : Nat) : Prop where
  ex : ∃ (f : Addr) (fd : FuncData), W.findIn K (.ref C) "__repr__" = some (some (.ref f)) ∧ W.isFn K (.ref f) = true ∧ FnOk P w K mg base L2.CX0 k f fd ["self"] (spRepr C) ∧ Binds K fd ["self"] []

section
variable {X : Cx} {C : Addr} {H : Hp} {k : Nat}
def Within_ (C : Addr) (H : Hp) (as : List Addr) (n : Nat) : Prop := ∀ c ∈ as, ∃ d, Dt C H (.ref c) d ∧ sizeOf d ≤ n
theorem Within_.out {as : List Addr} {n : Nat} {a : Addr} {d : D} (h : Within_ C H as n) (ha : Dt C H (.ref a) d) (lt : n < sizeOf d) : a ∉ as := fun hm => by
  obtain ⟨d', h1, h2⟩ := h a hm
  rw [ha.uniq h1] at lt
  omega
theorem Within_.cons {as : List Addr} {n m : Nat} {a : Addr} {d : D} (h : Within_ C H as n) (ha : Dt C H (.ref a) d) (h1 : n ≤ m) (h2 : sizeOf d ≤ m) : Within_ C H (a :: as) m := fun c hc => by
  rcases List.mem_cons.mp hc with rfl | hc
  · exact ⟨d, ha, h2⟩
  · obtain ⟨d', q1, q2⟩ := h c hc
    exact ⟨d', q1, by omega⟩
theorem Within_.nil {n : Nat} : Within_ C H [] n := fun _ h => nomatch h
theorem Within_.append {as bs : List Addr} {n m l : Nat} (h1 : Within_ C H as n) (h2 : Within_ C H bs m) (q1 : n ≤ l) (q2 : m ≤ l) : Within_ C H (as ++ bs) l := fun c hc => by
  rcases List.mem_append.mp hc with hc | hc
  · obtain ⟨d', z1, z2⟩ := h1 c hc
    exact ⟨d', z1, by omega⟩
  · obtain ⟨d', z1, z2⟩ := h2 c hc
    exact ⟨d', z1, by omega⟩
theorem RpAll.more {as as' : List Addr} {lv lv' : Nat} : ∀ {xs : List V} {ts : List Str}, RpAll X H as lv xs ts → (∀ c ∈ as, c ∈ as') → lv ≤ lv' → RpAll X H as' lv' xs ts
  | _, _, .nil, _, _ => .nil
  | _, _, .cons h t, a, b => .cons (h.more a b) (t.more a b)
theorem kv_small : ∀ {l : List (Int × Int)}, (∀ p ∈ l, SmallI p.1 ∧ SmallI p.2) → KvSmall (kvs l)
  | [], _ => trivial
  | (a, b) :: l, h => ⟨(h (a, b) (List.Mem.head _)).1, (h (a, b) (List.Mem.head _)).2, Nat.le_trans (len_int (h (a, b) (List.Mem.head _)).1) (by decide), kv_small fun p hp => h p (List.Mem.tail _ hp)⟩
mutual
theorem rpD (R : RatR X.prog X.w X.K X.mg X.base C k) : ∀ (d : D) (v : V), Dt C H v d → d.ok → d.len ≤ sizeLine → ∃ as, Within_ C H as (sizeOf d) ∧ Rp X H as (k + d.deep) v d.shown
  | .non, _, .non, _, _ => ⟨[], Within_.nil, Rp.non⟩
  | .bl b, _, .bl _, _, _ => ⟨[], Within_.nil, Rp.bl b⟩
  | .int i, _, .int _, h, _ => ⟨[], Within_.nil, Rp.int h⟩
  | .str z, _, .str _, _, h => ⟨[], Within_.nil, Rp.str h⟩
  | .rat t b, _, .rat (a := a) h1 h2 h3, h, _ => by
    obtain ⟨f, fd, r1, r2, r3, r4⟩ := R.ex
    exact ⟨[], Within_.nil, Rp.own h1 r1 r2 r3 r4 fun Q E q => ⟨_, _, _, _, _, rfl, h1, h2, h3, h.1, h.2, q⟩⟩
  | .lst l, _, .lst (a := a) (xs := xs) h1 h2, h, hz => by
    have z : lens l ≤ sizeLine := by simp only [D.len] at hz; omega
    obtain ⟨as, w1, r⟩ := rpL R l xs h2 h z
    have me : Dt C H (.ref a) (.lst l) := .lst h1 h2
    have lt : sizeOf l < sizeOf (D.lst l) := by simp
    refine ⟨a :: as, w1.cons me (Nat.le_of_lt lt) (Nat.le_refl _), ?_⟩
    exact Rp.list (SqL.of h1) (w1.out me lt) r.len r.at
  | .tup l, _, .tup (a := a) (xs := xs) h1 h2, h, hz => by
    have z : lens l ≤ sizeLine := by simp only [D.len] at hz; omega
    obtain ⟨as, w1, r⟩ := rpL R l xs h2 h z
    have me : Dt C H (.ref a) (.tup l) := .tup h1 h2
    have lt : sizeOf l < sizeOf (D.tup l) := by simp
    refine ⟨a :: as, w1.cons me (Nat.le_of_lt lt) (Nat.le_refl _), ?_⟩
    exact Rp.tup (SqT.of h1) (w1.out me lt) r
  | .dct l, _, .dct (a := a) h1, h, _ => ⟨[a], Within_.nil.cons (n := 0) (.dct h1) (Nat.zero_le _) (Nat.le_refl _), Rp.dct h1 (fun z => nomatch z) (kv_small h)⟩
  | .dl i l, _, .dl (a := a) (b := b) h1 h2 h3, h, _ => by
    obtain ⟨hi, j, rfl, hj⟩ := h
    have me : Dt C H (.ref a) (.dl i [.int j]) := .dl h1 h2 h3
    have inn : Dt C H (.ref b) (.lst [.int j]) := .lst h2 h3
    have le : sizeOf (D.lst [.int j]) ≤ sizeOf (D.dl i [.int j]) := by simp
    have nab : a ∉ [b] := fun z => by
      rw [List.mem_singleton.1 z, h2] at h1
      cases h1
    have hx : H b = some (.lst [.int j]) := by
      cases h3 with
      | cons g t =>
        cases t
        cases g
        exact h2
    exact ⟨[a, b], (Within_.nil.cons (n := 0) (m := sizeOf (D.dl i [.int j])) inn (Nat.zero_le _) le).cons me (Nat.le_refl _) (Nat.le_refl _), Rp.dl h1 hx nab (fun z => nomatch z) hi hj⟩
theorem rpL (R : RatR X.prog X.w X.K X.mg X.base C k) : ∀ (l : List D) (xs : List V), Dts C H xs l → oks l → lens l ≤ sizeLine → ∃ as, Within_ C H as (sizeOf l) ∧ RpAll X H as (k + deeps l) xs (showns l)
  | [], _, .nil, _, _ => ⟨[], Within_.nil, .nil⟩
  | d :: l, _, .cons (v := v) (xs := xs) h1 h2, h, hz => by
    have z1 : d.len ≤ sizeLine := by simp only [lens] at hz; omega
    have z2 : lens l ≤ sizeLine := by simp only [lens] at hz; omega
    obtain ⟨as, w1, r1⟩ := rpD R d v h1 h.1 z1
    obtain ⟨bs, w2, r2⟩ := rpL R l xs h2 h.2 z2
    have q1 : sizeOf d ≤ sizeOf (d :: l) := by simp; omega
    have q2 : sizeOf l ≤ sizeOf (d :: l) := by simp
    refine ⟨as ++ bs, w1.append w2 q1 q2, .cons (r1.more (fun c hc => List.mem_append_left _ hc) ?_) (r2.more (fun c hc => List.mem_append_right _ hc) ?_)⟩
    · simp only [deeps]; omega
    · simp only [deeps]; omega
end
theorem rcD (R : RatR X.prog X.w X.K X.mg X.base C k) : ∀ (d : D) (v : V), Dt C H v d → d.ok → d.len ≤ sizeLine → ∃ as, Rc X H as (k + d.deep + 1) v d.shown
  | .non, _, .non, _, _ => ⟨[], Rc.non⟩
  | .bl b, _, .bl _, _, _ => ⟨[], Rc.bl b⟩
  | .int i, _, .int _, h, _ => ⟨[], Rc.int h⟩
  | .str z, _, .str _, _, h => ⟨[], Rc.str⟩
  | .rat t b, _, .rat (a := a) h1 h2 h3, h, _ => by
    obtain ⟨f, fd, r1, r2, r3, r4⟩ := R.ex
    exact ⟨[], Rc.own h1 r1 r2 r3 r4 fun Q E q => ⟨_, _, _, _, _, rfl, h1, h2, h3, h.1, h.2, q⟩⟩
  | .lst l, _, .lst (a := a) (xs := xs) h1 h2, h, hz => by
    have z : lens l ≤ sizeLine := by simp only [D.len] at hz; omega
    obtain ⟨as, w1, r⟩ := rpL R l xs h2 h z
    exact ⟨a :: as, Rc.list (SqL.of h1) (w1.out (.lst h1 h2) (by simp)) r.len r.at⟩
  | .tup l, _, .tup (a := a) (xs := xs) h1 h2, h, hz => by
    have z : lens l ≤ sizeLine := by simp only [D.len] at hz; omega
    obtain ⟨as, w1, r⟩ := rpL R l xs h2 h z
    exact ⟨a :: as, Rc.tup (SqT.of h1) (w1.out (.tup h1 h2) (by simp)) r⟩
  | .dct l, _, .dct (a := a) h1, h, _ => ⟨[a], Rc.dct h1 (fun z => nomatch z) (kv_small h)⟩
  | .dl i l, _, .dl (a := a) (b := b) h1 h2 h3, h, _ => by
    obtain ⟨hi, j, rfl, hj⟩ := h
    have me : Dt C H (.ref a) (.dl i [.int j]) := .dl h1 h2 h3
    have inn : Dt C H (.ref b) (.lst [.int j]) := .lst h2 h3
    have le : sizeOf (D.lst [.int j]) ≤ sizeOf (D.dl i [.int j]) := by simp
    have nab : a ∉ [b] := fun z => by
      rw [List.mem_singleton.1 z, h2] at h1
      cases h1
    have hx : H b = some (.lst [.int j]) := by
      cases h3 with
      | cons g t =>
        cases t
        cases g
        exact h2
    exact ⟨[a, b], Rc.dl h1 hx nab (fun z => nomatch z) hi hj⟩

/-- repr(x) in a body, where no writing is under way -/
def rRepr (C : Addr) (n : Nat) : List V → Hp → VK → Prop := fun xs H Q => ∃ x d, xs = [x] ∧ Dt C H x d ∧ d.ok ∧ d.len ≤ sizeLine ∧ d.deep ≤ n ∧ Q (.str d.shown) H
theorem call_repr {n : Nat} (R : RatR X.prog X.w X.K X.mg X.base C k) (gd : X.A.guards = some []) (hr : Room (k + n + 1) X.A) : CallR X (.builtin "repr") (rRepr C n) := by
  intro pins s σ H xs us Q I r h
  obtain ⟨x, d, rfl, hd, ho, hl, hn, q⟩ := h
  obtain ⟨u, rfl, ru⟩ := vals1 r
  obtain ⟨as, rc⟩ := rcD R d x hd ho hl
  exact rc X.A [] pins σ s u _ _ I.ok.frames gd (fun a _ => Clear.nil a) (hr.mono (by omega)) I ru (Nat.le_trans (len_shown d ho) hl) fun s' tk I' => ⟨.str d.shown, H, I', ⟨tk, rfl⟩, q⟩
end
end TW

set_option Elab.async false
set_option linter.all false
set_option maxRecDepth 100000
set_option maxHeartbeats 2000000
namespace TW
open PySem L2

theorem same_new {H : Hp} {p : Addr} {o : HO} (h : H p = none) : Same H (upd H p o) := fun b x e => by
  rw [upd_ne (ne_of_none e h)]
  exact e
theorem Same.tup {K : W.Frag} {H H' : Hp} {a : Addr} {xs : List V} (e : Same H H') (h : SqT K H a xs) : SqT K H' a xs := by
  rcases h with (h | ⟨o, h⟩) | h
  · exact .inl (.inl (e _ _ h))
  · exact .inl (.inr ⟨o, e _ _ h⟩)
  · exact .inr h
/-- a list or a tuple -/
def Sq (K : W.Frag) (H : Hp) (a : Addr) (xs : List V) : Prop := SqL K H a xs ∨ SqT K H a xs
theorem Sq.same {K : W.Frag} {H H' : Hp} {a : Addr} {xs : List V} (e : Same H H') (h : Sq K H a xs) : Sq K H' a xs := h.elim (fun z => .inl (e.seq z)) fun z => .inr (Same.tup e z)

/-! walking what is a list or a tuple -/
section
variable {X : Cx} {tg it : Expr} {tl : TE}
theorem PI.or {wi wi' : TI} (h : PI X tg it wi) (h' : PI X tg it wi') : PI X tg it (fun σ H R => wi σ H R ∨ wi' σ H R) :=
  ⟨fun pins s σ H R I q => q.elim (h.run pins s σ H R I) (h'.run pins s σ H R I)⟩
abbrev iSeq (K : W.Frag) (tl : TE) : TI := fun σ H R => iList K tl σ H R ∨ iTup K tl σ H R
theorem pi_seq (h : PE X it tl) : PI X tg it (iSeq X.K tl) := PI.or (pi_list h) (pi_tup h)
end


/-- the heap without D -/
def off (D : Addr) (H : Hp) : Hp := fun b => if b = D then none else H b
theorem off_ne {D b : Addr} {H : Hp} (h : b ≠ D) : off D H b = H b := if_neg h
theorem off_same {D : Addr} {H : Hp} : Same (off D H) H := fun b o e => by
  by_cases z : b = D
  · rw [show off D H b = none from if_pos z] at e
    cases e
  · rw [off_ne z] at e
    exact e
theorem off_off {D : Addr} {H1 H2 : Hp} (h : ∀ b o, H1 b = some o → b ≠ D → H2 b = some o) : Same (off D H1) (off D H2) := fun b o e => by
  by_cases z : b = D
  · rw [show off D H1 b = none from if_pos z] at e
    cases e
  · rw [off_ne z] at e
    rw [off_ne z]
    exact h b o e z

section
variable {te : TE} {i : Nat} {σ : L2.St} {H : Hp} {xs : List V} {D : Addr}
def PvC (H : Hp) (P : Nat → V → Hp → Prop) (D : Addr) (k : Nat) (H' : Hp) : Prop := Same H H' ∧ ∃ ys, H' D = some (.lst ys) ∧ ys.length = k ∧ ∀ m y, ys[m]? = some y → P m y (off D H')
theorem comp_turn (P : Nat → V → Hp → Prop) (mono : ∀ k y H1 H2, Same H1 H2 → P k y H1 → P k y H2) (hD : H D = none) (hl : xs.length ≤ sizeLine)
    (el : ∀ (k : Nat) (x : V) (H' : Hp) (R : VK), xs[k]? = some x → Same H H' → (∀ y H2, Same H' H2 → (∀ D, H D = none → H' D ≠ none → P k y (off D H2)) → R y H2) → te ((wipe σ [i]).set i (some x)) H' R) :
    ∀ k x H', xs[k]? = some x → PvC H P D k H' → gName i x (wipe σ [i]) H' fun σ2 H2 => wipe σ2 [i] = wipe σ [i] ∧ tYes σ2 H2 fun b H3 =>
      if b = true then te σ2 H3 fun y H4 => ∃ acc, H4 D = some (.lst acc) ∧ acc.length < sizeLine ∧ PvC H P D (k + 1) (upd H4 D (.lst (acc ++ [y]))) else PvC H P D (k + 1) H3 := by
  rintro k x H' hx ⟨s1, ys, e1, e2, e3⟩
  have hk : k < xs.length := by
    rcases Nat.lt_or_ge k xs.length with z | z
    · exact z
    · rw [List.getElem?_eq_none z] at hx; cases hx
  refine ⟨?_, ?_⟩
  · show (((σ.set i none).set i (some x)).set i none) = (σ.set i none)
    rw [List.set_set, List.set_set]
  · show if true = true then te ((wipe σ [i]).set i (some x)) H' (fun y H4 => ∃ acc, H4 D = some (.lst acc) ∧ acc.length < sizeLine ∧ PvC H P D (k + 1) (upd H4 D (.lst (acc ++ [y])))) else PvC H P D (k + 1) H'
    rw [if_pos rfl]
    refine el k x H' _ hx s1 fun y H2 s2 p => ?_
    refine ⟨ys, s2 _ _ e1, by omega, fun b o e => ?_, ys ++ [y], upd_same, by simp [e2], fun m z hz => ?_⟩
    · rw [upd_ne (ne_of_none e hD)]
      exact s2 _ _ (s1 _ _ e)
    · rcases Nat.lt_or_ge m ys.length with lt | ge
      · rw [List.getElem?_append_left lt] at hz
        refine mono _ _ _ _ (off_off fun b o e hb => ?_) (e3 m z hz)
        rw [upd_ne hb]
        exact s2 _ _ e
      · rw [List.getElem?_append_right ge] at hz
        have em : m - ys.length = 0 := by
          rcases Nat.eq_zero_or_pos (m - ys.length) with q | q
          · exact q
          · rw [List.getElem?_eq_none (by simp; omega)] at hz; cases hz
        rw [em] at hz
        cases (show some y = some z from hz)
        have ek : m = k := by omega
        subst ek
        refine mono _ _ _ _ (off_off fun b o e hb => ?_) (p D hD (by rw [e1]; simp))
        rw [upd_ne hb]
        exact e

/-- [e for x in l], l a list or tuple at slot j: each element by P, which stays; nothing that stood is changed -/
theorem comp_seq {K : W.Frag} {j : Nat} {Q : VK} {a : Addr} (P : Nat → V → Hp → Prop) (mono : ∀ k y H1 H2, Same H1 H2 → P k y H1 → P k y H2)
    (hj : σ[j]? = some (some (.ref a))) (hs : Sq K H a xs) (hl : xs.length ≤ sizeLine)
    (el : ∀ (k : Nat) (x : V) (H' : Hp) (R : VK), xs[k]? = some x → Same H H' → (∀ y H2, Same H' H2 → (∀ D, H D = none → H' D ≠ none → P k y (off D H2)) → R y H2) → te ((wipe σ [i]).set i (some x)) H' R)
    (fin : ∀ (D : Addr) (ys : List V) (H' : Hp), H D = none → Same H H' → H' D = some (.lst ys) → ys.length = xs.length → (∀ k y, ys[k]? = some y → P k y H') → Q (.ref D) H') :
    tLc (iSeq K (tVar j)) (gName i) tYes te [i] σ H Q := by
  have start : ∀ D, H D = none → PvC H P D 0 (upd H D (.lst [])) := fun D hD => ⟨same_new hD, [], upd_same, rfl, fun m y e => by simp at e⟩
  have done : ∀ D, H D = none → ∀ H', PvC H P D xs.length H' → Q (.ref D) H' := fun D hD H' ⟨s1, ys, e1, e2, e3⟩ => fin D ys H' hD s1 e1 e2 fun k y e => mono _ _ _ _ off_same (e3 k y e)
  rcases hs with hs | hs
  · exact .inl ⟨.ref a, hj, a, rfl, ⟨xs, hs⟩, fun D hD => lc_list (K := K) (a := a) (xs := xs) (PvC H P D) (start D hD) (fun k H' _ p => p.1.seq hs) (comp_turn P mono hD hl el) (done D hD)⟩
  · exact .inr ⟨.ref a, hj, a, rfl, ⟨xs, hs⟩, fun D hD => lc_tup (K := K) (a := a) (xs := xs) (PvC H P D) (start D hD) (fun k H' _ p => Same.tup p.1 hs) (comp_turn P mono hD hl el) (done D hD)⟩
end

/-- a comprehension whose elements are written values, by their place -/
theorem comp_vals {te : TE} {i : Nat} {σ : L2.St} {H : Hp} {xs : List V} {K : W.Frag} {j : Nat} {Q : VK} {a : Addr} (f : Nat → V)
    (hj : σ[j]? = some (some (.ref a))) (hs : Sq K H a xs) (hl : xs.length ≤ sizeLine)
    (el : ∀ (k : Nat) (x : V) (H' : Hp) (R : VK), xs[k]? = some x → Same H H' → (∀ H2, Same H' H2 → R (f k) H2) → te ((wipe σ [i]).set i (some x)) H' R)
    (fin : ∀ (D : Addr) (H' : Hp), H D = none → Same H H' → H' D = some (.lst ((List.range xs.length).map f)) → Q (.ref D) H') :
    tLc (iSeq K (tVar j)) (gName i) tYes te [i] σ H Q := by
  refine comp_seq (fun k y _ => y = f k) (fun _ _ _ _ _ h => h) hj hs hl (fun k x H' R hx s1 q => el k x H' R hx s1 fun H2 s2 => q _ H2 s2 fun _ _ _ => rfl) fun D ys H' hD s1 e1 e2 e3 => ?_
  have e : ys = (List.range xs.length).map f := by
    refine List.ext_getElem? fun k => ?_
    rcases Nat.lt_or_ge k ys.length with lt | ge
    · have q : ys[k]? = some ys[k] := List.getElem?_eq_getElem lt
      rw [q, List.getElem?_map, List.getElem?_range (by omega), e3 k _ q]
      rfl
    · rw [List.getElem?_eq_none ge, List.getElem?_eq_none (by simp; omega)]
  rw [e] at e1
  exact fin D H' hD s1 e1
end TW

set_option Elab.async false
set_option linter.all false
set_option maxRecDepth 100000
set_option maxHeartbeats 2000000
namespace TW
open PySem L2 Builtin
/-! an operator by the class's own method -/
/-- the class C does this by the def at f -/
structure Own (K : W.Frag) (C f : Addr) (name : Str) : Prop where
  at_ : W.findIn K (.ref C) name = some (some (.ref f))
  fn : W.isFn K (.ref f) = true
def rOwn (C : Addr) (sp : Sp) (E : XK) : R2 := fun x y H Q => ∃ a b dx dy fs gs, x = .ref a ∧ y = .ref b ∧ H a = some (.ins C dx fs) ∧ H b = some (.ins C dy gs) ∧ sp [x, y] H (fun v H' => (∃ p, v = .ref p) ∧ Q v H') E
def rOwnI (C : Addr) (sp : Sp) (E : XK) : R2 := fun x y H Q => ∃ a i dx fs, x = .ref a ∧ y = .int i ∧ H a = some (.ins C dx fs) ∧ sp [x, y] H (fun v H' => (∃ p, v = .ref p) ∧ Q v H') E
def rOwnU (C : Addr) (sp : Sp) (E : XK) : V → Hp → VK → Prop := fun x H Q => ∃ a dx fs, x = .ref a ∧ H a = some (.ins C dx fs) ∧ sp [x] H Q E
section
variable {X : Cx} {CX : CXT} {k : Nat} {f C : Addr} {fd : FuncData} {sp : Sp} {E : XK}
theorem op_own {op : Operator} (O : Own X.K C f (PySem.dunder op.info.2)) (hc : W.selfFirst X.K C = true) (F : FnOk X.prog X.w X.K X.mg X.base CX k f fd ["self", "other"] sp) (hr : Room k X.A) (hb : Binds X.K fd ["self", "other"] []) (hx : Passes CX X E) :
    OpR X (binaryOp op) (rOwn C sp E) := by
  intro pins s σ H x y v u Q I rx ry h
  obtain ⟨a, b, dx, dy, fs, gs, rfl, rfl, ha, hbb, q⟩ := h
  cases (show v = Value.ref a from rx)
  cases (show u = Value.ref b from ry)
  obtain ⟨mA, Oa, _⟩ := ins_get I.hok ha
  obtain ⟨od, J, _⟩ := Oa.look
  obtain ⟨mB, Ob, _⟩ := ins_get I.hok hbb
  obtain ⟨od', J', _⟩ := Ob.look
  obtain ⟨m, Fm⟩ := I.fr
  refine W.binop_K Fm I.ok.mod.kin J J'.type hc O.at_ O.fn ?_
  refine wpAny_mono (run_fn (vs := [.ref a, .ref b]) F hr hb .nil hx I (.cons rfl (.cons rfl .nil)) q) (fun r s' z => ?_) fun _ _ z => z
  obtain ⟨w, H', I', rw', ⟨p, rfl⟩, q'⟩ := z
  cases (show r = Value.ref p from rw')
  exact ⟨.ref p, H', I', rfl, q'⟩
/-- the other one an INTEGER -/
structure OwnI (K : W.Frag) (C : Addr) (nm : String) : Prop where
  r : ∃ rc, W.findIn K (.ref C) (PySem.dunderR nm) = some rc ∧ (rc = none ∨ ∃ g : Addr, rc = some (.ref g))
  i : ∃ fo, W.findIn K (.type "int") (PySem.dunder nm) = some fo
  j : ∃ ro, W.findIn K (.type "int") (PySem.dunderR nm) = some ro
  s : W.subIn K (.type "int") (.ref C) = some false
theorem op_ownI {op : Operator} (O : Own X.K C f (PySem.dunder op.info.2)) (OI : OwnI X.K C op.info.2) (hc : W.selfFirst X.K C = true) (F : FnOk X.prog X.w X.K X.mg X.base CX k f fd ["self", "other"] sp) (hr : Room k X.A) (hb : Binds X.K fd ["self", "other"] []) (hx : Passes CX X E) :
    OpR X (binaryOp op) (rOwnI C sp E) := by
  intro pins s σ H x y v u Q I rx ry h
  obtain ⟨a, i, dx, fs, rfl, rfl, ha, q⟩ := h
  cases (show v = Value.ref a from rx)
  obtain ⟨t, rfl⟩ := (show ∃ t, u = Value.int i t from ry)
  obtain ⟨mA, Oa, _⟩ := ins_get I.hok ha
  obtain ⟨od, J, _⟩ := Oa.look
  obtain ⟨m, Fm⟩ := I.fr
  obtain ⟨rc, e1, e2⟩ := OI.r
  obtain ⟨fo, e3⟩ := OI.i
  obtain ⟨ro, e4⟩ := OI.j
  refine W.ksp_binT Fm I.ok.mod.kin J rfl hc O.at_ O.fn e1 e2 e3 e4 OI.s ?_
  refine wpAny_mono (run_fn (vs := [.ref a, .int i]) F hr hb .nil hx I (.cons rfl (.cons ⟨t, rfl⟩ .nil)) q) (fun r s' z => ?_) fun _ _ z => z
  obtain ⟨w, H', I', rw', ⟨p, rfl⟩, q'⟩ := z
  cases (show r = Value.ref p from rw')
  exact ⟨.ref p, H', I', rfl, q'⟩
theorem un_ownNeg (O : Own X.K C f "__neg__") (F : FnOk X.prog X.w X.K X.mg X.base CX k f fd ["self"] sp) (hr : Room k X.A) (hb : Binds X.K fd ["self"] []) (hx : Passes CX X E) : UnR X (unaryOp .USub) (rOwnU C sp E) := by
  intro pins s σ H x v Q I rx h
  obtain ⟨a, dx, fs, rfl, ha, q⟩ := h
  cases (show v = Value.ref a from rx)
  obtain ⟨mA, Oa, _⟩ := ins_get I.hok ha
  obtain ⟨od, J, _⟩ := Oa.look
  obtain ⟨m, Fm⟩ := I.fr
  exact W.ksp_neg Fm I.ok.mod.kin J O.at_ O.fn (run_fn (vs := [.ref a]) F hr hb .nil hx I (.cons rfl .nil) q)
end
end TW

set_option Elab.async false
set_option linter.all false
set_option maxRecDepth 100000
set_option maxHeartbeats 2000000
namespace TW
open PySem L2
/-! fractions: what a division by the common part, with the bottom's sign, brings -/
def comm (t b : Int) : Int := if b < 0 then -((Nat.gcd t.natAbs b.natAbs : Nat) : Int) else ((Nat.gcd t.natAbs b.natAbs : Nat) : Int)
theorem num_comm {t b : Int} (h : b ≠ 0) : t.fdiv (comm t b) = (Rat.divInt t b).num := by
  rw [Rat.num_divInt]
  have g : Int.gcd b t = Nat.gcd t.natAbs b.natAbs := Nat.gcd_comm _ _
  rw [g]
  unfold comm
  by_cases c : b < 0
  · rw [if_pos c, Int.sign_eq_neg_one_of_neg c]
    have e := Int.neg_fdiv_neg (-t) ((Nat.gcd t.natAbs b.natAbs : Nat) : Int)
    rw [Int.neg_neg] at e
    rw [e, Int.fdiv_eq_ediv_of_nonneg _ (Int.natCast_nonneg _)]
    congr 1
    omega
  · rw [if_neg c, Int.sign_eq_one_of_pos (by omega), Int.one_mul, Int.fdiv_eq_ediv_of_nonneg _ (Int.natCast_nonneg _)]
theorem den_comm {t b : Int} (h : b ≠ 0) : b.fdiv (comm t b) = ((Rat.divInt t b).den : Int) := by
  rw [Rat.den_divInt, if_neg h]
  have g : Int.gcd b t = Nat.gcd t.natAbs b.natAbs := Nat.gcd_comm _ _
  rw [g]
  unfold comm
  by_cases c : b < 0
  · rw [if_pos c]
    have e := Int.neg_fdiv_neg (b.natAbs : Int) ((Nat.gcd t.natAbs b.natAbs : Nat) : Int)
    have e2 : -(b.natAbs : Int) = b := by omega
    rw [e2] at e
    rw [e, ← Int.ofNat_fdiv]
  · rw [if_neg c]
    have e2 : (b.natAbs : Int) = b := by omega
    rw [← e2, ← Int.ofNat_fdiv]
    rw [Int.natAbs_natCast]
theorem comm_ne {t b : Int} (h : b ≠ 0) : comm t b ≠ 0 := by
  have : 0 < Nat.gcd t.natAbs b.natAbs := Nat.gcd_pos_of_pos_right _ (by omega)
  unfold comm
  split <;> omega
theorem comm_le {t b : Int} (h : b ≠ 0) : (comm t b).natAbs ≤ b.natAbs := by
  have := Nat.gcd_le_right t.natAbs (n := b.natAbs) (by omega)
  unfold comm
  split <;> omega
theorem log2_mono {m n : Nat} (h : m ≤ n) : m.log2 ≤ n.log2 := by
  by_cases z : m = 0
  · rw [z]
    exact Nat.zero_le _
  · exact (Nat.le_log2 (by omega)).2 (Nat.le_trans (Nat.log2_self_le z) h)
theorem rat_add (p q : Rat) : p + q = Rat.divInt (p.num * q.den + q.num * p.den) (p.den * q.den) := by
  have hp : (p.den : Int) ≠ 0 := Int.natCast_ne_zero.2 p.den_nz
  have hq : (q.den : Int) ≠ 0 := Int.natCast_ne_zero.2 q.den_nz
  have e := Rat.divInt_add_divInt p.num q.num hp hq
  rw [Rat.num_divInt_den, Rat.num_divInt_den] at e
  exact e
theorem rat_mul (p q : Rat) : p * q = Rat.divInt (p.num * q.num) (p.den * q.den) := by
  have e := Rat.divInt_mul_divInt p.num q.num (d₁ := p.den) (d₂ := q.den)
  rw [Rat.num_divInt_den, Rat.num_divInt_den] at e
  exact e
/-- // by any divisor of at most 9000 bits -/
def CDivS (_ j : Int) : Prop := j ≠ 0 ∧ j.natAbs.log2 < 9000
section
variable {X : Cx}
open PySem.Spec PyProof.Rows in
theorem op_fdivS : OpR X (binaryOp .FloorDiv) (rI CDivS fun i j => .int (i.fdiv j)) := opI fun _ _ _ _ _ _ _ hc q => floordiv_int hc.1 q (.inl (PyProof.noPylong_of_log2 hc.2))
end
/-- the instance of C at a is the fraction q -/
def RatAt (C : Addr) (H : Hp) (a : Addr) (q : Rat) : Prop := ∃ dx fs, H a = some (.ins C dx fs) ∧ fs.lookup ("_top" : Str) = some (V.int q.num) ∧ fs.lookup ("_bottom" : Str) = some (V.int q.den) ∧ ∀ m : Str, m ≠ "_top" → m ≠ "_bottom" → fs.lookup m = none
theorem RatAt.same {C : Addr} {H H' : Hp} {a : Addr} {q : Rat} (s : Same H H') (h : RatAt C H a q) : RatAt C H' a q := by
  obtain ⟨dx, fs, e, t, b, z⟩ := h
  exact ⟨dx, fs, s _ _ e, t, b, z⟩
/-- a NUMBER and its worth -/
def NumAt (C : Addr) (H : Hp) (x : V) (q : Rat) : Prop := (∃ i : Int, x = .int i ∧ q = (i : Rat)) ∨ ∃ a, x = .ref a ∧ RatAt C H a q
theorem NumAt.same {C : Addr} {H H' : Hp} {x : V} {q : Rat} (s : Same H H') (h : NumAt C H x q) : NumAt C H' x q := h.elim .inl fun ⟨a, e, r⟩ => .inr ⟨a, e, r.same s⟩
/-- so many bits at most, above and below -/
def Bits (n : Nat) (q : Rat) : Prop := q.num.natAbs < 2 ^ n ∧ q.den < 2 ^ n
theorem Bits.mono {n m : Nat} {q : Rat} (h : Bits n q) (hm : n ≤ m) : Bits m q := ⟨Nat.lt_of_lt_of_le h.1 (Nat.pow_le_pow_right (by decide) hm), Nat.lt_of_lt_of_le h.2 (Nat.pow_le_pow_right (by decide) hm)⟩
theorem divInt_bits {n : Nat} {t b : Int} (h : b ≠ 0) (ht : t.natAbs < 2 ^ n) (hb : b.natAbs < 2 ^ n) : Bits n (Rat.divInt t b) := by
  refine ⟨?_, ?_⟩
  · rw [Rat.num_divInt]
    refine Nat.lt_of_le_of_lt (Int.natAbs_ediv_le_natAbs _ _) (Nat.lt_of_le_of_lt ?_ ht)
    rw [Int.natAbs_mul]
    have : b.sign.natAbs = 1 := Int.natAbs_sign_of_ne_zero h
    rw [this]
    omega
  · rw [Rat.den_divInt, if_neg h]
    exact Nat.lt_of_le_of_lt (Nat.div_le_self _ _) hb
theorem lt_log2 {x n : Nat} (h : x < 2 ^ n) (hn : 0 < n) : x.log2 < n := by
  by_cases z : x = 0
  · rw [z]
    exact hn
  · exact (Nat.log2_lt z).2 h
theorem pow_mul_lt {x y a b : Nat} (hx : x < 2 ^ a) (hy : y < 2 ^ b) : x * y < 2 ^ (a + b) := by
  rw [Nat.pow_add]
  rcases Nat.eq_zero_or_pos y with z | z
  · rw [z, Nat.mul_zero]
    exact Nat.mul_pos (Nat.pow_pos (by decide)) (Nat.pow_pos (by decide))
  · exact Nat.lt_of_lt_of_le (Nat.mul_lt_mul_of_pos_right hx z) (Nat.mul_le_mul_left _ (Nat.le_of_lt hy))
theorem bits_add {n m : Nat} {p q : Rat} (hp : Bits n p) (hq : Bits m q) : Bits (n + m + 1) (p + q) := by
  rw [rat_add]
  have d : (p.den : Int) * q.den ≠ 0 := Int.mul_ne_zero (Int.natCast_ne_zero.2 p.den_nz) (Int.natCast_ne_zero.2 q.den_nz)
  refine divInt_bits d ?_ ?_
  · have h1 : (p.num * q.den).natAbs < 2 ^ (n + m) := by
      rw [Int.natAbs_mul, Int.natAbs_natCast]
      exact pow_mul_lt hp.1 hq.2
    have h2 : (q.num * p.den).natAbs < 2 ^ (n + m) := by
      rw [Int.natAbs_mul, Int.natAbs_natCast, Nat.add_comm]
      exact pow_mul_lt hq.1 hp.2
    have h3 := Int.natAbs_add_le (p.num * q.den) (q.num * p.den)
    have h4 : 2 ^ (n + m + 1) = 2 ^ (n + m) * 2 := Nat.pow_succ ..
    omega
  · rw [Int.natAbs_mul, Int.natAbs_natCast, Int.natAbs_natCast]
    have := pow_mul_lt hp.2 hq.2
    have h4 : 2 ^ (n + m + 1) = 2 ^ (n + m) * 2 := Nat.pow_succ ..
    omega
theorem bits_mul {n m : Nat} {p q : Rat} (hp : Bits n p) (hq : Bits m q) : Bits (n + m) (p * q) := by
  rw [rat_mul]
  have d : (p.den : Int) * q.den ≠ 0 := Int.mul_ne_zero (Int.natCast_ne_zero.2 p.den_nz) (Int.natCast_ne_zero.2 q.den_nz)
  refine divInt_bits d ?_ ?_
  · rw [Int.natAbs_mul]
    exact pow_mul_lt hp.1 hq.1
  · rw [Int.natAbs_mul, Int.natAbs_natCast, Int.natAbs_natCast]
    exact pow_mul_lt hp.2 hq.2
end TW

set_option Elab.async false
set_option linter.all false
set_option maxRecDepth 100000
set_option maxHeartbeats 2000000
namespace TW
open PySem L2
/-! an int on the left, an instance on the right -/
section
variable {prog : Program} {w : World} {A : Around} {E : Value → Shared → Prop} {s : Shared} {i : Int} {t : Tok} {x C dx : Addr}
theorem asInt_inst {Q : Option Int → Shared → Prop} (hx : s.heap.get? x = some (W.instObj C dx)) (q : Q none s) : wpAny (model prog w) A (asInt? (.ref x)) Q E s := by
  unfold asInt?
  refine wpAny_bind ?_
  refine (W.Looks.ld (part := none) hx) A _ E s (fun _ _ e => e) ?_
  exact wpAny_pure q
theorem intBin_no {nm : String} {f : Int → Int → Sem Fin} {Q : Fin → Shared → Prop} (hx : s.heap.get? x = some (W.instObj C dx)) (q : Q (.done (.ret .notImplemented)) s) :
    wpAny (model prog w) A (Builtin.Int.intBinary nm f false { pos := [.int i t, .ref x] }) Q E s := by
  unfold Builtin.Int.intBinary
  refine wpAny_bind ?_
  refine wpAny_mono (Q := fun r s' => r = (Value.int i t, [Value.ref x]) ∧ s' = s) (E := E) ?_ (fun r s' h => ?_) fun _ _ z => z
  · exact wpAny_pure ⟨rfl, rfl⟩
  obtain ⟨rfl, rfl⟩ := h
  refine wpAny_bind ?_
  refine wpAny_mono (Q := fun r s'' => s'' = s') (E := E) ?_ (fun r s'' h => ?_) fun _ _ z => z
  · exact wpAny_pure rfl
  subst h
  refine wpAny_bind ?_
  refine asInt_inst hx ?_
  refine wpAny_bind (wpAny_rule ?_)
  exact wpAny_pure q
theorem add_no {Q : Value → Shared → Prop} (hx : s.heap.get? x = some (W.instObj C dx)) (q : Q .notImplemented s) : wpAny (model prog w) A (call (.builtin "int.__add__") [.int i t, .ref x]) Q E s :=
  wpAny_call_entry F.slot_int_add rfl F.entry_int_add (intBin_no hx ⟨_, rfl, q⟩)
theorem sub_no {Q : Value → Shared → Prop} (hx : s.heap.get? x = some (W.instObj C dx)) (q : Q .notImplemented s) : wpAny (model prog w) A (call (.builtin "int.__sub__") [.int i t, .ref x]) Q E s :=
  wpAny_call_entry F.slot_int_sub rfl F.entry_int_sub (intBin_no hx ⟨_, rfl, q⟩)
theorem mul_no {Q : Value → Shared → Prop} (hx : s.heap.get? x = some (W.instObj C dx)) (q : Q .notImplemented s) : wpAny (model prog w) A (call (.builtin "int.__mul__") [.int i t, .ref x]) Q E s :=
  wpAny_call_entry F.slot_int_mul rfl F.entry_int_mul (intBin_no hx ⟨_, rfl, q⟩)
theorem bin1_refl {K : W.Frag} {od : Obj} {nm id : String} {f g : Addr} {fo ro : Option Value} {Q : Value → Shared → Prop} (hK : K.In s.heap) (hx : s.heap.get? x = some (W.instObj C dx)) (J : W.InstAt s.heap x (W.instObj C dx) C (some od)) (hf : W.selfFirst K C = true)
    (hl : W.findIn K (.ref C) (dunder nm) = some (some (.ref g))) (hr : W.findIn K (.ref C) (dunderR nm) = some (some (.ref f))) (fn : W.isFn K (.ref f) = true)
    (hi : W.findIn K (.type "int") (dunder nm) = some fo) (hj : W.findIn K (.type "int") (dunderR nm) = some ro) (hb : (fo.isSome && !isSeqSlot fo || ro.isSome && !isSeqSlot ro) = true) (sub : W.subIn K (.ref C) (.type "int") = some false)
    (slot : Slot "int" (dunder nm) id) (no : ∀ {A : Around} {s : Shared} {Q : Value → Shared → Prop}, s.heap.get? x = some (W.instObj C dx) → Q .notImplemented s → wpAny (model prog w) A (call (.builtin id) [.int i t, .ref x]) Q E s)
    (h : wpAny (model prog w) A (call (.ref f) [.ref x, .int i t]) (W.CmpBack Q) E s) : wpAny (model prog w) A (binaryOp1 nm (.int i t) (.ref x)) (fun r s' => ∃ v, r = some v ∧ Q v s') E s := by
  obtain ⟨cd, rest, h1, h2⟩ := W.ksp_first hf
  have id' : ∀ (b : Addr) (o : Obj), s.heap.get? b = some o → s.heap.get? b = some o := fun _ _ e => e
  unfold binaryOp1
  refine wpAny_bind (wpAny_pure (a := Value.type "int") ?_)
  refine wpAny_bind (J.type A _ E s id' ?_)
  refine wpAny_bind (W.ksp_fillsT hK hi hj A _ E s id' ?_)
  rw [hb]
  dsimp only
  have e0 : (Value.type "int" == Value.ref C) = false := rfl
  rw [e0, if_neg Bool.false_ne_true]
  refine wpAny_bind (W.fills_K hK h1 h2 hl A _ E s id' ?_)
  simp only [Bool.and_self, Bool.not_false, Bool.and_true, Bool.true_and, ↓reduceIte, Bool.false_eq_true]
  refine wpAny_bind (W.looks_subIn hK sub A _ E s id' ?_)
  simp only [Bool.and_self, Bool.not_false, Bool.and_true, Bool.true_and, ↓reduceIte, Bool.false_eq_true]
  refine wpAny_bind (wpAny_pure (a := false) ?_)
  simp only [Bool.and_self, Bool.not_false, Bool.and_true, Bool.true_and, ↓reduceIte, Bool.false_eq_true]
  refine wpAny_bind (wpAny_tryMethod_declines rfl slot (no hx ⟨rfl, ?_⟩))
  dsimp only
  refine wpAny_bind (wpAny_mono (W.ksp_try hK J hr fn h) (fun r s' z => ?_) fun _ _ z => z)
  obtain ⟨v, rfl, q⟩ := z
  exact wpAny_bind (wpAny_rule (wpAny_pure ⟨v, rfl, q⟩))
/-- int op instance, by the class's own reflected method -/
theorem bin_refl {K : W.Frag} {od : Obj} {op : Operator} {id : String} {f g : Addr} {fo ro : Option Value} {Q : Value → Shared → Prop} (hK : K.In s.heap) (hx : s.heap.get? x = some (W.instObj C dx)) (J : W.InstAt s.heap x (W.instObj C dx) C (some od)) (hf : W.selfFirst K C = true)
    (hl : W.findIn K (.ref C) (dunder op.info.2) = some (some (.ref g))) (hr : W.findIn K (.ref C) (dunderR op.info.2) = some (some (.ref f))) (fn : W.isFn K (.ref f) = true)
    (hi : W.findIn K (.type "int") (dunder op.info.2) = some fo) (hj : W.findIn K (.type "int") (dunderR op.info.2) = some ro) (hb : (fo.isSome && !isSeqSlot fo || ro.isSome && !isSeqSlot ro) = true) (sub : W.subIn K (.ref C) (.type "int") = some false)
    (slot : Slot "int" (dunder op.info.2) id) (no : ∀ {A : Around} {s : Shared} {Q : Value → Shared → Prop}, s.heap.get? x = some (W.instObj C dx) → Q .notImplemented s → wpAny (model prog w) A (call (.builtin id) [.int i t, .ref x]) Q E s)
    (h : wpAny (model prog w) A (call (.ref f) [.ref x, .int i t]) (W.CmpBack Q) E s) : wpAny (model prog w) A (binaryOp op (.int i t) (.ref x)) Q E s := by
  unfold binaryOp
  refine wpAny_holding ?_
  dsimp only
  refine wpAny_bind (wpAny_mono (bin1_refl hK hx J hf hl hr fn hi hj hb sub slot no h) (fun r s' z => ?_) fun _ _ z => z)
  obtain ⟨v, rfl, q⟩ := z
  exact wpAny_pure q
end
end TW

set_option Elab.async false
set_option linter.all false
set_option maxRecDepth 100000
set_option maxHeartbeats 2000000
namespace TW
open PySem L2
section
variable {prog : Program} {w : World} {A : Around} {E : Value → Shared → Prop} {s : Shared} {i : Int} {t : Tok} {x C dx : Addr}
theorem eq_no {Q : Value → Shared → Prop} (hx : s.heap.get? x = some (W.instObj C dx)) (q : Q .notImplemented s) : wpAny (model prog w) A (call (.builtin "int.__eq__") [.int i t, .ref x]) Q E s :=
  wpAny_call_entry F.slot_int_eq rfl F.entry_int_eq (intBin_no (nm := "__eq__") (f := fun x y => ret (Value.bool (x == y))) hx ⟨_, rfl, q⟩)
/-- int == instance, by the class's own __eq__ -/
theorem eq_refl_own {K : W.Frag} {od : Obj} {f : Addr} {Q : Value → Shared → Prop} (hu : A.units < cLine) (hK : K.In s.heap) (hx : s.heap.get? x = some (W.instObj C dx)) (J : W.InstAt s.heap x (W.instObj C dx) C (some od))
    (he : W.findIn K (.ref C) "__eq__" = some (some (.ref f))) (fn : W.isFn K (.ref f) = true) (sub : W.subIn K (.ref C) (.type "int") = some false)
    (h : wpAny (model prog w) A (call (.ref f) [.ref x, .int i t]) (W.CmpBack Q) E s) : wpAny (model prog w) A (richCompare .Eq (.int i t) (.ref x)) Q E s := by
  have id' : ∀ (b : Addr) (o : Obj), s.heap.get? b = some o → s.heap.get? b = some o := fun _ _ e => e
  unfold richCompare
  refine wpAny_holding (wpAny_bind (wpAny_cRoomFor hu ?_))
  refine wpAny_bind (wpAny_pure (a := Value.type "int") ?_)
  refine wpAny_bind (J.type A _ E s id' ?_)
  have e0 : (Value.type "int" != Value.ref C) = true := rfl
  dsimp only
  rw [e0]
  simp only [↓reduceIte]
  refine wpAny_bind (W.looks_subIn hK sub A _ E s id' ?_)
  simp only [Bool.and_self, Bool.not_false, Bool.and_true, Bool.true_and, ↓reduceIte, Bool.false_eq_true]
  refine wpAny_bind (wpAny_tryCompare_declines rfl F.slot_int_eq (eq_no hx ⟨rfl, ?_⟩))
  dsimp only
  refine wpAny_bind ?_
  unfold tryCompare
  refine wpAny_bind (W.ifBound_K hK J he fn (wpAny_mono h (fun r s' z => ?_) fun _ _ z => z))
  cases r <;> first | exact False.elim z | exact wpAny_pure (wpAny_pure z)
end
/-- an own method run at another Around -/
theorem own_run {X : Cx} {H : Hp} {f : Addr} {k : Nat} {fd : FuncData} {ps : List Str} {sp : Sp} {A : Around} {pins : List (Addr × Obj)} {σ : L2.St} {s : Shared} {E : Value → Shared → Prop} {Q : Value → Shared → Prop} {us : List Value} {vs : List V} {Q' : VK}
    (F : FnOk X.prog X.w X.K X.mg X.base L2.CX0 k f fd ps sp) (hb : Binds X.K fd ps []) (h : sp vs H Q' fun _ _ _ => False) (I : Inv X pins σ H s) (hv : Vals vs us) (hl : us.length = ps.length) (hf : A.frames = some X.stack) (hr : Room k A)
    (hQ : ∀ v u s' H', Inv X pins σ H' s' → RelV v u → Q' v H' → Q u s') : wpAny (model X.prog X.w) A (call (.ref f) us) Q E s := by
  refine wpAny_call (codeAny_mono (F.run A X.stack s H ⟨us, []⟩ us vs Q' (fun _ _ _ => False) hr { I.env0 with frames := hf } (by
    have z := hb s us I.kIn (by rw [List.append_nil]; exact hl)
    simpa using z) hv h) fun r s' h => ?_)
  cases r with
  | error e => exact False.elim h
  | ok fl =>
    cases fl with
    | ret u =>
      obtain ⟨v, H', I3, rv, q⟩ := I.after h
      exact hQ v u s' H' I3 rv q
    | next => exact False.elim h
    | brk => exact False.elim h
    | cont => exact False.elim h
def rOwnEq (C : Addr) (sp : Sp) : R2 := fun x y H Q => ∃ a dx fs, x = .ref a ∧ H a = some (.ins C dx fs) ∧ ((∃ i, y = .int i) ∨ ∃ b dy gs, y = .ref b ∧ H b = some (.ins C dy gs)) ∧ sp [x, y] H (fun v H' => ∃ c, v = .bl c ∧ Q (.bl c) H') fun _ _ _ => False
def rEqOwnR (C : Addr) (sp : Sp) : R2 := fun x y H Q => ∃ i a dx fs, x = .int i ∧ y = .ref a ∧ H a = some (.ins C dx fs) ∧ sp [y, x] H (fun v H' => ∃ c, v = .bl c ∧ Q (.bl c) H') fun _ _ _ => False
def rOwnNe (C : Addr) (sp : Sp) : R2 := fun x y H Q => ∃ a dx fs b dy gs, x = .ref a ∧ H a = some (.ins C dx fs) ∧ y = .ref b ∧ H b = some (.ins C dy gs) ∧ sp [x, y] H (fun v H' => ∃ c, v = .bl c ∧ Q (.bl !c) H') fun _ _ _ => False
/-- what the class's own __eq__, without a __ne__, wants -/
structure NeK (K : W.Frag) (C f : Addr) : Prop where
  ex : ∃ nm q N bs hd sn sub ab col dd k0 k1 k2 k3 k5 ni oc od es ep sl y of, K.lookup C = some (excClassObj nm q C N bs [.type "object"] hd sn sub ab col dd k0 k1 k2 k3 k5 ni) ∧ K.lookup N = some ⟨oc, od, .dict es ep, sl⟩ ∧ StrKeys es ∧
    nsFind es "__eq__" = some (.ref f) ∧ nsFind es "__ne__" = none ∧ K.lookup f = some of ∧ of.cls = .type "function" ∧ mroOf (.type "object") = pure [.type "object"] ∧ typeLookup (.type "object") "__eq__" = pure y
section
variable {X : Cx} {k : Nat} {f C : Addr} {fd : FuncData} {sp : Sp}
theorem op_eqOwn (O : Own X.K C f "__eq__") (si : W.subIn X.K (.type "int") (.ref C) = some false) (F : FnOk X.prog X.w X.K X.mg X.base L2.CX0 k f fd ["self", "other"] sp) (hr : Room k X.A) (hb : Binds X.K fd ["self", "other"] []) : OpR X (compareOp .Eq) (rOwnEq C sp) := by
  intro pins s σ H x y v u Q I rx ry h
  obtain ⟨a, dx, fs, rfl, ha, hy, q⟩ := h
  cases (show v = Value.ref a from rx)
  obtain ⟨mA, Oa, _⟩ := ins_get I.hok ha
  obtain ⟨od, J, _⟩ := Oa.look
  obtain ⟨m, Fm⟩ := I.fr
  have go : ∀ tb : Value, W.Looks (model X.prog X.w) s.heap (typeOf u) tb → W.notFirst X.K C tb = true → wpAny (model X.prog X.w) X.A (compareOp .Eq (.ref a) u) (EP X pins σ Q) X.xe s := fun tb hl hn => by
    refine W.cmp_ofEq (W.cmp_K (by have := hr.un; omega) Fm I.ok.mod.kin J hl hn O.at_ O.fn ?_)
    refine own_run F hb q I (.cons rfl (.cons ry .nil)) rfl I.ok.frames hr fun v u s' H' I' r z => ?_
    obtain ⟨c, rfl, z⟩ := z
    cases (show u = Value.bool c from r)
    exact ⟨.bl c, H', I', rfl, z⟩
  rcases hy with ⟨i, rfl⟩ | ⟨b, dy, gs, rfl, hb'⟩
  · obtain ⟨t, rfl⟩ := (show ∃ t, u = Value.int i t from ry)
    refine go (.type "int") (W.Looks.of_pure rfl) ?_
    unfold W.notFirst
    rw [si]
    rfl
  · cases (show u = Value.ref b from ry)
    obtain ⟨mB, Ob, _⟩ := ins_get I.hok hb'
    obtain ⟨od', J', _⟩ := Ob.look
    refine go (.ref C) J'.type ?_
    unfold W.notFirst
    simp
theorem op_eqOwnR (O : Own X.K C f "__eq__") (sc : W.subIn X.K (.ref C) (.type "int") = some false) (F : FnOk X.prog X.w X.K X.mg X.base L2.CX0 k f fd ["self", "other"] sp) (hr : Room k X.A) (hb : Binds X.K fd ["self", "other"] []) : OpR X (compareOp .Eq) (rEqOwnR C sp) := by
  intro pins s σ H x y v u Q I rx ry h
  obtain ⟨i, a, dx, fs, rfl, rfl, ha, q⟩ := h
  cases (show u = Value.ref a from ry)
  obtain ⟨t, rfl⟩ := (show ∃ t, v = Value.int i t from rx)
  obtain ⟨mA, Oa, _⟩ := ins_get I.hok ha
  obtain ⟨od, J, _⟩ := Oa.look
  refine W.cmp_ofEq (eq_refl_own (by have := hr.un; omega) I.kIn Oa.obj J O.at_ O.fn sc ?_)
  refine own_run F hb q I (.cons rfl (.cons ⟨t, rfl⟩ .nil)) rfl I.ok.frames hr fun v u s' H' I' r z => ?_
  obtain ⟨c, rfl, z⟩ := z
  cases (show u = Value.bool c from r)
  exact ⟨.bl c, H', I', rfl, z⟩
theorem op_neOwn (N : NeK X.K C f) (F : FnOk X.prog X.w X.K X.mg X.base L2.CX0 k f fd ["self", "other"] sp) (hr : Room (k + 1) X.A) (hb : Binds X.K fd ["self", "other"] []) : OpR X (compareOp .NotEq) (rOwnNe C sp) := by
  intro pins s σ H x y v u Q I rx ry h
  obtain ⟨a, dx, fs, b, dy, gs, rfl, ha, rfl, hb', q⟩ := h
  cases (show v = Value.ref a from rx)
  cases (show u = Value.ref b from ry)
  obtain ⟨mA, Oa, _⟩ := ins_get I.hok ha
  obtain ⟨mB, Ob, _⟩ := ins_get I.hok hb'
  obtain ⟨nm, qn, N', bs, hd, sn, sub, ab, col, dd, k0, k1, k2, k3, k5, ni, oc, od, es, ep, sl, y, of, lC, lN, sk, n1, n2, lf, cf, mo, tl⟩ := N.ex
  have kin := I.kIn
  have own : s.heap.OwnEqNoNe a C f "object" [.type "object"] := ⟨_, of, nm, qn, N', bs, hd, sn, sub, ab, col, dd, k0, k1, k2, k3, k5, ni, _, y, Oa.obj, rfl, kin _ _ lC, ⟨_, es, ep, kin _ _ lN, rfl, sk, fun _ => rfl⟩, n1, kin _ _ lf, cf, mo, tl, n2⟩
  refine compareOp_ne_ownEq PySem.F.cmp_object own Ob.obj rfl ?_ ?_
  · have := hr.un
    omega
  · refine own_run F hb q I (.cons rfl (.cons rfl .nil)) rfl I.ok.frames hr.in1 fun v u s' H' I' r z => ?_
    obtain ⟨c, rfl, z⟩ := z
    cases (show u = Value.bool c from r)
    exact ⟨c, rfl, .bl !c, H', I', rfl, z⟩
end
end TW

set_option Elab.async false
set_option linter.all false
set_option maxRecDepth 100000
set_option maxHeartbeats 2000000
namespace TW
open PySem L2
def tMethN (C : Addr) (m : Str) (n : Nat) (sp : Sp) (gV : List V → List V → List V) (E : XK) (ta : TE) (tk : TA) : TE := fun σ H Q => ta σ H fun x H1 => ∃ a dx fs, x = .ref a ∧ H1 a = some (.ins C dx fs) ∧ fs.lookup m = none ∧ tk σ H1 fun zs H2 => zs.length = n ∧ sp (gV [x] zs) H2 Q E
section
variable {X : Cx} {CX : CXT} {k : Nat} {f C : Addr} {fd : FuncData} {ps ks : List Str} {sp : Sp} {E : XK} {m : Str} {apos pos : Pos} {o : Expr} {ta : TE} {kws : List Keyword} {tk : TA} {g : List Value → List Value → List Value} {gV : List V → List V → List V} {pl : Sem Bool}
/-- o.m(k = v) -/
theorem pe_methN0 (ho : PE X o ta) (c : Cls X.K C) (hm : Meth X.K C m f) (F : FnOk X.prog X.w X.K X.mg X.base CX k f fd ps sp) (hr : Room k X.A) (hb : KBn X.K fd ps 1 ks g gV) (hx : Passes CX X E) (hkw : PK X kws tk)
    (hall : (backToKw pos (keywordEach kws X.env)).all (·.1.isSome) = true := by rfl) (hks : (backToKw pos (keywordEach kws X.env)).filterMap (·.1) = ks := by rfl)
    (hpl : ((backTo pos (starEach [] X.env)).any (·.1) || (backToKw pos (keywordEach kws X.env)).any (·.1.isNone)) = false := by rfl)
    (hev : eval (.Call (.Attribute o m apos) [] kws pos) X.env = (do
      let ov ← eval o X.env
      standAt apos.atName
      let (f, first) ← holding [ov] (getMethod ov m pl)
      callWith pos f first (backTo pos (starEach [] X.env)) (backToKw pos (keywordEach kws X.env))) := by rfl) :
    PE X (.Call (.Attribute o m apos) [] kws pos) (tMethN C m ks.length sp gV E ta tk) := by
  refine ⟨fun pins s σ H Q I h => ?_⟩
  refine W.methodCall_KW (pl := pl) (thn (ho.run pins s σ H _ I h) fun ov s1 ⟨v, H1, I1, r1, q1⟩ => ?_) hev
  obtain ⟨a, dx, fs, rfl, ha, hl, q1⟩ := q1
  cases (show ov = Value.ref a from r1)
  refine getmeth_ok I1 ha c hm hl ?_
  refine W.callWith_KW0 (h₀ := X.base) I1.ok.mod.kin hm.kp hall ?_ hpl
  refine thn (hkw.run pos pins s1 σ H1 _ I1 q1) fun ws s2 ⟨zs, H2, I2, rz, l1, q2⟩ => ⟨I2.kIn, ?_⟩
  rw [hks]
  exact run_fnN F hr hb hx I2 (show Vals [V.ref a] [Value.ref a] from .cons rfl .nil) rz rfl l1 q2
end
/-- str(x), x of a class with a __str__ of its own -/
def rStrOwn (C : Addr) (sp : Sp) : List V → Hp → VK → Prop := fun xs H Q => ∃ a dx fs, xs = [.ref a] ∧ H a = some (.ins C dx fs) ∧ sp [.ref a] H (fun v H' => ∃ z, v = .str z ∧ Q (.str z) H') fun _ _ _ => False
theorem call_strOwn {X : Cx} {k : Nat} {f C : Addr} {fd : FuncData} {sp : Sp} (O : Own X.K C f "__str__") (F : FnOk X.prog X.w X.K X.mg X.base L2.CX0 k f fd ["self"] sp) (hr : Room (k + 2) X.A) (hb : Binds X.K fd ["self"] []) : CallR X (.type "str") (rStrOwn C sp) := by
  intro pins s σ H xs us Q I r h
  obtain ⟨a, dx, fs, rfl, ha, q⟩ := h
  obtain ⟨u, rfl, ru⟩ := vals1 r
  cases (show u = Value.ref a from ru)
  obtain ⟨mA, Oa, _⟩ := ins_get I.hok ha
  obtain ⟨od, J, _⟩ := Oa.look
  refine W.kso_call (by have := hr.in1.in1.un; omega) I.kIn J O.at_ O.fn ?_
  refine own_run F hb q I (.cons rfl .nil) rfl I.ok.frames hr.in1.in1 fun v u s' H' I' r z => ?_
  obtain ⟨c, rfl, z⟩ := z
  obtain ⟨tk, rfl⟩ := (show ∃ tk, u = Value.str c tk from r)
  exact ⟨.str c, H', I', ⟨tk, rfl⟩, z⟩
/-! an int on the left of + - * -/
structure OwnR (K : W.Frag) (C f : Addr) (nm : String) : Prop where
  l : ∃ g : Addr, W.findIn K (.ref C) (dunder nm) = some (some (.ref g))
  r : W.findIn K (.ref C) (dunderR nm) = some (some (.ref f))
  fn : W.isFn K (.ref f) = true
  i : ∃ fo ro, W.findIn K (.type "int") (dunder nm) = some fo ∧ W.findIn K (.type "int") (dunderR nm) = some ro ∧ (fo.isSome && !isSeqSlot fo || ro.isSome && !isSeqSlot ro) = true
  s : W.subIn K (.ref C) (.type "int") = some false
  first : W.selfFirst K C = true
/-- int's own method declines -/
structure IntNo (nm id : String) : Prop where
  slot : Slot "int" (dunder nm) id
  no : ∀ {prog : Program} {w : World} {A : Around} {E : Value → Shared → Prop} {s : Shared} {i : Int} {t : Tok} {x C dx : Addr} {Q : Value → Shared → Prop}, s.heap.get? x = some (W.instObj C dx) → Q .notImplemented s → wpAny (model prog w) A (call (.builtin id) [.int i t, .ref x]) Q E s
theorem no_add : IntNo "add" "int.__add__" := ⟨PySem.F.slot_int_add, add_no⟩
theorem no_sub : IntNo "sub" "int.__sub__" := ⟨PySem.F.slot_int_sub, sub_no⟩
theorem no_mul : IntNo "mul" "int.__mul__" := ⟨PySem.F.slot_int_mul, mul_no⟩
def rOwnR (C : Addr) (sp : Sp) : R2 := fun x y H Q => ∃ i a dx fs, x = .int i ∧ y = .ref a ∧ H a = some (.ins C dx fs) ∧ sp [y, x] H (fun v H' => (∃ p, v = .ref p) ∧ Q v H') fun _ _ _ => False
theorem op_ownR {X : Cx} {k : Nat} {f C : Addr} {fd : FuncData} {sp : Sp} {op : Operator} {id : String} (O : OwnR X.K C f op.info.2) (N : IntNo op.info.2 id) (F : FnOk X.prog X.w X.K X.mg X.base L2.CX0 k f fd ["self", "other"] sp) (hr : Room k X.A) (hb : Binds X.K fd ["self", "other"] []) :
    OpR X (binaryOp op) (rOwnR C sp) := by
  intro pins s σ H x y v u Q I rx ry h
  obtain ⟨i, a, dx, fs, rfl, rfl, ha, q⟩ := h
  cases (show u = Value.ref a from ry)
  obtain ⟨t, rfl⟩ := (show ∃ t, v = Value.int i t from rx)
  obtain ⟨mA, Oa, _⟩ := ins_get I.hok ha
  obtain ⟨od, J, _⟩ := Oa.look
  obtain ⟨g, hl⟩ := O.l
  obtain ⟨fo, ro, i1, i2, i3⟩ := O.i
  refine bin_refl I.kIn Oa.obj J O.first hl O.r O.fn i1 i2 i3 O.s N.slot (fun hx q => N.no hx q) ?_
  refine own_run F hb q I (.cons rfl (.cons ⟨t, rfl⟩ .nil)) rfl I.ok.frames hr fun v u s' H' I' r z => ?_
  obtain ⟨⟨p, rfl⟩, z⟩ := z
  cases (show u = Value.ref p from r)
  exact ⟨.ref p, H', I', rfl, z⟩
end TW

set_option Elab.async false
set_option linter.all false
set_option maxRecDepth 100000
set_option maxHeartbeats 2000000
namespace TW
open PySem L2
theorem unpin {X : Cx} {pins : List (Addr × Obj)} {p : Addr × Obj} {σ : L2.St} {H : Hp} {s : Shared} (I : Inv X (p :: pins) σ H s) : Inv X pins σ H s :=
  { I with pin := fun q hq => I.pin q (by
      rcases List.mem_append.1 hq with h | h
      · exact List.mem_append_left _ h
      · exact List.mem_append_right _ (List.mem_cons_of_mem _ h)) }
def tCMethN (C : Addr) (n : Nat) (sp : Sp) (gV : List V → List V → List V) (ta : TE) (tk : TA) : TE := fun σ H Q => ta σ H fun x H1 => x = .ref C ∧ tk σ H1 fun zs H2 => zs.length = n ∧ sp (gV [.ref C] zs) H2 Q fun _ _ _ => False
section
variable {X : Cx} {k : Nat} {p g C : Addr} {fd : FuncData} {ps ks : List Str} {sp : Sp} {m : Str} {mc : Value} {apos pos : Pos} {o : Expr} {ta : TE} {kws : List Keyword} {tk : TA} {gg : List Value → List Value → List Value} {gV : List V → List V → List V} {pl : Sem Bool}
/-- C.m(k = v), m a class method -/
theorem pe_cmethN0 (ho : PE X o ta) (cr : ClX.CRead X.K C mc) (cm : ClX.CMet X.K C mc m p g) (F : FnOk X.prog X.w X.K X.mg X.base L2.CX0 k g fd ps sp) (hr : Room k X.A) (hb : KBn X.K fd ps 1 ks gg gV) (hkw : PK X kws tk)
    (hall : (backToKw pos (keywordEach kws X.env)).all (·.1.isSome) = true := by rfl) (hks : (backToKw pos (keywordEach kws X.env)).filterMap (·.1) = ks := by rfl)
    (hpl : ((backTo pos (starEach [] X.env)).any (·.1) || (backToKw pos (keywordEach kws X.env)).any (·.1.isNone)) = false := by rfl)
    (hst : backTo pos (starEach [] X.env) = [] := by rfl)
    (hev : eval (.Call (.Attribute o m apos) [] kws pos) X.env = (do
      let ov ← eval o X.env
      standAt apos.atName
      let (f, first) ← holding [ov] (getMethod ov m pl)
      callWith pos f first (backTo pos (starEach [] X.env)) (backToKw pos (keywordEach kws X.env))) := by rfl) :
    PE X (.Call (.Attribute o m apos) [] kws pos) (tCMethN C ks.length sp gV ta tk) := by
  refine ⟨fun pins s σ H Q I h => ?_⟩
  refine W.methodCall_KW (pl := pl) (thn (ho.run pins s σ H _ I h) fun ov s1 ⟨v, H1, I1, r1, q1⟩ => ?_) hev
  obtain ⟨rfl, q1⟩ := q1
  cases (show ov = Value.ref C from r1)
  refine ClX.getmethcm_ok I1 cr cm fun s2 I2 => ?_
  refine callwith_met (a := C) hpl cm.fi ?_
  rw [hst]
  unfold evalArgs
  refine wpAny_bind (wpAny_pure (a := ([] : List Value)) ?_)
  refine wpAny_bind (wpAny_pure (a := (([] : List Value), (none : Option Value))) ?_)
  refine wpAny_holding ?_
  rw [if_pos hall]
  refine wpAny_bind (thn (hkw.run pos _ s2 σ H1 _ I2 q1) fun ws s3 ⟨zs, H3, I3, rz, l1, q2⟩ => ?_)
  rw [hks]
  refine wpAny_bind (wpAny_pure (a := ([] : List Value)) ?_)
  refine wpAny_pure ?_
  have pin := (I3.pin (_, W.methodObj (Value.ref g) (Value.ref C)) (List.mem_append_right _ List.mem_cons_self)).1
  refine ⟨⟨pin, I3.kIn⟩, ?_⟩
  have lw : ws.length = ks.length := by rw [← l1]; exact rz.length.symm
  refine wpAny_call (W.method_call pin ?_)
  refine codeAny_mono (F.run X.A X.stack s3 H3 ⟨[.ref C], ks.zip ws⟩ (gg [.ref C] ws) (gV [.ref C] zs) Q (fun _ _ _ => False) hr { I3.env0 with frames := I3.ok.frames } (hb.1 s3 [.ref C] ws I3.kIn rfl lw) (hb.2 (show Vals [V.ref C] [Value.ref C] from .cons rfl .nil) rz) q2) fun r s' h => ?_
  cases r with
  | error e => exact False.elim h
  | ok fl =>
    cases fl with
    | ret u =>
      obtain ⟨v, H', I4, rv, q⟩ := I3.after h
      exact ⟨v, H', unpin I4, rv, q⟩
    | next => exact False.elim h
    | brk => exact False.elim h
    | cont => exact False.elim h
end
end TW

set_option Elab.async false
set_option linter.all false
set_option maxRecDepth 100000
set_option maxHeartbeats 4000000
namespace KT
open PySem L2 TW
def top (i : Nat) : Stmt := PySem.Challenge.pw_tracewords_k11_ratios_reckoned.main.body.getD i (.Pass ⟨0, 0, 0, 0⟩)
abbrev s_is_integer : Stmt := top 2
abbrev s_is_count : Stmt := top 3
abbrev s_is_list : Stmt := top 4
abbrev s_is_number : Stmt := top 11

structure Txt (K : W.Frag) (mg : Str → Option Value) (C HC : Addr) : Prop where
  isi : mg "isinstance" = none
  int_ : mg "int" = none
  bool_ : mg "bool" = none
  list_ : mg "list" = none
  tuple_ : mg "tuple" = none
  len_ : mg "len" = none
  all_ : mg "all" = none
  gcd_ : mg "gcd" = some (.builtin "math.gcd")
  mgC : mg "Ratio" = some (.ref C)
  clC : Cls K C
  nTop : NoAttr K C "_top"
  nBot : NoAttr K C "_bottom"
  atC : W.findIn K (.ref C) "__class__" = some (some (.builtin "object.__class__"))
  cg : W.specialIn K (.builtin "object.__class__") "__get__" = some (some (.builtin "getset_descriptor.__get__"))
  ct : W.takesIn K (.builtin "object.__class__") = some true
  moC : W.mroIn K C (.type "object") = some true
  kCi : W.kitOne K (.ref C) (.type "int") = some false
  kCb : W.kitOne K (.ref C) (.type "bool") = some false
  kCl : W.kitOne K (.ref C) (.type "list") = some false
  kCt : W.kitOne K (.ref C) (.type "tuple") = some false
  kCC : W.kitOne K (.ref C) (.ref C) = some true
  kTC1 : W.kitOne K (.type "NoneType") (.ref C) = some false
  kTC2 : W.kitOne K (.type "bool") (.ref C) = some false
  kTC3 : W.kitOne K (.type "int") (.ref C) = some false
  kTC4 : W.kitOne K (.type "str") (.ref C) = some false
  kTC5 : W.kitOne K (.type "list") (.ref C) = some false
  kTC6 : W.kitOne K (.type "tuple") (.ref C) = some false
  kTC7 : W.kitOne K (.type "dict") (.ref C) = some false

/-- the type of such a value -/
def tyD (C : Addr) : D → Value
  | .non => .type "NoneType"
  | .bl _ => .type "bool"
  | .int _ => .type "int"
  | .str _ => .type "str"
  | .rat _ _ => .ref C
  | .lst _ => .type "list"
  | .tup _ => .type "tuple"
  | .dct _ => .type "dict"
  | .dl _ _ => .type "dict"
section
variable {K : W.Frag} {mg : Str → Option Value} {C HC : Addr} {H : Hp}
theorem tyx (T : Txt K mg C HC) : ∀ {d : D} {v : V}, Dt C H v d → TyX K H v (tyD C d)
  | _, _, .non => .base .non
  | _, _, .bl b => .base (.bl b)
  | _, _, .int i => .base (.int i)
  | _, _, .str z => .base (.str z)
  | _, _, .rat h _ _ => .base (.ins h T.clC T.atC T.cg T.ct T.moC)
  | _, _, .lst h _ => .base (.lst h)
  | _, _, .tup h _ => .base (.tup h)
  | _, _, .dct h => .base (.dK h)
  | _, _, .dl h _ _ => .base (.dK h)
end
def isIB : D → Bool
  | .int _ => true
  | .bl _ => true
  | _ => false
def isB : D → Bool
  | .bl _ => true
  | _ => false
def isI : D → Bool
  | .int _ => true
  | _ => false
def isC : D → Bool
  | .int i => decide (0 ≤ i)
  | _ => false
def isL : D → Bool
  | .lst _ => true
  | .tup _ => true
  | _ => false
def isR : D → Bool
  | .rat _ _ => true
  | _ => false
def isN : D → Bool
  | .int _ => true
  | .rat _ _ => true
  | _ => false
def itemsD : D → List D
  | .lst l => l
  | .tup l => l
  | _ => []
def areN (d : D) : Bool := isL d && (itemsD d).all isN
section
variable {K : W.Frag} {mg : Str → Option Value} {C HC : Addr} {H : Hp}
theorem kit_int (T : Txt K mg C HC) (d : D) : W.kitOne K (tyD C d) (.type "int") = some (isIB d) := by
  cases d with
  | rat _ _ => exact T.kCi
  | _ => first | exact kit_ty (show kitB _ _ = some true by decide +kernel) | exact kit_ty (show kitB _ _ = some false by decide +kernel)
theorem kit_bool (T : Txt K mg C HC) (d : D) : W.kitOne K (tyD C d) (.type "bool") = some (isB d) := by
  cases d with
  | rat _ _ => exact T.kCb
  | _ => first | exact kit_ty (show kitB _ _ = some true by decide +kernel) | exact kit_ty (show kitB _ _ = some false by decide +kernel)
theorem kit_rat (T : Txt K mg C HC) (d : D) : W.kitOne K (tyD C d) (.ref C) = some (isR d) := by
  cases d with
  | rat _ _ => exact T.kCC
  | non => exact T.kTC1
  | bl _ => exact T.kTC2
  | int _ => exact T.kTC3
  | str _ => exact T.kTC4
  | lst _ => exact T.kTC5
  | tup _ => exact T.kTC6
  | dct _ => exact T.kTC7
  | dl _ _ => exact T.kTC7
theorem kit_seq (T : Txt K mg C HC) (d : D) : W.kitAny K (tyD C d) [.type "list", .type "tuple"] = some (isL d) := by
  cases d with
  | rat _ _ => exact kitAny_cons (b := false) T.kCl (fun _ => kitAny_cons (b := false) T.kCt (fun _ => kitAny_nil) fun z => nomatch z) fun z => nomatch z
  | lst _ => exact kitAny_cons (b := true) (kit_ty (by decide +kernel)) (fun z => nomatch z) fun _ => rfl
  | tup _ => exact kitAny_cons (b := false) (kit_ty (by decide +kernel)) (fun _ => kitAny_cons (b := true) (kit_ty (by decide +kernel)) (fun z => nomatch z) fun _ => rfl) fun z => nomatch z
  | _ => exact kitAny_cons (b := false) (kit_ty (by decide +kernel)) (fun _ => kitAny_cons (b := false) (kit_ty (by decide +kernel)) (fun _ => kitAny_nil) fun z => nomatch z) fun z => nomatch z
end

/-- a judge of any value: nothing that stood is changed -/
def spB (C : Addr) (p : D → Bool) : Sp := fun vs H Q _ => ∃ x d, vs = [x] ∧ Dt C H x d ∧ d.len ≤ sizeLine ∧ ∀ H', Same H H' → Q (.bl (p d)) H'
theorem spB_len {C : Addr} {p : D → Bool} {x : Str} : ∀ vs H Q E, spB C p vs H Q E → vs.length = [x].length := by
  rintro vs H Q E ⟨x, d, rfl, _⟩
  rfl
/-- a def of the top, by its name -/
structure At (K : W.Frag) (mg : Str → Option Value) (x : Str) (st : Stmt) (ps : List Str) (f : Addr) (fd : FuncData) : Prop where
  fn : Fun K x x st f fd
  mg : mg x = some (.ref f)
  b : Binds K fd ps []

theorem sc_is_integer : FnScope ["value"] ["value"] (defScope s_is_integer) := ⟨rfl, rfl, rfl, by decide +kernel, rfl, by decide +kernel, by decide +kernel⟩
theorem sc_is_count : FnScope ["value"] ["value"] (defScope s_is_count) := ⟨rfl, rfl, rfl, by decide +kernel, rfl, by decide +kernel, by decide +kernel⟩
theorem sc_is_list : FnScope ["value"] ["value"] (defScope s_is_list) := ⟨rfl, rfl, rfl, by decide +kernel, rfl, by decide +kernel, by decide +kernel⟩
theorem sc_is_number : FnScope ["value"] ["value"] (defScope s_is_number) := ⟨rfl, rfl, rfl, by decide +kernel, rfl, by decide +kernel, by decide +kernel⟩
section
variable {P : Program} {w : World} {K : W.Frag} {mg : Str → Option Value} {base : Heap} {C HC : Addr}
theorem ok_is_integer {f : Addr} {fd : FuncData} (F : At K mg "is_integer" s_is_integer ["value"] f fd) (T : Txt K mg C HC) : FnOk P w K mg base L2.CX0 1 f fd ["value"] (spB C isI) := by
  refine F.fn.ok sc_is_integer spB_len fun cdv A outer s H vs Q E hr h => ?_
  obtain ⟨x, d, rfl, hd, hl, q⟩ := h
  refine ⟨_, pss_one (ps_ret (pe_and (pe_callB call_isi (by rfl) T.isi (by decide +kernel) (pa_cons (pv 0) (pa_cons (pe_bltn (v := .ty "int") (by rfl) T.int_ (by decide +kernel) rfl) pa_nil)))
    (pe_one (pe_not (pe_callB call_isi (by rfl) T.isi (by decide +kernel) (pa_cons (pv 0) (pa_cons (pe_bltn (v := .ty "bool") (by rfl) T.bool_ (by decide +kernel) rfl) pa_nil))))))), ?_⟩
  refine ⟨x, rfl, x, .ty "int", _, _, _, rfl, .ty "int", tyx T hd, kit_int T d, _, rfl, ?_⟩
  cases e : isIB d with
  | false =>
    refine iteF ?_
    have z := q H (Same.refl H)
    cases d <;> first | exact z | cases e
  | true =>
    refine iteT ⟨x, rfl, x, .ty "bool", _, _, _, rfl, .ty "bool", tyx T hd, kit_bool T d, _, rfl, ?_⟩
    have z := q H (Same.refl H)
    cases d <;> first | exact z | cases e
theorem ok_is_count {f f1 : Addr} {fd fd1 : FuncData} (F : At K mg "is_count" s_is_count ["value"] f fd) (T : Txt K mg C HC) (F1 : At K mg "is_integer" s_is_integer ["value"] f1 fd1) : FnOk P w K mg base L2.CX0 2 f fd ["value"] (spB C isC) := by
  refine F.fn.ok sc_is_count spB_len fun cdv A outer s H vs Q E hr h => ?_
  obtain ⟨x, d, rfl, hd, hl, q⟩ := h
  refine ⟨_, pss_one (ps_ret (pe_and (pe_call (ok_is_integer F1 T) hr (by rfl) F1.mg F1.fn.kp F1.b .nil pass0 (pa_cons (pv 0) pa_nil)) (pe_one (pe_cmp (pc_ge (pv 0) pe_int) rfl)))), ?_⟩
  refine ⟨x, rfl, x, d, rfl, hd, hl, fun H' s1 => ⟨_, rfl, ?_⟩⟩
  have z := q H' s1
  cases hd with
  | int i => exact ⟨_, rfl, i, 0, rfl, rfl, z⟩
  | _ => exact z
theorem ok_is_list {f : Addr} {fd : FuncData} (F : At K mg "is_list" s_is_list ["value"] f fd) (T : Txt K mg C HC) : FnOk P w K mg base L2.CX0 1 f fd ["value"] (spB C isL) := by
  refine F.fn.ok sc_is_list spB_len fun cdv A outer s H vs Q E hr h => ?_
  obtain ⟨x, d, rfl, hd, hl, q⟩ := h
  refine ⟨_, pss_one (ps_ret (pe_callB call_isiT (by rfl) T.isi (by decide +kernel) (pa_cons (pv 0) (pa_cons (pe_tup (pa_cons (pe_bltn (v := .ty "list") (by rfl) T.list_ (by decide +kernel) rfl)
    (pa_cons (pe_bltn (v := .ty "tuple") (by rfl) T.tuple_ (by decide +kernel) rfl) pa_nil))) pa_nil)))), ?_⟩
  refine ⟨x, rfl, by decide, fun p hp => ?_⟩
  have s1 : Same H (upd H p (.tup [.ty "list", .ty "tuple"])) := same_new hp
  exact ⟨x, p, _, _, _, _, rfl, upd_same, .cons (.ty _) (.cons (.ty _) .nil), tyx T (hd.same s1), kit_seq T d, q _ s1⟩
theorem ok_is_number {f f1 : Addr} {fd fd1 : FuncData} (F : At K mg "is_number" s_is_number ["value"] f fd) (T : Txt K mg C HC) (F1 : At K mg "is_integer" s_is_integer ["value"] f1 fd1) : FnOk P w K mg base L2.CX0 2 f fd ["value"] (spB C isN) := by
  refine F.fn.ok sc_is_number spB_len fun cdv A outer s H vs Q E hr h => ?_
  obtain ⟨x, d, rfl, hd, hl, q⟩ := h
  refine ⟨_, pss_one (ps_ret (pe_or (pe_call (ok_is_integer F1 T) hr (by rfl) F1.mg F1.fn.kp F1.b .nil pass0 (pa_cons (pv 0) pa_nil))
    (pe_one (pe_callB call_isi (by rfl) T.isi (by decide +kernel) (pa_cons (pv 0) (pa_cons (pe_glob (v := .ref C) (by rfl) T.mgC rfl) pa_nil)))))), ?_⟩
  refine ⟨x, rfl, x, d, rfl, hd, hl, fun H' s1 => ⟨_, rfl, ?_⟩⟩
  have z := q H' s1
  cases e : isI d with
  | true =>
    refine iteT ?_
    cases d <;> first | exact z | cases e
  | false =>
    refine iteF ⟨x, rfl, x, .ref C, _, _, _, rfl, .own C, tyx T (hd.same s1), kit_rat T d, ?_⟩
    cases d <;> first | exact z | cases e

theorem all_range {p : D → Bool} : ∀ (l : List D) (f : Nat → Bool), (∀ k d, l[k]? = some d → f k = p d) → ((List.range l.length).map f).all id = l.all p
  | [], _, _ => rfl
  | d :: l, f, h => by
    have h0 : f 0 = p d := h 0 d rfl
    have h1 := all_range (p := p) l (fun k => f (k + 1)) fun k d e => h (k + 1) d (by simpa using e)
    rw [List.length_cons, List.range_succ_eq_map, List.map_cons, List.map_map, List.all_cons, List.all_cons, ← h1, h0]
    rfl
theorem seq_of {H : Hp} {x : V} {d : D} (h : Dt C H x d) (e : isL d = true) : ∃ a xs, x = .ref a ∧ Sq K H a xs ∧ Dts C H xs (itemsD d) := by
  cases h with
  | lst h1 h2 => exact ⟨_, _, rfl, .inl (SqL.of h1), h2⟩
  | tup h1 h2 => exact ⟨_, _, rfl, .inr (SqT.of h1), h2⟩
  | _ => cases e
theorem lens_len : ∀ (l : List D), l.length ≤ lens l
  | [] => Nat.le_refl _
  | d :: l => by
    have := lens_len l
    simp only [lens, List.length_cons]
    omega
theorem lens_item : ∀ {l : List D} {k : Nat} {d : D}, l[k]? = some d → d.len ≤ lens l
  | [], _, _, h => by simp at h
  | e :: l, 0, d, h => by
    simp at h
    subst h
    simp only [lens]
    omega
  | e :: l, k + 1, d, h => by
    have := lens_item (l := l) (k := k) (d := d) (by simpa using h)
    simp only [lens]
    omega
theorem items_len {d : D} (h : d.len ≤ sizeLine) : lens (itemsD d) ≤ sizeLine := by
  cases d with
  | lst l => simp only [D.len] at h; show lens l ≤ _; omega
  | tup l => simp only [D.len] at h; show lens l ≤ _; omega
  | _ => exact Nat.zero_le _
theorem iteB {b : Bool} {A B : Prop} (h1 : b = true → A) (h2 : b = false → B) : if b = true then A else B := by
  cases b with
  | true => exact iteT (h1 rfl)
  | false => exact iteF (h2 rfl)
/-- all([.. for one in l]) where each is a judge's answer -/
theorem all_comp {te : TE} {i j : Nat} {σ : L2.St} {H1 : Hp} {Q : VK} {a : Addr} {xs : List V} {l : List D} (p : D → Bool) (hj : σ[j]? = some (some (.ref a))) (hs : Sq K H1 a xs) (hds : Dts C H1 xs l) (hl : lens l ≤ sizeLine)
    (el : ∀ y dy H2 R, dy ∈ l → Dt C H2 y dy → dy.len ≤ sizeLine → Same H1 H2 → (∀ H3, Same H2 H3 → R (.bl (p dy)) H3) → te ((wipe σ [i]).set i (some y)) H2 R)
    (fin : ∀ H3, Same H1 H3 → Q (.bl (l.all p)) H3) : tLc (iSeq K (tVar j)) (gName i) tYes te [i] σ H1 (fun z H2 => rAll K [z] H2 Q) := by
  have hll := lens_len l
  have hxl := hds.length
  refine comp_vals (xs := xs) (fun k => V.bl ((l[k]?.map p).getD false)) hj hs (by omega) (fun k y H2 R hy s2 r => ?_) fun A H2 hD s2 e2 => ?_
  · obtain ⟨dy, e3, hdy⟩ := hds.at hy
    refine el y dy H2 R (List.mem_of_getElem? e3) (hdy.same s2) (Nat.le_trans (lens_item e3) hl) s2 fun H3 s3 => ?_
    have z := r H3 s3
    rw [e3] at z
    exact z
  · refine ⟨A, (List.range xs.length).map fun k => (l[k]?.map p).getD false, rfl, SqL.of ?_, ?_⟩
    · rw [e2, List.map_map]
      rfl
    · rw [hxl, all_range (p := p) l _ fun k dy e3 => by rw [e3]; rfl]
      exact fin H2 s2

end
end KT

set_option Elab.async false
set_option linter.all false
set_option maxRecDepth 100000
set_option maxHeartbeats 4000000
namespace KT
open PySem L2 TW
abbrev s_init : Stmt := inClass (top 10) 0
abbrev s_repr : Stmt := inClass (top 10) 19
abbrev s_ratio_of : Stmt := top 12
/-- a method of a class -/
structure Me (K : W.Frag) (qual x : Str) (st : Stmt) (f : Addr) (fd : FuncData) : Prop where
  fn : Fun K x qual st f fd
  b : Binds K fd ["self"] []

/-! Ratio.__init__ -/
def fsR (x y : Int) : List (Str × V) := putF "_bottom" (.int y) (putF "_top" (.int x) [])
theorem kTB : ¬ (("_top" : Str) = "_bottom") := by decide +kernel
theorem fsR_top (x y : Int) : (fsR x y).lookup ("_top" : Str) = some (V.int x) := by
  unfold fsR
  rw [lookup_putF, if_neg kTB, lookup_putF, if_pos rfl]
theorem fsR_bottom (x y : Int) : (fsR x y).lookup ("_bottom" : Str) = some (V.int y) := by
  unfold fsR
  rw [lookup_putF, if_pos rfl]
/-- the common part, with the bottom's sign -/
def cm (t b : Int) : Int := if b < 0 then -((Nat.gcd t.natAbs b.natAbs : Nat) : Int) else ((Nat.gcd t.natAbs b.natAbs : Nat) : Int)
def spInit (C : Addr) : Sp := fun vs H Q _ => ∃ (p dx : Addr) (t b : Int), vs = [.ref p, .int t, .int b] ∧ H p = some (.ins C dx []) ∧ b ≠ 0 ∧ Nat.gcd t.natAbs b.natAbs < 1073741824 ∧
  ∀ H', (∀ q o, H q = some o → q ≠ p → H' q = some o) → H' p = some (.ins C dx (fsR (t.fdiv (cm t b)) (b.fdiv (cm t b)))) → Q .non H'
theorem sc_init : FnScope ["self", "top", "bottom", "common"] ["self", "top", "bottom"] (defScope s_init) := ⟨rfl, rfl, rfl, by decide +kernel, rfl, by decide +kernel, by decide +kernel⟩
theorem sc_repr : FnScope ["self"] ["self"] (defScope s_repr) := ⟨rfl, rfl, rfl, by decide +kernel, rfl, by decide +kernel, by decide +kernel⟩
theorem sc_ratio_of : FnScope ["number"] ["number"] (defScope s_ratio_of) := ⟨rfl, rfl, rfl, by decide +kernel, rfl, by decide +kernel, by decide +kernel⟩
section
variable {P : Program} {w : World} {K : W.Frag} {mg : Str → Option Value} {base : Heap} {C HC : Addr}
abbrev InitAt (K : W.Frag) (f : Addr) (fd : FuncData) : Prop := FunD K "__init__" "Ratio.__init__" (defArgs s_init) (defBody s_init) (defScope s_init) [.int 1] [] f fd
theorem ok_init {f f1 : Addr} {fd fd1 : FuncData} (F : InitAt K f fd) (T : Txt K mg C HC) (F1 : At K mg "is_integer" s_is_integer ["value"] f1 fd1) : FnOk P w K mg base L2.CX0 2 f fd ["self", "top", "bottom"] (spInit C) := by
  refine F.ok sc_init (fun vs H Q E h => ?_) fun cdv A outer s H vs Q E hr h => ?_
  · obtain ⟨p, dx, t, b, rfl, _⟩ := h
    rfl
  obtain ⟨p, dx, t, b, rfl, hp, hb, hz, q⟩ := h
  have G := ok_is_integer (P := P) (w := w) (base := base) F1 T
  refine ⟨_, pss_cons (ps_if (pt_not (pt_val (pe_call G hr (by rfl) F1.mg F1.fn.kp F1.b .nil pass0 (pa_cons (pv 1) pa_nil)))) (pss_one ps_never) pss_nil)
    (pss_cons (ps_if (PW.pt (pw_or (pt_not (pt_val (pe_call G hr (by rfl) F1.mg F1.fn.kp F1.b .nil pass0 (pa_cons (pv 2) pa_nil)))) (pw_or1 (pt_cmp (pc_eqI (pv 2) pe_int))))) (pss_one ps_never) pss_nil)
    (pss_cons (ps_set (i := 3) sc_init.nd rfl (.inl rfl) (pe_callBfun cr_gcd (by rfl) T.gcd_ (pa_cons (pv 1) (pa_cons (pv 2) pa_nil))))
    (pss_cons (ps_if (pt_cmp (pc_lt (pv 2) pe_int)) (pss_one (ps_set (i := 3) sc_init.nd rfl (.inl rfl) (pe_un un_neg (pv 3)))) pss_nil)
    (pss_cons (ps_fld (pv 0) (pe_op op_fdivN (pv 1) (pv 3)) rfl) (pss_one (ps_fld (pv 0) (pe_op op_fdivN (pv 2) (pv 3)) rfl)))))), ?_⟩
  have len1 : ∀ i : Int, (D.int i).len ≤ sizeLine := fun i => by show 1921 ≤ 2 ^ 24; decide
  refine ⟨.int t, rfl, .int t, .int t, rfl, .int t, len1 _, fun H1 s1 => ⟨_, rfl, iteF ?_⟩⟩
  refine ⟨.int b, rfl, .int b, .int b, rfl, .int b, len1 _, fun H2 s2 => ⟨_, rfl, iteF ⟨.int b, rfl, b, 0, rfl, rfl, _, rfl, ?_⟩⟩⟩
  refine iteB (b := decide (b = 0)) (fun e => absurd (of_decide_eq_true e) hb) fun _ => ?_
  refine ⟨.int t, rfl, .int b, rfl, t, b, rfl, .int b, rfl, b, 0, rfl, rfl, _, rfl, ?_⟩
  have s12 : Same H H2 := s1.trans s2
  -- the two stores
  have rest : ∀ c : Int, c = cm t b → c ≠ 0 → c.natAbs < 1073741824 →
      tSeq (sFld K (tVar 0) (tOp (rI CDivN fun i j => .int (i.fdiv j)) (tVar 1) (tVar 3)) "_top") (sFld K (tVar 0) (tOp (rI CDivN fun i j => .int (i.fdiv j)) (tVar 2) (tVar 3)) "_bottom") { nx := fun _ H' => Q .non H', rt := Q } [some (.ref p), some (.int t), some (.int b), some (.int c)] H2 := by
    rintro c rfl c0 cz
    refine ⟨.int t, rfl, .int _, rfl, t, _, rfl, rfl, ⟨c0, cz⟩, .ref p, rfl, p, C, dx, [], rfl, s12 _ _ hp, T.clC, T.nTop, by show 0 < 1000; decide, ?_⟩
    refine ⟨.int b, rfl, .int _, rfl, b, _, rfl, rfl, ⟨c0, cz⟩, .ref p, rfl, p, C, dx, _, rfl, upd_same, T.clC, T.nBot, by show 1 < 1000; decide, ?_⟩
    refine q _ (fun z o e hz => ?_) upd_same
    rw [upd_ne hz, upd_ne hz]
    exact s12 _ _ e
  have gpos : (0 : Int) < ((Nat.gcd t.natAbs b.natAbs : Nat) : Int) := by
    have : 0 < Nat.gcd t.natAbs b.natAbs := Nat.gcd_pos_of_pos_right _ (by omega)
    omega
  refine iteB (b := decide (b < 0)) (fun e => ?_) fun e => ?_
  · have e' : b < 0 := of_decide_eq_true e
    refine ⟨.int _, rfl, _, rfl, rest _ ?_ ?_ ?_⟩
    · unfold cm
      rw [if_pos e']
    · omega
    · omega
  · have e' : ¬ b < 0 := of_decide_eq_false e
    refine rest _ ?_ ?_ ?_
    · unfold cm
      rw [if_neg e']
    · omega
    · omega
/-! Ratio.__repr__ -/
theorem ok_repr {f : Addr} {fd : FuncData} (F : Fun K "__repr__" "Ratio.__repr__" s_repr f fd) (T : Txt K mg C HC) : FnOk P w K mg base L2.CX0 1 f fd ["self"] (spRepr C) := by
  refine F.ok sc_repr (fun vs H Q E h => ?_) fun cdv A outer s H vs Q E hr h => ?_
  · obtain ⟨a, dx, fs, t, b, rfl, _⟩ := h
    rfl
  obtain ⟨a, dx, fs, t, b, rfl, ha, ht, hb, zt, zb, q⟩ := h
  refine ⟨_, pss_one (ps_ret (pe_joined (.cons pe_str (.cons (pe_fmt (pe_fld (pv 0) rfl)) (.cons pe_str (.cons (pe_fmt (pe_fld (pv 0) rfl)) (.cons pe_str .nil))))))), ?_⟩
  have q1 := len_int zt
  have q2 := len_int zb
  have e0 : (Str.empty).length = 0 := rfl
  have e1 : (("Ratio(" : String) : Str).length = 6 := rfl
  have e2 : ((", " : String) : Str).length = 2 := rfl
  have e3 : ((")" : String) : Str).length = 1 := rfl
  have z : (6000 : Nat) ≤ sizeLine := by decide
  refine ⟨_, rfl, by rw [strLen_append, e0, e1]; omega, .ref a, rfl, a, C, dx, fs, _, rfl, ha, T.clC, T.nTop, ht, .inr ⟨t, rfl, zt, _, rfl, by rw [strLen_append, strLen_append, e0, e1]; omega, ?_⟩⟩
  refine ⟨_, rfl, by rw [strLen_append, strLen_append, strLen_append, e0, e1, e2]; omega, .ref a, rfl, a, C, dx, fs, _, rfl, ha, T.clC, T.nBot, hb, .inr ⟨b, rfl, zb, _, rfl, by rw [strLen_append, strLen_append, strLen_append, strLen_append, e0, e1, e2]; omega, ?_⟩⟩
  exact ⟨_, rfl, by rw [strLen_append, strLen_append, strLen_append, strLen_append, strLen_append, e0, e1, e2, e3]; omega, q⟩
end
end KT

set_option Elab.async false
set_option linter.all false
set_option maxRecDepth 100000
set_option maxHeartbeats 4000000
namespace KT
open PySem L2 TW
abbrev r_init : Stmt := inClass (top 10) 0
abbrev r_top : Stmt := inClass (top 10) 1
abbrev r_bottom : Stmt := inClass (top 10) 2
abbrev r_add : Stmt := inClass (top 10) 5
abbrev r_sub : Stmt := inClass (top 10) 7
abbrev r_mul : Stmt := inClass (top 10) 9
abbrev r_neg : Stmt := inClass (top 10) 11
abbrev r_of : Stmt := top 12
theorem sr_init : FnScope ["self", "top", "bottom", "common"] ["self", "top", "bottom"] (defScope r_init) := ⟨rfl, rfl, rfl, by decide +kernel, rfl, by decide +kernel, by decide +kernel⟩
theorem sr_top : FnScope ["self"] ["self"] (defScope r_top) := ⟨rfl, rfl, rfl, by decide +kernel, rfl, by decide +kernel, by decide +kernel⟩
theorem sr_bottom : FnScope ["self"] ["self"] (defScope r_bottom) := ⟨rfl, rfl, rfl, by decide +kernel, rfl, by decide +kernel, by decide +kernel⟩
theorem sr_add : FnScope ["self", "other", "right"] ["self", "other"] (defScope r_add) := ⟨rfl, rfl, rfl, by decide +kernel, rfl, by decide +kernel, by decide +kernel⟩
theorem sr_mul : FnScope ["self", "other", "right"] ["self", "other"] (defScope r_mul) := ⟨rfl, rfl, rfl, by decide +kernel, rfl, by decide +kernel, by decide +kernel⟩
theorem sr_sub : FnScope ["self", "other"] ["self", "other"] (defScope r_sub) := ⟨rfl, rfl, rfl, by decide +kernel, rfl, by decide +kernel, by decide +kernel⟩
theorem sr_neg : FnScope ["self"] ["self"] (defScope r_neg) := ⟨rfl, rfl, rfl, by decide +kernel, rfl, by decide +kernel, by decide +kernel⟩
theorem sr_of : FnScope ["number"] ["number"] (defScope r_of) := ⟨rfl, rfl, rfl, by decide +kernel, rfl, by decide +kernel, by decide +kernel⟩
/-- a new one is t / b -/
def spMk (C : Addr) : Sp := fun vs H Q _ => ∃ (p dx : Addr) (t b : Int), vs = [.ref p, .int t, .int b] ∧ H p = some (.ins C dx []) ∧ b ≠ 0 ∧ b.natAbs < 2 ^ 9000 ∧
  ∀ H', (∀ q o, H q = some o → q ≠ p → H' q = some o) → RatAt C H' p (Rat.divInt t b) → Q .non H'
def spOf (C : Addr) : Sp := fun vs H Q _ => ∃ x q, vs = [x] ∧ NumAt C H x q ∧ ∀ p H', Same H H' → RatAt C H' p q → Q (.ref p) H'
def spNum (C : Addr) : Sp := fun vs H Q _ => ∃ a q, vs = [.ref a] ∧ RatAt C H a q ∧ Q (.int q.num) H
def spDen (C : Addr) : Sp := fun vs H Q _ => ∃ a q, vs = [.ref a] ∧ RatAt C H a q ∧ Q (.int q.den) H
def spOp2 (C : Addr) (g : Rat → Rat → Rat) : Sp := fun vs H Q _ => ∃ a y p r, vs = [.ref a, y] ∧ RatAt C H a p ∧ NumAt C H y r ∧ Bits 4000 p ∧ Bits 4000 r ∧ ∀ c H', Same H H' → RatAt C H' c (g p r) → Q (.ref c) H'
def spOp1 (C : Addr) (g : Rat → Rat) : Sp := fun vs H Q _ => ∃ a p, vs = [.ref a] ∧ RatAt C H a p ∧ Bits 4000 p ∧ ∀ c H', Same H H' → RatAt C H' c (g p) → Q (.ref c) H'
section
variable {P : Program} {w : World} {K : W.Frag} {mg : Str → Option Value} {base : Heap} {C HC : Addr}
abbrev InitR (K : W.Frag) (f : Addr) (fd : FuncData) : Prop := FunD K "__init__" "Ratio.__init__" (defArgs r_init) (defBody r_init) (defScope r_init) [.int 1] [] f fd
theorem initR_binds {f : Addr} {fd : FuncData} (F : InitR K f fd) : ∃ ds, Vals [V.int 1] ds ∧ Binds K fd ["self", "top", "bottom"] ds :=
  F.binds1 (n := 2) (j := 0) (by simp) rfl fun T kV doc pm an cdv ct us its h1 h2 => match us, its, h1, h2 with
    | [_, _], [_], _, _ => ⟨_, rfl, rfl⟩
theorem ok_mk {f f1 : Addr} {fd fd1 : FuncData} (F : InitR K f fd) (T : Txt K mg C HC) (F1 : At K mg "is_integer" s_is_integer ["value"] f1 fd1) : FnOk P w K mg base L2.CX0 2 f fd ["self", "top", "bottom"] (spMk C) := by
  refine F.ok sr_init (fun vs H Q E h => ?_) fun cdv A outer s H vs Q E hr h => ?_
  · obtain ⟨p, dx, t, b, rfl, _⟩ := h
    rfl
  obtain ⟨p, dx, t, b, rfl, hp, hb, hz, q⟩ := h
  have G := ok_is_integer (P := P) (w := w) (base := base) F1 T
  refine ⟨_, pss_cons (ps_if (pt_not (pt_val (pe_call G hr (by rfl) F1.mg F1.fn.kp F1.b .nil pass0 (pa_cons (pv 1) pa_nil)))) (pss_one ps_never) pss_nil)
    (pss_cons (ps_if (PW.pt (pw_or (pt_not (pt_val (pe_call G hr (by rfl) F1.mg F1.fn.kp F1.b .nil pass0 (pa_cons (pv 2) pa_nil)))) (pw_or1 (pt_cmp (pc_eqI (pv 2) pe_int))))) (pss_one ps_never) pss_nil)
    (pss_cons (ps_set (i := 3) sr_init.nd rfl (.inl rfl) (pe_callBfun cr_gcd (by rfl) T.gcd_ (pa_cons (pv 1) (pa_cons (pv 2) pa_nil))))
    (pss_cons (ps_if (pt_cmp (pc_lt (pv 2) pe_int)) (pss_one (ps_set (i := 3) sr_init.nd rfl (.inl rfl) (pe_un un_neg (pv 3)))) pss_nil)
    (pss_cons (ps_fld (pv 0) (pe_op op_fdivS (pv 1) (pv 3)) rfl) (pss_one (ps_fld (pv 0) (pe_op op_fdivS (pv 2) (pv 3)) rfl)))))), ?_⟩
  have len1 : ∀ i : Int, (D.int i).len ≤ sizeLine := fun i => by show 1921 ≤ 2 ^ 24; decide
  refine ⟨.int t, rfl, .int t, .int t, rfl, .int t, len1 _, fun H1 s1 => ⟨_, rfl, iteF ?_⟩⟩
  refine ⟨.int b, rfl, .int b, .int b, rfl, .int b, len1 _, fun H2 s2 => ⟨_, rfl, iteF ⟨.int b, rfl, b, 0, rfl, rfl, _, rfl, ?_⟩⟩⟩
  refine iteB (b := decide (b = 0)) (fun e => absurd (of_decide_eq_true e) hb) fun _ => ?_
  refine ⟨.int t, rfl, .int b, rfl, t, b, rfl, .int b, rfl, b, 0, rfl, rfl, _, rfl, ?_⟩
  have s12 : Same H H2 := s1.trans s2
  have c0 := comm_ne (t := t) hb
  have cz : (comm t b).natAbs.log2 < 9000 := lt_log2 (Nat.lt_of_le_of_lt (comm_le hb) hz) (by decide)
  -- the two stores
  have rest : ∀ c : Int, c = comm t b →
      tSeq (sFld K (tVar 0) (tOp (rI CDivS fun i j => .int (i.fdiv j)) (tVar 1) (tVar 3)) "_top") (sFld K (tVar 0) (tOp (rI CDivS fun i j => .int (i.fdiv j)) (tVar 2) (tVar 3)) "_bottom") { nx := fun _ H' => Q .non H', rt := Q } [some (.ref p), some (.int t), some (.int b), some (.int c)] H2 := by
    rintro c rfl
    refine ⟨.int t, rfl, .int _, rfl, t, _, rfl, rfl, ⟨c0, cz⟩, .ref p, rfl, p, C, dx, [], rfl, s12 _ _ hp, T.clC, T.nTop, by show 0 < 1000; decide, ?_⟩
    refine ⟨.int b, rfl, .int _, rfl, b, _, rfl, rfl, ⟨c0, cz⟩, .ref p, rfl, p, C, dx, _, rfl, upd_same, T.clC, T.nBot, by show 1 < 1000; decide, ?_⟩
    refine q _ (fun z o e hz => ?_) ⟨dx, _, upd_same, ?_, ?_, fun m h1 h2 => ?_⟩
    · rw [upd_ne hz, upd_ne hz]
      exact s12 _ _ e
    · rw [lookup_putF, if_neg (by decide +kernel), lookup_putF, if_pos rfl]
      exact congrArg (fun z => some (V.int z)) (num_comm hb)
    · rw [lookup_putF, if_pos rfl]
      exact congrArg (fun z => some (V.int z)) (den_comm hb)
    · rw [lookup_putF, if_neg h2, lookup_putF, if_neg h1]
      rfl
  refine iteB (b := decide (b < 0)) (fun e => ?_) fun e => ?_
  · have e' : b < 0 := of_decide_eq_true e
    refine ⟨.int _, rfl, _, rfl, rest _ ?_⟩
    unfold comm
    rw [if_pos e']
  · have e' : ¬ b < 0 := of_decide_eq_false e
    refine rest _ ?_
    unfold comm
    rw [if_neg e']
theorem num_dt {C : Addr} {H : Hp} {x : V} {q : Rat} (h : NumAt C H x q) : ∃ d : D, Dt C H x d ∧ isN d = true ∧ ∀ i : Int, x = .int i → d = .int i := by
  rcases h with ⟨i, rfl, _⟩ | ⟨a, rfl, dx, fs, e, t, b, _⟩
  · exact ⟨.int i, .int i, rfl, fun j e => by cases e; rfl⟩
  · exact ⟨_, .rat e t b, rfl, fun j e => by cases e⟩
theorem divInt_one (i : Int) : Rat.divInt i 1 = (i : Rat) := by
  refine Rat.ext ?_ ?_
  · rw [Rat.num_divInt, Rat.num_intCast]
    have e : Int.gcd 1 i = 1 := Int.gcd_one_left _
    rw [e]
    show 1 * i / 1 = i
    rw [Int.one_mul]
    exact Int.ediv_one i
  · rw [Rat.den_divInt, if_neg (by decide), Rat.den_intCast]
    have e : Int.gcd 1 i = 1 := Int.gcd_one_left _
    rw [e]
    rfl
theorem initR_all {f : Addr} {fd : FuncData} (F : InitR K f fd) : ∃ ds, Vals [] ds ∧ Binds K fd ["self", "top", "bottom"] ds :=
  F.binds1 (n := 3) (j := 1) (by simp) rfl fun T kV doc pm an cdv ct us its h1 h2 => match us, its, h1, h2 with
    | [_, _, _], [_], _, _ => ⟨_, rfl, rfl⟩
theorem ok_of {f f1 f2 : Addr} {fd fd1 fd2 : FuncData} (F : At K mg "ratio_of" r_of ["number"] f fd) (T : Txt K mg C HC) (F1 : At K mg "is_integer" s_is_integer ["value"] f1 fd1)
    (I : InitR K f2 fd2) (M : Mk K C f2) : FnOk P w K mg base L2.CX0 4 f fd ["number"] (spOf C) := by
  refine F.fn.ok sr_of (fun vs H Q E h => ?_) fun cdv A outer s H vs Q E hr h => ?_
  · obtain ⟨x, q, rfl, _⟩ := h
    rfl
  obtain ⟨x, p, rfl, hx, q⟩ := h
  obtain ⟨ds, vd, bd⟩ := initR_binds I
  obtain ⟨d, hd, hn, hi⟩ := num_dt hx
  refine ⟨_, pss_one (ps_ret (pe_ifExp (pt_val (pe_callB call_isi (by rfl) T.isi (by decide +kernel) (pa_cons (pv 0) (pa_cons (pe_glob (v := .ref C) (by rfl) T.mgC rfl) pa_nil)))) (pv 0)
    (pe_make M (ok_mk I T F1) hr (by rfl) T.mgC bd vd pass0 (pa_cons (pv 0) pa_nil)))), ?_⟩
  refine ⟨x, rfl, x, .ref C, _, _, _, rfl, .own C, tyx T hd, kit_rat T d, _, rfl, ?_⟩
  rcases hx with ⟨i, rfl, rfl⟩ | ⟨a, rfl, ha⟩
  · obtain rfl := hi i rfl
    refine iteF ⟨.int i, rfl, fun p dx np ndx ne => ?_⟩
    refine ⟨p, dx, i, 1, rfl, upd_same, by decide, by decide, fun H' keep hp => ⟨rfl, q p H' (fun b o e => ?_) ?_⟩⟩
    · refine keep b o ?_ (ne_of_none e np)
      rw [upd_ne (ne_of_none e np), upd_ne (ne_of_none e ndx)]
      exact e
    · rw [← divInt_one]
      exact hp
  · have e : isR d = true := by
      cases hd with
      | rat _ _ _ => rfl
      | _ => cases hn
    rw [e]
    exact iteT ⟨.ref a, rfl, q a H (Same.refl H) ha⟩
/-- a property of it -/
structure PrAt (K : W.Frag) (C : Addr) (x qual : Str) (st : Stmt) (p g : Addr) (gd : FuncData) : Prop where
  pr : PropOf K C x p g
  fn : Fun K x qual st g gd
  b : Binds K gd ["self"] []
theorem ok_top {f : Addr} {fd : FuncData} (F : Fun K "top" "Ratio.top" r_top f fd) (T : Txt K mg C HC) : FnOk P w K mg base L2.CX0 1 f fd ["self"] (spNum C) := by
  refine F.ok sr_top (fun vs H Q E h => ?_) fun cdv A outer s H vs Q E hr h => ?_
  · obtain ⟨a, q, rfl, _⟩ := h
    rfl
  obtain ⟨a, p, rfl, ⟨dx, fs, e, t, b, _⟩, q⟩ := h
  exact ⟨_, pss_one (ps_ret (pe_fld (pv 0) rfl)), ⟨.ref a, rfl, a, C, dx, fs, _, rfl, e, T.clC, T.nTop, t, q⟩⟩
theorem ok_bottom {f : Addr} {fd : FuncData} (F : Fun K "bottom" "Ratio.bottom" r_bottom f fd) (T : Txt K mg C HC) : FnOk P w K mg base L2.CX0 1 f fd ["self"] (spDen C) := by
  refine F.ok sr_bottom (fun vs H Q E h => ?_) fun cdv A outer s H vs Q E hr h => ?_
  · obtain ⟨a, q, rfl, _⟩ := h
    rfl
  obtain ⟨a, p, rfl, ⟨dx, fs, e, t, b, _⟩, q⟩ := h
  exact ⟨_, pss_one (ps_ret (pe_fld (pv 0) rfl)), ⟨.ref a, rfl, a, C, dx, fs, _, rfl, e, T.clC, T.nBot, b, q⟩⟩
/-- what the operators lean on -/
structure Ops (P : Program) (w : World) (K : W.Frag) (mg : Str → Option Value) (base : Heap) (C : Addr) : Prop where
  of : ∃ f fd, At K mg "ratio_of" r_of ["number"] f fd ∧ FnOk P w K mg base L2.CX0 4 f fd ["number"] (spOf C)
  mk_ : ∃ f fd ds, Mk K C f ∧ FnOk P w K mg base L2.CX0 2 f fd ["self", "top", "bottom"] (spMk C) ∧ Vals [] ds ∧ Binds K fd ["self", "top", "bottom"] ds
  top_ : ∃ p g gd, PrAt K C "top" "Ratio.top" r_top p g gd
  bot_ : ∃ p g gd, PrAt K C "bottom" "Ratio.bottom" r_bottom p g gd
theorem ok_add {f : Addr} {fd : FuncData} (F : Fun K "__add__" "Ratio.__add__" r_add f fd) (T : Txt K mg C HC) (O : Ops P w K mg base C) : FnOk P w K mg base L2.CX0 5 f fd ["self", "other"] (spOp2 C (· + ·)) := by
  refine F.ok sr_add (fun vs H Q E h => ?_) fun cdv A outer s H vs Q E hr h => ?_
  · obtain ⟨a, y, p, r, rfl, _⟩ := h
    rfl
  obtain ⟨a, y, p, r, rfl, ha, hy, bp, br, q⟩ := h
  obtain ⟨fo, fdo, Ao, No⟩ := O.of
  obtain ⟨fm, fdm, ds, M, Nm, vd, bd⟩ := O.mk_
  obtain ⟨pt, gt, gdt, Pt⟩ := O.top_
  obtain ⟨pb, gb, gdb, Pb⟩ := O.bot_
  have hr2 : Room 2 _ := hr.mono (by decide)
  have hr3 : Room 3 _ := hr.mono (by decide)
  refine ⟨_, (pss_cons (ps_set (i := 2) sr_add.nd rfl (.inl rfl) (pe_call No hr (by rfl) Ao.mg Ao.fn.kp Ao.b .nil pass0 (pa_cons (pv 1) pa_nil))) (pss_one (ps_ret (pe_make M Nm hr3 (by rfl) T.mgC bd vd pass0 (pa_cons (pe_op op_add (pe_op op_mulW (pe_fld (pv 0) rfl) (pe_prop (pv 2) T.clC Pb.pr (ok_bottom Pb.fn T) hr2 Pb.b .nil pass0 rfl)) (pe_op op_mulW (pe_prop (pv 2) T.clC Pt.pr (ok_top Pt.fn T) hr2 Pt.b .nil pass0 rfl) (pe_fld (pv 0) rfl))) (pa_cons (pe_op op_mulW (pe_fld (pv 0) rfl) (pe_prop (pv 2) T.clC Pb.pr (ok_bottom Pb.fn T) hr2 Pb.b .nil pass0 rfl)) pa_nil)))))), ?_⟩
  refine ⟨y, rfl, y, r, rfl, hy, fun c H1 s1 hc => ?_⟩
  obtain ⟨dx, fs, e, t, b, _⟩ := ha.same s1
  obtain ⟨dx2, fs2, e2, t2, b2, _⟩ := id hc
  have m1 : CMulW p.num r.den := wide_mul bp.1 (by rw [Int.natAbs_natCast]; exact br.2) (by decide) (by decide) (by decide)
  have m2 : CMulW r.num p.den := wide_mul br.1 (by rw [Int.natAbs_natCast]; exact bp.2) (by decide) (by decide) (by decide)
  have m3 : CMulW (p.den : Int) r.den := wide_mul (by rw [Int.natAbs_natCast]; exact bp.2) (by rw [Int.natAbs_natCast]; exact br.2) (by decide) (by decide) (by decide)
  refine ⟨.ref a, rfl, a, C, dx, fs, _, rfl, e, T.clC, T.nTop, t, .ref c, rfl, c, dx2, fs2, rfl, e2, c, r, rfl, hc, _, _, rfl, rfl, m1, ?_⟩
  refine ⟨.ref c, rfl, c, dx2, fs2, rfl, e2, c, r, rfl, hc, .ref a, rfl, a, C, dx, fs, _, rfl, e, T.clC, T.nBot, b, _, _, rfl, rfl, m2, _, _, rfl, rfl, ?_⟩
  refine ⟨.ref a, rfl, a, C, dx, fs, _, rfl, e, T.clC, T.nBot, b, .ref c, rfl, c, dx2, fs2, rfl, e2, c, r, rfl, hc, _, _, rfl, rfl, m3, fun x dz nx ndz ne => ?_⟩
  have nz : (p.den : Int) * r.den ≠ 0 := Int.mul_ne_zero (Int.natCast_ne_zero.2 p.den_nz) (Int.natCast_ne_zero.2 r.den_nz)
  refine ⟨x, dz, _, _, rfl, upd_same, nz, ?_, fun H' keep hx => ⟨rfl, q x H' (fun b o e => ?_) ?_⟩⟩
  · rw [Int.natAbs_mul, Int.natAbs_natCast, Int.natAbs_natCast]
    exact Nat.lt_of_lt_of_le (pow_mul_lt bp.2 br.2) (Nat.pow_le_pow_right (by decide) (by decide))
  · have e1 := s1 _ _ e
    refine keep b o ?_ (ne_of_none e1 nx)
    rw [upd_ne (ne_of_none e1 nx), upd_ne (ne_of_none e1 ndz)]
    exact e1
  · rw [show (fun x1 x2 : Rat => x1 + x2) p r = p + r from rfl, rat_add]
    exact hx
theorem ok_mul {f : Addr} {fd : FuncData} (F : Fun K "__mul__" "Ratio.__mul__" r_mul f fd) (T : Txt K mg C HC) (O : Ops P w K mg base C) : FnOk P w K mg base L2.CX0 5 f fd ["self", "other"] (spOp2 C (· * ·)) := by
  refine F.ok sr_mul (fun vs H Q E h => ?_) fun cdv A outer s H vs Q E hr h => ?_
  · obtain ⟨a, y, p, r, rfl, _⟩ := h
    rfl
  obtain ⟨a, y, p, r, rfl, ha, hy, bp, br, q⟩ := h
  obtain ⟨fo, fdo, Ao, No⟩ := O.of
  obtain ⟨fm, fdm, ds, M, Nm, vd, bd⟩ := O.mk_
  obtain ⟨pt, gt, gdt, Pt⟩ := O.top_
  obtain ⟨pb, gb, gdb, Pb⟩ := O.bot_
  have hr2 : Room 2 _ := hr.mono (by decide)
  have hr3 : Room 3 _ := hr.mono (by decide)
  refine ⟨_, (pss_cons (ps_set (i := 2) sr_mul.nd rfl (.inl rfl) (pe_call No hr (by rfl) Ao.mg Ao.fn.kp Ao.b .nil pass0 (pa_cons (pv 1) pa_nil))) (pss_one (ps_ret (pe_make M Nm hr3 (by rfl) T.mgC bd vd pass0 (pa_cons (pe_op op_mulW (pe_fld (pv 0) rfl) (pe_prop (pv 2) T.clC Pt.pr (ok_top Pt.fn T) hr2 Pt.b .nil pass0 rfl)) (pa_cons (pe_op op_mulW (pe_fld (pv 0) rfl) (pe_prop (pv 2) T.clC Pb.pr (ok_bottom Pb.fn T) hr2 Pb.b .nil pass0 rfl)) pa_nil)))))), ?_⟩
  refine ⟨y, rfl, y, r, rfl, hy, fun c H1 s1 hc => ?_⟩
  obtain ⟨dx, fs, e, t, b, _⟩ := ha.same s1
  obtain ⟨dx2, fs2, e2, t2, b2, _⟩ := id hc
  have m1 : CMulW p.num r.num := wide_mul bp.1 br.1 (by decide) (by decide) (by decide)
  have m3 : CMulW (p.den : Int) r.den := wide_mul (by rw [Int.natAbs_natCast]; exact bp.2) (by rw [Int.natAbs_natCast]; exact br.2) (by decide) (by decide) (by decide)
  refine ⟨.ref a, rfl, a, C, dx, fs, _, rfl, e, T.clC, T.nTop, t, .ref c, rfl, c, dx2, fs2, rfl, e2, c, r, rfl, hc, _, _, rfl, rfl, m1, ?_⟩
  refine ⟨.ref a, rfl, a, C, dx, fs, _, rfl, e, T.clC, T.nBot, b, .ref c, rfl, c, dx2, fs2, rfl, e2, c, r, rfl, hc, _, _, rfl, rfl, m3, fun x dz nx ndz ne => ?_⟩
  have nz : (p.den : Int) * r.den ≠ 0 := Int.mul_ne_zero (Int.natCast_ne_zero.2 p.den_nz) (Int.natCast_ne_zero.2 r.den_nz)
  refine ⟨x, dz, _, _, rfl, upd_same, nz, ?_, fun H' keep hx => ⟨rfl, q x H' (fun b o e => ?_) ?_⟩⟩
  · rw [Int.natAbs_mul, Int.natAbs_natCast, Int.natAbs_natCast]
    exact Nat.lt_of_lt_of_le (pow_mul_lt bp.2 br.2) (Nat.pow_le_pow_right (by decide) (by decide))
  · have e1 := s1 _ _ e
    refine keep b o ?_ (ne_of_none e1 nx)
    rw [upd_ne (ne_of_none e1 nx), upd_ne (ne_of_none e1 ndz)]
    exact e1
  · rw [show (fun x1 x2 : Rat => x1 * x2) p r = p * r from rfl, rat_mul]
    exact hx
theorem ok_neg {f : Addr} {fd : FuncData} (F : Fun K "__neg__" "Ratio.__neg__" r_neg f fd) (T : Txt K mg C HC) (O : Ops P w K mg base C) : FnOk P w K mg base L2.CX0 5 f fd ["self"] (spOp1 C (fun p => -p)) := by
  refine F.ok sr_neg (fun vs H Q E h => ?_) fun cdv A outer s H vs Q E hr h => ?_
  · obtain ⟨a, p, rfl, _⟩ := h
    rfl
  obtain ⟨a, p, rfl, ha, bp, q⟩ := h
  obtain ⟨fm, fdm, ds, M, Nm, vd, bd⟩ := O.mk_
  have hr3 : Room 3 _ := hr.mono (by decide)
  refine ⟨_, (pss_one (ps_ret (pe_make M Nm hr3 (by rfl) T.mgC bd vd pass0 (pa_cons (pe_un un_neg (pe_fld (pv 0) rfl)) (pa_cons (pe_fld (pv 0) rfl) pa_nil))))), ?_⟩
  obtain ⟨dx, fs, e, t, b, _⟩ := ha
  refine ⟨.ref a, rfl, a, C, dx, fs, _, rfl, e, T.clC, T.nTop, t, _, rfl, .ref a, rfl, a, C, dx, fs, _, rfl, e, T.clC, T.nBot, b, fun x dz nx ndz ne => ?_⟩
  have nz : (p.den : Int) ≠ 0 := Int.natCast_ne_zero.2 p.den_nz
  refine ⟨x, dz, _, _, rfl, upd_same, nz, ?_, fun H' keep hx => ⟨rfl, q x H' (fun b o e1 => ?_) ?_⟩⟩
  · rw [Int.natAbs_natCast]
    exact Nat.lt_of_lt_of_le bp.2 (Nat.pow_le_pow_right (by decide) (by decide))
  · refine keep b o ?_ (ne_of_none e1 nx)
    rw [upd_ne (ne_of_none e1 nx), upd_ne (ne_of_none e1 ndz)]
    exact e1
  · have e2 := Rat.neg_divInt p.num p.den
    rw [Rat.num_divInt_den] at e2
    rw [show (fun p : Rat => -p) p = -p from rfl, e2]
    exact hx
theorem bits_neg {n : Nat} {p : Rat} (h : Bits n p) : Bits n (-p) := ⟨by rw [Rat.neg_num, Int.natAbs_neg]; exact h.1, by rw [Rat.neg_den]; exact h.2⟩
/-- an operator of the class stands -/
structure OpAt (P : Program) (w : World) (K : W.Frag) (mg : Str → Option Value) (base : Heap) (C : Addr) (name : Str) (ps : List Str) (sp : Sp) : Prop where
  ex : ∃ f fd, Own K C f name ∧ FnOk P w K mg base L2.CX0 5 f fd ps sp ∧ Binds K fd ps []
theorem ok_sub {f : Addr} {fd : FuncData} (F : Fun K "__sub__" "Ratio.__sub__" r_sub f fd) (T : Txt K mg C HC) (O : Ops P w K mg base C) (sf : W.selfFirst K C = true)
    (Ad : OpAt P w K mg base C "__add__" ["self", "other"] (spOp2 C (· + ·))) (Ne : OpAt P w K mg base C "__neg__" ["self"] (spOp1 C fun p => -p)) : FnOk P w K mg base L2.CX0 6 f fd ["self", "other"] (spOp2 C (· - ·)) := by
  refine F.ok sr_sub (fun vs H Q E h => ?_) fun cdv A outer s H vs Q E hr h => ?_
  · obtain ⟨a, y, p, r, rfl, _⟩ := h
    rfl
  obtain ⟨a, y, p, r, rfl, ha, hy, bp, br, q⟩ := h
  obtain ⟨fo, fdo, Ao, No⟩ := O.of
  obtain ⟨fa, fda, Oa, Na, Ba⟩ := Ad.ex
  obtain ⟨fn, fdn, On, Nn, Bn⟩ := Ne.ex
  have hr4 : Room 4 _ := hr.mono (by decide)
  refine ⟨_, pss_one (ps_ret (pe_op (op_own (op := .Add) Oa sf Na hr Ba pass0) (pv 0) (pe_un (un_ownNeg On Nn hr Bn pass0) (pe_call No hr4 (by rfl) Ao.mg Ao.fn.kp Ao.b .nil pass0 (pa_cons (pv 1) pa_nil))))), ?_⟩
  refine ⟨.ref a, rfl, y, rfl, y, r, rfl, hy, fun c H1 s1 hc => ?_⟩
  obtain ⟨dx2, fs2, e2, t2, b2, _⟩ := id hc
  refine ⟨c, dx2, fs2, rfl, e2, c, r, rfl, hc, br, fun d H2 s2 hd => ?_⟩
  have ha2 := (ha.same s1).same s2
  obtain ⟨dx, fs, e, t, b, _⟩ := id ha2
  obtain ⟨dx3, fs3, e3, t3, b3, _⟩ := id hd
  refine ⟨a, d, dx, dx3, fs, fs3, rfl, rfl, e, e3, a, .ref d, p, -r, rfl, ha2, .inr ⟨d, rfl, hd⟩, bp, bits_neg br, fun x H3 s3 hx => ⟨⟨x, rfl⟩, q x H3 ((s1.trans s2).trans s3) ?_⟩⟩
  rw [show (fun x1 x2 : Rat => x1 - x2) p r = p - r from rfl, Rat.sub_eq_add_neg]
  exact hx
end
end KT

set_option Elab.async false
set_option linter.all false
set_option maxRecDepth 100000
set_option maxHeartbeats 4000000
namespace KT
open PySem L2 TW
abbrev r_total : Stmt := inClass (top 10) 17
theorem sr_total : FnScope ["cls", "numbers", "found", "number"] ["cls", "numbers"] (defScope r_total) := ⟨rfl, rfl, rfl, by decide +kernel, rfl, by decide +kernel, by decide +kernel⟩
/-- the i-th slot holds the class at C -/
def tMakeL (i : Nat) (C : Addr) (sp : Sp) (dvs : List V) (E : XK) (t : TA) : TE := fun σ H Q => σ[i]? = some (some (.ref C)) ∧ tMake C sp dvs E t σ H Q
section
variable {X : Cx} {CX : CXT} {k i : Nat} {f C : Addr} {fd : FuncData} {ps : List Str} {sp : Sp} {dvs : List V} {ds : List Value} {E : XK} {x : Str} {p pos : Pos} {e : Expr} {es : List Expr} {t : TA}
theorem pe_makeL (M : Mk X.K C f) (F : FnOk X.prog X.w X.K X.mg X.base CX k f fd ps sp) (hr : Room (k + 1) X.A) (hN : X.N[i]? = some x) (hv : Vis X.env.scope x) (hb : Binds X.K fd ps ds) (hd : Vals dvs ds) (hx : Passes CX X E) (ha : PA X (e :: es) t)
    (hdb : (x == ("__debug__" : Str)) = false := by decide) (hcd : (x == ("__classdict__" : Str)) = false := by decide)
    (he : starEach (e :: es) X.env = (false, eval e X.env) :: starEach es X.env := by rfl) (hpl : (backTo pos (starEach es X.env)).any (·.1) = false := by rfl) : PE X (.Call (.Name x p) (e :: es) [] pos) (tMakeL i C sp dvs E t) := by
  refine ⟨fun pins s σ H Q I h => ?_⟩
  obtain ⟨hs, ht⟩ := h
  refine wpAny_Call_Name_kw (thn ((pe_var (pos := p) hN hv hdb hcd).run pins s σ H (fun v H1 => v = .ref C ∧ H1 = H) I ⟨.ref C, hs, rfl, rfl⟩) fun u s1 ⟨v, H1, I1, r1, q1⟩ => ?_)
  obtain ⟨rfl, rfl⟩ := q1
  cases r1
  refine W.callWith_K (h₀ := X.base) I.ok.mod.kin M.kp (thn (ha.run pos pins s1 σ _ _ I1 ht) fun us s2 ⟨vs, H2, I2, r, q⟩ => ⟨I2.kIn, ?_⟩) he hpl
  exact run_make M F hr hb hd hx I2 r q
end
/-- NUMBERS and their worths -/
inductive Nums (C : Addr) (H : Hp) : List V → List Rat → Prop
  | nil : Nums C H [] []
  | cons {x : V} {q : Rat} {xs : List V} {l : List Rat} : NumAt C H x q → Nums C H xs l → Nums C H (x :: xs) (q :: l)
theorem Nums.same {C : Addr} {H H' : Hp} (s : Same H H') : ∀ {xs : List V} {l : List Rat}, Nums C H xs l → Nums C H' xs l
  | _, _, .nil => .nil
  | _, _, .cons h t => .cons (h.same s) (t.same s)
theorem Nums.length {C : Addr} {H : Hp} : ∀ {xs : List V} {l : List Rat}, Nums C H xs l → xs.length = l.length
  | _, _, .nil => rfl
  | _, _, .cons _ t => congrArg Nat.succ t.length
theorem Nums.at {C : Addr} {H : Hp} : ∀ {xs : List V} {l : List Rat}, Nums C H xs l → ∀ {i : Nat} {x : V}, xs[i]? = some x → ∃ q, l[i]? = some q ∧ NumAt C H x q
  | _, _, .cons h t, 0, x, e => ⟨_, rfl, by cases e; exact h⟩
  | _, _, .cons h t, i + 1, x, e => t.at (i := i) e
theorem Nums.dts {C : Addr} {H : Hp} : ∀ {xs : List V} {l : List Rat}, Nums C H xs l → ∃ ds, Dts C H xs ds ∧ lens ds ≤ 4002 * l.length ∧ ∀ d ∈ ds, isN d = true
  | _, _, .nil => ⟨[], .nil, Nat.zero_le _, fun _ h => nomatch h⟩
  | _, _, .cons (l := l) h t => by
    obtain ⟨ds, h1, h2, h3⟩ := t.dts
    obtain ⟨d, g1, g2, _⟩ := num_dt h
    refine ⟨d :: ds, .cons g1 h1, ?_, fun x hx => ?_⟩
    · have z : d.len ≤ 4000 := by
        cases d <;> first | (cases g2; done) | (show 1921 ≤ 4000; decide) | exact Nat.le_refl _
      show d.len + 2 + lens ds ≤ 4002 * (l.length + 1)
      omega
    · rcases List.mem_cons.1 hx with rfl | hx
      · exact g2
      · exact h3 x hx
def sumQ (l : List Rat) : Rat := l.foldl (· + ·) 0
/-- partial sums are not too long -/
def Short (l : List Rat) : Prop := (∀ q ∈ l, Bits 4000 q) ∧ ∀ k, Bits 4000 (sumQ (l.take k))
theorem sumQ_more {l : List Rat} {i : Nat} {q : Rat} (h : l[i]? = some q) : sumQ (l.take (i + 1)) = sumQ (l.take i) + q := by
  unfold sumQ
  rw [List.take_add_one, h, List.foldl_append]
  rfl
def spTotal (K : W.Frag) (C : Addr) : Sp := fun vs H Q _ => ∃ a xs l, vs = [.ref C, .ref a] ∧ Sq K H a xs ∧ (H a = some (.lst xs) ∨ H a = some (.tup xs)) ∧ Nums C H xs l ∧ l.length ≤ 1000 ∧ Short l ∧ ∀ p H', Same H H' → RatAt C H' p (sumQ l) → Q (.ref p) H'
section
variable {P : Program} {w : World} {K : W.Frag} {mg : Str → Option Value} {base : Heap} {C HC : Addr}
theorem ok_total {f f1 fi : Addr} {fd fd1 fid : FuncData} (F : Fun K "total" "Ratio.total" r_total f fd) (T : Txt K mg C HC) (L : At K mg "is_list" s_is_list ["value"] f1 fd1) (I : InitR K fi fid) (M : Mk K C fi) (F1 : ∃ g gd, At K mg "is_integer" s_is_integer ["value"] g gd)
    (sf : W.selfFirst K C = true) (OI : OwnI K C "add") (Ad : OpAt P w K mg base C "__add__" ["self", "other"] (spOp2 C (· + ·))) : FnOk P w K mg base L2.CX0 6 f fd ["cls", "numbers"] (spTotal K C) := by
  refine F.ok sr_total (fun vs H Q E h => ?_) fun cdv A outer s H vs Q E hr h => ?_
  · obtain ⟨a, xs, l, rfl, _⟩ := h
    rfl
  obtain ⟨a, xs, l, rfl, hs, hat, hn, hl, hsh, q⟩ := h
  obtain ⟨g1, gd1, G1⟩ := F1
  obtain ⟨fa, fda, Oa, Na, Ba⟩ := Ad.ex
  obtain ⟨ds, vd, bd⟩ := initR_binds I
  have hr1 : Room 1 _ := hr.mono (by decide)
  have hr3 : Room 3 _ := hr.mono (by decide)
  refine ⟨_, (pss_cons (ps_if (pt_not (pt_val (pe_call (ok_is_list (base := base) L T) hr1 (by rfl) L.mg L.fn.kp L.b .nil pass0 (pa_cons (pv 1) pa_nil)))) (pss_one ps_never) pss_nil) (pss_cons (ps_set (i := 2) sr_total.nd rfl (.inl rfl) (pe_makeL M (ok_mk I T G1) hr3 (i := 0) rfl (.inl rfl) bd vd pass0 (pa_cons pe_int pa_nil))) (pss_cons (ps_for PassesOwn.never rfl (pi_seq (pv 1)) (pg_name (i := 3) sr_total.nd rfl (Or.inl rfl)) (pss_one (ps_set (i := 2) sr_total.nd rfl (.inl rfl) (pe_op (OpR.or (op_own (op := .Add) Oa sf Na hr Ba pass0) (op_ownI (op := .Add) Oa OI sf Na hr Ba pass0)) (pv 2) (pv 3))))) (pss_one (ps_ret (pv 2)))))), ?_⟩
  obtain ⟨ds', hds, hlen, _⟩ := hn.dts
  have big : 4002 * 1000 + 3 ≤ sizeLine := by decide
  obtain ⟨d, hd, hdl, hdi⟩ : ∃ d, Dt C H (.ref a) d ∧ d.len ≤ sizeLine ∧ isL d = true := by
    rcases hat with e | e
    · exact ⟨.lst ds', .lst e hds, by show 2 + lens ds' ≤ _; omega, rfl⟩
    · exact ⟨.tup ds', .tup e hds, by show 3 + lens ds' ≤ _; omega, rfl⟩
  refine ⟨.ref a, rfl, .ref a, d, rfl, hd, hdl, fun H1 s1 => ⟨_, rfl, ?_⟩⟩
  rw [hdi]
  refine iteF ⟨rfl, fun p dx np ndx ne => ⟨p, dx, 0, 1, rfl, upd_same, by decide, by decide, fun H2 keep hx => ⟨rfl, ?_⟩⟩⟩
  have s2 : Same H H2 := fun b o e => by
    have e1 := s1 _ _ e
    refine keep b o ?_ (ne_of_none e1 np)
    rw [upd_ne (ne_of_none e1 np), upd_ne (ne_of_none e1 ndx)]
    exact e1
  rw [divInt_one] at hx
  have lx := hn.length
  have start : ∃ o3 c, [some (.ref C), some (.ref a), some (.ref p), none] = [some (V.ref C), some (.ref a), some (.ref c), o3] ∧ Same H H2 ∧ RatAt C H2 c (sumQ (l.take 0)) := ⟨none, p, rfl, s2, hx⟩
  have turn : ∀ (i : Nat) (y : V) (σ : L2.St) (H3 : Hp) (Nx : L2.St → Hp → Prop), xs[i]? = some y → (∃ o3 c, σ = [some (V.ref C), some (.ref a), some (.ref c), o3] ∧ Same H H3 ∧ RatAt C H3 c (sumQ (l.take i))) →
      (∀ σ' H', (∃ o3 c, σ' = [some (V.ref C), some (.ref a), some (.ref c), o3] ∧ Same H H' ∧ RatAt C H' c (sumQ (l.take (i + 1)))) → Nx σ' H') →
      gName 3 y σ H3 fun σ2 H2 => tAsg (tOp (fun x y H Q => rOwn C (spOp2 C (· + ·)) E0 x y H Q ∨ rOwnI C (spOp2 C (· + ·)) E0 x y H Q) (tVar 2) (tVar 3)) (gName 2) { nx := Nx, rt := Q, ct := Nx, bk := Nx } σ2 H2 := by
    rintro i y σ H3 Nx hy ⟨o3, c, rfl, s3, hc⟩ nx
    obtain ⟨r, hr', hny⟩ := hn.at hy
    have hny3 := hny.same s3
    obtain ⟨dc, fc, e, t, b, _⟩ := id hc
    have bs := hsh.2 i
    have br := hsh.1 r (List.mem_of_getElem? hr')
    refine ⟨.ref c, rfl, y, rfl, ?_⟩
    have fin : ∀ x H4, Same H3 H4 → RatAt C H4 x (sumQ (l.take i) + r) → (∃ p, V.ref x = .ref p) ∧ Nx [some (.ref C), some (.ref a), some (.ref x), some y] H4 := fun x H4 s4 hx => ⟨⟨x, rfl⟩, nx _ _ ⟨some y, x, rfl, s3.trans s4, by rw [sumQ_more hr']; exact hx⟩⟩
    rcases hny3 with ⟨j, rfl, ej⟩ | ⟨z, rfl, hz⟩
    · exact .inr ⟨c, j, dc, fc, rfl, rfl, e, c, .int j, _, r, rfl, hc, .inl ⟨j, rfl, ej⟩, bs, br, fin⟩
    · obtain ⟨dz, fz, ez, tz, bz, _⟩ := id hz
      exact .inl ⟨c, z, dc, dz, fc, fz, rfl, rfl, e, ez, c, .ref z, _, r, rfl, hc, .inr ⟨z, rfl, hz⟩, bs, br, fin⟩
  have done : ∀ (σ : L2.St) (H3 : Hp), (∃ o3 c, σ = [some (V.ref C), some (.ref a), some (.ref c), o3] ∧ Same H H3 ∧ RatAt C H3 c (sumQ (l.take xs.length))) → tRet (tVar 2) { nx := fun _ H' => Q .non H', rt := Q } σ H3 := by
    rintro σ H3 ⟨o3, c, rfl, s3, hc⟩
    rw [lx, List.take_length] at hc
    exact ⟨.ref c, rfl, q c H3 s3 hc⟩
  rcases hs with hs | hs
  · refine .inl ⟨.ref a, rfl, a, rfl, ⟨xs, s2.seq hs⟩, for_list (K := K) (a := a) (xs := xs) (fun i σ H' => ∃ o3 c, σ = [some (V.ref C), some (.ref a), some (.ref c), o3] ∧ Same H H' ∧ RatAt C H' c (sumQ (l.take i))) start (fun i σ H' _ ⟨_, _, _, s, _⟩ => s.seq hs) (fun i y σ H' hy p => turn i y σ H' _ hy p fun _ _ z => z) done⟩
  · refine .inr ⟨.ref a, rfl, a, rfl, ⟨xs, Same.tup s2 hs⟩, for_tup (K := K) (a := a) (xs := xs) (fun i σ H' => ∃ o3 c, σ = [some (V.ref C), some (.ref a), some (.ref c), o3] ∧ Same H H' ∧ RatAt C H' c (sumQ (l.take i))) start (fun i σ H' _ ⟨_, _, _, s, _⟩ => Same.tup s hs) (fun i y σ H' hy p => turn i y σ H' _ hy p fun _ _ z => z) done⟩
end
end KT

set_option Elab.async false
set_option linter.all false
set_option maxRecDepth 100000
set_option maxHeartbeats 4000000
namespace KT
open PySem L2 TW
abbrev m_radd : Stmt := inClass (top 10) 6
abbrev m_rsub : Stmt := inClass (top 10) 8
abbrev m_rmul : Stmt := inClass (top 10) 10
abbrev m_over : Stmt := inClass (top 10) 12
abbrev m_size : Stmt := inClass (top 10) 13
abbrev m_below : Stmt := inClass (top 10) 14
abbrev m_most : Stmt := inClass (top 10) 15
abbrev m_eq : Stmt := inClass (top 10) 16
abbrev m_str : Stmt := inClass (top 10) 18
abbrev m_sign : Stmt := inClass (top 10) 3
abbrev m_whole : Stmt := inClass (top 10) 4
theorem mc_radd : FnScope ["self", "other"] ["self", "other"] (defScope m_radd) := ⟨rfl, rfl, rfl, by decide +kernel, rfl, by decide +kernel, by decide +kernel⟩
theorem mc_rsub : FnScope ["self", "other"] ["self", "other"] (defScope m_rsub) := ⟨rfl, rfl, rfl, by decide +kernel, rfl, by decide +kernel, by decide +kernel⟩
theorem mc_rmul : FnScope ["self", "other"] ["self", "other"] (defScope m_rmul) := ⟨rfl, rfl, rfl, by decide +kernel, rfl, by decide +kernel, by decide +kernel⟩
theorem mc_over : FnScope ["self", "other", "right"] ["self", "other"] (defScope m_over) := ⟨rfl, rfl, rfl, by decide +kernel, rfl, by decide +kernel, by decide +kernel⟩
theorem mc_size : FnScope ["self"] ["self"] (defScope m_size) := ⟨rfl, rfl, rfl, by decide +kernel, rfl, by decide +kernel, by decide +kernel⟩
theorem mc_below : FnScope ["self", "other", "right"] ["self", "other"] (defScope m_below) := ⟨rfl, rfl, rfl, by decide +kernel, rfl, by decide +kernel, by decide +kernel⟩
theorem mc_most : FnScope ["self", "other", "right"] ["self", "other"] (defScope m_most) := ⟨rfl, rfl, rfl, by decide +kernel, rfl, by decide +kernel, by decide +kernel⟩
theorem mc_eq : FnScope ["self", "other"] ["self", "other"] (defScope m_eq) := ⟨rfl, rfl, rfl, by decide +kernel, rfl, by decide +kernel, by decide +kernel⟩
theorem mc_str : FnScope ["self"] ["self"] (defScope m_str) := ⟨rfl, rfl, rfl, by decide +kernel, rfl, by decide +kernel, by decide +kernel⟩
theorem mc_sign : FnScope ["self"] ["self"] (defScope m_sign) := ⟨rfl, rfl, rfl, by decide +kernel, rfl, by decide +kernel, by decide +kernel⟩
theorem mc_whole : FnScope ["self"] ["self"] (defScope m_whole) := ⟨rfl, rfl, rfl, by decide +kernel, rfl, by decide +kernel, by decide +kernel⟩
/-- an int on the left: g i p -/
def spOpR (C : Addr) (g : Rat → Rat → Rat) : Sp := fun vs H Q _ => ∃ (a : Addr) (i : Int) (p : Rat), vs = [.ref a, .int i] ∧ RatAt C H a p ∧ Bits 4000 p ∧ Bits 4000 (i : Rat) ∧ ∀ c H', Same H H' → RatAt C H' c (g i p) → Q (.ref c) H'
def spOver (C : Addr) : Sp := fun vs H Q _ => ∃ (a : Addr) (y : V) (p r : Rat), vs = [.ref a, y] ∧ RatAt C H a p ∧ NumAt C H y r ∧ Bits 4000 p ∧ Bits 4000 r ∧ r ≠ 0 ∧ ∀ c H', Same H H' → RatAt C H' c (Rat.divInt (p.num * r.den) (p.den * r.num)) → Q (.ref c) H'
def spSize (C : Addr) : Sp := fun vs H Q _ => ∃ a p, vs = [.ref a] ∧ RatAt C H a p ∧ Bits 4000 p ∧ ∀ c H', Same H H' → RatAt C H' c (Rat.divInt (if p.num < 0 then -p.num else p.num) p.den) → Q (.ref c) H'
def spLt (C : Addr) (f : Int → Int → Bool) : Sp := fun vs H Q _ => ∃ a y p r, vs = [.ref a, y] ∧ RatAt C H a p ∧ NumAt C H y r ∧ Bits 4000 p ∧ Bits 4000 r ∧ ∀ H', Same H H' → Q (.bl (f (p.num * r.den) (r.num * p.den))) H'
def spEq (C : Addr) : Sp := fun vs H Q _ => ∃ (a : Addr) (y : V) (p : Rat), vs = [.ref a, y] ∧ RatAt C H a p ∧ ((∃ i, y = .int i ∧ Q (.bl false) H) ∨ ∃ b r, y = .ref b ∧ RatAt C H b r ∧ Q (.bl (decide (p = r))) H)
def strQ (p : Rat) : Str := if p.den = 1 then toString p.num else Str.empty ++ toString p.num ++ "/" ++ toString (p.den : Int)
def spStr (C : Addr) : Sp := fun vs H Q _ => ∃ a p, vs = [.ref a] ∧ RatAt C H a p ∧ Bits 1900 p ∧ Q (.str (strQ p)) H
def sgn (i : Int) : Int := if i = 0 then 0 else if 0 < i then 1 else -1
def spSign (C : Addr) : Sp := fun vs H Q _ => ∃ a p, vs = [.ref a] ∧ RatAt C H a p ∧ Q (.int (sgn p.num)) H
def spWhole (C : Addr) : Sp := fun vs H Q _ => ∃ a p, vs = [.ref a] ∧ RatAt C H a p ∧ Q (.bl (decide ((p.den : Int) = 1))) H
section
variable {P : Program} {w : World} {K : W.Frag} {mg : Str → Option Value} {base : Heap} {C HC : Addr}
theorem ok_sign {f : Addr} {fd : FuncData} (F : Fun K "sign" "Ratio.sign" m_sign f fd) (T : Txt K mg C HC) : FnOk P w K mg base L2.CX0 1 f fd ["self"] (spSign C) := by
  refine F.ok mc_sign (fun vs H Q E h => ?_) fun cdv A outer s H vs Q E hr h => ?_
  · obtain ⟨a, q, rfl, _⟩ := h
    rfl
  obtain ⟨a, p, rfl, ⟨dx, fs, e, t, b, _⟩, q⟩ := h
  refine ⟨_, (pss_cons (ps_if (pt_cmp (pc_eqI (pe_fld (pv 0) rfl) pe_int)) (pss_one (ps_ret pe_int)) pss_nil) (pss_one (ps_ret (pe_ifExp (pt_cmp (pc_gt (pe_fld (pv 0) rfl) pe_int)) pe_int (pe_un un_neg pe_int))))), ?_⟩
  refine ⟨.ref a, rfl, a, C, dx, fs, _, rfl, e, T.clC, T.nTop, t, _, _, rfl, rfl, _, rfl, iteB (b := decide (p.num = 0)) (fun z => ?_) fun z => ?_⟩
  · unfold sgn at q
    rw [if_pos (of_decide_eq_true z)] at q
    exact q
  · unfold sgn at q
    rw [if_neg (of_decide_eq_false z)] at q
    refine ⟨.ref a, rfl, a, C, dx, fs, _, rfl, e, T.clC, T.nTop, t, _, _, rfl, rfl, _, rfl, iteB (b := decide (0 < p.num)) (fun z => ?_) fun z => ?_⟩
    · rw [if_pos (of_decide_eq_true z)] at q
      exact q
    · rw [if_neg (of_decide_eq_false z)] at q
      exact ⟨1, rfl, q⟩
theorem ok_whole {f : Addr} {fd : FuncData} (F : Fun K "is_whole" "Ratio.is_whole" m_whole f fd) (T : Txt K mg C HC) : FnOk P w K mg base L2.CX0 1 f fd ["self"] (spWhole C) := by
  refine F.ok mc_whole (fun vs H Q E h => ?_) fun cdv A outer s H vs Q E hr h => ?_
  · obtain ⟨a, q, rfl, _⟩ := h
    rfl
  obtain ⟨a, p, rfl, ⟨dx, fs, e, t, b, _⟩, q⟩ := h
  refine ⟨_, (pss_one (ps_ret (pe_cmp (pc_eqI (pe_fld (pv 0) rfl) pe_int) rfl))), ?_⟩
  exact ⟨.ref a, rfl, a, C, dx, fs, _, rfl, e, T.clC, T.nBot, b, _, _, rfl, rfl, q⟩
theorem ok_eq {f : Addr} {fd : FuncData} (F : Fun K "__eq__" "Ratio.__eq__" m_eq f fd) (T : Txt K mg C HC) : FnOk P w K mg base L2.CX0 1 f fd ["self", "other"] (spEq C) := by
  refine F.ok mc_eq (fun vs H Q E h => ?_) fun cdv A outer s H vs Q E hr h => ?_
  · obtain ⟨a, y, q, rfl, _⟩ := h
    rfl
  obtain ⟨a, y, p, rfl, ⟨dx, fs, e, t, b, _⟩, q⟩ := h
  refine ⟨_, (pss_one (ps_ret (pe_and (pe_callB call_isi (by rfl) T.isi (by decide +kernel) (pa_cons (pv 1) (pa_cons (pe_glob (v := .ref C) (by rfl) T.mgC rfl) pa_nil))) (pe_and (pe_cmp (pc_eqI (pe_fld (pv 0) rfl) (pe_fld (pv 1) rfl)) rfl) (pe_one (pe_cmp (pc_eqI (pe_fld (pv 0) rfl) (pe_fld (pv 1) rfl)) rfl)))))), ?_⟩
  rcases q with ⟨i, rfl, q⟩ | ⟨c, r, rfl, ⟨dx2, fs2, e2, t2, b2, _⟩, q⟩
  · refine ⟨.int i, rfl, .int i, .ref C, _, _, _, rfl, .own C, tyx T (.int i), kit_rat T (.int i), _, rfl, ?_⟩
    exact iteF q
  · refine ⟨.ref c, rfl, .ref c, .ref C, _, _, _, rfl, .own C, tyx T (.rat e2 t2 b2), kit_rat T (.rat r.num r.den), _, rfl, ?_⟩
    refine iteT ⟨.ref a, rfl, a, C, dx, fs, _, rfl, e, T.clC, T.nTop, t, .ref c, rfl, c, C, dx2, fs2, _, rfl, e2, T.clC, T.nTop, t2, _, _, rfl, rfl, _, rfl, iteB (b := decide (p.num = r.num)) (fun z => ?_) fun z => ?_⟩
    · refine ⟨.ref a, rfl, a, C, dx, fs, _, rfl, e, T.clC, T.nBot, b, .ref c, rfl, c, C, dx2, fs2, _, rfl, e2, T.clC, T.nBot, b2, _, _, rfl, rfl, ?_⟩
      have z1 := of_decide_eq_true z
      have : decide (p = r) = decide ((p.den : Int) = r.den) := by
        refine decide_eq_decide.2 ⟨fun h => by rw [h], fun h => Rat.ext z1 (by exact_mod_cast h)⟩
      rw [this] at q
      exact q
    · have : decide (p = r) = false := decide_eq_false fun h => (of_decide_eq_false z) (by rw [h])
      rw [this] at q
      exact q
end
end KT

set_option Elab.async false
set_option linter.all false
set_option maxRecDepth 100000
set_option maxHeartbeats 4000000
namespace KT
open PySem L2 TW
section
variable {P : Program} {w : World} {K : W.Frag} {mg : Str → Option Value} {base : Heap} {C HC : Addr}
theorem ok_radd {f : Addr} {fd : FuncData} (F : Fun K "__radd__" "Ratio.__radd__" m_radd f fd) (O : Ops P w K mg base C) (sf : W.selfFirst K C = true) (Ad : OpAt P w K mg base C "__add__" ["self", "other"] (spOp2 C (· + ·))) : FnOk P w K mg base L2.CX0 6 f fd ["self", "other"] (spOpR C (· + ·)) := by
  refine F.ok mc_radd (fun vs H Q E h => ?_) fun cdv A outer s H vs Q E hr h => ?_
  · obtain ⟨a, i, p, rfl, _⟩ := h
    rfl
  obtain ⟨a, i, p, rfl, ha, bp, bi, q⟩ := h
  obtain ⟨fo, fdo, Ao, No⟩ := O.of
  obtain ⟨fa, fda, Oa, Na, Ba⟩ := Ad.ex
  have hr4 : Room 4 _ := hr.mono (by decide)
  refine ⟨_, pss_one (ps_ret (pe_op (op_own (op := .Add) Oa sf Na hr Ba pass0) (pe_call No hr4 (by rfl) Ao.mg Ao.fn.kp Ao.b .nil pass0 (pa_cons (pv 1) pa_nil)) (pv 0))), ?_⟩
  refine ⟨.int i, rfl, .int i, (i : Rat), rfl, .inl ⟨i, rfl, rfl⟩, fun c H1 s1 hc => ?_⟩
  have ha1 := ha.same s1
  obtain ⟨dx, fs, e, t, b, _⟩ := id ha1
  obtain ⟨dx2, fs2, e2, t2, b2, _⟩ := id hc
  exact ⟨.ref a, rfl, c, a, dx2, dx, fs2, fs, rfl, rfl, e2, e, c, .ref a, i, p, rfl, hc, .inr ⟨a, rfl, ha1⟩, bi, bp, fun x H3 s3 hx => ⟨⟨x, rfl⟩, q x H3 (s1.trans s3) hx⟩⟩
theorem ok_rsub {f : Addr} {fd : FuncData} (F : Fun K "__rsub__" "Ratio.__rsub__" m_rsub f fd) (O : Ops P w K mg base C) (sf : W.selfFirst K C = true) {fa : Addr} {fda : FuncData} (Oa : Own K C fa "__sub__") (Na : FnOk P w K mg base L2.CX0 6 fa fda ["self", "other"] (spOp2 C (· - ·))) (Ba : Binds K fda ["self", "other"] []) :
    FnOk P w K mg base L2.CX0 7 f fd ["self", "other"] (spOpR C (· - ·)) := by
  refine F.ok mc_rsub (fun vs H Q E h => ?_) fun cdv A outer s H vs Q E hr h => ?_
  · obtain ⟨a, i, p, rfl, _⟩ := h
    rfl
  obtain ⟨a, i, p, rfl, ha, bp, bi, q⟩ := h
  obtain ⟨fo, fdo, Ao, No⟩ := O.of
  have hr4 : Room 4 _ := hr.mono (by decide)
  refine ⟨_, pss_one (ps_ret (pe_op (op_own (op := .Sub) Oa sf Na hr Ba pass0) (pe_call No hr4 (by rfl) Ao.mg Ao.fn.kp Ao.b .nil pass0 (pa_cons (pv 1) pa_nil)) (pv 0))), ?_⟩
  refine ⟨.int i, rfl, .int i, (i : Rat), rfl, .inl ⟨i, rfl, rfl⟩, fun c H1 s1 hc => ?_⟩
  have ha1 := ha.same s1
  obtain ⟨dx, fs, e, t, b, _⟩ := id ha1
  obtain ⟨dx2, fs2, e2, t2, b2, _⟩ := id hc
  exact ⟨.ref a, rfl, c, a, dx2, dx, fs2, fs, rfl, rfl, e2, e, c, .ref a, i, p, rfl, hc, .inr ⟨a, rfl, ha1⟩, bi, bp, fun x H3 s3 hx => ⟨⟨x, rfl⟩, q x H3 (s1.trans s3) hx⟩⟩
theorem ok_rmul {f : Addr} {fd : FuncData} (F : Fun K "__rmul__" "Ratio.__rmul__" m_rmul f fd) (O : Ops P w K mg base C) (sf : W.selfFirst K C = true) (Ad : OpAt P w K mg base C "__mul__" ["self", "other"] (spOp2 C (· * ·))) : FnOk P w K mg base L2.CX0 6 f fd ["self", "other"] (spOpR C (· * ·)) := by
  refine F.ok mc_rmul (fun vs H Q E h => ?_) fun cdv A outer s H vs Q E hr h => ?_
  · obtain ⟨a, i, p, rfl, _⟩ := h
    rfl
  obtain ⟨a, i, p, rfl, ha, bp, bi, q⟩ := h
  obtain ⟨fo, fdo, Ao, No⟩ := O.of
  obtain ⟨fa, fda, Oa, Na, Ba⟩ := Ad.ex
  have hr4 : Room 4 _ := hr.mono (by decide)
  refine ⟨_, pss_one (ps_ret (pe_op (op_own (op := .Mult) Oa sf Na hr Ba pass0) (pe_call No hr4 (by rfl) Ao.mg Ao.fn.kp Ao.b .nil pass0 (pa_cons (pv 1) pa_nil)) (pv 0))), ?_⟩
  refine ⟨.int i, rfl, .int i, (i : Rat), rfl, .inl ⟨i, rfl, rfl⟩, fun c H1 s1 hc => ?_⟩
  have ha1 := ha.same s1
  obtain ⟨dx, fs, e, t, b, _⟩ := id ha1
  obtain ⟨dx2, fs2, e2, t2, b2, _⟩ := id hc
  exact ⟨.ref a, rfl, c, a, dx2, dx, fs2, fs, rfl, rfl, e2, e, c, .ref a, i, p, rfl, hc, .inr ⟨a, rfl, ha1⟩, bi, bp, fun x H3 s3 hx => ⟨⟨x, rfl⟩, q x H3 (s1.trans s3) hx⟩⟩
theorem ok_over {f ps gs : Addr} {fd gds : FuncData} (F : Fun K "over" "Ratio.over" m_over f fd) (T : Txt K mg C HC) (O : Ops P w K mg base C) (Ps : PrAt K C "sign" "Ratio.sign" m_sign ps gs gds) : FnOk P w K mg base L2.CX0 5 f fd ["self", "other"] (spOver C) := by
  refine F.ok mc_over (fun vs H Q E h => ?_) fun cdv A outer s H vs Q E hr h => ?_
  · obtain ⟨a, y, p, r, rfl, _⟩ := h
    rfl
  obtain ⟨a, y, p, r, rfl, ha, hy, bp, br, r0, q⟩ := h
  obtain ⟨fo, fdo, Ao, No⟩ := O.of
  obtain ⟨fm, fdm, ds, M, Nm, vd, bd⟩ := O.mk_
  obtain ⟨pt, gt, gdt, Pt⟩ := O.top_
  obtain ⟨pb, gb, gdb, Pb⟩ := O.bot_
  have hr2 : Room 2 _ := hr.mono (by decide)
  have hr3 : Room 3 _ := hr.mono (by decide)
  refine ⟨_, (pss_cons (ps_set (i := 2) mc_over.nd rfl (.inl rfl) (pe_call No hr (by rfl) Ao.mg Ao.fn.kp Ao.b .nil pass0 (pa_cons (pv 1) pa_nil))) (pss_cons (ps_if (pt_cmp (pc_eqI (pe_prop (pv 2) T.clC Ps.pr (ok_sign Ps.fn T) hr2 Ps.b .nil pass0 rfl) pe_int)) (pss_one ps_never) pss_nil) (pss_one (ps_ret (pe_make M Nm hr3 (by rfl) T.mgC bd vd pass0 (pa_cons (pe_op op_mulW (pe_fld (pv 0) rfl) (pe_prop (pv 2) T.clC Pb.pr (ok_bottom Pb.fn T) hr2 Pb.b .nil pass0 rfl)) (pa_cons (pe_op op_mulW (pe_fld (pv 0) rfl) (pe_prop (pv 2) T.clC Pt.pr (ok_top Pt.fn T) hr2 Pt.b .nil pass0 rfl)) pa_nil))))))), ?_⟩
  refine ⟨y, rfl, y, r, rfl, hy, fun c H1 s1 hc => ?_⟩
  obtain ⟨dx, fs, e, t, b, _⟩ := ha.same s1
  obtain ⟨dx2, fs2, e2, t2, b2, _⟩ := id hc
  have n0 : r.num ≠ 0 := fun z => r0 (Rat.num_eq_zero.1 z)
  have sg : sgn r.num ≠ 0 := by
    unfold sgn
    rw [if_neg n0]
    split <;> decide
  refine ⟨.ref c, rfl, c, dx2, fs2, rfl, e2, c, r, rfl, hc, _, _, rfl, rfl, _, rfl, iteB (b := decide (sgn r.num = 0)) (fun z => absurd (of_decide_eq_true z) sg) fun _ => ?_⟩
  have m1 : CMulW p.num r.den := wide_mul bp.1 (by rw [Int.natAbs_natCast]; exact br.2) (by decide) (by decide) (by decide)
  have m3 : CMulW (p.den : Int) r.num := wide_mul (by rw [Int.natAbs_natCast]; exact bp.2) br.1 (by decide) (by decide) (by decide)
  refine ⟨.ref a, rfl, a, C, dx, fs, _, rfl, e, T.clC, T.nTop, t, .ref c, rfl, c, dx2, fs2, rfl, e2, c, r, rfl, hc, _, _, rfl, rfl, m1, ?_⟩
  refine ⟨.ref a, rfl, a, C, dx, fs, _, rfl, e, T.clC, T.nBot, b, .ref c, rfl, c, dx2, fs2, rfl, e2, c, r, rfl, hc, _, _, rfl, rfl, m3, fun x dz nx ndz ne => ?_⟩
  have nz : (p.den : Int) * r.num ≠ 0 := Int.mul_ne_zero (Int.natCast_ne_zero.2 p.den_nz) n0
  refine ⟨x, dz, _, _, rfl, upd_same, nz, ?_, fun H' keep hx => ⟨rfl, q x H' (fun b o e => ?_) hx⟩⟩
  · rw [Int.natAbs_mul, Int.natAbs_natCast]
    exact Nat.lt_of_lt_of_le (pow_mul_lt bp.2 br.1) (Nat.pow_le_pow_right (by decide) (by decide))
  · have e1 := s1 _ _ e
    refine keep b o ?_ (ne_of_none e1 nx)
    rw [upd_ne (ne_of_none e1 nx), upd_ne (ne_of_none e1 ndz)]
    exact e1
theorem ok_size {f : Addr} {fd : FuncData} (F : Fun K "size" "Ratio.size" m_size f fd) (T : Txt K mg C HC) (habs : mg "abs" = none) (O : Ops P w K mg base C) : FnOk P w K mg base L2.CX0 5 f fd ["self"] (spSize C) := by
  refine F.ok mc_size (fun vs H Q E h => ?_) fun cdv A outer s H vs Q E hr h => ?_
  · obtain ⟨a, p, rfl, _⟩ := h
    rfl
  obtain ⟨a, p, rfl, ha, bp, q⟩ := h
  obtain ⟨fm, fdm, ds, M, Nm, vd, bd⟩ := O.mk_
  have hr3 : Room 3 _ := hr.mono (by decide)
  refine ⟨_, (pss_one (ps_ret (pe_make M Nm hr3 (by rfl) T.mgC bd vd pass0 (pa_cons (pe_callB call_abs (by rfl) habs (by decide +kernel) (pa_cons (pe_fld (pv 0) rfl) pa_nil)) (pa_cons (pe_fld (pv 0) rfl) pa_nil))))), ?_⟩
  obtain ⟨dx, fs, e, t, b, _⟩ := ha
  refine ⟨.ref a, rfl, a, C, dx, fs, _, rfl, e, T.clC, T.nTop, t, _, rfl, .ref a, rfl, a, C, dx, fs, _, rfl, e, T.clC, T.nBot, b, fun x dz nx ndz ne => ?_⟩
  have nz : (p.den : Int) ≠ 0 := Int.natCast_ne_zero.2 p.den_nz
  refine ⟨x, dz, _, _, rfl, upd_same, nz, ?_, fun H' keep hx => ⟨rfl, q x H' (fun b o e1 => ?_) hx⟩⟩
  · rw [Int.natAbs_natCast]
    exact Nat.lt_of_lt_of_le bp.2 (Nat.pow_le_pow_right (by decide) (by decide))
  · refine keep b o ?_ (ne_of_none e1 nx)
    rw [upd_ne (ne_of_none e1 nx), upd_ne (ne_of_none e1 ndz)]
    exact e1
theorem ok_below {f : Addr} {fd : FuncData} (F : Fun K "is_below" "Ratio.is_below" m_below f fd) (T : Txt K mg C HC) (O : Ops P w K mg base C) : FnOk P w K mg base L2.CX0 5 f fd ["self", "other"] (spLt C fun x y => decide (x < y)) := by
  refine F.ok mc_below (fun vs H Q E h => ?_) fun cdv A outer s H vs Q E hr h => ?_
  · obtain ⟨a, y, p, r, rfl, _⟩ := h
    rfl
  obtain ⟨a, y, p, r, rfl, ha, hy, bp, br, q⟩ := h
  obtain ⟨fo, fdo, Ao, No⟩ := O.of
  obtain ⟨pt, gt, gdt, Pt⟩ := O.top_
  obtain ⟨pb, gb, gdb, Pb⟩ := O.bot_
  have hr2 : Room 2 _ := hr.mono (by decide)
  refine ⟨_, (pss_cons (ps_set (i := 2) mc_below.nd rfl (.inl rfl) (pe_call No hr (by rfl) Ao.mg Ao.fn.kp Ao.b .nil pass0 (pa_cons (pv 1) pa_nil))) (pss_one (ps_ret (pe_cmp (pc_lt (pe_op op_mulW (pe_fld (pv 0) rfl) (pe_prop (pv 2) T.clC Pb.pr (ok_bottom Pb.fn T) hr2 Pb.b .nil pass0 rfl)) (pe_op op_mulW (pe_prop (pv 2) T.clC Pt.pr (ok_top Pt.fn T) hr2 Pt.b .nil pass0 rfl) (pe_fld (pv 0) rfl))) rfl)))), ?_⟩
  refine ⟨y, rfl, y, r, rfl, hy, fun c H1 s1 hc => ?_⟩
  obtain ⟨dx, fs, e, t, b, _⟩ := ha.same s1
  obtain ⟨dx2, fs2, e2, t2, b2, _⟩ := id hc
  have m1 : CMulW p.num r.den := wide_mul bp.1 (by rw [Int.natAbs_natCast]; exact br.2) (by decide) (by decide) (by decide)
  have m2 : CMulW r.num p.den := wide_mul br.1 (by rw [Int.natAbs_natCast]; exact bp.2) (by decide) (by decide) (by decide)
  refine ⟨.ref a, rfl, a, C, dx, fs, _, rfl, e, T.clC, T.nTop, t, .ref c, rfl, c, dx2, fs2, rfl, e2, c, r, rfl, hc, _, _, rfl, rfl, m1, ?_⟩
  exact ⟨.ref c, rfl, c, dx2, fs2, rfl, e2, c, r, rfl, hc, .ref a, rfl, a, C, dx, fs, _, rfl, e, T.clC, T.nBot, b, _, _, rfl, rfl, m2, _, _, rfl, rfl, q H1 s1⟩
theorem ok_most {f : Addr} {fd : FuncData} (F : Fun K "is_at_most" "Ratio.is_at_most" m_most f fd) (T : Txt K mg C HC) (O : Ops P w K mg base C) : FnOk P w K mg base L2.CX0 5 f fd ["self", "other"] (spLt C fun x y => decide (x ≤ y)) := by
  refine F.ok mc_most (fun vs H Q E h => ?_) fun cdv A outer s H vs Q E hr h => ?_
  · obtain ⟨a, y, p, r, rfl, _⟩ := h
    rfl
  obtain ⟨a, y, p, r, rfl, ha, hy, bp, br, q⟩ := h
  obtain ⟨fo, fdo, Ao, No⟩ := O.of
  obtain ⟨pt, gt, gdt, Pt⟩ := O.top_
  obtain ⟨pb, gb, gdb, Pb⟩ := O.bot_
  have hr2 : Room 2 _ := hr.mono (by decide)
  refine ⟨_, (pss_cons (ps_set (i := 2) mc_most.nd rfl (.inl rfl) (pe_call No hr (by rfl) Ao.mg Ao.fn.kp Ao.b .nil pass0 (pa_cons (pv 1) pa_nil))) (pss_one (ps_ret (pe_cmp (pc_le (pe_op op_mulW (pe_fld (pv 0) rfl) (pe_prop (pv 2) T.clC Pb.pr (ok_bottom Pb.fn T) hr2 Pb.b .nil pass0 rfl)) (pe_op op_mulW (pe_prop (pv 2) T.clC Pt.pr (ok_top Pt.fn T) hr2 Pt.b .nil pass0 rfl) (pe_fld (pv 0) rfl))) rfl)))), ?_⟩
  refine ⟨y, rfl, y, r, rfl, hy, fun c H1 s1 hc => ?_⟩
  obtain ⟨dx, fs, e, t, b, _⟩ := ha.same s1
  obtain ⟨dx2, fs2, e2, t2, b2, _⟩ := id hc
  have m1 : CMulW p.num r.den := wide_mul bp.1 (by rw [Int.natAbs_natCast]; exact br.2) (by decide) (by decide) (by decide)
  have m2 : CMulW r.num p.den := wide_mul br.1 (by rw [Int.natAbs_natCast]; exact bp.2) (by decide) (by decide) (by decide)
  refine ⟨.ref a, rfl, a, C, dx, fs, _, rfl, e, T.clC, T.nTop, t, .ref c, rfl, c, dx2, fs2, rfl, e2, c, r, rfl, hc, _, _, rfl, rfl, m1, ?_⟩
  exact ⟨.ref c, rfl, c, dx2, fs2, rfl, e2, c, r, rfl, hc, .ref a, rfl, a, C, dx, fs, _, rfl, e, T.clC, T.nBot, b, _, _, rfl, rfl, m2, _, _, rfl, rfl, q H1 s1⟩
theorem ok_str {f : Addr} {fd : FuncData} (F : Fun K "__str__" "Ratio.__str__" m_str f fd) (T : Txt K mg C HC) (hstr : mg "str" = none) : FnOk P w K mg base L2.CX0 1 f fd ["self"] (spStr C) := by
  refine F.ok mc_str (fun vs H Q E h => ?_) fun cdv A outer s H vs Q E hr h => ?_
  · obtain ⟨a, p, rfl, _⟩ := h
    rfl
  obtain ⟨a, p, rfl, ⟨dx, fs, e, t, b, _⟩, bp, q⟩ := h
  have z1 : SmallI p.num := Nat.lt_trans (lt_log2 bp.1 (by decide)) (by decide)
  have z2 : SmallI (p.den : Int) := Nat.lt_trans (lt_log2 (by rw [Int.natAbs_natCast]; exact bp.2) (by decide)) (by decide)
  have q1 := len_int z1
  have q2 := len_int z2
  have e0 : (Str.empty).length = 0 := rfl
  have e1 : (("/" : String) : Str).length = 1 := rfl
  have z : (6000 : Nat) ≤ sizeLine := by decide
  refine ⟨_, (pss_cons (ps_if (pt_cmp (pc_eqI (pe_fld (pv 0) rfl) pe_int)) (pss_one (ps_ret (pe_callTy call_str_int (by rfl) hstr (by decide +kernel) (pa_cons (pe_fld (pv 0) rfl) pa_nil)))) pss_nil) (pss_one (ps_ret (pe_joined (.cons (pe_fmt (pe_fld (pv 0) rfl)) (.cons pe_str (.cons (pe_fmt (pe_fld (pv 0) rfl)) .nil))))))), ?_⟩
  refine ⟨.ref a, rfl, a, C, dx, fs, _, rfl, e, T.clC, T.nBot, b, _, _, rfl, rfl, _, rfl, iteB (b := decide ((p.den : Int) = 1)) (fun y => ?_) fun y => ?_⟩
  · have y' : p.den = 1 := by exact_mod_cast of_decide_eq_true y
    unfold strQ at q
    rw [if_pos y'] at q
    exact ⟨.ref a, rfl, a, C, dx, fs, _, rfl, e, T.clC, T.nTop, t, _, rfl, z1, q⟩
  · have y' : p.den ≠ 1 := fun h => of_decide_eq_false y (by rw [h]; rfl)
    unfold strQ at q
    rw [if_neg y'] at q
    refine ⟨.ref a, rfl, a, C, dx, fs, _, rfl, e, T.clC, T.nTop, t, .inr ⟨p.num, rfl, z1, _, rfl, by rw [strLen_append, e0]; omega, ?_⟩⟩
    refine ⟨_, rfl, by rw [strLen_append, strLen_append, e0, e1]; omega, .ref a, rfl, a, C, dx, fs, _, rfl, e, T.clC, T.nBot, b, .inr ⟨p.den, rfl, z2, _, rfl, by rw [strLen_append, strLen_append, strLen_append, e0, e1]; omega, q⟩⟩
end
end KT

set_option Elab.async false
set_option linter.all false
set_option maxRecDepth 100000
set_option maxHeartbeats 4000000
namespace KT
open PySem L2 TW
abbrev s_pot : Stmt := top 14
abbrev s_draw : Stmt := top 15
abbrev s_pick : Stmt := top 16
structure Txt2 (mg : Str → Option Value) : Prop where
  abs_ : mg "abs" = none
  max_ : mg "max" = none
  min_ : mg "min" = none
  divmod_ : mg "divmod" = none
  str_ : mg "str" = none
  range_ : mg "range" = none
  enum_ : mg "enumerate" = none
  repr_ : mg "repr" = none
theorem sc_pot : FnScope ["_law_script", "_law_k", "_law_cell"] ["_law_script", "_law_k"] (defScope s_pot) := ⟨rfl, rfl, rfl, by decide +kernel, rfl, by decide +kernel, by decide +kernel⟩
theorem sc_draw : FnScope ["_law_pot_here", "_law_room", "_law_digit"] ["_law_pot_here", "_law_room"] (defScope s_draw) := ⟨rfl, rfl, rfl, by decide +kernel, rfl, by decide +kernel, by decide +kernel⟩
theorem sc_pick : FnScope ["_law_pot_here", "_law_some"] ["_law_pot_here", "_law_some"] (defScope s_pick) := ⟨rfl, rfl, rfl, by decide +kernel, rfl, by decide +kernel, by decide +kernel⟩
/-- a pot stands at p -/
def PotAt (H : Hp) (p : Addr) : Prop := ∃ x y : Int, 0 ≤ x ∧ 0 ≤ y ∧ H p = some (.lst [.int x, .int y])
/-- all but what stands at p is as it was -/
def But (p : Addr) (H H' : Hp) : Prop := ∀ b o, H b = some o → b ≠ p → H' b = some o
theorem give {te : TE} {σ : L2.St} {H : Hp} {S : V → Hp → Prop} {Q : VK} (h : ∀ R : VK, (∀ v H', S v H' → R v H') → te σ H R) (k : ∀ v H', S v H' → Q v H') : te σ H Q := h Q k
theorem But.refl (p : Addr) (H : Hp) : But p H H := fun _ _ e _ => e
theorem But.trans {p : Addr} {H H1 H2 : Hp} (a : But p H H1) (b : But p H1 H2) : But p H H2 := fun c o e h => b c o (a c o e h) h
theorem But.of {p : Addr} {H H' : Hp} (s : Same H H') : But p H H' := fun b o e _ => s b o e
theorem But.upd {p : Addr} {H : Hp} {o : HO} : But p H (upd H p o) := fun b o' e h => by
  rw [upd_ne h]
  exact e
def spPot (K : W.Frag) : Sp := fun vs H Q _ => ∃ (a : Addr) (ns : List Int), vs = [.ref a, .int 0] ∧ SqL K H a (ns.map V.int) ∧ ∀ p H', Same H H' → H p = none → PotAt H' p → Q (.ref p) H'
def spDraw : Sp := fun vs H Q _ => ∃ (p : Addr) (m : Int), vs = [.ref p, .int m] ∧ PotAt H p ∧ 0 < m ∧ m < 1073741824 ∧ ∀ d H', 0 ≤ d → d < m → But p H H' → PotAt H' p → Q (.int d) H'
def spPick : Sp := fun vs H Q _ => ∃ (p q : Addr) (xs : List V), vs = [.ref p, .ref q] ∧ PotAt H p ∧ q ≠ p ∧ H q = some (.lst xs) ∧ 0 < xs.length ∧ xs.length < 1073741824 ∧ ∀ v H', v ∈ xs → But p H H' → PotAt H' p → Q v H'
section
variable {P : Program} {w : World} {K : W.Frag} {mg : Str → Option Value} {base : Heap} {C HC : Addr}
theorem ok_pot {f : Addr} {fd : FuncData} (F : At K mg "_law_pot" s_pot ["_law_script", "_law_k"] f fd) (T : Txt K mg C HC) (T2 : Txt2 mg) : FnOk P w K mg base L2.CX0 1 f fd ["_law_script", "_law_k"] (spPot K) := by
  refine F.fn.ok sc_pot (fun vs H Q E h => ?_) fun cdv A outer s H vs Q E hr h => ?_
  · obtain ⟨a, ns, rfl, _⟩ := h
    rfl
  obtain ⟨a, ns, rfl, hs, q⟩ := h
  refine ⟨_, (pss_cons (ps_set (i := 2) sc_pot.nd rfl (.inl rfl) (pe_op op_add (pe_op op_mul pe_int (pv 1)) pe_int)) (pss_cons (ps_if (pt_cmp (pc_lt (pv 1) (pe_callB call_len_seq (by rfl) T.len_ PySem.boot_len (pa_cons (pv 0) pa_nil)))) (pss_one (ps_set (i := 2) sc_pot.nd rfl (.inl rfl) (pe_callB call_abs (by rfl) T2.abs_ (by decide +kernel) (pa_cons (pe_ix ix_list (pv 0) (pv 1) (fun _ _ => rfl)) pa_nil)))) pss_nil) (pss_one (ps_ret (pe_lst (pa_cons (pe_callB (call_max2 rfl) (by rfl) T2.max_ (by decide +kernel) (pa_cons pe_int (pa_cons (pe_op op_sub (pv 2) (pe_op op_pow pe_int pe_int)) pa_nil))) (pa_cons (pe_op op_add (pe_op op_mod (pe_op op_mul (pe_callTy call_int1 (by rfl) T.int_ (by decide +kernel) (pa_cons (pe_op op_add (pe_op op_mod (pe_callTy call_int1 (by rfl) T.int_ (by decide +kernel) (pa_cons (pv 2) pa_nil)) pe_int) pe_int) pa_nil)) (pe_op op_pow (pe_op op_add (pe_op op_mul pe_int (pv 1)) pe_int) pe_int)) pe_int) pe_int) pa_nil))))))), ?_⟩
  refine ⟨.int 0, rfl, 127, 0, rfl, rfl, .inr ⟨by decide, by decide⟩, _, 59, rfl, rfl, ?_⟩
  refine ⟨.int 0, rfl, .ref a, rfl, a, _, rfl, .inl hs, _, _, rfl, rfl, _, rfl, iteB (b := decide ((0 : Int) < ((ns.map V.int).length : Int))) (fun e => ?_) fun e => ?_⟩
  · have e' := of_decide_eq_true e
    rw [List.length_map] at e'
    have lt : 0 < ns.length := by omega
    have x0 : (ns.map V.int)[0]? = some (V.int ns[0]) := by rw [List.getElem?_map, List.getElem?_eq_getElem lt]; rfl
    refine ⟨.ref a, rfl, .int 0, rfl, a, _, 0, _, rfl, rfl, hs, atI_nat x0, _, rfl, ?_⟩
    refine ⟨.int _, rfl, 10, 18, rfl, rfl, ⟨by decide, by decide, by decide⟩, _, _, rfl, rfl, _, _, rfl, ?_⟩
    refine ⟨.int _, rfl, .inl ⟨_, rfl, _, _, rfl, rfl, (by show (0 : Int) < 2147483549; decide), _, _, rfl, rfl, .inl ⟨_, rfl, ?_⟩⟩⟩
    refine ⟨.int 0, rfl, 2, 0, rfl, rfl, .inr ⟨by decide, by decide⟩, _, _, rfl, rfl, 3, 3, rfl, rfl, ⟨by decide, by decide, by decide⟩, _, _, rfl, rfl, .inr ⟨by decide, by decide⟩, _, _, rfl, rfl, (by show (0 : Int) < 2147483477; decide), _, _, rfl, rfl, ?_⟩
    refine ⟨by show 2 ≤ 2 ^ 24; decide, fun p hp => q p _ (same_new hp) hp ⟨_, _, ?_, ?_, upd_same⟩⟩
    · split <;> omega
    · refine Int.add_nonneg (Int.emod_nonneg _ (by decide)) (by decide)
  · refine ⟨.int _, rfl, 10, 18, rfl, rfl, ⟨by decide, by decide, by decide⟩, _, _, rfl, rfl, _, _, rfl, ?_⟩
    refine ⟨.int _, rfl, .inl ⟨_, rfl, _, _, rfl, rfl, (by show (0 : Int) < 2147483549; decide), _, _, rfl, rfl, .inl ⟨_, rfl, ?_⟩⟩⟩
    refine ⟨.int 0, rfl, 2, 0, rfl, rfl, .inr ⟨by decide, by decide⟩, _, _, rfl, rfl, 3, 3, rfl, rfl, ⟨by decide, by decide, by decide⟩, _, _, rfl, rfl, .inr ⟨by decide, by decide⟩, _, _, rfl, rfl, (by show (0 : Int) < 2147483477; decide), _, _, rfl, rfl, ?_⟩
    refine ⟨by show 2 ≤ 2 ^ 24; decide, fun p hp => q p _ (same_new hp) hp ⟨_, _, ?_, ?_, upd_same⟩⟩
    · split <;> omega
    · refine Int.add_nonneg (Int.emod_nonneg _ (by decide)) (by decide)
theorem ok_draw {f : Addr} {fd : FuncData} (F : At K mg "_law_draw" s_draw ["_law_pot_here", "_law_room"] f fd) (T : Txt K mg C HC) (T2 : Txt2 mg) : FnOk P w K mg base L2.CX0 1 f fd ["_law_pot_here", "_law_room"] spDraw := by
  refine F.fn.ok sc_draw (fun vs H Q E h => ?_) fun cdv A outer s H vs Q E hr h => ?_
  · obtain ⟨p, m, rfl, _⟩ := h
    rfl
  obtain ⟨p, m, rfl, ⟨x, y, hx, hy, hp⟩, m0, m1, q⟩ := h
  refine ⟨_, pss_cons (ps_if (pt_cmp (pc_gt (pe_ix ix_list (pv 0) pe_int (fun _ _ => rfl)) pe_int))
      (pss_cons (ps_asg (pe_callB call_divmod (by rfl) T2.divmod_ (by decide +kernel) (pa_cons (pe_ix ix_list (pv 0) pe_int (fun _ _ => rfl)) (pa_cons (pv 1) pa_nil)))
          (pg_tup rfl (pgs_cons (pg_sub (pv 0) pe_int set_list) (pgs_cons (pg_name (i := 2) sc_draw.nd rfl (.inl rfl)) pgs_nil))))
        (pss_one (ps_ret (pv 2)))) pss_nil)
    (pss_cons (ps_asg (pe_op op_mod (pe_callTy call_int1 (by rfl) T.int_ (by decide +kernel) (pa_cons (pe_op op_add (pe_op op_mul (pe_ix ix_list (pv 0) pe_int (fun _ _ => rfl)) pe_int) pe_int) pa_nil)) pe_int) (pg_sub (pv 0) pe_int set_list))
    (pss_one (ps_ret (pe_op op_mod (pe_callTy call_int1 (by rfl) T.int_ (by decide +kernel) (pa_cons (pe_op op_fdiv (pe_op op_mod (pe_callTy call_int1 (by rfl) T.int_ (by decide +kernel) (pa_cons (pe_op op_mul (pe_ix ix_list (pv 0) pe_int (fun _ _ => rfl)) (pe_ix ix_list (pv 0) pe_int (fun _ _ => rfl))) pa_nil)) pe_int) pe_int) pa_nil)) (pv 1))))), ?_⟩
  have S0 : SqL K H p [.int x, .int y] := SqL.of hp
  have i0 : ∀ a b : V, atI [a, b] 0 = some a := fun a b => atI_nat (j := 0) rfl
  have i1 : ∀ a b : V, atI [a, b] 1 = some b := fun a b => atI_nat (j := 1) rfl
  refine ⟨.ref p, rfl, p, _, 0, _, rfl, rfl, S0, i0 _ _, _, _, rfl, rfl, _, rfl, ?_⟩
  refine iteB (b := decide (0 < x)) (fun e => ?_) fun e => ?_
  · refine ⟨.ref p, rfl, p, _, 0, _, rfl, rfl, S0, i0 _ _, .int m, rfl, x, m, rfl, ⟨m0, m1⟩, fun t ht => ?_⟩
    have np : p ≠ t := ne_of_none hp ht
    refine ⟨t, [.int (x / m), .int (x % m)], rfl, SqT.of upd_same, rfl, _, _, rfl, ⟨.ref p, rfl, p, [.int x, .int y], 0, 0, rfl, rfl, by rw [upd_ne np]; exact hp, rfl, ?_⟩⟩
    refine ⟨.int (x % m), [], rfl, rfl, .int (x % m), rfl, ?_⟩
    refine q _ _ (Int.emod_nonneg _ (by omega)) (Int.emod_lt_of_pos _ m0) (fun b o e hb => ?_) ⟨x / m, y, Int.ediv_nonneg hx (by omega), hy, upd_same⟩
    rw [upd_ne hb, upd_ne (ne_of_none e ht)]
    exact e
  · refine ⟨.ref p, rfl, p, _, 1, _, rfl, rfl, S0, i1 _ _, _, _, rfl, rfl, .inr ⟨by decide, by decide⟩, _, _, rfl, rfl, .inl ⟨_, rfl, _, _, rfl, rfl, (by show (0 : Int) < 2147483587; decide), ?_⟩⟩
    have y0 := Int.emod_nonneg (y * 48271 + 18140) (by decide : (2147483587 : Int) ≠ 0)
    have y1 := Int.emod_lt_of_pos (y * 48271 + 18140) (by decide : (0 : Int) < 2147483587)
    refine ⟨.ref p, rfl, p, [.int x, .int y], 1, 1, rfl, rfl, hp, rfl, ?_⟩
    have key : ∀ z : Int, 0 ≤ z → z < 2147483587 → tRet (tOp (rI (fun _ j => 0 < j) fun i j => .int (i % j)) (tCB (fun xs H Q => (∃ i, xs = [V.int i] ∧ Q (.int i) H) ∨ ∃ k, xs = [V.bl k] ∧ Q (.int (if k then 1 else 0)) H) (tCons (tOp (rI CDiv fun i j => .int (i / j)) (tOp (rI (fun _ j => 0 < j) fun i j => .int (i % j)) (tCB (fun xs H Q => (∃ i, xs = [V.int i] ∧ Q (.int i) H) ∨ ∃ k, xs = [V.bl k] ∧ Q (.int (if k then 1 else 0)) H) (tCons (tOp (rI CMul fun i j => .int (i * j)) (tOp (rIxL K) (tVar 0) (tC (.int 1))) (tOp (rIxL K) (tVar 0) (tC (.int 1)))) tNil)) (tC (.int 2147483549))) (tC (.int 43))) tNil)) (tVar 1)) { nx := fun _ H' => Q .non H', rt := Q } [some (.ref p), some (.int m), none] (upd H p (.lst [.int x, .int z])) := by
      intro z y0 y1
      have S1 : SqL K (upd H p (.lst [.int x, .int z])) p [.int x, .int z] := SqL.of upd_same
      refine ⟨.ref p, rfl, p, _, 1, _, rfl, rfl, S1, i1 _ _, .ref p, rfl, p, _, 1, _, rfl, rfl, S1, i1 _ _, z, z, rfl, rfl, .inl ⟨by omega, by omega⟩, ?_⟩
      refine .inl ⟨_, rfl, _, _, rfl, rfl, (by show (0 : Int) < 2147483549; decide), _, _, rfl, rfl, ⟨by decide, by decide⟩, .inl ⟨_, rfl, .int m, rfl, _, m, rfl, rfl, m0, ?_⟩⟩
      exact q _ _ (Int.emod_nonneg _ (by omega)) (Int.emod_lt_of_pos _ m0) But.upd ⟨x, z, hx, y0, upd_same⟩
    exact key _ y0 y1
theorem ok_pick {f g : Addr} {fd gd : FuncData} (F : At K mg "_law_pick" s_pick ["_law_pot_here", "_law_some"] f fd) (T : Txt K mg C HC) (G : At K mg "_law_draw" s_draw ["_law_pot_here", "_law_room"] g gd)
    (N : FnOk P w K mg base L2.CX0 1 g gd ["_law_pot_here", "_law_room"] spDraw) : FnOk P w K mg base L2.CX0 2 f fd ["_law_pot_here", "_law_some"] spPick := by
  refine F.fn.ok sc_pick (fun vs H Q E h => ?_) fun cdv A outer s H vs Q E hr h => ?_
  · obtain ⟨p, t, xs, rfl, _⟩ := h
    rfl
  obtain ⟨p, t, xs, rfl, hp, ne, ht, l0, l1, q⟩ := h
  refine ⟨_, pss_one (ps_ret (pe_ix ix_list (pv 1) (pe_call N hr (by rfl) G.mg G.fn.kp G.b .nil pass0 (pa_cons (pv 0) (pa_cons (pe_callB call_len_seq (by rfl) T.len_ PySem.boot_len (pa_cons (pv 1) pa_nil)) pa_nil))) (fun _ _ => rfl))), ?_⟩
  refine ⟨.ref t, rfl, .ref p, rfl, .ref t, rfl, t, xs, rfl, .inl (SqL.of ht), p, _, rfl, hp, by omega, by omega, fun d H' d0 d1 bt pt => ?_⟩
  obtain ⟨n, rfl⟩ := Int.eq_ofNat_of_zero_le d0
  have lt : n < xs.length := by omega
  have xn : xs[n]? = some xs[n] := List.getElem?_eq_getElem lt
  exact ⟨t, xs, n, _, rfl, rfl, SqL.of (bt _ _ ht ne), atI_nat xn, q _ _ (List.getElem_mem lt) bt pt⟩
end
end KT

set_option Elab.async false
set_option linter.all false
set_option maxRecDepth 100000
set_option maxHeartbeats 4000000
namespace KT
open PySem L2 TW
abbrev s_low : Stmt := top 17
abbrev s_by : Stmt := top 19
theorem sc_low : FnScope ["_law_top", "_law_bottom", "_law_one", "_law_other"] ["_law_top", "_law_bottom"] (defScope s_low) := ⟨rfl, rfl, rfl, by decide +kernel, rfl, by decide +kernel, by decide +kernel⟩
theorem sc_by : FnScope ["_law_one", "_law_other"] ["_law_one", "_law_other"] (defScope s_by) := ⟨rfl, rfl, rfl, by decide +kernel, rfl, by decide +kernel, by decide +kernel⟩
/-- a fraction as a tuple -/
def pD (q : Rat) : D := .tup [.int q.num, .int q.den]
def spLow (C : Addr) : Sp := fun vs H Q _ => ∃ t b : Int, vs = [.int t, .int b] ∧ b ≠ 0 ∧ b.natAbs < 2 ^ 9000 ∧ ∀ p, H p = none → Q (.ref p) (upd H p (.tup [.int (Rat.divInt t b).num, .int (Rat.divInt t b).den]))
section
variable {P : Program} {w : World} {K : W.Frag} {mg : Str → Option Value} {base : Heap} {C HC : Addr}
theorem ok_low {f : Addr} {fd : FuncData} (F : At K mg "_law_low" s_low ["_law_top", "_law_bottom"] f fd) (T : Txt K mg C HC) (T2 : Txt2 mg) : FnOk P w K mg base L2.CX0 1 f fd ["_law_top", "_law_bottom"] (spLow C) := by
  refine F.fn.ok sc_low (fun vs H Q E h => ?_) fun cdv A outer s H vs Q E hr h => ?_
  · obtain ⟨t, b, rfl, _⟩ := h
    rfl
  obtain ⟨t, b, rfl, hb, hz, q⟩ := h
  have nd := sc_low.nd
  refine ⟨_, (pss_cons (ps_par rfl sc_low.nd (i := 2) (j := 3) rfl rfl (by decide) rfl rfl (pa_cons (pe_callB call_abs (by rfl) T2.abs_ (by decide +kernel) (pa_cons (pv 0) pa_nil)) (pa_cons (pe_callB call_abs (by rfl) T2.abs_ (by decide +kernel) (pa_cons (pv 1) pa_nil)) pa_nil)) (by rfl)) (pss_cons (ps_while PassesOwn.never (pt_cmp (pc_gt (pv 3) pe_int)) (pss_one (ps_par rfl sc_low.nd (i := 2) (j := 3) rfl rfl (by decide) rfl rfl (pa_cons (pv 3) (pa_cons (pe_op op_mod (pe_callTy call_int1 (by rfl) T.int_ (by decide +kernel) (pa_cons (pv 2) pa_nil)) (pv 3)) pa_nil)) (by rfl)))) (pss_cons (ps_set (i := 2) sc_low.nd rfl (.inl rfl) (pe_ifExp (pt_cmp (pc_gt (pv 1) pe_int)) (pv 2) (pe_op op_sub pe_int (pv 2)))) (pss_one (ps_ret (pe_tup (pa_cons (pe_op op_fdivS (pv 0) (pv 2)) (pa_cons (pe_op op_fdivS (pv 1) (pv 2)) pa_nil)))))))), ?_⟩
  have g0 : 0 < Nat.gcd t.natAbs b.natAbs := Nat.gcd_pos_of_pos_right _ (by omega)
  have ab : ∀ z : Int, (if z < 0 then -z else z) = (z.natAbs : Int) := fun z => by
    split <;> omega
  refine ⟨.int t, rfl, t, rfl, .int b, rfl, b, rfl, _, _, rfl, ?_⟩
  refine while_by (fun (σ : L2.St) (H' : Hp) => H' = H ∧ ∃ x y : Nat, σ = [some (.int t), some (.int b), some (.int x), some (.int y)] ∧ Nat.gcd x y = Nat.gcd t.natAbs b.natAbs) (fun (σ : L2.St) _ => match σ[3]? with
      | some (some (V.int y)) => y.toNat
      | _ => 0) ⟨rfl, t.natAbs, b.natAbs, by rw [← ab, ← ab]; rfl, rfl⟩ ?_ ?_
  · rintro σ H' ⟨rfl, x, y, rfl, hg⟩
    refine ⟨.int y, rfl, y, 0, rfl, rfl, _, rfl, ?_⟩
    refine iteB (b := decide ((0 : Int) < y)) (fun e => ?_) fun e => ?_
    · have e' := of_decide_eq_true e
      refine ⟨.int y, rfl, .int x, rfl, .inl ⟨x, rfl, .int y, rfl, x, y, rfl, rfl, e', _, _, rfl, ⟨rfl, y, x % y, ?_, ?_⟩, ?_⟩⟩
      · show [some (V.int t), some (.int b), some (.int y), some (.int ((x : Int) % y))] = _
        rw [← Int.natCast_emod]
      · rw [Nat.gcd_comm, ← Nat.gcd_rec, Nat.gcd_comm]
        exact hg
      · show ((x : Int) % y).toNat < (y : Int).toNat
        have := Int.emod_lt_of_pos (x : Int) e'
        have := Int.emod_nonneg (x : Int) (Int.ne_of_gt e')
        omega
    · have e' := of_decide_eq_false e
      have y0 : y = 0 := by omega
      subst y0
      rw [Nat.gcd_zero_right] at hg
      subst hg
      have c0 := comm_ne (t := t) hb
      have cz : (comm t b).natAbs.log2 < 9000 := lt_log2 (Nat.lt_of_le_of_lt (comm_le hb) hz) (by decide)
      have rest : ∀ c : Int, c = comm t b → tRet (tTup (tCons (tOp (rI CDivS fun i j => .int (i.fdiv j)) (tVar 0) (tVar 2)) (tCons (tOp (rI CDivS fun i j => .int (i.fdiv j)) (tVar 1) (tVar 2)) tNil))) { nx := fun _ H' => Q .non H', rt := Q } [some (.int t), some (.int b), some (.int c), some (.int ((0 : Nat) : Int))] H' := by
        rintro c rfl
        refine ⟨.int t, rfl, .int _, rfl, t, _, rfl, rfl, ⟨c0, cz⟩, .int b, rfl, .int _, rfl, b, _, rfl, rfl, ⟨c0, cz⟩, by show 2 ≤ 2 ^ 24; decide, fun p hp => ?_⟩
        have z := q p hp
        rw [← num_comm hb, ← den_comm (t := t) hb] at z
        exact z
      refine ⟨.int b, rfl, b, 0, rfl, rfl, _, rfl, ?_⟩
      refine iteB (b := decide ((0 : Int) < b)) (fun e => ?_) fun e => ?_
      · have eb : ¬ b < 0 := by have := of_decide_eq_true e; omega
        refine ⟨.int _, rfl, rest _ ?_⟩
        unfold comm
        rw [if_neg eb]
      · have eb : b < 0 := by have := of_decide_eq_false e; omega
        refine ⟨.int _, rfl, 0, _, rfl, rfl, rest _ ?_⟩
        unfold comm
        rw [if_pos eb]
        omega
  · intro σ H' Q1 Q2 h ⟨v, e, i, j, e1, e2, c, e3, z⟩
    exact ⟨v, e, i, j, e1, e2, c, e3, h _ _ z⟩
theorem pair_at {C : Addr} {H : Hp} {x : V} {q : Rat} (h : Dt C H x (pD q)) : ∃ a, x = .ref a ∧ H a = some (.tup [.int q.num, .int q.den]) := by
  unfold pD at h
  cases h with
  | tup e d =>
    cases d with
    | cons h1 t =>
      cases t with
      | cons h2 t =>
        cases t
        cases h1
        cases h2
        exact ⟨_, rfl, e⟩
theorem ok_by {f g : Addr} {fd gd : FuncData} (F : At K mg "_law_by" s_by ["_law_one", "_law_other"] f fd) (T : Txt K mg C HC) (G : At K mg "_law_low" s_low ["_law_top", "_law_bottom"] g gd) (N : FnOk P w K mg base L2.CX0 1 g gd ["_law_top", "_law_bottom"] (spLow C)) :
    FnOk P w K mg base L2.CX0 2 f fd ["_law_one", "_law_other"] (fun vs H Q _ => ∃ x y p r, vs = [x, y] ∧ Dt C H x (pD p) ∧ Dt C H y (pD r) ∧ Bits 4000 p ∧ Bits 4000 r ∧ ∀ c, H c = none → Q (.ref c) (upd H c (.tup [.int (p * r).num, .int (p * r).den]))) := by
  refine F.fn.ok sc_by (fun vs H Q E h => ?_) fun cdv A outer s H vs Q E hr h => ?_
  · obtain ⟨x, y, p, r, rfl, _⟩ := h
    rfl
  obtain ⟨x, y, p, r, rfl, hx, hy, bp, br, q⟩ := h
  refine ⟨_, (pss_one (ps_ret (pe_call N hr (by rfl) G.mg G.fn.kp G.b .nil pass0 (pa_cons (pe_op op_mulW (pe_ix (r := rIxT K) ix_tup (pv 0) pe_int (fun _ _ => rfl)) (pe_ix (r := rIxT K) ix_tup (pv 1) pe_int (fun _ _ => rfl))) (pa_cons (pe_op op_mulW (pe_ix (r := rIxT K) ix_tup (pv 0) pe_int (fun _ _ => rfl)) (pe_ix (r := rIxT K) ix_tup (pv 1) pe_int (fun _ _ => rfl))) pa_nil))))), ?_⟩
  obtain ⟨a, rfl, ha⟩ := pair_at hx
  obtain ⟨b, rfl, hb⟩ := pair_at hy
  have i0 : ∀ x y : V, atI [x, y] 0 = some x := fun x y => atI_nat (j := 0) rfl
  have i1 : ∀ x y : V, atI [x, y] 1 = some y := fun x y => atI_nat (j := 1) rfl
  have m1 : CMulW p.num r.num := wide_mul bp.1 br.1 (by decide) (by decide) (by decide)
  have m3 : CMulW (p.den : Int) r.den := wide_mul (by rw [Int.natAbs_natCast]; exact bp.2) (by rw [Int.natAbs_natCast]; exact br.2) (by decide) (by decide) (by decide)
  have nz : (p.den : Int) * r.den ≠ 0 := Int.mul_ne_zero (Int.natCast_ne_zero.2 p.den_nz) (Int.natCast_ne_zero.2 r.den_nz)
  refine ⟨.ref a, rfl, a, _, 0, _, rfl, rfl, SqT.of ha, i0 _ _, .ref b, rfl, b, _, 0, _, rfl, rfl, SqT.of hb, i0 _ _, _, _, rfl, rfl, m1, ?_⟩
  refine ⟨.ref a, rfl, a, _, 1, _, rfl, rfl, SqT.of ha, i1 _ _, .ref b, rfl, b, _, 1, _, rfl, rfl, SqT.of hb, i1 _ _, _, _, rfl, rfl, m3, _, _, rfl, nz, ?_, fun c hc => ?_⟩
  · rw [Int.natAbs_mul, Int.natAbs_natCast, Int.natAbs_natCast]
    exact Nat.lt_of_lt_of_le (pow_mul_lt bp.2 br.2) (Nat.pow_le_pow_right (by decide) (by decide))
  · rw [← rat_mul]
    exact q c hc
end
end KT

set_option Elab.async false
set_option linter.all false
set_option maxRecDepth 100000
set_option maxHeartbeats 4000000
namespace KT
open PySem L2 TW
abbrev l_sum : Stmt := top 18
abbrev l_less : Stmt := top 20
abbrev l_over : Stmt := top 21
abbrev l_total : Stmt := top 22
abbrev l_pair : Stmt := top 23
abbrev l_pairs : Stmt := top 24
abbrev l_shown : Stmt := top 25
theorem lc_sum : FnScope ["_law_one", "_law_other"] ["_law_one", "_law_other"] (defScope l_sum) := ⟨rfl, rfl, rfl, by decide +kernel, rfl, by decide +kernel, by decide +kernel⟩
theorem lc_less : FnScope ["_law_one", "_law_other"] ["_law_one", "_law_other"] (defScope l_less) := ⟨rfl, rfl, rfl, by decide +kernel, rfl, by decide +kernel, by decide +kernel⟩
theorem lc_over : FnScope ["_law_one", "_law_other"] ["_law_one", "_law_other"] (defScope l_over) := ⟨rfl, rfl, rfl, by decide +kernel, rfl, by decide +kernel, by decide +kernel⟩
theorem lc_total : FnScope ["_law_pairs_here", "_law_found", "_law_pair_here"] ["_law_pairs_here"] (defScope l_total) := ⟨rfl, rfl, rfl, by decide +kernel, rfl, by decide +kernel, by decide +kernel⟩
theorem lc_pair : FnScope ["_law_value"] ["_law_value"] (defScope l_pair) := ⟨rfl, rfl, rfl, by decide +kernel, rfl, by decide +kernel, by decide +kernel⟩
theorem lc_pairs : FnScope ["_law_value", "_law_one"] ["_law_value"] (defScope l_pairs) := ⟨rfl, rfl, rfl, by decide +kernel, rfl, by decide +kernel, by decide +kernel⟩
theorem lc_shown : FnScope ["_law_pair_here"] ["_law_pair_here"] (defScope l_shown) := ⟨rfl, rfl, rfl, by decide +kernel, rfl, by decide +kernel, by decide +kernel⟩
/-- a fraction as a tuple, somewhere -/
def PA (H : Hp) (x : V) (q : Rat) : Prop := ∃ a, x = .ref a ∧ H a = some (.tup [.int q.num, .int q.den])
theorem PA.same {H H' : Hp} {x : V} {q : Rat} (s : Same H H') (h : PA H x q) : PA H' x q := by
  obtain ⟨a, e, h⟩ := h
  exact ⟨a, e, s _ _ h⟩
theorem PA.new {H : Hp} {c : Addr} {q : Rat} : PA (upd H c (.tup [.int q.num, .int q.den])) (.ref c) q := ⟨c, rfl, upd_same⟩
theorem fn_sub {P : Program} {w : World} {K : W.Frag} {mg : Str → Option Value} {base : Heap} {CX : CXT} {k : Nat} {f : Addr} {fd : FuncData} {ps : List Str} {sp sp' : Sp} (N : FnOk P w K mg base CX k f fd ps sp) (h : ∀ vs H Q E, sp' vs H Q E → sp vs H Q E) : FnOk P w K mg base CX k f fd ps sp' :=
  ⟨fun vs H Q E z => N.len vs H Q E (h vs H Q E z), fun A outer s H args us vs Q E hr e b v z => N.run A outer s H args us vs Q E hr e b v (h vs H Q E z)⟩
/-- two fractions, as tuples, to one -/
def spP2 (ok : Rat → Prop) (g : Rat → Rat → Rat) : Sp := fun vs H Q _ => ∃ x y p r, vs = [x, y] ∧ PA H x p ∧ PA H y r ∧ Bits 4000 p ∧ Bits 4000 r ∧ ok r ∧ ∀ c H', Same H H' → PA H' (.ref c) (g p r) → Q (.ref c) H'
def overQ (p r : Rat) : Rat := Rat.divInt (p.num * r.den) (p.den * r.num)
section
variable {P : Program} {w : World} {K : W.Frag} {mg : Str → Option Value} {base : Heap} {C HC : Addr}
theorem ok_by' {f g : Addr} {fd gd : FuncData} (F : At K mg "_law_by" s_by ["_law_one", "_law_other"] f fd) (T : Txt K mg C HC) (G : At K mg "_law_low" s_low ["_law_top", "_law_bottom"] g gd) (N : FnOk P w K mg base L2.CX0 1 g gd ["_law_top", "_law_bottom"] (spLow C)) :
    FnOk P w K mg base L2.CX0 2 f fd ["_law_one", "_law_other"] (spP2 (fun _ => True) (· * ·)) := by
  refine fn_sub (ok_by F T G N) fun vs H Q E h => ?_
  obtain ⟨x, y, p, r, rfl, ⟨a, rfl, ha⟩, ⟨b, rfl, hb⟩, bp, br, _, q⟩ := h
  exact ⟨.ref a, .ref b, p, r, rfl, .tup ha (.cons (.int _) (.cons (.int _) .nil)), .tup hb (.cons (.int _) (.cons (.int _) .nil)), bp, br, fun c hc => q c _ (same_new hc) PA.new⟩
theorem ok_lsum {f g : Addr} {fd gd : FuncData} (F : At K mg "_law_sum" l_sum ["_law_one", "_law_other"] f fd) (G : At K mg "_law_low" s_low ["_law_top", "_law_bottom"] g gd) (N : FnOk P w K mg base L2.CX0 1 g gd ["_law_top", "_law_bottom"] (spLow C)) :
    FnOk P w K mg base L2.CX0 2 f fd ["_law_one", "_law_other"] (spP2 (fun _ => True) (· + ·)) := by
  refine F.fn.ok lc_sum (fun vs H Q E h => ?_) fun cdv A outer s H vs Q E hr h => ?_
  · obtain ⟨x, y, p, r, rfl, _⟩ := h
    rfl
  obtain ⟨x, y, p, r, rfl, ⟨a, rfl, ha⟩, ⟨b, rfl, hb⟩, bp, br, _, q⟩ := h
  refine ⟨_, (pss_one (ps_ret (pe_call N hr (by rfl) G.mg G.fn.kp G.b .nil pass0 (pa_cons (pe_op op_add (pe_op op_mulW (pe_ix (r := rIxT K) ix_tup (pv 0) pe_int (fun _ _ => rfl)) (pe_ix (r := rIxT K) ix_tup (pv 1) pe_int (fun _ _ => rfl))) (pe_op op_mulW (pe_ix (r := rIxT K) ix_tup (pv 1) pe_int (fun _ _ => rfl)) (pe_ix (r := rIxT K) ix_tup (pv 0) pe_int (fun _ _ => rfl)))) (pa_cons (pe_op op_mulW (pe_ix (r := rIxT K) ix_tup (pv 0) pe_int (fun _ _ => rfl)) (pe_ix (r := rIxT K) ix_tup (pv 1) pe_int (fun _ _ => rfl))) pa_nil))))), ?_⟩
  have i0 : ∀ x y : V, atI [x, y] 0 = some x := fun x y => atI_nat (j := 0) rfl
  have i1 : ∀ x y : V, atI [x, y] 1 = some y := fun x y => atI_nat (j := 1) rfl
  have m1 : CMulW p.num r.den := wide_mul bp.1 (by rw [Int.natAbs_natCast]; exact br.2) (by decide) (by decide) (by decide)
  have m2 : CMulW r.num p.den := wide_mul br.1 (by rw [Int.natAbs_natCast]; exact bp.2) (by decide) (by decide) (by decide)
  have m3 : CMulW (p.den : Int) r.den := wide_mul (by rw [Int.natAbs_natCast]; exact bp.2) (by rw [Int.natAbs_natCast]; exact br.2) (by decide) (by decide) (by decide)
  have nz : (p.den : Int) * r.den ≠ 0 := Int.mul_ne_zero (Int.natCast_ne_zero.2 p.den_nz) (Int.natCast_ne_zero.2 r.den_nz)
  refine ⟨.ref a, rfl, a, _, 0, _, rfl, rfl, SqT.of ha, i0 _ _, .ref b, rfl, b, _, 1, _, rfl, rfl, SqT.of hb, i1 _ _, _, _, rfl, rfl, m1, ?_⟩
  refine ⟨.ref b, rfl, b, _, 0, _, rfl, rfl, SqT.of hb, i0 _ _, .ref a, rfl, a, _, 1, _, rfl, rfl, SqT.of ha, i1 _ _, _, _, rfl, rfl, m2, _, _, rfl, rfl, ?_⟩
  refine ⟨.ref a, rfl, a, _, 1, _, rfl, rfl, SqT.of ha, i1 _ _, .ref b, rfl, b, _, 1, _, rfl, rfl, SqT.of hb, i1 _ _, _, _, rfl, rfl, m3, _, _, rfl, nz, ?_, fun c hc => ?_⟩
  · rw [Int.natAbs_mul, Int.natAbs_natCast, Int.natAbs_natCast]
    exact Nat.lt_of_lt_of_le (pow_mul_lt bp.2 br.2) (Nat.pow_le_pow_right (by decide) (by decide))
  · rw [← rat_add]
    exact q c _ (same_new hc) PA.new
theorem ok_lover {f g : Addr} {fd gd : FuncData} (F : At K mg "_law_over" l_over ["_law_one", "_law_other"] f fd) (G : At K mg "_law_low" s_low ["_law_top", "_law_bottom"] g gd) (N : FnOk P w K mg base L2.CX0 1 g gd ["_law_top", "_law_bottom"] (spLow C)) :
    FnOk P w K mg base L2.CX0 2 f fd ["_law_one", "_law_other"] (spP2 (· ≠ 0) overQ) := by
  refine F.fn.ok lc_over (fun vs H Q E h => ?_) fun cdv A outer s H vs Q E hr h => ?_
  · obtain ⟨x, y, p, r, rfl, _⟩ := h
    rfl
  obtain ⟨x, y, p, r, rfl, ⟨a, rfl, ha⟩, ⟨b, rfl, hb⟩, bp, br, r0, q⟩ := h
  refine ⟨_, (pss_one (ps_ret (pe_call N hr (by rfl) G.mg G.fn.kp G.b .nil pass0 (pa_cons (pe_op op_mulW (pe_ix (r := rIxT K) ix_tup (pv 0) pe_int (fun _ _ => rfl)) (pe_ix (r := rIxT K) ix_tup (pv 1) pe_int (fun _ _ => rfl))) (pa_cons (pe_op op_mulW (pe_ix (r := rIxT K) ix_tup (pv 0) pe_int (fun _ _ => rfl)) (pe_ix (r := rIxT K) ix_tup (pv 1) pe_int (fun _ _ => rfl))) pa_nil))))), ?_⟩
  have i0 : ∀ x y : V, atI [x, y] 0 = some x := fun x y => atI_nat (j := 0) rfl
  have i1 : ∀ x y : V, atI [x, y] 1 = some y := fun x y => atI_nat (j := 1) rfl
  have n0 : r.num ≠ 0 := fun z => r0 (Rat.num_eq_zero.1 z)
  have m1 : CMulW p.num r.den := wide_mul bp.1 (by rw [Int.natAbs_natCast]; exact br.2) (by decide) (by decide) (by decide)
  have m3 : CMulW (p.den : Int) r.num := wide_mul (by rw [Int.natAbs_natCast]; exact bp.2) br.1 (by decide) (by decide) (by decide)
  have nz : (p.den : Int) * r.num ≠ 0 := Int.mul_ne_zero (Int.natCast_ne_zero.2 p.den_nz) n0
  refine ⟨.ref a, rfl, a, _, 0, _, rfl, rfl, SqT.of ha, i0 _ _, .ref b, rfl, b, _, 1, _, rfl, rfl, SqT.of hb, i1 _ _, _, _, rfl, rfl, m1, ?_⟩
  refine ⟨.ref a, rfl, a, _, 1, _, rfl, rfl, SqT.of ha, i1 _ _, .ref b, rfl, b, _, 0, _, rfl, rfl, SqT.of hb, i0 _ _, _, _, rfl, rfl, m3, _, _, rfl, nz, ?_, fun c hc => ?_⟩
  · rw [Int.natAbs_mul, Int.natAbs_natCast]
    exact Nat.lt_of_lt_of_le (pow_mul_lt bp.2 br.1) (Nat.pow_le_pow_right (by decide) (by decide))
  · exact q c _ (same_new hc) PA.new
theorem ok_lless {f g : Addr} {fd gd : FuncData} (F : At K mg "_law_less" l_less ["_law_one", "_law_other"] f fd) (G : At K mg "_law_sum" l_sum ["_law_one", "_law_other"] g gd) (N : FnOk P w K mg base L2.CX0 2 g gd ["_law_one", "_law_other"] (spP2 (fun _ => True) (· + ·))) :
    FnOk P w K mg base L2.CX0 3 f fd ["_law_one", "_law_other"] (spP2 (fun _ => True) (· - ·)) := by
  refine F.fn.ok lc_less (fun vs H Q E h => ?_) fun cdv A outer s H vs Q E hr h => ?_
  · obtain ⟨x, y, p, r, rfl, _⟩ := h
    rfl
  obtain ⟨x, y, p, r, rfl, ⟨a, rfl, ha⟩, ⟨b, rfl, hb⟩, bp, br, _, q⟩ := h
  refine ⟨_, (pss_one (ps_ret (pe_call N hr (by rfl) G.mg G.fn.kp G.b .nil pass0 (pa_cons (pv 0) (pa_cons (pe_tup (pa_cons (pe_op op_sub pe_int (pe_ix (r := rIxT K) ix_tup (pv 1) pe_int (fun _ _ => rfl))) (pa_cons (pe_ix (r := rIxT K) ix_tup (pv 1) pe_int (fun _ _ => rfl)) pa_nil))) pa_nil))))), ?_⟩
  have i0 : ∀ x y : V, atI [x, y] 0 = some x := fun x y => atI_nat (j := 0) rfl
  have i1 : ∀ x y : V, atI [x, y] 1 = some y := fun x y => atI_nat (j := 1) rfl
  refine ⟨.ref a, rfl, .ref b, rfl, b, _, 0, _, rfl, rfl, SqT.of hb, i0 _ _, _, _, rfl, rfl, .ref b, rfl, b, _, 1, _, rfl, rfl, SqT.of hb, i1 _ _, by show 2 ≤ 2 ^ 24; decide, fun t nt => ?_⟩
  refine ⟨.ref a, .ref t, p, -r, rfl, ⟨a, rfl, (same_new nt) _ _ ha⟩, ⟨t, rfl, by rw [Rat.neg_num, Rat.neg_den, ← Int.zero_sub]; exact upd_same⟩, bp, bits_neg br, trivial, fun c H' s' hc => q c H' ((same_new nt).trans s') ?_⟩
  rw [show (fun x1 x2 : Rat => x1 - x2) p r = p - r from rfl, Rat.sub_eq_add_neg]
  exact hc
/-- tuples of fractions -/
inductive Pas (H : Hp) : List V → List Rat → Prop
  | nil : Pas H [] []
  | cons {x : V} {q : Rat} {xs : List V} {l : List Rat} : PA H x q → Pas H xs l → Pas H (x :: xs) (q :: l)
theorem Pas.same {H H' : Hp} (s : Same H H') : ∀ {xs : List V} {l : List Rat}, Pas H xs l → Pas H' xs l
  | _, _, .nil => .nil
  | _, _, .cons h t => .cons (h.same s) (t.same s)
theorem Pas.length {H : Hp} : ∀ {xs : List V} {l : List Rat}, Pas H xs l → xs.length = l.length
  | _, _, .nil => rfl
  | _, _, .cons _ t => congrArg Nat.succ t.length
theorem Pas.at {H : Hp} : ∀ {xs : List V} {l : List Rat}, Pas H xs l → ∀ {i : Nat} {x : V}, xs[i]? = some x → ∃ q, l[i]? = some q ∧ PA H x q
  | _, _, .cons h t, 0, x, e => ⟨_, rfl, by cases e; exact h⟩
  | _, _, .cons h t, i + 1, x, e => t.at (i := i) e
theorem pas_of {H : Hp} : ∀ {ys : List V} {l : List Rat}, ys.length = l.length → (∀ (k : Nat) (y : V), ys[k]? = some y → ∃ q, l[k]? = some q ∧ PA H y q) → Pas H ys l
  | [], [], _, _ => .nil
  | [], _ :: _, h, _ => by cases h
  | _ :: _, [], h, _ => by cases h
  | y :: ys, q :: l, h, z => by
    obtain ⟨q', e, p⟩ := z 0 y rfl
    cases e
    exact .cons p (pas_of (Nat.succ.inj h) fun k y' e' => by
      obtain ⟨q2, e2, p2⟩ := z (k + 1) y' (by rw [List.getElem?_cons_succ]; exact e')
      exact ⟨q2, by rw [List.getElem?_cons_succ] at e2; exact e2, p2⟩)
/-- Ratios -/
inductive Rats (C : Addr) (H : Hp) : List V → List Rat → Prop
  | nil : Rats C H [] []
  | cons {a : Addr} {q : Rat} {xs : List V} {l : List Rat} : RatAt C H a q → Rats C H xs l → Rats C H (.ref a :: xs) (q :: l)
theorem Rats.same {C : Addr} {H H' : Hp} (s : Same H H') : ∀ {xs : List V} {l : List Rat}, Rats C H xs l → Rats C H' xs l
  | _, _, .nil => .nil
  | _, _, .cons h t => .cons (h.same s) (t.same s)
theorem Rats.length {C : Addr} {H : Hp} : ∀ {xs : List V} {l : List Rat}, Rats C H xs l → xs.length = l.length
  | _, _, .nil => rfl
  | _, _, .cons _ t => congrArg Nat.succ t.length
theorem Rats.at {C : Addr} {H : Hp} : ∀ {xs : List V} {l : List Rat}, Rats C H xs l → ∀ {i : Nat} {x : V}, xs[i]? = some x → ∃ a q, x = .ref a ∧ l[i]? = some q ∧ RatAt C H a q
  | _, _, .cons h t, 0, x, e => ⟨_, _, by cases e; rfl, rfl, h⟩
  | _, _, .cons h t, i + 1, x, e => t.at (i := i) e
def spPair (C : Addr) : Sp := fun vs H Q _ => ∃ a q, vs = [.ref a] ∧ RatAt C H a q ∧ ∀ c H', H c = none → Same H H' → PA H' (.ref c) q → Q (.ref c) H'
theorem ok_lpair {f : Addr} {fd : FuncData} (F : At K mg "_law_pair" l_pair ["_law_value"] f fd) (T : Txt K mg C HC) (O : Ops P w K mg base C) : FnOk P w K mg base L2.CX0 3 f fd ["_law_value"] (spPair C) := by
  refine F.fn.ok lc_pair (fun vs H Q E h => ?_) fun cdv A outer s H vs Q E hr h => ?_
  · obtain ⟨a, p, rfl, _⟩ := h
    rfl
  obtain ⟨a, p, rfl, ha, q⟩ := h
  obtain ⟨pt, gt, gdt, Pt⟩ := O.top_
  obtain ⟨pb, gb, gdb, Pb⟩ := O.bot_
  have hr1 : Room 1 _ := hr.mono (by decide)
  refine ⟨_, (pss_one (ps_ret (pe_ifExp (pt_val (pe_callB call_isi (by rfl) T.isi (by decide +kernel) (pa_cons (pv 0) (pa_cons (pe_glob (v := .ref C) (by rfl) T.mgC rfl) pa_nil)))) (pe_tup (pa_cons (pe_prop (pv 0) T.clC Pt.pr (ok_top Pt.fn T) hr Pt.b .nil pass0 rfl) (pa_cons (pe_prop (pv 0) T.clC Pb.pr (ok_bottom Pb.fn T) hr Pb.b .nil pass0 rfl) pa_nil))) pe_non))), ?_⟩
  obtain ⟨dx, fs, e, t, b, _⟩ := id ha
  refine ⟨.ref a, rfl, .ref a, .ref C, _, _, _, rfl, .own C, tyx T (.rat e t b), kit_rat T (.rat p.num p.den), _, rfl, iteT ?_⟩
  exact ⟨.ref a, rfl, a, dx, fs, rfl, e, a, p, rfl, ha, .ref a, rfl, a, dx, fs, rfl, e, a, p, rfl, ha, by show 2 ≤ 2 ^ 24; decide, fun c nc => q c _ nc (same_new nc) PA.new⟩
def spPairs (K : W.Frag) (C : Addr) : Sp := fun vs H Q _ => ∃ a xs l, vs = [.ref a] ∧ H a = some (.lst xs) ∧ Rats C H xs l ∧ l.length ≤ 1000 ∧ ∀ c ys H', Same H H' → H' c = some (.lst ys) → Pas H' ys l → Q (.ref c) H'
theorem ok_lpairs {f g : Addr} {fd gd : FuncData} (F : At K mg "_law_pairs" l_pairs ["_law_value"] f fd) (T : Txt K mg C HC) (G : At K mg "_law_pair" l_pair ["_law_value"] g gd) (N : FnOk P w K mg base L2.CX0 3 g gd ["_law_value"] (spPair C)) : FnOk P w K mg base L2.CX0 4 f fd ["_law_value"] (spPairs K C) := by
  refine F.fn.ok lc_pairs (fun vs H Q E h => ?_) fun cdv A outer s H vs Q E hr h => ?_
  · obtain ⟨a, xs, l, rfl, _⟩ := h
    rfl
  obtain ⟨a, xs, l, rfl, ha, hx, hl, q⟩ := h
  refine ⟨_, (pss_one (ps_ret (pe_ifExp (pt_val (pe_callB call_isi (by rfl) T.isi (by decide +kernel) (pa_cons (pv 0) (pa_cons (pe_bltn (v := .ty "list") (by rfl) T.list_ (by decide +kernel) rfl) pa_nil)))) (pe_lc (own := [("_law_one", 1)]) (g := gName 1) (tt := tYes) rfl lc_pairs.nd (pi_seq (pv 0)) (blkOk_by (N := ["_law_value", "_law_one"]) (sc := defScope l_pairs) (by decide +kernel)) (fun _ _ _ _ _ => pg_name (i := 1) lc_pairs.nd rfl (Or.inl rfl)) (fun _ _ _ _ _ => pts_nil) (fun _ _ _ _ _ => (pe_call N hr (by rfl) G.mg G.fn.kp G.b .nil pass0 (pa_cons (pv 1) pa_nil)))) pe_non))), ?_⟩
  refine ⟨.ref a, rfl, .ref a, .ty "list", _, _, _, rfl, .ty "list", .base (.lst ha), kit_ty (show kitB _ _ = some true by decide +kernel), _, rfl, iteT ?_⟩
  show tLc (iSeq K (tVar 0)) (gName 1) tYes (tCall (spPair C) [] E0 (tCons (tVar 1) tNil)) [1] [some (.ref a), none] H Q
  have lx := hx.length
  refine comp_seq (fun k y H' => ∃ q, l[k]? = some q ∧ PA H' y q) (fun k y H1 H2 s ⟨q, e, z⟩ => ⟨q, e, z.same s⟩) rfl (.inl (SqL.of ha)) (Nat.le_trans (by omega) (by decide : (1000 : Nat) ≤ sizeLine)) (fun k x H1 R hk s1 r => ?_) fun A ys H1 hA s1 e1 e2 e3 => q A ys H1 s1 e1 (pas_of (by omega) e3)
  obtain ⟨b, p, rfl, e, hb⟩ := hx.at hk
  refine ⟨.ref b, rfl, b, p, rfl, hb.same s1, fun c H2 nc s2 hc => r _ H2 s2 fun D hD nD => ⟨p, e, ?_⟩⟩
  obtain ⟨c', e', hc'⟩ := hc
  cases e'
  exact ⟨c, rfl, by rw [off_ne (fun z => nD (by rw [← z]; exact nc))]; exact hc'⟩
def spShown : Sp := fun vs H Q _ => ∃ x q, vs = [x] ∧ PA H x q ∧ Bits 1900 q ∧ Q (.str (strQ q)) H
theorem ok_lshown {f : Addr} {fd : FuncData} (F : At K mg "_law_shown" l_shown ["_law_pair_here"] f fd) (hstr : mg "str" = none) : FnOk P w K mg base L2.CX0 1 f fd ["_law_pair_here"] spShown := by
  refine F.fn.ok lc_shown (fun vs H Q E h => ?_) fun cdv A outer s H vs Q E hr h => ?_
  · obtain ⟨a, p, rfl, _⟩ := h
    rfl
  obtain ⟨x, p, rfl, ⟨a, rfl, ha⟩, bp, q⟩ := h
  have z1 : SmallI p.num := Nat.lt_trans (lt_log2 bp.1 (by decide)) (by decide)
  have z2 : SmallI (p.den : Int) := Nat.lt_trans (lt_log2 (by rw [Int.natAbs_natCast]; exact bp.2) (by decide)) (by decide)
  have q1 := len_int z1
  have q2 := len_int z2
  have e1 : (("/" : String) : Str).length = 1 := rfl
  have z : (6000 : Nat) ≤ sizeLine := by decide
  have i0 : ∀ x y : V, atI [x, y] 0 = some x := fun x y => atI_nat (j := 0) rfl
  have i1 : ∀ x y : V, atI [x, y] 1 = some y := fun x y => atI_nat (j := 1) rfl
  refine ⟨_, (pss_one (ps_ret (pe_ifExp (pt_cmp (pc_eqI (pe_ix (r := rIxT K) ix_tup (pv 0) pe_int (fun _ _ => rfl)) pe_int)) (pe_callTy call_str_int (by rfl) hstr (by decide +kernel) (pa_cons (pe_ix (r := rIxT K) ix_tup (pv 0) pe_int (fun _ _ => rfl)) pa_nil)) (pe_op op_add_str (pe_op op_add_str (pe_callTy call_str_int (by rfl) hstr (by decide +kernel) (pa_cons (pe_ix (r := rIxT K) ix_tup (pv 0) pe_int (fun _ _ => rfl)) pa_nil)) pe_str) (pe_callTy call_str_int (by rfl) hstr (by decide +kernel) (pa_cons (pe_ix (r := rIxT K) ix_tup (pv 0) pe_int (fun _ _ => rfl)) pa_nil)))))), ?_⟩
  refine ⟨.ref a, rfl, a, _, 1, _, rfl, rfl, SqT.of ha, i1 _ _, _, _, rfl, rfl, _, rfl, iteB (b := decide ((p.den : Int) = 1)) (fun y => ?_) fun y => ?_⟩
  · have y' : p.den = 1 := by exact_mod_cast of_decide_eq_true y
    unfold strQ at q
    rw [if_pos y'] at q
    exact ⟨.ref a, rfl, a, _, 0, _, rfl, rfl, SqT.of ha, i0 _ _, _, rfl, z1, q⟩
  · have y' : p.den ≠ 1 := fun h => of_decide_eq_false y (by rw [h]; rfl)
    unfold strQ at q
    rw [if_neg y', Str.empty_append] at q
    refine ⟨.ref a, rfl, a, _, 0, _, rfl, rfl, SqT.of ha, i0 _ _, _, rfl, z1, _, _, rfl, rfl, by rw [e1]; omega, .ref a, rfl, a, _, 1, _, rfl, rfl, SqT.of ha, i1 _ _, _, rfl, z2, _, _, rfl, rfl, by rw [strLen_append, e1]; omega, q⟩
def spLTot (K : W.Frag) : Sp := fun vs H Q _ => ∃ a xs l, vs = [.ref a] ∧ H a = some (.lst xs) ∧ Pas H xs l ∧ l.length ≤ 1000 ∧ Short l ∧ ∀ c H', Same H H' → PA H' (.ref c) (sumQ l) → Q (.ref c) H'
theorem ok_ltotal {f g : Addr} {fd gd : FuncData} (F : At K mg "_law_total" l_total ["_law_pairs_here"] f fd) (G : At K mg "_law_sum" l_sum ["_law_one", "_law_other"] g gd) (N : FnOk P w K mg base L2.CX0 2 g gd ["_law_one", "_law_other"] (spP2 (fun _ => True) (· + ·))) :
    FnOk P w K mg base L2.CX0 3 f fd ["_law_pairs_here"] (spLTot K) := by
  refine F.fn.ok lc_total (fun vs H Q E h => ?_) fun cdv A outer s H vs Q E hr h => ?_
  · obtain ⟨a, xs, l, rfl, _⟩ := h
    rfl
  obtain ⟨a, xs, l, rfl, ha, hx, hl, hsh, q⟩ := h
  have lx := hx.length
  refine ⟨_, (pss_cons (ps_set (i := 1) lc_total.nd rfl (.inl rfl) (pe_tup (pa_cons pe_int (pa_cons pe_int pa_nil)))) (pss_cons (ps_for PassesOwn.never rfl (pi_list (pv 0)) (pg_name (i := 2) lc_total.nd rfl (Or.inl rfl)) (pss_one (ps_set (i := 1) lc_total.nd rfl (.inl rfl) (pe_call N hr (by rfl) G.mg G.fn.kp G.b .nil pass0 (pa_cons (pv 1) (pa_cons (pv 2) pa_nil)))))) (pss_one (ps_ret (pv 1))))), ?_⟩
  refine ⟨by show 2 ≤ 2 ^ 24; decide, fun t nt => ?_⟩
  refine ⟨.ref a, rfl, a, rfl, ⟨xs, SqL.of ((same_new nt) _ _ ha)⟩, for_list (K := K) (a := a) (xs := xs) (fun i σ H' => ∃ x o, σ = [some (V.ref a), some x, o] ∧ Same H H' ∧ PA H' x (sumQ (l.take i))) ⟨.ref t, none, rfl, same_new nt, ⟨t, rfl, upd_same⟩⟩ (fun i σ H' _ ⟨_, _, _, s, _⟩ => SqL.of (s _ _ ha)) ?_ ?_⟩
  · rintro i y σ H' hy ⟨x, o, rfl, s1, px⟩
    obtain ⟨r, er, pr⟩ := hx.at hy
    refine ⟨x, rfl, y, rfl, x, y, sumQ (l.take i), r, rfl, px, pr.same s1, hsh.2 i, hsh.1 r (List.mem_of_getElem? er), trivial, fun c H2 s2 pc => ⟨.ref c, some y, rfl, s1.trans s2, ?_⟩⟩
    rw [sumQ_more er]
    exact pc
  · rintro σ H' ⟨x, o, rfl, s1, px⟩
    rw [lx, List.take_length] at px
    obtain ⟨c, rfl, pc⟩ := px
    exact ⟨.ref c, rfl, q c H' s1 ⟨c, rfl, pc⟩⟩
end
end KT

set_option Elab.async false
set_option linter.all false
set_option maxRecDepth 100000
set_option maxHeartbeats 4000000
namespace KT
open PySem L2 TW
abbrev l_raw : Stmt := top 26
theorem lc_raw : FnScope ["_law_pot_here", "_law_top", "_law_bottom", "_law_common", "_law_sign"] ["_law_pot_here"] (defScope l_raw) := ⟨rfl, rfl, rfl, by decide +kernel, rfl, by decide +kernel, by decide +kernel⟩
theorem pot_ne {p a : Addr} {H : Hp} (hp : PotAt H p) (h : H a = none) : p ≠ a := fun z => by
  obtain ⟨_, _, _, _, e⟩ := hp
  rw [z, h] at e
  cases e
theorem PotAt.upd {p a : Addr} {H : Hp} {o : HO} (h : PotAt H p) (ne : p ≠ a) : PotAt (upd H a o) p := by
  obtain ⟨x, y, hx, hy, e⟩ := h
  exact ⟨x, y, hx, hy, by rw [upd_ne ne]; exact e⟩
theorem PotAt.same {p : Addr} {H H' : Hp} (h : PotAt H p) (s : Same H H') : PotAt H' p := by
  obtain ⟨x, y, hx, hy, e⟩ := h
  exact ⟨x, y, hx, hy, s _ _ e⟩
/-- a raw fraction, as a tuple, off the pot -/
def RawT (t b : Int) : Prop := b ≠ 0 ∧ t.natAbs < 2 ^ 150 ∧ b.natAbs < 2 ^ 150
def Raw (p : Addr) (H : Hp) (x : V) (t b : Int) : Prop := ∃ c, x = .ref c ∧ c ≠ p ∧ H c = some (.tup [.int t, .int b]) ∧ RawT t b
theorem Raw.but {p : Addr} {H H' : Hp} {x : V} {t b : Int} (s : But p H H') (h : Raw p H x t b) : Raw p H' x t b := by
  obtain ⟨c, e, ne, h, r⟩ := h
  exact ⟨c, e, ne, s _ _ h ne, r⟩
def spRaw : Sp := fun vs H Q _ => ∃ p, vs = [.ref p] ∧ PotAt H p ∧ ∀ c t b H', But p H H' → PotAt H' p → H c = none → Raw p H' (.ref c) t b → t.natAbs < 2 ^ 148 → b.natAbs < 2 ^ 148 → Q (.ref c) H'
theorem abs_mul {a b : Int} {n m : Nat} (ha : a.natAbs < 2 ^ n) (hb : b.natAbs < 2 ^ m) : (a * b).natAbs < 2 ^ (n + m) := by
  rw [Int.natAbs_mul]
  exact pow_mul_lt ha hb
section
variable {P : Program} {w : World} {K : W.Frag} {mg : Str → Option Value} {base : Heap} {C HC : Addr}
theorem raw_rest {p : Addr} {H0 H : Hp} {Q : VK} (b0 : But p H0 H) (p0 : PotAt H p) (t b : Int) (ht : t.natAbs < 2 ^ 100) (nb : b ≠ 0) (hb : b.natAbs < 2 ^ 100)
    (q : ∀ c t b H', But p H0 H' → PotAt H' p → H0 c = none → Raw p H' (.ref c) t b → t.natAbs < 2 ^ 148 → b.natAbs < 2 ^ 148 → Q (.ref c) H') :
    tSeq (tAsg (tCall spPick [] E0 (tCons (tVar 0) (tCons (tLst (tCons (tC (V.int 1)) (tCons (tC (V.int 6)) (tCons (tC (V.int 35)) (tCons (tOp (rI CPow fun i j => V.int (i ^ j.toNat)) (tC (V.int 10)) (tC (V.int 9))) tNil))))) tNil))) (gName 3))
      (tSeq (tAsg (tCall spPick [] E0 (tCons (tVar 0) (tCons (tLst (tCons (tC (V.int 1)) (tCons (tUn (rU fun i => V.int (-i)) (tC (V.int 1))) tNil))) tNil))) (gName 4))
        (tRet (tTup (tCons (tOp (rI CMulW fun i j => V.int (i * j)) (tOp (rI CMulW fun i j => V.int (i * j)) (tVar 1) (tVar 3)) (tVar 4)) (tCons (tOp (rI CMulW fun i j => V.int (i * j)) (tOp (rI CMulW fun i j => V.int (i * j)) (tVar 2) (tVar 3)) (tVar 4)) tNil)))))
      { nx := fun x H' => Q V.non H', rt := Q } [some (.ref p), some (.int t), some (.int b), none, none] H := by
  refine ⟨.ref p, rfl, 10, 9, rfl, rfl, ⟨by decide, by decide, by decide⟩, by show 4 ≤ 2 ^ 24; decide, fun l nl => ?_⟩
  refine ⟨p, l, _, rfl, p0.upd (pot_ne p0 nl), (pot_ne p0 nl).symm, upd_same, by show 0 < 4; decide, by show 4 < 1073741824; decide, fun v H2 hv b2 p2 => ?_⟩
  have b02 := (b0.trans (But.of (same_new nl))).trans b2
  obtain ⟨c, rfl, c0, cb⟩ : ∃ c : Int, v = .int c ∧ c ≠ 0 ∧ c.natAbs < 2 ^ 30 := by
    simp only [List.mem_cons, List.not_mem_nil, or_false] at hv
    rcases hv with rfl | rfl | rfl | rfl
    · exact ⟨1, rfl, by decide, by decide⟩
    · exact ⟨6, rfl, by decide, by decide⟩
    · exact ⟨35, rfl, by decide, by decide⟩
    · exact ⟨10 ^ (9 : Int).toNat, rfl, by decide +kernel, by decide +kernel⟩
  refine ⟨.ref p, rfl, 1, rfl, by show 2 ≤ 2 ^ 24; decide, fun l2 nl2 => ?_⟩
  refine ⟨p, l2, _, rfl, p2.upd (pot_ne p2 nl2), (pot_ne p2 nl2).symm, upd_same, by show 0 < 2; decide, by show 2 < 1073741824; decide, fun v H3 hv b3 p3 => ?_⟩
  have b03 := (b02.trans (But.of (same_new nl2))).trans b3
  obtain ⟨d, rfl, d0, db⟩ : ∃ c : Int, v = .int c ∧ c ≠ 0 ∧ c.natAbs < 2 ^ 2 := by
    simp only [List.mem_cons, List.not_mem_nil, or_false] at hv
    rcases hv with rfl | rfl
    · exact ⟨1, rfl, by decide, by decide⟩
    · exact ⟨-1, rfl, by decide, by decide⟩
  have t1 := abs_mul ht cb
  have t2 := abs_mul t1 db
  have u1 := abs_mul hb cb
  have u2 := abs_mul u1 db
  refine ⟨.int t, rfl, .int c, rfl, t, c, rfl, rfl, wide_mul ht cb (by decide) (by decide) (by decide), .int d, rfl, t * c, d, rfl, rfl, wide_mul t1 db (by decide) (by decide) (by decide), ?_⟩
  refine ⟨.int b, rfl, .int c, rfl, b, c, rfl, rfl, wide_mul hb cb (by decide) (by decide) (by decide), .int d, rfl, b * c, d, rfl, rfl, wide_mul u1 db (by decide) (by decide) (by decide), by show 2 ≤ 2 ^ 24; decide, fun x nx => ?_⟩
  have up : ∀ {i j : Nat}, i < 2 ^ j → j ≤ 148 → i < 2 ^ 148 := fun h h' => Nat.lt_of_lt_of_le h (Nat.pow_le_pow_right (by decide) h')
  have up2 : ∀ {i : Nat}, i < 2 ^ 148 → i < 2 ^ 150 := fun h => Nat.lt_of_lt_of_le h (Nat.pow_le_pow_right (by decide) (by decide))
  have z1 := up t2 (by decide)
  have z2 := up u2 (by decide)
  have nx0 : H0 x = none := by
    cases e : H0 x with
    | none => rfl
    | some o =>
      rw [b03 _ _ e (pot_ne p3 nx).symm] at nx
      cases nx
  exact q x _ _ _ (b03.trans (But.of (same_new nx))) (p3.upd (pot_ne p3 nx)) nx0 ⟨x, rfl, (pot_ne p3 nx).symm, upd_same, Int.mul_ne_zero (Int.mul_ne_zero nb c0) d0, up2 z1, up2 z2⟩ z1 z2
theorem ok_raw {f g h1 : Addr} {fd gd hd1 : FuncData} (F : At K mg "_law_raw" l_raw ["_law_pot_here"] f fd) (T : Txt K mg C HC) (G : At K mg "_law_draw" s_draw ["_law_pot_here", "_law_room"] g gd)
    (N : FnOk P w K mg base L2.CX0 1 g gd ["_law_pot_here", "_law_room"] spDraw) (G2 : At K mg "_law_pick" s_pick ["_law_pot_here", "_law_some"] h1 hd1) (N2 : FnOk P w K mg base L2.CX0 2 h1 hd1 ["_law_pot_here", "_law_some"] spPick) :
    FnOk P w K mg base L2.CX0 3 f fd ["_law_pot_here"] spRaw := by
  refine F.fn.ok lc_raw (fun vs H Q E h => ?_) fun cdv A outer s H vs Q E hr h => ?_
  · obtain ⟨p, rfl, _⟩ := h
    rfl
  obtain ⟨p, rfl, hp, q⟩ := h
  have hr1 : Room 1 _ := hr.mono (by decide)
  refine ⟨_, (pss_cons (ps_set (i := 1) lc_raw.nd rfl (.inl rfl) (pe_op op_sub (pe_call N hr1 (by rfl) G.mg G.fn.kp G.b .nil pass0 (pa_cons (pv 0) (pa_cons pe_int pa_nil))) pe_int)) (pss_cons (ps_set (i := 2) lc_raw.nd rfl (.inl rfl) (pe_op op_add pe_int (pe_call N hr1 (by rfl) G.mg G.fn.kp G.b .nil pass0 (pa_cons (pv 0) (pa_cons pe_int pa_nil))))) (pss_cons (ps_if (pt_cmp (pc_eqI (pe_call N hr1 (by rfl) G.mg G.fn.kp G.b .nil pass0 (pa_cons (pv 0) (pa_cons pe_int pa_nil))) pe_int)) (pss_cons (ps_set (i := 1) lc_raw.nd rfl (.inl rfl) (pe_op op_add (pe_op op_mulW (pv 1) (pe_op op_pow pe_int pe_int)) (pe_call N hr1 (by rfl) G.mg G.fn.kp G.b .nil pass0 (pa_cons (pv 0) (pa_cons pe_int pa_nil))))) (pss_one (ps_set (i := 2) lc_raw.nd rfl (.inl rfl) (pe_op op_add (pe_op op_add (pe_op op_mulW (pv 2) (pe_op op_pow pe_int pe_int)) (pe_call N hr1 (by rfl) G.mg G.fn.kp G.b .nil pass0 (pa_cons (pv 0) (pa_cons pe_int pa_nil)))) pe_int)))) pss_nil) (pss_cons (ps_set (i := 3) lc_raw.nd rfl (.inl rfl) (pe_call N2 hr (by rfl) G2.mg G2.fn.kp G2.b .nil pass0 (pa_cons (pv 0) (pa_cons (pe_lst (pa_cons pe_int (pa_cons pe_int (pa_cons pe_int (pa_cons (pe_op op_pow pe_int pe_int) pa_nil))))) pa_nil)))) (pss_cons (ps_set (i := 4) lc_raw.nd rfl (.inl rfl) (pe_call N2 hr (by rfl) G2.mg G2.fn.kp G2.b .nil pass0 (pa_cons (pv 0) (pa_cons (pe_lst (pa_cons pe_int (pa_cons (pe_un un_neg pe_int) pa_nil))) pa_nil)))) (pss_one (ps_ret (pe_tup (pa_cons (pe_op op_mulW (pe_op op_mulW (pv 1) (pv 3)) (pv 4)) (pa_cons (pe_op op_mulW (pe_op op_mulW (pv 2) (pv 3)) (pv 4)) pa_nil)))))))))), ?_⟩
  refine ⟨.ref p, rfl, p, 25, rfl, hp, by decide, by decide, fun x H1 x0 x1 b1 p1 => ⟨x, 12, rfl, rfl, ?_⟩⟩
  refine ⟨.ref p, rfl, p, 12, rfl, p1, by decide, by decide, fun y H2 y0 y1 b2 p2 => ⟨1, y, rfl, rfl, ?_⟩⟩
  refine ⟨.ref p, rfl, p, 3, rfl, p2, by decide, by decide, fun z H3 z0 z1 b3 p3 => ⟨z, 0, rfl, rfl, _, rfl, ?_⟩⟩
  refine iteB (b := decide (z = 0)) (fun _ => ?_) fun _ => ?_
  · have xb : (x - 12).natAbs < 2 ^ 5 := by omega
    have yb : (1 + y).natAbs < 2 ^ 5 := by omega
    have k1 : ((10007 : Int) ^ (6 : Int).toNat).natAbs < 2 ^ 80 := by decide +kernel
    have k2 : ((10 : Int) ^ (20 : Int).toNat).natAbs < 2 ^ 67 := by decide +kernel
    have k0 : 0 < ((10 : Int) ^ (20 : Int).toNat) := by decide +kernel
    have m1 := abs_mul xb k1
    have m2 := abs_mul yb k2
    refine ⟨.int (x - 12), rfl, 10007, 6, rfl, rfl, ⟨by decide, by decide, by decide⟩, x - 12, (10007 : Int) ^ (6 : Int).toNat, rfl, rfl, wide_mul xb k1 (by decide) (by decide) (by decide), .ref p, rfl, p, 9, rfl, p3, by decide, by decide, fun u H4 u0 u1 b4 p4 => ⟨_, u, rfl, rfl, ?_⟩⟩
    refine ⟨.int (1 + y), rfl, 10, 20, rfl, rfl, ⟨by decide, by decide, by decide⟩, 1 + y, (10 : Int) ^ (20 : Int).toNat, rfl, rfl, wide_mul yb k2 (by decide) (by decide) (by decide), .ref p, rfl, p, 9, rfl, p4, by decide, by decide, fun v H5 v0 v1 b5 p5 => ⟨_, v, rfl, rfl, _, 1, rfl, rfl, ?_⟩⟩
    have pos : 0 < (1 + y) * (10 : Int) ^ (20 : Int).toNat := Int.mul_pos (by omega) k0
    generalize (x - 12) * (10007 : Int) ^ (6 : Int).toNat = X1 at m1
    generalize (1 + y) * (10 : Int) ^ (20 : Int).toNat = Y1 at m2 pos
    refine raw_rest ((((b1.trans b2).trans b3).trans b4).trans b5) p5 (X1 + u) (Y1 + v + 1) ?_ ?_ ?_ q
    · have : (2 : Nat) ^ (5 + 80) + 9 ≤ 2 ^ 100 := by decide
      omega
    · omega
    · have : (2 : Nat) ^ (5 + 67) + 10 ≤ 2 ^ 100 := by decide
      omega
  · refine raw_rest ((b1.trans b2).trans b3) p3 (x - 12) (1 + y) ?_ ?_ ?_ q
    · have : (2 : Nat) ^ 5 ≤ 2 ^ 100 := by decide
      omega
    · omega
    · have : (2 : Nat) ^ 5 ≤ 2 ^ 100 := by decide
      omega
end
end KT

set_option Elab.async false
set_option linter.all false
set_option maxRecDepth 100000
set_option maxHeartbeats 4000000
namespace KT
open PySem L2 TW
abbrev l_one : Stmt := top 27
theorem lc_one : FnScope ["_law_raw_here", "_law_made", "_law_pair_here", "_law_sign"] ["_law_raw_here"] (defScope l_one) := ⟨rfl, rfl, rfl, by decide +kernel, rfl, by decide +kernel, by decide +kernel⟩
theorem vals_app : ∀ {vs : List V} {us : List Value} {zs : List V} {ws : List Value}, Vals vs us → Vals zs ws → Vals (vs ++ zs) (us ++ ws)
  | _, _, _, _, .nil, h => h
  | _, _, _, _, .cons a b, h => .cons a (vals_app b h)
theorem mk_kw {K : W.Frag} {f : Addr} {fd : FuncData} (F : InitR K f fd) : KBn K fd ["self", "top", "bottom"] 1 ["top", "bottom"] (fun us ws => us ++ ws) (fun vs zs => vs ++ zs) := by
  obtain ⟨its, h⟩ := F.kbindsD (ps := ["self", "top", "bottom"]) 1 ["top", "bottom"] (fun us _ ws => us ++ ws) (by simp) (fun a _ b => vals_app a b) fun T kV doc pm an cdv ct us its ws h1 h2 h3 => match us, its, ws, h1, h2, h3 with
    | [_], [_], [_, _], _, _, _ => ⟨_, rfl, rfl⟩
  exact h
theorem one_kw {K : W.Frag} {x qual : Str} {st : Stmt} {p o : Str} {f : Addr} {fd : FuncData} (F : Fun K x qual st f fd) (hb : ∀ (kV doc pm : Value) (an : Option Addr) (cdv ct : Value) (a b : Value), bindArgs (W.fnOf x qual (defArgs st) (defBody st) (defScope st) .none kV doc pm an cdv ct) ⟨[a], [(o, b)]⟩ = pure ([p, o].zip [a, b])) :
    KBn K fd [p, o] 1 [o] (fun us ws => us ++ ws) (fun vs zs => vs ++ zs) := by
  obtain ⟨oc, od, kV, doc, pm, an, cdv, ct, osl, rfl, lk, hcd⟩ := F.ex
  refine ⟨fun s us ws X l1 l2 => ?_, fun r rz => vals_app r rz⟩
  match us, ws, l1, l2 with
  | [a], [b], _, _ => exact BindsTo.of_looks fun M => W.Looks.of_pure (hb kV doc pm an cdv ct a b)
def pdQ (q : Rat) : PyData := .tuple [.int q.num, .int q.den]
theorem dp_pa {K : W.Frag} {H : Hp} {x : V} {q : Rat} (h : PA H x q) : Dp K H x (pdQ q) := by
  obtain ⟨a, rfl, e⟩ := h
  exact .tup (SqT.of e) (.cons (.int _) (.cons (.int _) .nil))
theorem ne_same (d : PyData) (h : d.canLay0 = true) : (!PyData.eqv d d) = false := by rw [SeqAt.eqv_refl _ h]; rfl
theorem sgn_bits (i : Int) : (sgn i).natAbs < 2 := by
  unfold sgn
  split
  · decide
  · split <;> decide
/-- |q| and its parts -/
theorem abs_parts (q : Rat) : (Rat.divInt (if q.num < 0 then -q.num else q.num) q.den).num = (if q.num < 0 then -q.num else q.num) ∧ (Rat.divInt (if q.num < 0 then -q.num else q.num) q.den).den = q.den := by
  by_cases h : q.num < 0
  · rw [if_pos h]
    have e : Rat.divInt (-q.num) q.den = -q := by
      have e2 := Rat.neg_divInt q.num q.den
      rw [Rat.num_divInt_den] at e2
      exact e2.symm
    rw [e, Rat.neg_num, Rat.neg_den]
    exact ⟨rfl, rfl⟩
  · rw [if_neg h, Rat.num_divInt_den]
    exact ⟨rfl, rfl⟩
section
variable {P : Program} {w : World} {K : W.Frag} {mg : Str → Option Value} {base : Heap} {C HC : Addr}
def spOne : Sp := fun vs H Q _ => ∃ (c : Addr) (t b : Int), vs = [.ref c] ∧ H c = some (.tup [.int t, .int b]) ∧ RawT t b ∧ ∀ H', Same H H' → Q (.bl true) H'
theorem ok_one {f lo pr sh fi st si nf rs isn isi isc ps gs pw gw : Addr} {fd lod prd shd fid std sid nfd rsd isnd isid iscd gsd gwd : FuncData} (F : At K mg "_law_one_right" l_one ["_law_raw_here"] f fd) (T : Txt K mg C HC) (T2 : Txt2 mg)
    (Lo : At K mg "_law_low" s_low ["_law_top", "_law_bottom"] lo lod) (NLo : FnOk P w K mg base L2.CX0 1 lo lod ["_law_top", "_law_bottom"] (spLow C))
    (Pr : At K mg "_law_pair" l_pair ["_law_value"] pr prd) (NPr : FnOk P w K mg base L2.CX0 3 pr prd ["_law_value"] (spPair C))
    (Sh : At K mg "_law_shown" l_shown ["_law_pair_here"] sh shd) (NSh : FnOk P w K mg base L2.CX0 1 sh shd ["_law_pair_here"] spShown)
    (I : InitR K fi fid) (M : Mk K C fi) (Isi : At K mg "is_integer" s_is_integer ["value"] isi isid)
    (Ost : Own K C st "__str__") (Nst : FnOk P w K mg base L2.CX0 1 st std ["self"] (spStr C)) (bst : Binds K std ["self"] [])
    (Ps : PrAt K C "sign" "Ratio.sign" m_sign ps gs gsd) (Pw : PrAt K C "is_whole" "Ratio.is_whole" m_whole pw gw gwd)
    (MSi : Meth K C "size" si) (NSi : FnOk P w K mg base L2.CX0 5 si sid ["self"] (spSize C)) (bSi : Binds K sid ["self"] [])
    (On : Own K C nf "__neg__") (Nn : FnOk P w K mg base L2.CX0 5 nf nfd ["self"] (spOp1 C fun p => -p)) (bn : Binds K nfd ["self"] [])
    (ORs : OwnR K C rs "sub") (Nrs : FnOk P w K mg base L2.CX0 7 rs rsd ["self", "other"] (spOpR C (· - ·))) (bRs : Binds K rsd ["self", "other"] [])
    (Isn : At K mg "is_number" s_is_number ["value"] isn isnd) (NIsn : FnOk P w K mg base L2.CX0 2 isn isnd ["value"] (spB C isN))
    (Isc : At K mg "is_count" s_is_count ["value"] isc iscd) (NIsc : FnOk P w K mg base L2.CX0 2 isc iscd ["value"] (spB C isC))
    (R : RatR P w K mg base C 1) : FnG P w K mg base L2.CX0 9 f fd ["_law_raw_here"] spOne := by
  refine okG F.fn lc_one (fun vs H Q E h => ?_) fun cdv A outer s H vs Q E gd hr h => ?_
  · obtain ⟨c, t, b, rfl, _⟩ := h
    rfl
  obtain ⟨c, t, b, rfl, hc, ⟨b0, tb, bb⟩, q⟩ := h
  have hr1 : Room 1 _ := hr.mono (by decide)
  have hr2 : Room 2 _ := hr.mono (by decide)
  have hr3 : Room 3 _ := hr.mono (by decide)
  have hr5 : Room 5 _ := hr.mono (by decide)
  have hr7 : Room 7 _ := hr.mono (by decide)
  have hrR : Room (1 + 1 + 1) _ := hr.mono (by decide)
  have nd := lc_one.nd
  have Nm := ok_mk (P := P) (w := w) (base := base) I T Isi
  have Nisi := ok_is_integer (P := P) (w := w) (base := base) Isi T
  obtain ⟨ds2, vd2, bd2⟩ := initR_all I
  refine ⟨_, (pss_cons (ps_par rfl lc_one.nd (i := 1) (j := 2) rfl rfl (by decide) rfl rfl (pa_cons (pe_make M Nm hr3 (by rfl) T.mgC bd2 vd2 pass0 (pa_cons (pe_ix (r := rIxT K) ix_tup (pv 0) pe_int (fun _ _ => rfl)) (pa_cons (pe_ix (r := rIxT K) ix_tup (pv 0) pe_int (fun _ _ => rfl)) pa_nil))) (pa_cons (pe_call NLo hr1 (by rfl) Lo.mg Lo.fn.kp Lo.b .nil pass0 (pa_cons (pe_ix (r := rIxT K) ix_tup (pv 0) pe_int (fun _ _ => rfl)) (pa_cons (pe_ix (r := rIxT K) ix_tup (pv 0) pe_int (fun _ _ => rfl)) pa_nil))) pa_nil)) (by rfl)) (pss_cons (ps_if (PW.pt (pw_or (pt_cmpR (op_neD hr.units) (pe_call NPr hr3 (by rfl) Pr.mg Pr.fn.kp Pr.b .nil pass0 (pa_cons (pv 1) pa_nil)) (pv 2) (nomark _)) (pw_or1 (pt_cmpR op_ne (pe_callTy (call_strOwn Ost Nst hr3 bst) (by rfl) T2.str_ (by decide +kernel) (pa_cons (pv 1) pa_nil)) (pe_call NSh hr1 (by rfl) Sh.mg Sh.fn.kp Sh.b .nil pass0 (pa_cons (pv 2) pa_nil)) (nomark _))))) (pss_one (ps_ret pe_bl)) pss_nil) (pss_cons (ps_if (pt_cmpR op_ne (pe_callB (call_repr R gd hrR) (by rfl) T2.repr_ (by decide +kernel) (pa_cons (pv 1) pa_nil)) (pe_op op_add_str (pe_op op_add_str (pe_op op_add_str (pe_op op_add_str pe_str (pe_callTy call_str_int (by rfl) T2.str_ (by decide +kernel) (pa_cons (pe_ix (r := rIxT K) ix_tup (pv 2) pe_int (fun _ _ => rfl)) pa_nil))) pe_str) (pe_callTy call_str_int (by rfl) T2.str_ (by decide +kernel) (pa_cons (pe_ix (r := rIxT K) ix_tup (pv 2) pe_int (fun _ _ => rfl)) pa_nil))) pe_str) (nomark _)) (pss_one (ps_ret pe_bl)) pss_nil) (pss_cons (ps_set (i := 3) lc_one.nd rfl (.inl rfl) (pe_ifExp (pt_cmp (pc_eqI (pe_ix (r := rIxT K) ix_tup (pv 2) pe_int (fun _ _ => rfl)) pe_int)) pe_int (pe_ifExp (pt_cmp (pc_gt (pe_ix (r := rIxT K) ix_tup (pv 2) pe_int (fun _ _ => rfl)) pe_int)) pe_int (pe_un un_neg pe_int)))) (pss_cons (ps_if (pt_cmpR op_ne (pe_callB (call_repr R gd hrR) (by rfl) T2.repr_ (by decide +kernel) (pa_cons (pe_lst (pa_cons (pe_prop (pv 1) T.clC Ps.pr (ok_sign Ps.fn T) hr2 Ps.b .nil pass0 rfl) (pa_cons (pe_prop (pv 1) T.clC Pw.pr (ok_whole Pw.fn T) hr2 Pw.b .nil pass0 rfl) pa_nil))) pa_nil)) (pe_callB (call_repr R gd hrR) (by rfl) T2.repr_ (by decide +kernel) (pa_cons (pe_lst (pa_cons (pv 3) (pa_cons (pe_cmp (pc_eqI (pe_ix (r := rIxT K) ix_tup (pv 2) pe_int (fun _ _ => rfl)) pe_int) rfl) pa_nil))) pa_nil)) (nomark _)) (pss_one (ps_ret pe_bl)) pss_nil) (pss_cons (ps_if (pt_cmpR (op_neD hr.units) (pe_call NPr hr3 (by rfl) Pr.mg Pr.fn.kp Pr.b .nil pass0 (pa_cons (pe_meth0 (pv 1) T.clC MSi NSi hr5 bSi .nil pass0) pa_nil)) (pe_tup (pa_cons (pe_callB call_abs (by rfl) T2.abs_ (by decide +kernel) (pa_cons (pe_ix (r := rIxT K) ix_tup (pv 2) pe_int (fun _ _ => rfl)) pa_nil)) (pa_cons (pe_ix (r := rIxT K) ix_tup (pv 2) pe_int (fun _ _ => rfl)) pa_nil))) (nomark _)) (pss_one (ps_ret pe_bl)) pss_nil) (pss_cons (ps_if (PW.pt (pw_or (pt_cmpR (op_neD hr.units) (pe_call NPr hr3 (by rfl) Pr.mg Pr.fn.kp Pr.b .nil pass0 (pa_cons (pe_op (op_ownR (op := .Sub) ORs no_sub Nrs hr7 bRs) pe_int (pv 1)) pa_nil)) (pe_tup (pa_cons (pe_op op_sub pe_int (pe_ix (r := rIxT K) ix_tup (pv 2) pe_int (fun _ _ => rfl))) (pa_cons (pe_ix (r := rIxT K) ix_tup (pv 2) pe_int (fun _ _ => rfl)) pa_nil))) (nomark _)) (pw_or1 (pt_cmpR (op_neD hr.units) (pe_call NPr hr3 (by rfl) Pr.mg Pr.fn.kp Pr.b .nil pass0 (pa_cons (pe_un (un_ownNeg On Nn hr5 bn pass0) (pv 1)) pa_nil)) (pe_tup (pa_cons (pe_op op_sub pe_int (pe_ix (r := rIxT K) ix_tup (pv 2) pe_int (fun _ _ => rfl))) (pa_cons (pe_ix (r := rIxT K) ix_tup (pv 2) pe_int (fun _ _ => rfl)) pa_nil))) (nomark _))))) (pss_one (ps_ret pe_bl)) pss_nil) (pss_cons (ps_if (pt_cmpR (op_neD hr.units) (pe_lst (pa_cons (pe_call NIsn hr2 (by rfl) Isn.mg Isn.fn.kp Isn.b .nil pass0 (pa_cons (pv 1) pa_nil)) (pa_cons (pe_call Nisi hr1 (by rfl) Isi.mg Isi.fn.kp Isi.b .nil pass0 (pa_cons (pv 1) pa_nil)) (pa_cons (pe_call NIsc hr2 (by rfl) Isc.mg Isc.fn.kp Isc.b .nil pass0 (pa_cons (pv 1) pa_nil)) pa_nil)))) (pe_lst (pa_cons pe_bl (pa_cons pe_bl (pa_cons pe_bl pa_nil)))) (nomark _)) (pss_one (ps_ret pe_bl)) pss_nil) (pss_one (ps_ret (pe_cmpR (op_eqD hr.units) (pe_call NPr hr3 (by rfl) Pr.mg Pr.fn.kp Pr.b .nil pass0 (pa_cons (pe_makeK0 M Nm hr3 (by rfl) T.mgC (mk_kw I) pass0 (pk_cons (pe_ix (r := rIxT K) ix_tup (pv 0) pe_int (fun _ _ => rfl)) (pk_cons (pe_ix (r := rIxT K) ix_tup (pv 0) pe_int (fun _ _ => rfl)) pk_nil))) pa_nil)) (pv 2) (nomark _)))))))))))), ?_⟩
  have i0 : ∀ x y : V, atI [x, y] 0 = some x := fun x y => atI_nat (j := 0) rfl
  have i1 : ∀ x y : V, atI [x, y] 1 = some y := fun x y => atI_nat (j := 1) rfl
  have b9 : b.natAbs < 2 ^ 9000 := Nat.lt_of_lt_of_le bb (Nat.pow_le_pow_right (by decide) (by decide))
  have bq := divInt_bits b0 tb bb
  refine ⟨.ref c, rfl, c, _, 0, _, rfl, rfl, SqT.of hc, i0 _ _, .ref c, rfl, c, _, 1, _, rfl, rfl, SqT.of hc, i1 _ _, fun m dz nm ndz ne => ?_⟩
  refine ⟨m, dz, t, b, rfl, upd_same, b0, b9, fun H1 keep hm => ⟨rfl, ?_⟩⟩
  have s1 : Same H H1 := fun z o e => keep z o (by rw [upd_ne (ne_of_none e nm), upd_ne (ne_of_none e ndz)]; exact e) (ne_of_none e nm)
  have hc1 := s1 _ _ hc
  refine ⟨.ref c, rfl, c, _, 0, _, rfl, rfl, SqT.of hc1, i0 _ _, .ref c, rfl, c, _, 1, _, rfl, rfl, SqT.of hc1, i1 _ _, t, b, rfl, b0, b9, fun r nr => ⟨_, _, rfl, ?_⟩⟩
  have s2 : Same H1 (upd H1 r (.tup [.int (Rat.divInt t b).num, .int (Rat.divInt t b).den])) := same_new nr
  have pr : PA (upd H1 r (.tup [.int (Rat.divInt t b).num, .int (Rat.divInt t b).den])) (.ref r) (Rat.divInt t b) := PA.new
  have hm := hm.same s2
  have hc2 := s2 _ _ hc1
  have sH := s1.trans s2
  clear keep nm ndz nr s1 s2 hc1 hc ne
  generalize upd H1 r (.tup [.int (Rat.divInt t b).num, .int (Rat.divInt t b).den]) = H2 at pr hm hc2 sH ⊢
  generalize hq : Rat.divInt t b = p at pr hm bq
  have bp : Bits 4000 p := bq.mono (by decide)
  have bp19 : Bits 1900 p := bq.mono (by decide)
  have z1 : SmallI p.num := Nat.lt_trans (lt_log2 bp19.1 (by decide)) (by decide)
  have z2 : SmallI (p.den : Int) := Nat.lt_trans (lt_log2 (by rw [Int.natAbs_natCast]; exact bp19.2) (by decide)) (by decide)
  have e0 : ∀ z : V, (!decide (z = z)) = false := fun z => by simp
  obtain ⟨dm, fm, em, tm, bm, nf⟩ := id hm
  obtain ⟨r', er, hr'⟩ := id pr
  cases er
  -- pair(made), str(made)
  refine ⟨.ref m, rfl, m, p, rfl, hm, fun c1 H3 n1 s3 p1 => ⟨.ref r, rfl, pdQ p, pdQ p, dp_pa p1, dp_pa (pr.same s3), rfl, rfl, _, rfl, ?_⟩⟩
  rw [ne_same (pdQ p) rfl]
  refine iteF ⟨.ref m, rfl, m, dm, fm, rfl, s3 _ _ em, m, p, rfl, hm.same s3, bp19, strQ p, rfl, .ref r, rfl, .ref r, p, rfl, pr.same s3, bp19, rfl, _, rfl, ?_⟩
  rw [e0]
  refine iteF ?_
  have s := s3
  -- repr(made)
  have q1 := len_int z1
  have q2 := len_int z2
  have l1 : (("Ratio(" : String) : Str).length = 6 := rfl
  have l2 : ((", " : String) : Str).length = 2 := rfl
  have l3 : ((")" : String) : Str).length = 1 := rfl
  have lz : (6000 : Nat) ≤ sizeLine := by decide
  refine ⟨.ref m, rfl, .ref m, .rat p.num p.den, rfl, .rat (s _ _ em) tm bm, ⟨z1, z2⟩, by show 4000 ≤ sizeLine; decide, Nat.zero_le _, ?_⟩
  refine ⟨.ref r, rfl, r, _, 0, _, rfl, rfl, SqT.of (s _ _ hr'), i0 _ _, _, rfl, z1, _, _, rfl, rfl, by rw [l1]; omega, _, _, rfl, rfl, by rw [strLen_append, l1, l2]; omega, ?_⟩
  refine ⟨.ref r, rfl, r, _, 1, _, rfl, rfl, SqT.of (s _ _ hr'), i1 _ _, _, rfl, z2, _, _, rfl, rfl, by rw [strLen_append, strLen_append, l1, l2]; omega, _, _, rfl, rfl, by rw [strLen_append, strLen_append, strLen_append, l1, l2, l3]; omega, rfl, _, rfl, ?_⟩
  have er : (D.rat p.num p.den).shown = (("Ratio(" : String) : Str) ++ toString p.num ++ ", " ++ toString (p.den : Int) ++ ")" := by
    show ratText p.num p.den = _
    unfold ratText
    rw [Str.empty_append]
  rw [er, e0]
  refine iteF ?_
  -- the sign
  dsimp only [tNext, gName, tSeq, tAsg]
  refine give (te := tIf _ _ _) (S := fun v H' => v = .int (sgn p.num) ∧ H' = H3) (fun R g => ?_) fun v H' hv => ?_
  · refine ⟨.ref r, rfl, r, _, 0, _, rfl, rfl, SqT.of (s _ _ hr'), i0 _ _, _, _, rfl, rfl, _, rfl, iteB (b := decide (p.num = 0)) (fun z => ?_) fun z => ?_⟩
    · exact g _ _ ⟨by unfold sgn; rw [if_pos (of_decide_eq_true z)], rfl⟩
    · refine ⟨.ref r, rfl, r, _, 0, _, rfl, rfl, SqT.of (s _ _ hr'), i0 _ _, _, _, rfl, rfl, _, rfl, iteB (b := decide (0 < p.num)) (fun y => ?_) fun y => ?_⟩
      · exact g _ _ ⟨by unfold sgn; rw [if_neg (of_decide_eq_false z), if_pos (of_decide_eq_true y)], rfl⟩
      · exact ⟨1, rfl, g _ _ ⟨by unfold sgn; rw [if_neg (of_decide_eq_false z), if_neg (of_decide_eq_false y)], rfl⟩⟩
  obtain ⟨rfl, eH⟩ := hv
  subst eH
  -- sign and is_whole
  have hs : SmallI (sgn p.num) := by
    have := sgn_bits p.num
    show Nat.log2 _ < 1920
    have h : ∀ n : Nat, n < 2 → n.log2 < 1920 := by decide
    exact h _ this
  have dl : ∀ w : Bool, (D.lst [.int (sgn p.num), .bl w]).ok ∧ (D.lst [.int (sgn p.num), .bl w]).len ≤ sizeLine ∧ (D.lst [.int (sgn p.num), .bl w]).deep ≤ 1 := fun w => ⟨⟨hs, trivial, trivial⟩, by show 2 + (1921 + 2 + (5 + 2 + 0)) ≤ 2 ^ 24; decide, by show 1 ≤ 1; decide⟩
  refine ⟨.ref m, rfl, m, dm, fm, rfl, s _ _ em, m, p, rfl, hm.same s, .ref m, rfl, m, dm, fm, rfl, s _ _ em, m, p, rfl, hm.same s, by show 2 ≤ 2 ^ 24; decide, fun l nl => ?_⟩
  have s4 := s.trans (same_new (o := .lst [.int (sgn p.num), .bl (decide ((p.den : Int) = 1))]) nl)
  obtain ⟨d1, d2, d3⟩ := dl (decide ((p.den : Int) = 1))
  refine ⟨.ref l, .lst [.int (sgn p.num), .bl (decide ((p.den : Int) = 1))], rfl, .lst upd_same (.cons (.int _) (.cons (.bl _) .nil)), d1, d2, d3, ?_⟩
  refine ⟨.int (sgn p.num), rfl, .ref r, rfl, r, _, 1, _, rfl, rfl, SqT.of (s4 _ _ hr'), i1 _ _, _, _, rfl, rfl, by show 2 ≤ 2 ^ 24; decide, fun l' nl' => ?_⟩
  have s5 := s4.trans (same_new (o := .lst [.int (sgn p.num), .bl (decide ((p.den : Int) = 1))]) nl')
  refine ⟨.ref l', .lst [.int (sgn p.num), .bl (decide ((p.den : Int) = 1))], rfl, .lst upd_same (.cons (.int _) (.cons (.bl _) .nil)), d1, d2, d3, rfl, _, rfl, ?_⟩
  rw [e0]
  generalize upd _ l' _ = H5 at s5 ⊢
  clear s4 nl nl'
  refine iteF ?_
  -- size
  refine ⟨.ref m, rfl, m, dm, fm, rfl, s5 _ _ em, nf _ (by decide +kernel) (by decide +kernel), m, p, rfl, hm.same s5, bp, fun c2 H6 s6 h2 => ⟨c2, _, rfl, h2, fun c3 H7 n3 s7 p3 => ?_⟩⟩
  have s57 := (s5.trans s6).trans s7
  refine ⟨.ref r, rfl, r, _, 0, _, rfl, rfl, SqT.of (s57 _ _ hr'), i0 _ _, _, rfl, .ref r, rfl, r, _, 1, _, rfl, rfl, SqT.of (s57 _ _ hr'), i1 _ _, by show 2 ≤ 2 ^ 24; decide, fun t3 nt3 => ?_⟩
  have s8 := s57.trans (same_new (o := .tup [.int (if p.num < 0 then -p.num else p.num), .int p.den]) nt3)
  obtain ⟨a1, a2⟩ := abs_parts p
  have ePa : pdQ (Rat.divInt (if p.num < 0 then -p.num else p.num) p.den) = .tuple [.int (if p.num < 0 then -p.num else p.num), .int p.den] := by
    unfold pdQ
    rw [a1, a2]
  refine ⟨_, pdQ (Rat.divInt (if p.num < 0 then -p.num else p.num) p.den), dp_pa (p3.same (same_new nt3)), by rw [ePa]; exact .tup (SqT.of upd_same) (.cons (.int _) (.cons (.int _) .nil)), rfl, rfl, _, rfl, ?_⟩
  rw [ne_same _ rfl]
  generalize upd H7 t3 _ = H8 at s8 ⊢
  refine iteF ?_
  -- 0 - made, -made
  have e0q : ((0 : Int) : Rat) - p = -p := by rw [Rat.sub_eq_add_neg]; exact Rat.zero_add _
  have b0q : Bits 4000 ((0 : Int) : Rat) := ⟨by decide, by decide⟩
  have eNp : pdQ (-p) = .tuple [.int (0 - p.num), .int p.den] := by
    unfold pdQ
    rw [Rat.neg_num, Rat.neg_den, Int.zero_sub]
  refine ⟨.ref m, rfl, 0, m, dm, fm, rfl, rfl, s8 _ _ em, m, 0, p, rfl, hm.same s8, bp, b0q, fun c4 H9 s9 h4 => ⟨⟨c4, rfl⟩, c4, _, rfl, h4, fun c5 H10 n5 s10 p5 => ?_⟩⟩
  have s11 := (s8.trans s9).trans s10
  refine ⟨.ref r, rfl, r, _, 0, _, rfl, rfl, SqT.of (s11 _ _ hr'), i0 _ _, _, _, rfl, rfl, .ref r, rfl, r, _, 1, _, rfl, rfl, SqT.of (s11 _ _ hr'), i1 _ _, by show 2 ≤ 2 ^ 24; decide, fun t5 nt5 => ?_⟩
  have s12 := s11.trans (same_new (o := .tup [.int (0 - p.num), .int p.den]) nt5)
  have p5' : PA H10 (.ref c5) (-p) := by rw [← e0q]; exact p5
  refine ⟨pdQ (-p), pdQ (-p), dp_pa (p5'.same (same_new nt5)), by rw [eNp]; exact .tup (SqT.of upd_same) (.cons (.int _) (.cons (.int _) .nil)), rfl, rfl, _, rfl, ?_⟩
  rw [ne_same _ rfl]
  generalize upd H10 t5 _ = H11 at s12 ⊢
  refine iteF ⟨.ref m, rfl, m, dm, fm, rfl, s12 _ _ em, m, p, rfl, hm.same s12, bp, fun c6 H12 s13 h6 => ⟨c6, _, rfl, h6, fun c7 H13 n7 s14 p7 => ?_⟩⟩
  have s15 := (s12.trans s13).trans s14
  refine ⟨.ref r, rfl, r, _, 0, _, rfl, rfl, SqT.of (s15 _ _ hr'), i0 _ _, _, _, rfl, rfl, .ref r, rfl, r, _, 1, _, rfl, rfl, SqT.of (s15 _ _ hr'), i1 _ _, by show 2 ≤ 2 ^ 24; decide, fun t7 nt7 => ?_⟩
  have s16 := s15.trans (same_new (o := .tup [.int (0 - p.num), .int p.den]) nt7)
  refine ⟨pdQ (-p), pdQ (-p), dp_pa (p7.same (same_new nt7)), by rw [eNp]; exact .tup (SqT.of upd_same) (.cons (.int _) (.cons (.int _) .nil)), rfl, rfl, _, rfl, ?_⟩
  rw [ne_same _ rfl]
  generalize upd H13 t7 _ = H14 at s16 ⊢
  refine iteF ?_
  -- the kinds
  have len4 : (D.rat p.num p.den).len ≤ sizeLine := by show 4000 ≤ 2 ^ 24; decide
  refine ⟨.ref m, rfl, .ref m, .rat p.num p.den, rfl, .rat (s16 _ _ em) tm bm, len4, fun H15 s17 => ?_⟩
  have s18 := s16.trans s17
  refine ⟨.ref m, rfl, .ref m, .rat p.num p.den, rfl, .rat (s18 _ _ em) tm bm, len4, fun H16 s19 => ?_⟩
  have s20 := s18.trans s19
  refine ⟨.ref m, rfl, .ref m, .rat p.num p.den, rfl, .rat (s20 _ _ em) tm bm, len4, fun H17 s21 => ⟨by show 3 ≤ 2 ^ 24; decide, fun l1 nl1 => ⟨by show 3 ≤ 2 ^ 24; decide, fun l2 nl2 => ?_⟩⟩⟩
  have e12 : l1 ≠ l2 := ne_of_none upd_same nl2
  have s22 := ((s20.trans s21).trans (same_new (o := .lst [.bl true, .bl false, .bl false]) nl1)).trans (same_new (o := .lst [.bl true, .bl false, .bl false]) nl2)
  refine ⟨.list [.bool true, .bool false, .bool false], .list [.bool true, .bool false, .bool false], .lst (xs := [.bl true, .bl false, .bl false]) (SqL.of (by rw [upd_ne e12]; exact upd_same)) (.cons (.bl _) (.cons (.bl _) (.cons (.bl _) .nil))), .lst (SqL.of upd_same) (.cons (.bl _) (.cons (.bl _) (.cons (.bl _) .nil))), rfl, rfl, _, rfl, ?_⟩
  rw [ne_same _ rfl]
  refine iteF ?_
  -- by names
  have hc18 := s22 _ _ hc2
  refine ⟨.ref c, rfl, c, _, 0, _, rfl, rfl, SqT.of hc18, i0 _ _, .ref c, rfl, c, _, 1, _, rfl, rfl, SqT.of hc18, i1 _ _, rfl, rfl, fun x dx nx ndx nex => ?_⟩
  refine ⟨x, dx, t, b, rfl, upd_same, b0, b9, fun H19 keep hx => ⟨rfl, ?_⟩⟩
  have s23 := s22.trans (fun z o e => keep z o (by rw [upd_ne (ne_of_none e nx), upd_ne (ne_of_none e ndx)]; exact e) (ne_of_none e nx))
  rw [hq] at hx
  refine ⟨x, p, rfl, hx, fun c9 H20 n9 s24 p9 => ?_⟩
  have s25 := s23.trans s24
  refine ⟨.ref r, rfl, pdQ p, pdQ p, dp_pa p9, dp_pa ⟨r, rfl, s25 _ _ hr'⟩, rfl, rfl, ?_⟩
  rw [SeqAt.eqv_refl _ rfl]
  exact q H20 (sH.trans s25)
end
end KT

set_option Elab.async false
set_option linter.all false
set_option maxRecDepth 100000
set_option maxHeartbeats 4000000
namespace KT
open PySem L2 TW
abbrev l_two : Stmt := top 28
theorem lc_two : FnScope ["_law_raw_here", "_law_other_raw", "_law_number", "_law_made", "_law_mate", "_law_one", "_law_two", "_law_whole", "_law_told", "_law_due", "_law_below", "_law_above"] ["_law_raw_here", "_law_other_raw", "_law_number"] (defScope l_two) := ⟨rfl, rfl, rfl, by decide +kernel, rfl, by decide +kernel, by decide +kernel⟩
/-- all but lists stay -/
def NL (H H' : Hp) : Prop := ∀ a o, H a = some o → (∀ xs, o ≠ .lst xs) → H' a = some o
theorem NL.of {H H' : Hp} (s : Same H H') : NL H H' := fun a o e _ => s a o e
theorem NL.trans {H H1 H2 : Hp} (a : NL H H1) (b : NL H1 H2) : NL H H2 := fun c o e h => b c o (a c o e h) h
theorem NL.upd {H : Hp} {f : Addr} {xs ys : List V} (h : H f = some (.lst xs)) : NL H (upd H f (.lst ys)) := fun a o e n => by
  rw [upd_ne (fun z => ?_)]
  · exact e
  · rw [z, h] at e
    cases e
    exact n _ rfl
theorem RatAt.nl {C : Addr} {H H' : Hp} {a : Addr} {q : Rat} (s : NL H H') (h : RatAt C H a q) : RatAt C H' a q := by
  obtain ⟨dx, fs, e, t, b, z⟩ := h
  exact ⟨dx, fs, s _ _ e (fun _ h => nomatch h), t, b, z⟩
theorem PA.nl {H H' : Hp} {x : V} {q : Rat} (s : NL H H') (h : PA H x q) : PA H' x q := by
  obtain ⟨a, e, h⟩ := h
  exact ⟨a, e, s _ _ h (fun _ h => nomatch h)⟩
theorem Rats.nl {C : Addr} {H H' : Hp} (s : NL H H') : ∀ {xs : List V} {l : List Rat}, Rats C H xs l → Rats C H' xs l
  | _, _, .nil => .nil
  | _, _, .cons h t => .cons (RatAt.nl s h) (t.nl s)
theorem Pas.nl {H H' : Hp} (s : NL H H') : ∀ {xs : List V} {l : List Rat}, Pas H xs l → Pas H' xs l
  | _, _, .nil => .nil
  | _, _, .cons h t => .cons (h.nl s) (t.nl s)
theorem Pas.dp {K : W.Frag} {H : Hp} : ∀ {xs : List V} {l : List Rat}, Pas H xs l → DpAll K H xs (l.map pdQ)
  | _, _, .nil => .nil
  | _, _, .cons h t => .cons (dp_pa h) t.dp
theorem pa_int {H : Hp} {a : Addr} {n : Int} (h : H a = some (.tup [.int n, .int 1])) : PA H (.ref a) (n : Rat) := ⟨a, rfl, by rw [Rat.num_intCast, Rat.den_intCast]; exact h⟩
theorem eqv_pd (p r : Rat) : PyData.eqv (pdQ p) (pdQ r) = decide (p = r) := by
  show (p.num == r.num && ((p.den : Int) == (r.den : Int) && true)) = decide (p = r)
  rw [Bool.and_true, Bool.eq_iff_iff, Bool.and_eq_true, beq_iff_eq, beq_iff_eq, decide_eq_true_iff]
  exact ⟨fun ⟨a, b⟩ => Rat.ext a (by exact_mod_cast b), fun h => by rw [h]; exact ⟨rfl, rfl⟩⟩
/-! expressions that make fractions of what stands in H2 -/
def EvR (C : Addr) (H2 : Hp) (σ : L2.St) (te : TE) (q : Rat) : Prop := ∀ (H : Hp) (R : VK), NL H2 H → (∀ c H', Same H H' → RatAt C H' c q → R (.ref c) H') → te σ H R
def EvP (H2 : Hp) (σ : L2.St) (te : TE) (q : Rat) : Prop := ∀ (H : Hp) (R : VK), NL H2 H → (∀ x H', Same H H' → PA H' x q → R x H') → te σ H R
def EvB (H2 : Hp) (σ : L2.St) (te : TE) (c : Bool) : Prop := ∀ (H : Hp) (R : VK), NL H2 H → (∀ H', Same H H' → R (.bl c) H') → te σ H R
def EvsR (C : Addr) (H2 : Hp) (σ : L2.St) (ta : TA) (l : List Rat) : Prop := ∀ (H : Hp) (R : List V → Hp → Prop), NL H2 H → (∀ xs H', Same H H' → Rats C H' xs l → R xs H') → ta σ H R
def EvsP (H2 : Hp) (σ : L2.St) (ta : TA) (l : List Rat) : Prop := ∀ (H : Hp) (R : List V → Hp → Prop), NL H2 H → (∀ xs H', Same H H' → Pas H' xs l → R xs H') → ta σ H R
def EvsB (H2 : Hp) (σ : L2.St) (ta : TA) (l : List Bool) : Prop := ∀ (H : Hp) (R : List V → Hp → Prop), NL H2 H → (∀ H', Same H H' → R (l.map V.bl) H') → ta σ H R
section
variable {C : Addr} {H2 : Hp} {σ : L2.St} {i j : Nat} {m u : Addr} {p r : Rat} {n : Int} {g : Rat → Rat → Rat}
theorem evsR_nil : EvsR C H2 σ tNil [] := fun H R _ k => k [] H (Same.refl H) .nil
theorem evsR_cons {te : TE} {ta : TA} {q : Rat} {l : List Rat} (h : EvR C H2 σ te q) (h' : EvsR C H2 σ ta l) : EvsR C H2 σ (tCons te ta) (q :: l) := fun H R J k => h H _ J fun c H1 s1 hc => h' H1 _ (J.trans (NL.of s1)) fun xs H3 s2 hx => k (.ref c :: xs) H3 (s1.trans s2) (.cons (hc.same s2) hx)
theorem evsP_nil : EvsP H2 σ tNil [] := fun H R _ k => k [] H (Same.refl H) .nil
theorem evsP_cons {te : TE} {ta : TA} {q : Rat} {l : List Rat} (h : EvP H2 σ te q) (h' : EvsP H2 σ ta l) : EvsP H2 σ (tCons te ta) (q :: l) := fun H R J k => h H _ J fun c H1 s1 hc => h' H1 _ (J.trans (NL.of s1)) fun xs H3 s2 hx => k (c :: xs) H3 (s1.trans s2) (.cons (hc.same s2) hx)
theorem evsB_nil : EvsB H2 σ tNil [] := fun H R _ k => k H (Same.refl H)
theorem evsB_cons {te : TE} {ta : TA} {c : Bool} {l : List Bool} (h : EvB H2 σ te c) (h' : EvsB H2 σ ta l) : EvsB H2 σ (tCons te ta) (c :: l) := fun H R J k => h H _ J fun H1 s1 => h' H1 _ (J.trans (NL.of s1)) fun H3 s2 => k H3 (s1.trans s2)
theorem evR_own (hi : σ[i]? = some (some (.ref m))) (hj : σ[j]? = some (some (.ref u))) (hm : RatAt C H2 m p) (hu : RatAt C H2 u r) (bp : Bits 4000 p) (br : Bits 4000 r) : EvR C H2 σ (tOp (rOwn C (spOp2 C g) E0) (tVar i) (tVar j)) (g p r) := fun H R J k => by
  have hm := RatAt.nl J hm
  have hu := RatAt.nl J hu
  obtain ⟨dm, fm, em, _⟩ := id hm
  obtain ⟨du, fu, eu, _⟩ := id hu
  exact ⟨.ref m, hi, .ref u, hj, m, u, dm, du, fm, fu, rfl, rfl, em, eu, m, .ref u, p, r, rfl, hm, .inr ⟨u, rfl, hu⟩, bp, br, fun c H' s hc => ⟨⟨c, rfl⟩, k c H' s hc⟩⟩
theorem evR_ownI (hi : σ[i]? = some (some (.ref m))) (hj : σ[j]? = some (some (.int n))) (hm : RatAt C H2 m p) (bp : Bits 4000 p) (bn : Bits 4000 (n : Rat)) : EvR C H2 σ (tOp (rOwnI C (spOp2 C g) E0) (tVar i) (tVar j)) (g p n) := fun H R J k => by
  have hm := RatAt.nl J hm
  obtain ⟨dm, fm, em, _⟩ := id hm
  exact ⟨.ref m, hi, .int n, hj, m, n, dm, fm, rfl, rfl, em, m, .int n, p, (n : Rat), rfl, hm, .inl ⟨n, rfl, rfl⟩, bp, bn, fun c H' s hc => ⟨⟨c, rfl⟩, k c H' s hc⟩⟩
theorem evR_ownR (hi : σ[i]? = some (some (.int n))) (hj : σ[j]? = some (some (.ref m))) (hm : RatAt C H2 m p) (bp : Bits 4000 p) (bn : Bits 4000 (n : Rat)) : EvR C H2 σ (tOp (rOwnR C (spOpR C g)) (tVar i) (tVar j)) (g n p) := fun H R J k => by
  have hm := RatAt.nl J hm
  obtain ⟨dm, fm, em, _⟩ := id hm
  exact ⟨.int n, hi, .ref m, hj, n, m, dm, fm, rfl, rfl, em, m, n, p, rfl, hm, bp, bn, fun c H' s hc => ⟨⟨c, rfl⟩, k c H' s hc⟩⟩
theorem evP_var {x : V} (hi : σ[i]? = some (some x)) (hx : PA H2 x p) : EvP H2 σ (tVar i) p := fun H R J k => ⟨x, hi, k x H (Same.refl H) (hx.nl J)⟩
theorem evP_call2 {ok : Rat → Prop} {ta tb : TE} (ha : EvP H2 σ ta p) (hb : EvP H2 σ tb r) (bp : Bits 4000 p) (br : Bits 4000 r) (h : ok r) : EvP H2 σ (tCall (spP2 ok g) [] E0 (tCons ta (tCons tb tNil))) (g p r) := fun H R J k =>
  ha H _ J fun x H1 s1 px => hb H1 _ (J.trans (NL.of s1)) fun y H3 s2 py => ⟨x, y, p, r, rfl, px.same s2, py, bp, br, h, fun c H' s pc => k (.ref c) H' ((s1.trans s2).trans s) pc⟩
theorem evP_pair {te : TE} {q : Rat} (h : EvR C H2 σ te q) : EvP H2 σ (tCall (spPair C) [] E0 (tCons te tNil)) q := fun H R J k => h H _ J fun c H1 s1 hc => ⟨c, q, rfl, hc, fun d H' _ s pd => k (.ref d) H' (s1.trans s) pd⟩
theorem evR_over {y : V} (hi : σ[i]? = some (some (.ref m))) (hj : σ[j]? = some (some y)) (hm : RatAt C H2 m p) (hy : ∀ H, NL H2 H → NumAt C H y r) (bp : Bits 4000 p) (br : Bits 4000 r) (r0 : r ≠ 0) : EvR C H2 σ (tMeth C "over" (spOver C) [] E0 (tVar i) (tCons (tVar j) tNil)) (overQ p r) := fun H R J k => by
  have hm := RatAt.nl J hm
  obtain ⟨dm, fm, em, _, _, nf⟩ := id hm
  exact ⟨.ref m, hi, m, dm, fm, rfl, em, nf _ (by decide +kernel) (by decide +kernel), y, hj, m, y, p, r, rfl, hm, hy H J, bp, br, r0, fun c H' s hc => k c H' s hc⟩
theorem evR_overN {y : V} (hi : σ[i]? = some (some (.ref m))) (hj : σ[j]? = some (some y)) (hm : RatAt C H2 m p) (hy : ∀ H, NL H2 H → NumAt C H y r) (bp : Bits 4000 p) (br : Bits 4000 r) (r0 : r ≠ 0) : EvR C H2 σ (tMethN C "over" 1 (spOver C) (fun vs zs => vs ++ zs) E0 (tVar i) (tCons (tVar j) tNil)) (overQ p r) := fun H R J k => by
  have hm := RatAt.nl J hm
  obtain ⟨dm, fm, em, _, _, nf⟩ := id hm
  exact ⟨.ref m, hi, m, dm, fm, rfl, em, nf _ (by decide +kernel) (by decide +kernel), y, hj, rfl, m, y, p, r, rfl, hm, hy H J, bp, br, r0, fun c H' s hc => k c H' s hc⟩
theorem evB_lt {x : Str} {f : Int → Int → Bool} {y : V} (hx1 : x ≠ "_top") (hx2 : x ≠ "_bottom") (hi : σ[i]? = some (some (.ref m))) (hj : σ[j]? = some (some y)) (hm : RatAt C H2 m p) (hy : ∀ H, NL H2 H → NumAt C H y r) (bp : Bits 4000 p) (br : Bits 4000 r) : EvB H2 σ (tMeth C x (spLt C f) [] E0 (tVar i) (tCons (tVar j) tNil)) (f (p.num * r.den) (r.num * p.den)) := fun H R J k => by
  have hm := RatAt.nl J hm
  obtain ⟨dm, fm, em, _, _, nf⟩ := id hm
  exact ⟨.ref m, hi, m, dm, fm, rfl, em, nf _ hx1 hx2, y, hj, m, y, p, r, rfl, hm, hy H J, bp, br, fun H' s => k H' s⟩
theorem evB_eq (hi : σ[i]? = some (some (.ref m))) (hj : σ[j]? = some (some (.ref u))) (hm : RatAt C H2 m p) (hu : RatAt C H2 u r) : EvB H2 σ (tOp (rOwnEq C (spEq C)) (tVar i) (tVar j)) (decide (p = r)) := fun H R J k => by
  have hm := RatAt.nl J hm
  have hu := RatAt.nl J hu
  obtain ⟨dm, fm, em, _⟩ := id hm
  obtain ⟨du, fu, eu, _⟩ := id hu
  exact ⟨.ref m, hi, .ref u, hj, m, dm, fm, rfl, em, .inr ⟨u, du, fu, rfl, eu⟩, m, .ref u, p, rfl, hm, .inr ⟨u, r, rfl, hu, _, rfl, k H (Same.refl H)⟩⟩
theorem evB_ne (hi : σ[i]? = some (some (.ref m))) (hj : σ[j]? = some (some (.ref u))) (hm : RatAt C H2 m p) (hu : RatAt C H2 u r) : EvB H2 σ (tOp (rOwnNe C (spEq C)) (tVar i) (tVar j)) (!decide (p = r)) := fun H R J k => by
  have hm := RatAt.nl J hm
  have hu := RatAt.nl J hu
  obtain ⟨dm, fm, em, _⟩ := id hm
  obtain ⟨du, fu, eu, _⟩ := id hu
  exact ⟨.ref m, hi, .ref u, hj, m, dm, fm, u, du, fu, rfl, em, rfl, eu, m, .ref u, p, rfl, hm, .inr ⟨u, r, rfl, hu, _, rfl, k H (Same.refl H)⟩⟩
theorem evB_eqI (hi : σ[i]? = some (some (.ref m))) (hj : σ[j]? = some (some (.int n))) (hm : RatAt C H2 m p) : EvB H2 σ (tOp (rOwnEq C (spEq C)) (tVar i) (tVar j)) false := fun H R J k => by
  have hm := RatAt.nl J hm
  obtain ⟨dm, fm, em, _⟩ := id hm
  exact ⟨.ref m, hi, .int n, hj, m, dm, fm, rfl, em, .inl ⟨n, rfl⟩, m, .int n, p, rfl, hm, .inl ⟨n, rfl, _, rfl, k H (Same.refl H)⟩⟩
theorem evB_eqR (hi : σ[i]? = some (some (.int n))) (hj : σ[j]? = some (some (.ref m))) (hm : RatAt C H2 m p) : EvB H2 σ (tOp (rEqOwnR C (spEq C)) (tVar i) (tVar j)) false := fun H R J k => by
  have hm := RatAt.nl J hm
  obtain ⟨dm, fm, em, _⟩ := id hm
  exact ⟨.int n, hi, .ref m, hj, n, m, dm, fm, rfl, rfl, em, m, .int n, p, rfl, hm, .inl ⟨n, rfl, _, rfl, k H (Same.refl H)⟩⟩
theorem evB_var {c : Bool} (hi : σ[i]? = some (some (.bl c))) : EvB H2 σ (tVar i) c := fun H R J k => ⟨.bl c, hi, k H (Same.refl H)⟩
theorem evB_bl {c : Bool} : EvB H2 σ (tC (.bl c)) c := fun H R J k => k H (Same.refl H)
theorem evB_eqD {K : W.Frag} {x y : V} (hi : σ[i]? = some (some x)) (hj : σ[j]? = some (some y)) (hx : PA H2 x p) (hy : PA H2 y r) : EvB H2 σ (tOp (rEqD K) (tVar i) (tVar j)) (decide (p = r)) := fun H R J k =>
  ⟨x, hi, y, hj, pdQ p, pdQ r, dp_pa (hx.nl J), dp_pa (hy.nl J), rfl, rfl, by rw [eqv_pd]; exact k H (Same.refl H)⟩
theorem evB_neD {K : W.Frag} {x y : V} (hi : σ[i]? = some (some x)) (hj : σ[j]? = some (some y)) (hx : PA H2 x p) (hy : PA H2 y r) : EvB H2 σ (tOp (rNeD K) (tVar i) (tVar j)) (!decide (p = r)) := fun H R J k =>
  ⟨x, hi, y, hj, pdQ p, pdQ r, dp_pa (hx.nl J), dp_pa (hy.nl J), rfl, rfl, by rw [eqv_pd]; exact k H (Same.refl H)⟩
theorem dp_bls {K : W.Frag} {H : Hp} : ∀ l : List Bool, DpAll K H (l.map V.bl) (l.map PyData.bool)
  | [] => .nil
  | b :: l => .cons (.bl b) (dp_bls l)
end
section
variable {C : Addr} {H2 : Hp} {σ : L2.St} {K : W.Frag}
theorem evL {ta : TA} {l : List Rat} {H : Hp} {R : VK} (h : EvsR C H2 σ ta l) (J : NL H2 H) (hl : l.length ≤ 1000) (k : ∀ f xs H', H f = none → Same H H' → H' f = some (.lst xs) → Rats C H' xs l → R (.ref f) H') : tLst ta σ H R :=
  h H _ J fun xs H1 s1 hx => ⟨Nat.le_trans (by rw [hx.length]; exact hl) (by decide : (1000 : Nat) ≤ sizeLine), fun f nf => k f xs _ (by
    cases e : H f with
    | none => rfl
    | some o =>
      rw [s1 _ _ e] at nf
      cases nf) (s1.trans (same_new nf)) upd_same (hx.same (same_new nf))⟩
theorem evLP {ta : TA} {l : List Rat} {H : Hp} {R : VK} (h : EvsP H2 σ ta l) (J : NL H2 H) (hl : l.length ≤ 1000) (k : ∀ f xs H', H f = none → Same H H' → H' f = some (.lst xs) → Pas H' xs l → R (.ref f) H') : tLst ta σ H R :=
  h H _ J fun xs H1 s1 hx => ⟨Nat.le_trans (by rw [hx.length]; exact hl) (by decide : (1000 : Nat) ≤ sizeLine), fun f nf => k f xs _ (by
    cases e : H f with
    | none => rfl
    | some o =>
      rw [s1 _ _ e] at nf
      cases nf) (s1.trans (same_new nf)) upd_same (hx.same (same_new nf))⟩
theorem evLB {ta : TA} {l : List Bool} {H : Hp} {R : VK} (h : EvsB H2 σ ta l) (J : NL H2 H) (hl : l.length ≤ 1000) (k : ∀ f H', Same H H' → H' f = some (.lst (l.map V.bl)) → R (.ref f) H') : tLst ta σ H R :=
  h H _ J fun H1 s1 => ⟨Nat.le_trans (by rw [List.length_map]; exact hl) (by decide : (1000 : Nat) ≤ sizeLine), fun f nf => k f _ (s1.trans (same_new nf)) upd_same⟩
theorem evExtR {j : Nat} {f : Addr} {ta : TA} {l l2 : List Rat} {xs : List V} {H : Hp} {R : VK} (hs : σ[j]? = some (some (.ref f))) (hf : H f = some (.lst xs)) (hx : Rats C H xs l) (h : EvsR C H2 σ ta l2) (J : NL H2 H) (hl : l.length ≤ 500) (hl2 : l2.length ≤ 500)
    (k : ∀ ys H', NL H H' → (∀ a o, H a = some o → a ≠ f → H' a = some o) → H' f = some (.lst ys) → Rats C H' ys (l ++ l2) → R .non H') : tBM K "list" rExtend (tVar j) (tCons (tLst ta) tNil) σ H R := by
  refine ⟨.ref f, hs, .inl ⟨rfl, _, .inl (.inl hf)⟩, evL h J (by omega) fun q ys H1 nq s1 hq hy => ?_⟩
  have e1 := hx.length
  have e2 := hy.length
  have hf1 := s1 _ _ hf
  refine ⟨f, q, xs, ys, rfl, rfl, hf1, hq, Nat.le_trans (by omega) (by decide : (1000 : Nat) ≤ sizeLine), ?_⟩
  refine k _ _ ((NL.of s1).trans (NL.upd hf1)) (fun a o e ne => by rw [upd_ne ne]; exact s1 _ _ e) upd_same ?_
  have app : ∀ {H : Hp} {xs : List V} {l : List Rat} {ys : List V} {m : List Rat}, Rats C H xs l → Rats C H ys m → Rats C H (xs ++ ys) (l ++ m) := by
    intro H xs l ys m h
    induction h with
    | nil => exact fun h => h
    | cons a _ ih => exact fun h => .cons a (ih h)
  exact app ((hx.same s1).nl (NL.upd hf1)) (hy.nl (NL.upd hf1))
theorem evExtP {j : Nat} {f : Addr} {ta : TA} {l l2 : List Rat} {xs : List V} {H : Hp} {R : VK} (hs : σ[j]? = some (some (.ref f))) (hf : H f = some (.lst xs)) (hx : Pas H xs l) (h : EvsP H2 σ ta l2) (J : NL H2 H) (hl : l.length ≤ 500) (hl2 : l2.length ≤ 500)
    (k : ∀ ys H', NL H H' → (∀ a o, H a = some o → a ≠ f → H' a = some o) → H' f = some (.lst ys) → Pas H' ys (l ++ l2) → R .non H') : tBM K "list" rExtend (tVar j) (tCons (tLst ta) tNil) σ H R := by
  refine ⟨.ref f, hs, .inl ⟨rfl, _, .inl (.inl hf)⟩, evLP h J (by omega) fun q ys H1 nq s1 hq hy => ?_⟩
  have e1 := hx.length
  have e2 := hy.length
  have hf1 := s1 _ _ hf
  refine ⟨f, q, xs, ys, rfl, rfl, hf1, hq, Nat.le_trans (by omega) (by decide : (1000 : Nat) ≤ sizeLine), ?_⟩
  refine k _ _ ((NL.of s1).trans (NL.upd hf1)) (fun a o e ne => by rw [upd_ne ne]; exact s1 _ _ e) upd_same ?_
  have app : ∀ {H : Hp} {xs : List V} {l : List Rat} {ys : List V} {m : List Rat}, Pas H xs l → Pas H ys m → Pas H (xs ++ ys) (l ++ m) := by
    intro H xs l ys m h
    induction h with
    | nil => exact fun h => h
    | cons a _ ih => exact fun h => .cons a (ih h)
  exact app ((hx.same s1).nl (NL.upd hf1)) (hy.nl (NL.upd hf1))
theorem evB_not {i : Nat} {c : Bool} (hi : σ[i]? = some (some (.bl c))) {te : TE} (ht : te = tVar i) : EvB H2 σ te c := by
  rw [ht]
  exact evB_var hi
end
theorem op_go {r : V → V → Hp → VK → Prop} {ta tb : TE} {σ : L2.St} {H : Hp} {Q : VK} (h : ta σ H fun x H1 => tb σ H1 fun y H2 => r x y H2 Q) : tOp r ta tb σ H Q := h
theorem ifs_no {tt : TT} {ts : TS} {De : Ends} {σ : L2.St} {H : Hp} {P : Hp → Prop} (h : ∀ N : Bool → Hp → Prop, (∀ H', P H' → N false H') → tt σ H N) (k : ∀ H', P H' → De.nx σ H') : tIfS tt ts tNext De σ H := h _ fun H' p => iteF (k H' p)
theorem pas_one {H : Hp} {ys : List V} {q : Rat} (h : Pas H ys [q]) : ∃ y, ys = [y] ∧ PA H y q := by
  cases h with
  | cons a t => cases t; exact ⟨_, rfl, a⟩
theorem evB_notV {H2 : Hp} {σ : L2.St} {i : Nat} {c : Bool} (hi : σ[i]? = some (some (.bl c))) : EvB H2 σ (tNotV (tVar i)) (!c) := fun H R J k => ⟨.bl c, hi, c, rfl, k H (Same.refl H)⟩
theorem evB_cmpN {K : W.Frag} {H2 : Hp} {σ : L2.St} {i j : Nat} {r1 : Addr} {p : Rat} {n : Int} {f : Int → Int → Bool} (hi : σ[i]? = some (some (.ref r1))) (hj : σ[j]? = some (some (.int n))) (h1 : H2 r1 = some (.tup [.int p.num, .int p.den])) (hm : CMulW n p.den) :
    EvB H2 σ (tCmp f (tOp (rIxT K) (tVar i) (tC (.int 0))) (tOp (rI CMulW fun i j => .int (i * j)) (tVar j) (tOp (rIxT K) (tVar i) (tC (.int 1))))) (f p.num (n * p.den)) := fun H R J k => by
  have at1 : SqT K H r1 [.int p.num, .int p.den] := SqT.of (J _ _ h1 (fun _ h => nomatch h))
  exact ⟨.ref r1, hi, r1, _, 0, _, rfl, rfl, at1, atI_nat (j := 0) rfl, .int n, hj, .ref r1, hi, r1, _, 1, _, rfl, rfl, at1, atI_nat (j := 1) rfl, _, _, rfl, rfl, hm, _, _, rfl, rfl, k H (Same.refl H)⟩
end KT

set_option Elab.async false
set_option linter.all false
set_option maxRecDepth 100000
set_option maxHeartbeats 4000000
namespace KT
open PySem L2 TW
section
variable {P : Program} {w : World} {K : W.Frag} {mg : Str → Option Value} {base : Heap} {C HC : Addr}
def spTwo : Sp := fun vs H Q _ => ∃ (c d : Addr) (t b t' b' n : Int), vs = [.ref c, .ref d, .int n] ∧ H c = some (.tup [.int t, .int b]) ∧ RawT t b ∧ H d = some (.tup [.int t', .int b']) ∧ RawT t' b' ∧ n.natAbs < 2 ^ 150 ∧ ∀ H', Same H H' → Q (.bl true) H'
/-- an operator of the class, both ways -/
structure OpAll (P : Program) (w : World) (K : W.Frag) (mg : Str → Option Value) (base : Heap) (C : Addr) (nm : String) (k k' : Nat) (g : Rat → Rat → Rat) : Prop where
  own : ∃ f fd, Own K C f (dunder nm) ∧ FnOk P w K mg base L2.CX0 k f fd ["self", "other"] (spOp2 C g) ∧ Binds K fd ["self", "other"] []
  i : OwnI K C nm
  r : ∃ f fd, OwnR K C f nm ∧ FnOk P w K mg base L2.CX0 k' f fd ["self", "other"] (spOpR C g) ∧ Binds K fd ["self", "other"] []
theorem ok_two {f lo pr prs su le by_ lv fi ov be mo eq : Addr} {fd lod prd prsd sud led_ byd lvd fid ovd bed mod_ eqd : FuncData} (F : At K mg "_law_two_right" l_two ["_law_raw_here", "_law_other_raw", "_law_number"] f fd) (T : Txt K mg C HC)
    (Lo : At K mg "_law_low" s_low ["_law_top", "_law_bottom"] lo lod) (NLo : FnOk P w K mg base L2.CX0 1 lo lod ["_law_top", "_law_bottom"] (spLow C))
    (Pr : At K mg "_law_pair" l_pair ["_law_value"] pr prd) (NPr : FnOk P w K mg base L2.CX0 3 pr prd ["_law_value"] (spPair C))
    (Prs : At K mg "_law_pairs" l_pairs ["_law_value"] prs prsd) (NPrs : FnOk P w K mg base L2.CX0 4 prs prsd ["_law_value"] (spPairs K C))
    (Su : At K mg "_law_sum" l_sum ["_law_one", "_law_other"] su sud) (NSu : FnOk P w K mg base L2.CX0 2 su sud ["_law_one", "_law_other"] (spP2 (fun _ => True) (· + ·)))
    (Le : At K mg "_law_less" l_less ["_law_one", "_law_other"] le led_) (NLe : FnOk P w K mg base L2.CX0 3 le led_ ["_law_one", "_law_other"] (spP2 (fun _ => True) (· - ·)))
    (By : At K mg "_law_by" s_by ["_law_one", "_law_other"] by_ byd) (NBy : FnOk P w K mg base L2.CX0 2 by_ byd ["_law_one", "_law_other"] (spP2 (fun _ => True) (· * ·)))
    (Lv : At K mg "_law_over" l_over ["_law_one", "_law_other"] lv lvd) (NLv : FnOk P w K mg base L2.CX0 2 lv lvd ["_law_one", "_law_other"] (spP2 (· ≠ 0) overQ))
    (I : InitR K fi fid) (M : Mk K C fi) (Nm : FnOk P w K mg base L2.CX0 2 fi fid ["self", "top", "bottom"] (spMk C)) (sf : W.selfFirst K C = true)
    (OA : OpAll P w K mg base C "add" 5 6 (· + ·)) (OS : OpAll P w K mg base C "sub" 6 7 (· - ·)) (OM : OpAll P w K mg base C "mul" 5 6 (· * ·))
    (MOv : Meth K C "over" ov) (FOv : Fun K "over" "Ratio.over" m_over ov ovd) (NOv : FnOk P w K mg base L2.CX0 5 ov ovd ["self", "other"] (spOver C)) (bOv : Binds K ovd ["self", "other"] [])
    (MBe : Meth K C "is_below" be) (NBe : FnOk P w K mg base L2.CX0 5 be bed ["self", "other"] (spLt C fun x y => decide (x < y))) (bBe : Binds K bed ["self", "other"] [])
    (MMo : Meth K C "is_at_most" mo) (NMo : FnOk P w K mg base L2.CX0 5 mo mod_ ["self", "other"] (spLt C fun x y => decide (x ≤ y))) (bMo : Binds K mod_ ["self", "other"] [])
    (OEq : Own K C eq "__eq__") (NEq : FnOk P w K mg base L2.CX0 1 eq eqd ["self", "other"] (spEq C)) (bEq : Binds K eqd ["self", "other"] []) (NEk : NeK K C eq)
    (si : W.subIn K (.type "int") (.ref C) = some false) (sc : W.subIn K (.ref C) (.type "int") = some false) :
    FnOk P w K mg base L2.CX0 9 f fd ["_law_raw_here", "_law_other_raw", "_law_number"] spTwo := by
  refine F.fn.ok lc_two (fun vs H Q E h => ?_) fun cdv A outer s H vs Q E hr h => ?_
  · obtain ⟨c, d, t, b, t', b', n, rfl, _⟩ := h
    rfl
  obtain ⟨c, d, t, b, t', b', n, rfl, hc, ⟨b0, tb, bb⟩, hd, ⟨b0', tb', bb'⟩, hn, q⟩ := h
  have hr1 : Room 1 _ := hr.mono (by decide)
  have hr2 : Room 2 _ := hr.mono (by decide)
  have hr3 : Room 3 _ := hr.mono (by decide)
  have hr4 : Room 4 _ := hr.mono (by decide)
  have hr5 : Room 5 _ := hr.mono (by decide)
  have hr6 : Room 6 _ := hr.mono (by decide)
  have hr7 : Room 7 _ := hr.mono (by decide)
  have nd := lc_two.nd
  obtain ⟨ds2, vd2, bd2⟩ := initR_all I
  obtain ⟨fa, fda, Oa, Na, Ba⟩ := OA.own
  obtain ⟨fs_, fds, Os, Ns, Bs⟩ := OS.own
  obtain ⟨fm_, fdm, Om, Nmu, Bm⟩ := OM.own
  obtain ⟨ga, gda, Ra, Nra, Bra⟩ := OA.r
  obtain ⟨gs_, gds, Rs_, Nrs, Brs⟩ := OS.r
  obtain ⟨gm_, gdm, Rm, Nrm, Brm⟩ := OM.r
  have kOv := one_kw FOv (p := "self") (o := "other") fun kV doc pm an cdv ct a b => rfl
  refine ⟨_, (pss_cons (ps_par rfl lc_two.nd (i := 3) (j := 4) rfl rfl (by decide) rfl rfl (pa_cons (pe_make M Nm hr3 (by rfl) T.mgC bd2 vd2 pass0 (pa_cons (pe_ix (r := rIxT K) ix_tup (pv 0) pe_int (fun _ _ => rfl)) (pa_cons (pe_ix (r := rIxT K) ix_tup (pv 0) pe_int (fun _ _ => rfl)) pa_nil))) (pa_cons (pe_make M Nm hr3 (by rfl) T.mgC bd2 vd2 pass0 (pa_cons (pe_ix (r := rIxT K) ix_tup (pv 1) pe_int (fun _ _ => rfl)) (pa_cons (pe_ix (r := rIxT K) ix_tup (pv 1) pe_int (fun _ _ => rfl)) pa_nil))) pa_nil)) (by rfl)) (pss_cons (ps_par3 rfl lc_two.nd (i := 5) (j := 6) (l := 7) rfl rfl rfl (by decide) (by decide) (by decide) rfl rfl rfl (pa_cons (pe_call NLo hr1 (by rfl) Lo.mg Lo.fn.kp Lo.b .nil pass0 (pa_cons (pe_ix (r := rIxT K) ix_tup (pv 0) pe_int (fun _ _ => rfl)) (pa_cons (pe_ix (r := rIxT K) ix_tup (pv 0) pe_int (fun _ _ => rfl)) pa_nil))) (pa_cons (pe_call NLo hr1 (by rfl) Lo.mg Lo.fn.kp Lo.b .nil pass0 (pa_cons (pe_ix (r := rIxT K) ix_tup (pv 1) pe_int (fun _ _ => rfl)) (pa_cons (pe_ix (r := rIxT K) ix_tup (pv 1) pe_int (fun _ _ => rfl)) pa_nil))) (pa_cons (pe_tup (pa_cons (pv 2) (pa_cons pe_int pa_nil))) pa_nil))) (by rfl)) (pss_cons (ps_set (i := 8) lc_two.nd rfl (.inl rfl) (pe_lst (pa_cons (pe_op (op_own (op := .Add) Oa sf Na hr5 Ba pass0) (pv 3) (pv 4)) (pa_cons (pe_op (op_own (op := .Sub) Os sf Ns hr6 Bs pass0) (pv 3) (pv 4)) (pa_cons (pe_op (op_own (op := .Mult) Om sf Nmu hr5 Bm pass0) (pv 3) (pv 4)) (pa_cons (pe_op (op_ownI (op := .Add) Oa OA.i sf Na hr5 Ba pass0) (pv 3) (pv 2)) (pa_cons (pe_op (op_ownR (op := .Add) Ra no_add Nra hr6 Bra) (pv 2) (pv 3)) (pa_cons (pe_op (op_ownI (op := .Mult) Om OM.i sf Nmu hr5 Bm pass0) (pv 3) (pv 2)) (pa_cons (pe_op (op_ownR (op := .Mult) Rm no_mul Nrm hr6 Brm) (pv 2) (pv 3)) pa_nil))))))))) (pss_cons (ps_expr (pe_bm PySem.F.plainAttrs_list PySem.F.slot_list_extend PySem.F.type_list_extend mt_extend (pv 8) (pa_cons (pe_lst (pa_cons (pe_op (op_ownR (op := .Sub) Rs_ no_sub Nrs hr7 Brs) (pv 2) (pv 3)) (pa_cons (pe_op (op_ownI (op := .Sub) Os OS.i sf Ns hr6 Bs pass0) (pv 3) (pv 2)) pa_nil))) pa_nil))) (pss_cons (ps_set (i := 9) lc_two.nd rfl (.inl rfl) (pe_lst (pa_cons (pe_call NSu hr2 (by rfl) Su.mg Su.fn.kp Su.b .nil pass0 (pa_cons (pv 5) (pa_cons (pv 6) pa_nil))) (pa_cons (pe_call NLe hr3 (by rfl) Le.mg Le.fn.kp Le.b .nil pass0 (pa_cons (pv 5) (pa_cons (pv 6) pa_nil))) (pa_cons (pe_call NBy hr2 (by rfl) By.mg By.fn.kp By.b .nil pass0 (pa_cons (pv 5) (pa_cons (pv 6) pa_nil))) (pa_cons (pe_call NSu hr2 (by rfl) Su.mg Su.fn.kp Su.b .nil pass0 (pa_cons (pv 5) (pa_cons (pv 7) pa_nil))) (pa_cons (pe_call NSu hr2 (by rfl) Su.mg Su.fn.kp Su.b .nil pass0 (pa_cons (pv 5) (pa_cons (pv 7) pa_nil))) pa_nil))))))) (pss_cons (ps_expr (pe_bm PySem.F.plainAttrs_list PySem.F.slot_list_extend PySem.F.type_list_extend mt_extend (pv 9) (pa_cons (pe_lst (pa_cons (pe_call NBy hr2 (by rfl) By.mg By.fn.kp By.b .nil pass0 (pa_cons (pv 5) (pa_cons (pv 7) pa_nil))) (pa_cons (pe_call NBy hr2 (by rfl) By.mg By.fn.kp By.b .nil pass0 (pa_cons (pv 5) (pa_cons (pv 7) pa_nil))) (pa_cons (pe_call NLe hr3 (by rfl) Le.mg Le.fn.kp Le.b .nil pass0 (pa_cons (pv 7) (pa_cons (pv 5) pa_nil))) (pa_cons (pe_call NLe hr3 (by rfl) Le.mg Le.fn.kp Le.b .nil pass0 (pa_cons (pv 5) (pa_cons (pv 7) pa_nil))) pa_nil))))) pa_nil))) (pss_cons (ps_if (pt_cmpR (op_neD hr.units) (pe_call NPrs hr4 (by rfl) Prs.mg Prs.fn.kp Prs.b .nil pass0 (pa_cons (pv 8) pa_nil)) (pv 9) (nomark _)) (pss_one (ps_ret pe_bl)) pss_nil) (pss_cons (ps_if (PW.pt (pw_and (pt_cmp (pc_neI (pe_ix (r := rIxT K) ix_tup (pv 6) pe_int (fun _ _ => rfl)) pe_int)) (pw_and1 (pt_cmpR (op_neD hr.units) (pe_lst (pa_cons (pe_call NPr hr3 (by rfl) Pr.mg Pr.fn.kp Pr.b .nil pass0 (pa_cons (pe_meth (pv 3) T.clC MOv NOv hr5 bOv .nil pass0 (pa_cons (pv 4) pa_nil)) pa_nil)) (pa_cons (pe_call NPr hr3 (by rfl) Pr.mg Pr.fn.kp Pr.b .nil pass0 (pa_cons (pe_methN0 (pv 3) T.clC MOv NOv hr5 kOv pass0 (pk_cons (pv 4) pk_nil)) pa_nil)) pa_nil))) (pe_op op_rep (pe_lst (pa_cons (pe_call NLv hr2 (by rfl) Lv.mg Lv.fn.kp Lv.b .nil pass0 (pa_cons (pv 5) (pa_cons (pv 6) pa_nil))) pa_nil)) pe_int) (nomark _))))) (pss_one (ps_ret pe_bl)) pss_nil) (pss_cons (ps_if (PW.pt (pw_and (pt_cmp (pc_neI (pv 2) pe_int)) (pw_and1 (pt_cmpR (op_neD hr.units) (pe_call NPr hr3 (by rfl) Pr.mg Pr.fn.kp Pr.b .nil pass0 (pa_cons (pe_meth (pv 3) T.clC MOv NOv hr5 bOv .nil pass0 (pa_cons (pv 2) pa_nil)) pa_nil)) (pe_call NLv hr2 (by rfl) Lv.mg Lv.fn.kp Lv.b .nil pass0 (pa_cons (pv 5) (pa_cons (pv 7) pa_nil))) (nomark _))))) (pss_one (ps_ret pe_bl)) pss_nil) (pss_cons (ps_set (i := 10) lc_two.nd rfl (.inl rfl) (pe_cmp (pc_lt (pe_op op_mulW (pe_ix (r := rIxT K) ix_tup (pv 5) pe_int (fun _ _ => rfl)) (pe_ix (r := rIxT K) ix_tup (pv 6) pe_int (fun _ _ => rfl))) (pe_op op_mulW (pe_ix (r := rIxT K) ix_tup (pv 6) pe_int (fun _ _ => rfl)) (pe_ix (r := rIxT K) ix_tup (pv 5) pe_int (fun _ _ => rfl)))) rfl)) (pss_cons (ps_set (i := 8) lc_two.nd rfl (.inl rfl) (pe_lst (pa_cons (pe_meth (pv 3) T.clC MBe NBe hr5 bBe .nil pass0 (pa_cons (pv 4) pa_nil)) (pa_cons (pe_meth (pv 4) T.clC MBe NBe hr5 bBe .nil pass0 (pa_cons (pv 3) pa_nil)) (pa_cons (pe_meth (pv 3) T.clC MMo NMo hr5 bMo .nil pass0 (pa_cons (pv 4) pa_nil)) (pa_cons (pe_cmpR (op_eqOwn OEq si NEq hr1 bEq) (pv 3) (pv 4) (nomark _)) (pa_cons (pe_cmpR (op_neOwn NEk NEq hr2 bEq) (pv 3) (pv 4) (nomark _)) pa_nil))))))) (pss_cons (ps_set (i := 11) lc_two.nd rfl (.inl rfl) (pe_cmp (pc_gt (pe_op op_mulW (pe_ix (r := rIxT K) ix_tup (pv 5) pe_int (fun _ _ => rfl)) (pe_ix (r := rIxT K) ix_tup (pv 6) pe_int (fun _ _ => rfl))) (pe_op op_mulW (pe_ix (r := rIxT K) ix_tup (pv 6) pe_int (fun _ _ => rfl)) (pe_ix (r := rIxT K) ix_tup (pv 5) pe_int (fun _ _ => rfl)))) rfl)) (pss_cons (ps_if (pt_cmpR (op_neD hr.units) (pv 8) (pe_lst (pa_cons (pv 10) (pa_cons (pv 11) (pa_cons (pe_not (pv 11)) (pa_cons (pe_cmpR (op_eqD hr.units) (pv 5) (pv 6) (nomark _)) (pa_cons (pe_cmpR (op_neD hr.units) (pv 5) (pv 6) (nomark _)) pa_nil)))))) (nomark _)) (pss_one (ps_ret pe_bl)) pss_nil) (pss_cons (ps_set (i := 8) lc_two.nd rfl (.inl rfl) (pe_lst (pa_cons (pe_meth (pv 3) T.clC MBe NBe hr5 bBe .nil pass0 (pa_cons (pv 2) pa_nil)) (pa_cons (pe_meth (pv 3) T.clC MMo NMo hr5 bMo .nil pass0 (pa_cons (pv 2) pa_nil)) (pa_cons (pe_cmpR (op_eqOwn OEq si NEq hr1 bEq) (pv 3) (pv 2) (nomark _)) (pa_cons (pe_cmpR (op_eqOwnR OEq sc NEq hr1 bEq) (pv 2) (pv 3) (nomark _)) pa_nil)))))) (pss_one (ps_ret (pe_cmpR (op_eqD hr.units) (pv 8) (pe_lst (pa_cons (pe_cmp (pc_lt (pe_ix (r := rIxT K) ix_tup (pv 5) pe_int (fun _ _ => rfl)) (pe_op op_mulW (pv 2) (pe_ix (r := rIxT K) ix_tup (pv 5) pe_int (fun _ _ => rfl)))) rfl) (pa_cons (pe_cmp (pc_le (pe_ix (r := rIxT K) ix_tup (pv 5) pe_int (fun _ _ => rfl)) (pe_op op_mulW (pv 2) (pe_ix (r := rIxT K) ix_tup (pv 5) pe_int (fun _ _ => rfl)))) rfl) (pa_cons pe_bl (pa_cons pe_bl pa_nil))))) (nomark _)))))))))))))))))), ?_⟩
  have i0 : ∀ x y : V, atI [x, y] 0 = some x := fun x y => atI_nat (j := 0) rfl
  have i1 : ∀ x y : V, atI [x, y] 1 = some y := fun x y => atI_nat (j := 1) rfl
  have b9 : b.natAbs < 2 ^ 9000 := Nat.lt_of_lt_of_le bb (Nat.pow_le_pow_right (by decide) (by decide))
  have b9' : b'.natAbs < 2 ^ 9000 := Nat.lt_of_lt_of_le bb' (Nat.pow_le_pow_right (by decide) (by decide))
  have bp := (divInt_bits b0 tb bb).mono (by decide : 150 ≤ 4000)
  have br := (divInt_bits b0' tb' bb').mono (by decide : 150 ≤ 4000)
  refine ⟨.ref c, rfl, c, _, 0, _, rfl, rfl, SqT.of hc, i0 _ _, .ref c, rfl, c, _, 1, _, rfl, rfl, SqT.of hc, i1 _ _, fun m dz nm ndz ne => ?_⟩
  refine ⟨m, dz, t, b, rfl, upd_same, b0, b9, fun H1 keep hm => ⟨rfl, ?_⟩⟩
  have s1 : Same H H1 := fun z o e => keep z o (by rw [upd_ne (ne_of_none e nm), upd_ne (ne_of_none e ndz)]; exact e) (ne_of_none e nm)
  have hc1 := s1 _ _ hc
  have hd1 := s1 _ _ hd
  clear keep nm ndz ne
  refine ⟨.ref d, rfl, d, _, 0, _, rfl, rfl, SqT.of hd1, i0 _ _, .ref d, rfl, d, _, 1, _, rfl, rfl, SqT.of hd1, i1 _ _, fun u dy nu ndy ney => ?_⟩
  refine ⟨u, dy, t', b', rfl, upd_same, b0', b9', fun H1' keep hu => ⟨rfl, _, _, rfl, ?_⟩⟩
  have s2 : Same H1 H1' := fun z o e => keep z o (by rw [upd_ne (ne_of_none e nu), upd_ne (ne_of_none e ndy)]; exact e) (ne_of_none e nu)
  have hc2 := s2 _ _ hc1
  have hd2 := s2 _ _ hd1
  have hm := hm.same s2
  have s12 := s1.trans s2
  clear keep nu ndy ney s1 s2 hc1 hd1
  refine ⟨.ref c, rfl, c, _, 0, _, rfl, rfl, SqT.of hc2, i0 _ _, .ref c, rfl, c, _, 1, _, rfl, rfl, SqT.of hc2, i1 _ _, t, b, rfl, b0, b9, fun r1 n1 => ?_⟩
  have s3 : Same H1' (upd H1' r1 (.tup [.int (Rat.divInt t b).num, .int (Rat.divInt t b).den])) := same_new n1
  have pa1 : PA (upd H1' r1 (.tup [.int (Rat.divInt t b).num, .int (Rat.divInt t b).den])) (.ref r1) (Rat.divInt t b) := PA.new
  have hd3 := s3 _ _ hd2
  refine ⟨.ref d, rfl, d, _, 0, _, rfl, rfl, SqT.of hd3, i0 _ _, .ref d, rfl, d, _, 1, _, rfl, rfl, SqT.of hd3, i1 _ _, t', b', rfl, b0', b9', fun r2 n2 => ⟨.int n, rfl, by show 2 ≤ 2 ^ 24; decide, fun r3 n3 => ⟨_, _, _, rfl, ?_⟩⟩⟩
  have s4 := same_new (o := .tup [.int (Rat.divInt t' b').num, .int (Rat.divInt t' b').den]) n2
  have s5 := same_new (o := .tup [.int n, .int 1]) n3
  have pa1 := (pa1.same s4).same s5
  have pa2 : PA _ (.ref r2) (Rat.divInt t' b') := PA.same s5 PA.new
  have pa3 : PA (upd (upd (upd H1' r1 (.tup [.int (Rat.divInt t b).num, .int (Rat.divInt t b).den])) r2 (.tup [.int (Rat.divInt t' b').num, .int (Rat.divInt t' b').den])) r3 (.tup [.int n, .int 1])) (.ref r3) (n : Rat) := pa_int upd_same
  have sH := (((s12.trans s3).trans s4).trans s5)
  have hm := ((hm.same s3).same s4).same s5
  have hu := ((hu.same s3).same s4).same s5
  clear s12 s3 s4 s5 n1 n2 n3 hd3 hc2 hd2
  generalize upd (upd (upd H1' r1 _) r2 _) r3 _ = H2 at pa1 pa2 pa3 sH hm hu ⊢
  generalize Rat.divInt t b = p at pa1 hm bp
  generalize Rat.divInt t' b' = r at pa2 hu br
  have bn : Bits 4000 (n : Rat) := ⟨by rw [Rat.num_intCast]; exact Nat.lt_of_lt_of_le hn (Nat.pow_le_pow_right (by decide) (by decide)), by rw [Rat.den_intCast]; decide⟩
  -- told
  have J2 : NL H2 H2 := NL.of (Same.refl H2)
  have E7 : EvsR C H2 [some (V.ref c), some (.ref d), some (.int n), some (.ref m), some (.ref u), some (.ref r1), some (.ref r2), some (.ref r3), none, none, none, none] _ [p + r, p - r, p * r, p + n, n + p, p * n, n * p] :=
    evsR_cons (evR_own (i := 3) (j := 4) (g := (· + ·)) rfl rfl hm hu bp br) (evsR_cons (evR_own (i := 3) (j := 4) (g := (· - ·)) rfl rfl hm hu bp br) (evsR_cons (evR_own (i := 3) (j := 4) (g := (· * ·)) rfl rfl hm hu bp br)
    (evsR_cons (evR_ownI (i := 3) (j := 2) (g := (· + ·)) rfl rfl hm bp bn) (evsR_cons (evR_ownR (i := 2) (j := 3) (g := (· + ·)) rfl rfl hm bp bn) (evsR_cons (evR_ownI (i := 3) (j := 2) (g := (· * ·)) rfl rfl hm bp bn) (evsR_cons (evR_ownR (i := 2) (j := 3) (g := (· * ·)) rfl rfl hm bp bn) evsR_nil))))))
  dsimp only [tNext, gName, tSeq, tAsg]
  refine evL E7 J2 (by show 7 ≤ 1000; decide) fun f1 xs H3 nf1 s3 ef1 hx => ?_
  have E2 : EvsR C H2 [some (V.ref c), some (.ref d), some (.int n), some (.ref m), some (.ref u), some (.ref r1), some (.ref r2), some (.ref r3), some (.ref f1), none, none, none] _ [n - p, p - n] :=
    evsR_cons (evR_ownR (i := 2) (j := 3) (g := (· - ·)) rfl rfl hm bp bn) (evsR_cons (evR_ownI (i := 3) (j := 2) (g := (· - ·)) rfl rfl hm bp bn) evsR_nil)
  dsimp only [tDrop]
  refine evExtR (j := 8) rfl ef1 hx E2 (NL.of s3) (by show 7 ≤ 500; decide) (by show 2 ≤ 500; decide) fun xs9 H4 k4 o4 ef4 hx9 => ?_
  have J4 : NL H2 H4 := (NL.of s3).trans k4
  -- Same from H goes on, as f1 is new
  have nf1H : H f1 = none := by
    cases e : H f1 with
    | none => rfl
    | some o =>
      rw [sH _ _ e] at nf1
      cases nf1
  have sH4 : Same H H4 := fun a o e => o4 a o (s3 _ _ (sH _ _ e)) (ne_of_none e nf1H)
  clear hx k4 o4
  have hL : ([p + r, p - r, p * r, p + n, n + p, p * n, n * p] ++ [n - p, p - n] : List Rat) = [p + r, p - r, p * r, p + n, p + n] ++ [p * n, p * n, n - p, p - n] := by
    rw [Rat.add_comm (n : Rat) p, Rat.mul_comm (n : Rat) p]
    rfl
  rw [hL] at hx9
  -- due
  have E5 : EvsP H2 [some (V.ref c), some (.ref d), some (.int n), some (.ref m), some (.ref u), some (.ref r1), some (.ref r2), some (.ref r3), some (.ref f1), none, none, none] _ [p + r, p - r, p * r, p + n, p + n] :=
    evsP_cons (evP_call2 (g := (· + ·)) (ok := fun _ => True) (evP_var (i := 5) rfl pa1) (evP_var (i := 6) rfl pa2) bp br trivial) (evsP_cons (evP_call2 (g := (· - ·)) (ok := fun _ => True) (evP_var (i := 5) rfl pa1) (evP_var (i := 6) rfl pa2) bp br trivial)
    (evsP_cons (evP_call2 (g := (· * ·)) (ok := fun _ => True) (evP_var (i := 5) rfl pa1) (evP_var (i := 6) rfl pa2) bp br trivial) (evsP_cons (evP_call2 (g := (· + ·)) (ok := fun _ => True) (evP_var (i := 5) rfl pa1) (evP_var (i := 7) rfl pa3) bp bn trivial)
    (evsP_cons (evP_call2 (g := (· + ·)) (ok := fun _ => True) (evP_var (i := 5) rfl pa1) (evP_var (i := 7) rfl pa3) bp bn trivial) evsP_nil))))
  dsimp only [tNext, gName, tSeq, tAsg]
  refine evLP E5 J4 (by show 5 ≤ 1000; decide) fun f2 ys H5 nf2 s5 ef2 hy => ?_
  have E6 : EvsP H2 [some (V.ref c), some (.ref d), some (.int n), some (.ref m), some (.ref u), some (.ref r1), some (.ref r2), some (.ref r3), some (.ref f1), some (.ref f2), none, none] _ [p * n, p * n, n - p, p - n] :=
    evsP_cons (evP_call2 (g := (· * ·)) (ok := fun _ => True) (evP_var (i := 5) rfl pa1) (evP_var (i := 7) rfl pa3) bp bn trivial) (evsP_cons (evP_call2 (g := (· * ·)) (ok := fun _ => True) (evP_var (i := 5) rfl pa1) (evP_var (i := 7) rfl pa3) bp bn trivial)
    (evsP_cons (evP_call2 (g := (· - ·)) (ok := fun _ => True) (evP_var (i := 7) rfl pa3) (evP_var (i := 5) rfl pa1) bn bp trivial) (evsP_cons (evP_call2 (g := (· - ·)) (ok := fun _ => True) (evP_var (i := 5) rfl pa1) (evP_var (i := 7) rfl pa3) bp bn trivial) evsP_nil)))
  dsimp only [tDrop]
  refine evExtP (j := 9) rfl ef2 hy E6 (J4.trans (NL.of s5)) (by show 5 ≤ 500; decide) (by show 4 ≤ 500; decide) fun ys9 H6 k6 o6 ef6 hy9 => ?_
  have J6 : NL H2 H6 := (J4.trans (NL.of s5)).trans k6
  have n12 : f1 ≠ f2 := ne_of_none ef4 nf2
  have ef1_6 : H6 f1 = some (.lst xs9) := o6 _ _ (s5 _ _ ef4) n12
  have hx6 : Rats C H6 xs9 _ := (hx9.same s5).nl k6
  have nf2H : H f2 = none := by
    cases e : H f2 with
    | none => rfl
    | some o =>
      rw [sH4 _ _ e] at nf2
      cases nf2
  have sH6 : Same H H6 := fun a o e => o6 a o (s5 _ _ (sH4 _ _ e)) (ne_of_none e nf2H)
  clear hy k6 o6 hx9 ef4 ef2 s5 nf2 sH4
  -- told as pairs
  dsimp only [tNext, gName, tSeq, tAsg]
  refine ⟨.ref f1, rfl, f1, xs9, _, rfl, ef1_6, hx6, by show 9 ≤ 1000; decide, fun c9 zs H7 s7 ec9 hz => ⟨.ref f2, rfl, _, _, .lst (SqL.of ec9) hz.dp, .lst (SqL.of (s7 _ _ ef6)) (hy9.same s7).dp, rfl, rfl, _, rfl, ?_⟩⟩
  rw [ne_same _ rfl]
  refine iteF ?_
  have J7 := J6.trans (NL.of s7)
  have sH7 := sH6.trans s7
  clear hx6 hy9 ef1_6 ef6 hz ec9 J6 sH6 s7
  dsimp only [tNext, gName, tSeq, tAsg]
  -- over, both ways
  refine ifs_no (P := fun H' => NL H2 H' ∧ Same H H') (fun N g => ?_) fun H8 ⟨J8, sH8⟩ => ?_
  · obtain ⟨r2', e, hr2⟩ := pa2.nl J7
    cases e
    refine ⟨.ref r2, rfl, r2, _, 0, _, rfl, rfl, SqT.of hr2, i0 _ _, _, _, rfl, rfl, _, rfl, iteB (b := !(r.num == 0)) (fun z => ?_) fun _ => g _ ⟨J7, sH7⟩⟩
    have r0 : r ≠ 0 := fun h => by
      rw [h] at z
      exact absurd z (by decide)
    have Ea : EvsP H2 [some (V.ref c), some (.ref d), some (.int n), some (.ref m), some (.ref u), some (.ref r1), some (.ref r2), some (.ref r3), some (.ref f1), some (.ref f2), none, none] _ [overQ p r, overQ p r] :=
      evsP_cons (evP_pair (evR_over (i := 3) (j := 4) rfl rfl hm (fun H j => .inr ⟨u, rfl, RatAt.nl j hu⟩) bp br r0)) (evsP_cons (evP_pair (evR_overN (i := 3) (j := 4) rfl rfl hm (fun H j => .inr ⟨u, rfl, RatAt.nl j hu⟩) bp br r0)) evsP_nil)
    have Eb : EvsP H2 [some (V.ref c), some (.ref d), some (.int n), some (.ref m), some (.ref u), some (.ref r1), some (.ref r2), some (.ref r3), some (.ref f1), some (.ref f2), none, none] _ [overQ p r] :=
      evsP_cons (evP_call2 (g := overQ) (ok := (· ≠ 0)) (evP_var (i := 5) rfl pa1) (evP_var (i := 6) rfl pa2) bp br r0) evsP_nil
    refine op_go (evLP Ea J7 (by show 2 ≤ 1000; decide) fun f xs H' _ s' ef hx => op_go (evLP Eb (J7.trans (NL.of s')) (by show 1 ≤ 1000; decide) fun g' ys H'' _ s'' eg hy => ?_))
    obtain ⟨y, rfl, py⟩ := pas_one hy
    refine ⟨g', 2, [y], rfl, rfl, eg, by decide, by decide, by show 1 * 2 ≤ 2 ^ 24; decide, fun q' nq => ?_⟩
    have s3' := (s'.trans s'').trans (same_new (o := .lst [y, y]) nq)
    have py' := py.same (same_new (o := .lst [y, y]) nq)
    refine ⟨_, _, .lst (SqL.of (((s''.trans (same_new (o := .lst [y, y]) nq))) _ _ ef)) (hx.same (s''.trans (same_new (o := .lst [y, y]) nq))).dp, .lst (xs := [y, y]) (SqL.of upd_same) (Pas.cons py' (.cons py' .nil)).dp, rfl, rfl, _, rfl, ?_⟩
    rw [ne_same _ rfl]
    exact g _ ⟨J7.trans (NL.of s3'), sH7.trans s3'⟩
  -- over a number
  dsimp only [tNext, gName, tSeq, tAsg]
  refine ifs_no (P := fun H' => NL H2 H' ∧ Same H H') (fun N g => ?_) fun H9 ⟨J9, sH9⟩ => ?_
  · refine ⟨.int n, rfl, n, 0, rfl, rfl, _, rfl, iteB (b := !(n == 0)) (fun z => ?_) fun _ => g _ ⟨J8, sH8⟩⟩
    have n0 : (n : Rat) ≠ 0 := fun h => by
      have h2 : (n : Rat).num = 0 := by rw [h]; rfl
      rw [Rat.num_intCast] at h2
      rw [h2] at z
      exact absurd z (by decide)
    refine op_go ((evP_pair (evR_over (σ := [some (V.ref c), some (.ref d), some (.int n), some (.ref m), some (.ref u), some (.ref r1), some (.ref r2), some (.ref r3), some (.ref f1), some (.ref f2), none, none]) (i := 3) (j := 2) rfl rfl hm (fun H j => .inl ⟨n, rfl, rfl⟩) bp bn n0)) H8 _ J8 fun x H' s' px => ?_)
    refine (evP_call2 (σ := [some (V.ref c), some (.ref d), some (.int n), some (.ref m), some (.ref u), some (.ref r1), some (.ref r2), some (.ref r3), some (.ref f1), some (.ref f2), none, none]) (g := overQ) (ok := (· ≠ 0)) (evP_var (i := 5) rfl pa1) (evP_var (i := 7) rfl pa3) bp bn n0) H' _ (J8.trans (NL.of s')) fun y H'' s'' py => ⟨_, _, dp_pa (px.same s''), dp_pa py, rfl, rfl, _, rfl, ?_⟩
    rw [ne_same _ rfl]
    have s3' := s'.trans s''
    exact g _ ⟨J8.trans (NL.of s3'), sH8.trans s3'⟩
  clear J7 sH7 J8 sH8
  -- below
  dsimp only [tNext, gName, tSeq, tAsg]
  obtain ⟨r1', e, hr1_⟩ := id pa1
  cases e
  obtain ⟨r2', e, hr2_⟩ := id pa2
  cases e
  have m1 : CMulW p.num r.den := wide_mul bp.1 (by rw [Int.natAbs_natCast]; exact br.2) (by decide) (by decide) (by decide)
  have m2 : CMulW r.num p.den := wide_mul br.1 (by rw [Int.natAbs_natCast]; exact bp.2) (by decide) (by decide) (by decide)
  have at1 : ∀ H', NL H2 H' → SqT K H' r1 [.int p.num, .int p.den] := fun H' j => SqT.of (j _ _ hr1_ (fun _ h => nomatch h))
  have at2 : ∀ H', NL H2 H' → SqT K H' r2 [.int r.num, .int r.den] := fun H' j => SqT.of (j _ _ hr2_ (fun _ h => nomatch h))
  refine ⟨.ref r1, rfl, r1, _, 0, _, rfl, rfl, at1 _ J9, i0 _ _, .ref r2, rfl, r2, _, 1, _, rfl, rfl, at2 _ J9, i1 _ _, _, _, rfl, rfl, m1, .ref r2, rfl, r2, _, 0, _, rfl, rfl, at2 _ J9, i0 _ _, .ref r1, rfl, r1, _, 1, _, rfl, rfl, at1 _ J9, i1 _ _, _, _, rfl, rfl, m2, _, _, rfl, rfl, ?_⟩
  have Ec : EvsB H2 [some (V.ref c), some (.ref d), some (.int n), some (.ref m), some (.ref u), some (.ref r1), some (.ref r2), some (.ref r3), some (.ref f1), some (.ref f2), some (.bl (decide (p.num * r.den < r.num * p.den))), none] _
      [decide (p.num * r.den < r.num * p.den), decide (r.num * p.den < p.num * r.den), decide (p.num * r.den ≤ r.num * p.den), decide (p = r), !decide (p = r)] :=
    evsB_cons (evB_lt (x := "is_below") (f := fun x y => decide (x < y)) (i := 3) (j := 4) (by decide +kernel) (by decide +kernel) rfl rfl hm (fun H j => .inr ⟨u, rfl, RatAt.nl j hu⟩) bp br) (evsB_cons (evB_lt (x := "is_below") (f := fun x y => decide (x < y)) (i := 4) (j := 3) (by decide +kernel) (by decide +kernel) rfl rfl hu (fun H j => .inr ⟨m, rfl, RatAt.nl j hm⟩) br bp)
    (evsB_cons (evB_lt (x := "is_at_most") (f := fun x y => decide (x ≤ y)) (i := 3) (j := 4) (by decide +kernel) (by decide +kernel) rfl rfl hm (fun H j => .inr ⟨u, rfl, RatAt.nl j hu⟩) bp br) (evsB_cons (evB_eq (i := 3) (j := 4) rfl rfl hm hu) (evsB_cons (evB_ne (i := 3) (j := 4) rfl rfl hm hu) evsB_nil))))
  refine evLB Ec J9 (by show 5 ≤ 1000; decide) fun f3 H10 s10 ef3 => ?_
  have J10 := J9.trans (NL.of s10)
  have sH10 := sH9.trans s10
  refine ⟨.ref r1, rfl, r1, _, 0, _, rfl, rfl, at1 _ J10, i0 _ _, .ref r2, rfl, r2, _, 1, _, rfl, rfl, at2 _ J10, i1 _ _, _, _, rfl, rfl, m1, .ref r2, rfl, r2, _, 0, _, rfl, rfl, at2 _ J10, i0 _ _, .ref r1, rfl, r1, _, 1, _, rfl, rfl, at1 _ J10, i1 _ _, _, _, rfl, rfl, m2, _, _, rfl, rfl, ?_⟩
  dsimp only [tNext, gName, tSeq, tAsg]
  have Ed : EvsB H2 [some (V.ref c), some (.ref d), some (.int n), some (.ref m), some (.ref u), some (.ref r1), some (.ref r2), some (.ref r3), some (.ref f3), some (.ref f2), some (.bl (decide (p.num * r.den < r.num * p.den))), some (.bl (decide (r.num * p.den < p.num * r.den)))] _
      [decide (p.num * r.den < r.num * p.den), decide (r.num * p.den < p.num * r.den), !decide (r.num * p.den < p.num * r.den), decide (p = r), !decide (p = r)] :=
    evsB_cons (evB_var (i := 10) rfl) (evsB_cons (evB_var (i := 11) rfl) (evsB_cons (evB_notV (i := 11) rfl) (evsB_cons (evB_eqD (K := K) (i := 5) (j := 6) rfl rfl pa1 pa2) (evsB_cons (evB_neD (K := K) (i := 5) (j := 6) rfl rfl pa1 pa2) evsB_nil))))
  have e3 : (!decide (r.num * p.den < p.num * r.den)) = decide (p.num * r.den ≤ r.num * p.den) := by
    rw [← decide_not]
    exact decide_eq_decide.2 Int.not_lt
  rw [e3] at Ed
  refine ⟨.ref f3, rfl, evLB Ed J10 (by show 5 ≤ 1000; decide) fun f4 H11 s11 ef4 => ⟨_, _, .lst (SqL.of (s11 _ _ ef3)) (dp_bls _), .lst (SqL.of ef4) (dp_bls _), rfl, rfl, _, rfl, ?_⟩⟩
  rw [ne_same _ rfl]
  refine iteF ?_
  have J11 := J10.trans (NL.of s11)
  have sH11 := sH10.trans s11
  clear ef3 ef4 s10 s11 J10 sH10 J9 sH9
  dsimp only [tNext, gName, tSeq, tAsg]
  have m4 : CMulW n (p.den : Int) := wide_mul hn (by rw [Int.natAbs_natCast]; exact bp.2) (by decide) (by decide) (by decide)
  have d1 : ((n : Rat).den : Int) = 1 := by rw [Rat.den_intCast]; rfl
  have Ee : EvsB H2 [some (V.ref c), some (.ref d), some (.int n), some (.ref m), some (.ref u), some (.ref r1), some (.ref r2), some (.ref r3), some (.ref f3), some (.ref f2), some (.bl (decide (p.num * r.den < r.num * p.den))), some (.bl (decide (r.num * p.den < p.num * r.den)))] _
      [decide (p.num * ((n : Rat).den : Int) < (n : Rat).num * p.den), decide (p.num * ((n : Rat).den : Int) ≤ (n : Rat).num * p.den), false, false] :=
    evsB_cons (evB_lt (x := "is_below") (f := fun x y => decide (x < y)) (i := 3) (j := 2) (by decide +kernel) (by decide +kernel) rfl rfl hm (fun H j => .inl ⟨n, rfl, rfl⟩) bp bn) (evsB_cons (evB_lt (x := "is_at_most") (f := fun x y => decide (x ≤ y)) (i := 3) (j := 2) (by decide +kernel) (by decide +kernel) rfl rfl hm (fun H j => .inl ⟨n, rfl, rfl⟩) bp bn)
    (evsB_cons (evB_eqI (i := 3) (j := 2) rfl rfl hm) (evsB_cons (evB_eqR (i := 2) (j := 3) rfl rfl hm) evsB_nil)))
  rw [d1, Rat.num_intCast, Int.mul_one] at Ee
  refine evLB Ee J11 (by show 4 ≤ 1000; decide) fun f5 H12 s12 ef5 => ?_
  have J12 := J11.trans (NL.of s12)
  have Ef : EvsB H2 [some (V.ref c), some (.ref d), some (.int n), some (.ref m), some (.ref u), some (.ref r1), some (.ref r2), some (.ref r3), some (.ref f5), some (.ref f2), some (.bl (decide (p.num * r.den < r.num * p.den))), some (.bl (decide (r.num * p.den < p.num * r.den)))] _
      [decide (p.num < n * p.den), decide (p.num ≤ n * p.den), false, false] :=
    evsB_cons (evB_cmpN (K := K) (f := fun i j => decide (i < j)) (i := 5) (j := 2) rfl rfl hr1_ m4) (evsB_cons (evB_cmpN (K := K) (f := fun i j => decide (i ≤ j)) (i := 5) (j := 2) rfl rfl hr1_ m4) (evsB_cons evB_bl (evsB_cons evB_bl evsB_nil)))
  refine ⟨.ref f5, rfl, evLB Ef J12 (by show 4 ≤ 1000; decide) fun f6 H13 s13 ef6 => ⟨_, _, .lst (SqL.of (s13 _ _ ef5)) (dp_bls _), .lst (SqL.of ef6) (dp_bls _), rfl, rfl, ?_⟩⟩
  rw [SeqAt.eqv_refl _ rfl]
  exact q H13 ((sH11.trans s12).trans s13)
end
end KT

set_option Elab.async false
set_option linter.all false
set_option maxRecDepth 100000
set_option maxHeartbeats 4000000
namespace KT
open PySem L2 TW
/-- raw fractions -/
inductive RawsL (p : Addr) (H : Hp) : List V → List (Int × Int) → Prop
  | nil : RawsL p H [] []
  | cons {x : V} {t b : Int} {xs : List V} {l : List (Int × Int)} : Raw p H x t b → RawsL p H xs l → RawsL p H (x :: xs) ((t, b) :: l)
theorem RawsL.but {p : Addr} {H H' : Hp} (s : But p H H') : ∀ {xs : List V} {l : List (Int × Int)}, RawsL p H xs l → RawsL p H' xs l
  | _, _, .nil => .nil
  | _, _, .cons h t => .cons (h.but s) (t.but s)
theorem RawsL.length {p : Addr} {H : Hp} : ∀ {xs : List V} {l : List (Int × Int)}, RawsL p H xs l → xs.length = l.length
  | _, _, .nil => rfl
  | _, _, .cons _ t => congrArg Nat.succ t.length
theorem RawsL.at {p : Addr} {H : Hp} : ∀ {xs : List V} {l : List (Int × Int)}, RawsL p H xs l → ∀ {i : Nat} {x : V}, xs[i]? = some x → ∃ tb, l[i]? = some tb ∧ Raw p H x tb.1 tb.2
  | _, _, .cons h t, 0, x, e => ⟨_, rfl, by cases e; exact h⟩
  | _, _, .cons h t, i + 1, x, e => t.at (i := i) e
theorem RawsL.app {p : Addr} {H : Hp} : ∀ {xs : List V} {l : List (Int × Int)} {x : V} {t b : Int}, RawsL p H xs l → Raw p H x t b → RawsL p H (xs ++ [x]) (l ++ [(t, b)])
  | _, _, _, _, _, .nil, h => .cons h .nil
  | _, _, _, _, _, .cons a c, h => .cons a (c.app h)
theorem Raw.upd {p a : Addr} {H : Hp} {x : V} {t b : Int} {xs ys : List V} (h : Raw p H x t b) (ha : H a = some (.lst xs)) : Raw p (upd H a (.lst ys)) x t b := by
  obtain ⟨c, e, ne, h, r⟩ := h
  refine ⟨c, e, ne, ?_, r⟩
  rw [upd_ne (fun z => ?_)]
  · exact h
  · rw [z, ha] at h
    cases h
theorem RawsL.upd {p a : Addr} {H : Hp} {us vs : List V} (ha : H a = some (.lst us)) : ∀ {xs : List V} {l : List (Int × Int)}, RawsL p H xs l → RawsL p (upd H a (.lst vs)) xs l
  | _, _, .nil => .nil
  | _, _, .cons h t => .cons (h.upd ha) (RawsL.upd ha t)
def qOf (tb : Int × Int) : Rat := Rat.divInt tb.1 tb.2
theorem RawsL.bits {p : Addr} {H : Hp} : ∀ {xs : List V} {l : List (Int × Int)}, RawsL p H xs l → ∀ q ∈ l.map qOf, Bits 150 q
  | _, _, .nil => fun _ h => nomatch h
  | _, _, .cons (t := t) (b := b) h r => fun q hq => by
    rcases List.mem_cons.1 hq with rfl | hq
    · obtain ⟨c, _, _, _, b0, tb, bb⟩ := h
      exact divInt_bits b0 tb bb
    · exact r.bits q hq
/-- sums of few short ones are short -/
theorem short_of {l : List Rat} (h : ∀ q ∈ l, Bits 150 q) (hl : l.length ≤ 20) : Short l := by
  have part : ∀ k, k ≤ 20 → Bits (151 * k + 1) (sumQ (l.take k)) := by
    intro k
    induction k with
    | zero =>
      intro _
      have : sumQ (l.take 0) = 0 := rfl
      rw [this]
      exact ⟨by decide, by decide⟩
    | succ k ih =>
      intro hk
      cases e : l[k]? with
      | none =>
        have : l.take (k + 1) = l.take k := by
          have := List.getElem?_eq_none_iff.1 e
          rw [List.take_of_length_le (by omega), List.take_of_length_le (by omega)]
        rw [this]
        exact (ih (by omega)).mono (by omega)
      | some q =>
        rw [sumQ_more e]
        exact (bits_add (ih (by omega)) (h q (List.mem_of_getElem? e))).mono (by omega)
  refine ⟨fun q hq => (h q hq).mono (by decide), fun k => ?_⟩
  rcases Nat.lt_or_ge 20 k with z | z
  · have : l.take k = l.take 20 := by rw [List.take_of_length_le (by omega), List.take_of_length_le hl]
    rw [this]
    exact (part 20 (Nat.le_refl _)).mono (by decide)
  · exact (part k z).mono (by omega)
/-- a list of bools -/
def BL (H : Hp) (x : V) (bs : List Bool) : Prop := ∃ a, x = .ref a ∧ H a = some (.lst (bs.map V.bl))
theorem BL.same {H H' : Hp} {x : V} {bs : List Bool} (s : Same H H') (h : BL H x bs) : BL H' x bs := by
  obtain ⟨a, e, h⟩ := h
  exact ⟨a, e, s _ _ h⟩
inductive BLs (H : Hp) : List V → List (List Bool) → Prop
  | nil : BLs H [] []
  | cons {x : V} {bs : List Bool} {xs : List V} {l : List (List Bool)} : BL H x bs → BLs H xs l → BLs H (x :: xs) (bs :: l)
theorem BLs.same {H H' : Hp} (s : Same H H') : ∀ {xs : List V} {l : List (List Bool)}, BLs H xs l → BLs H' xs l
  | _, _, .nil => .nil
  | _, _, .cons h t => .cons (h.same s) (t.same s)
theorem BLs.length {H : Hp} : ∀ {xs : List V} {l : List (List Bool)}, BLs H xs l → xs.length = l.length
  | _, _, .nil => rfl
  | _, _, .cons _ t => congrArg Nat.succ t.length
theorem BLs.app {H : Hp} : ∀ {xs ys : List V} {l m : List (List Bool)}, BLs H xs l → BLs H ys m → BLs H (xs ++ ys) (l ++ m)
  | _, _, _, _, .nil, h => h
  | _, _, _, _, .cons a b, h => .cons a (b.app h)
theorem BLs.dp {K : W.Frag} {H : Hp} : ∀ {xs : List V} {l : List (List Bool)}, BLs H xs l → DpAll K H xs (l.map fun bs => .list (bs.map .bool))
  | _, _, .nil => .nil
  | _, _, .cons (bs := bs) ⟨a, e, h⟩ t => by
    subst e
    exact .cons (.lst (SqL.of h) (dp_bls bs)) t.dp
theorem bls_of {H : Hp} : ∀ {ys : List V} {l : List (List Bool)}, ys.length = l.length → (∀ (k : Nat) (y : V), ys[k]? = some y → ∃ q, l[k]? = some q ∧ BL H y q) → BLs H ys l
  | [], [], _, _ => .nil
  | [], _ :: _, h, _ => by cases h
  | _ :: _, [], h, _ => by cases h
  | y :: ys, q :: l, h, z => by
    obtain ⟨q', e, p⟩ := z 0 y rfl
    cases e
    exact .cons p (bls_of (Nat.succ.inj h) fun k y' e' => by
      obtain ⟨q2, e2, p2⟩ := z (k + 1) y' (by rw [List.getElem?_cons_succ]; exact e')
      exact ⟨q2, by rw [List.getElem?_cons_succ] at e2; exact e2, p2⟩)
theorem rats_of {C : Addr} {H : Hp} : ∀ {ys : List V} {l : List Rat}, ys.length = l.length → (∀ (k : Nat) (y : V), ys[k]? = some y → ∃ q a, l[k]? = some q ∧ y = .ref a ∧ RatAt C H a q) → Rats C H ys l
  | [], [], _, _ => .nil
  | [], _ :: _, h, _ => by cases h
  | _ :: _, [], h, _ => by cases h
  | y :: ys, q :: l, h, z => by
    obtain ⟨q', a, e, rfl, p⟩ := z 0 y rfl
    cases e
    exact .cons p (rats_of (Nat.succ.inj h) fun k y' e' => by
      obtain ⟨q2, a2, e2, e3, p2⟩ := z (k + 1) y' (by rw [List.getElem?_cons_succ]; exact e')
      exact ⟨q2, a2, by rw [List.getElem?_cons_succ] at e2; exact e2, e3, p2⟩)
theorem Rats.nums {C : Addr} {H : Hp} : ∀ {xs : List V} {l : List Rat} {i : Int}, Rats C H xs l → Nums C H (xs ++ [.int i]) (l ++ [(i : Rat)])
  | _, _, i, .nil => .cons (.inl ⟨i, rfl, rfl⟩) .nil
  | _, _, _, .cons h t => .cons (.inr ⟨_, rfl, h⟩) t.nums
theorem Pas.app {H : Hp} : ∀ {xs ys : List V} {l m : List Rat}, Pas H xs l → Pas H ys m → Pas H (xs ++ ys) (l ++ m)
  | _, _, _, _, .nil, h => h
  | _, _, _, _, .cons a b, h => .cons a (b.app h)
theorem fnR_of {P : Program} {w : World} {K : W.Frag} {mg : Str → Option Value} {base : Heap} {CX : CXT} {k : Nat} {f : Addr} {fd : FuncData} {ps : List Str} {sp : Sp} (F : FnOk P w K mg base CX k f fd ps sp) (hb : Binds K fd ps []) : FnR P w K mg base CX k f sp := fun A outer s H us vs Q E hr e v h => by
  have hl : us.length = ps.length := by rw [← v.length]; exact F.len _ _ _ _ h
  have z := hb s us (fun a o h => (e.bs a o (e.mod.kin a o h)).1) (by rw [List.append_nil]; exact hl)
  exact F.run A outer s H ⟨us, []⟩ us vs Q E hr e (by simpa using z) v h
end KT

set_option Elab.async false
set_option linter.all false
set_option maxRecDepth 100000
set_option maxHeartbeats 4000000
namespace KT
open PySem L2 TW
theorem mem_app {α : Type} {P : α → Prop} {l : List α} {x : α} (h : ∀ y ∈ l, P y) (hx : P x) : ∀ y ∈ l ++ [x], P y := fun y hy => by
  rcases List.mem_append.mp hy with z | z
  · exact h y z
  · rw [List.mem_singleton.mp z]
    exact hx
theorem ratAt_off {C D a : Addr} {H : Hp} {q : Rat} (ne : a ≠ D) (h : RatAt C H a q) : RatAt C (off D H) a q := by
  obtain ⟨dx, fs, e, r⟩ := h
  exact ⟨dx, fs, by rw [off_ne ne]; exact e, r⟩
theorem fl_one (n : Nat) (y : V) : (List.replicate n [y]).flatten = List.replicate n y := by
  induction n with
  | zero => rfl
  | succ n ih => rw [List.replicate_succ, List.flatten_cons, ih]; rfl
section
variable {K : W.Frag} {C : Addr} {p : Addr} {o1 o2 o3 o4 o5 o6 o7 o8 o9 : Option V} {H : Hp} {Q : VK}
theorem raws6 (hp : PotAt H p) (q : ∀ A ys l H', But p H H' → PotAt H' p → A ≠ p → H' A = some (.lst ys) → RawsL p H' ys l → l.length = 6 → (∀ tb ∈ l, tb.1.natAbs < 2 ^ 148 ∧ tb.2.natAbs < 2 ^ 148) → Q (.ref A) H') :
    tLc (iRng1 (tCons (tC (V.int 6)) tNil)) (gName 2) tYes (tCall spRaw [] E0 (tCons (tVar 0) tNil)) [2] [some (.ref p), o1, o2, o3, o4, o5, o6, o7, o8, o9] H Q := by
  refine ⟨6, rfl, by decide, by decide, fun A nA => ?_⟩
  have nAp : A ≠ p := (pot_ne hp nA).symm
  refine lc_range (n := 6) (fun k H' => But p H H' ∧ PotAt H' p ∧ ∃ ys l, H' A = some (.lst ys) ∧ RawsL p H' ys l ∧ l.length = k ∧ ∀ tb ∈ l, tb.1.natAbs < 2 ^ 148 ∧ tb.2.natAbs < 2 ^ 148)
    ⟨But.of (same_new nA), hp.upd nAp.symm, [], [], upd_same, .nil, rfl, fun _ z => nomatch z⟩ (fun k H' hk ⟨b1, p1, ys, l, e1, d1, el, gl⟩ => ⟨rfl, ?_⟩) fun H' ⟨b1, p1, ys, l, e1, d1, el, gl⟩ => q A ys l H' b1 p1 nAp e1 d1 el gl
  refine ⟨.ref p, rfl, p, rfl, p1, fun c t b H2 b2 p2 nc rc ht hb => ?_⟩
  have e2 := b2 _ _ e1 nAp
  have ly := d1.length
  refine ⟨ys, e2, small1000 (by omega), fun c o e hc => ?_, p2.upd nAp.symm, ys ++ [.ref c], l ++ [(t, b)], upd_same, ((d1.but b2).app rc).upd e2, by rw [List.length_append, el]; rfl, mem_app gl ⟨ht, hb⟩⟩
  rw [upd_ne (ne_of_none e nA)]
  exact b2 _ _ (b1 _ _ e hc) hc
/-- the twelve -/
theorem twos {De : Ends} {A : Addr} {ys : List V} {l : List (Int × Int)} (hp : PotAt H p) (nAp : A ≠ p) (hA : H A = some (.lst ys)) (hl : RawsL p H ys l) (h1 : l.length = 8)
    (q : ∀ o2 H', But p H H' → PotAt H' p → De.nx [some (.ref p), some (.ref A), o2, o3, o4, o5, o6, o7, o8, o9] H') :
    tFor (iRng1 (tCons (tC (V.int 12)) tNil)) (gName 2)
      (tIfS (tNot (tB (tCall spTwo [] E0 (tCons (tCall spPick [] E0 (tCons (tVar 0) (tCons (tVar 1) tNil))) (tCons (tCall spPick [] E0 (tCons (tVar 0) (tCons (tVar 1) tNil)))
        (tCons (tOp (rI0 fun i j => V.int (i - j)) (tCall spDraw [] E0 (tCons (tVar 0) (tCons (tC (V.int 41)) tNil))) (tC (V.int 20))) tNil)))))) (tRet (tC (V.bl false))) tNext)
      De [some (.ref p), some (.ref A), o2, o3, o4, o5, o6, o7, o8, o9] H := by
  refine ⟨12, rfl, by decide, by decide, ?_⟩
  refine for_range (n := 12) (fun i σ H' => ∃ o2, σ = [some (.ref p), some (.ref A), o2, o3, o4, o5, o6, o7, o8, o9] ∧ But p H H' ∧ PotAt H' p) ⟨o2, rfl, But.refl p H, hp⟩ ?_ ?_
  · rintro i σ H1 hi ⟨o2, rfl, b1, p1⟩
    have ly := hl.length
    refine ⟨.ref p, rfl, .ref A, rfl, p, A, ys, rfl, p1, nAp, b1 _ _ hA nAp, by omega, by omega, fun x H2 hx b2 p2 => ?_⟩
    refine ⟨.ref p, rfl, .ref A, rfl, p, A, ys, rfl, p2, nAp, b2 _ _ (b1 _ _ hA nAp) nAp, by omega, by omega, fun y H3 hy b3 p3 => ?_⟩
    refine ⟨.ref p, rfl, p, 41, rfl, p3, by decide, by decide, fun z H4 z0 z1 b4 p4 => ⟨z, 20, rfl, rfl, ?_⟩⟩
    have b14 := ((b1.trans b2).trans b3).trans b4
    obtain ⟨i1, e1⟩ := List.getElem?_of_mem hx
    obtain ⟨i2, e2⟩ := List.getElem?_of_mem hy
    obtain ⟨tb, _, c, ec, nc, hc, rc⟩ := (hl.but b14).at e1
    obtain ⟨tb', _, c', ec', nc', hc', rc'⟩ := (hl.but b14).at e2
    refine ⟨c, c', tb.1, tb.2, tb'.1, tb'.2, z - 20, by rw [ec, ec']; rfl, hc, rc, hc', rc', ?_, fun H5 s5 => ⟨true, rfl, ?_⟩⟩
    · have : (41 : Nat) ≤ 2 ^ 150 := by decide
      omega
    · exact iteF ⟨_, rfl, b14.trans (But.of s5), p4.same s5⟩
  · rintro σ H1 ⟨o2, rfl, b1, p1⟩
    exact q o2 H1 b1 p1
/-- the eight, one by one -/
theorem ones {De : Ends} {A : Addr} {ys : List V} {l : List (Int × Int)} (hA : H A = some (.lst ys)) (hl : RawsL p H ys l)
    (q : ∀ o3 H', Same H H' → De.nx [some (.ref p), some (.ref A), o2, o3, o4, o5, o6, o7, o8, o9] H') :
    tFor (iList K (tVar 1)) (gName 3) (tIfS (tNot (tB (tCall spOne [] E0 (tCons (tVar 3) tNil)))) (tRet (tC (V.bl false))) tNext)
      De [some (.ref p), some (.ref A), o2, o3, o4, o5, o6, o7, o8, o9] H := by
  refine ⟨.ref A, rfl, A, rfl, ⟨ys, SqL.of hA⟩, ?_⟩
  refine for_list (K := K) (a := A) (xs := ys) (fun i σ H' => ∃ o3, σ = [some (.ref p), some (.ref A), o2, o3, o4, o5, o6, o7, o8, o9] ∧ Same H H') ⟨o3, rfl, Same.refl H⟩ (fun i σ H' _ ⟨_, _, s⟩ => SqL.of (s _ _ hA)) ?_ ?_
  · rintro i x σ H1 hx ⟨o3, rfl, s1⟩
    obtain ⟨tb, _, c, rfl, nc, hc, rc⟩ := hl.at hx
    exact ⟨.ref c, rfl, c, tb.1, tb.2, rfl, s1 _ _ hc, rc, fun H2 s2 => ⟨true, rfl, iteF ⟨_, rfl, s1.trans s2⟩⟩⟩
  · rintro σ H1 ⟨o3, rfl, s1⟩
    exact q o3 H1 s1
/-- their pairs -/
theorem lows {A : Addr} {ys : List V} {l : List (Int × Int)} (hA : H A = some (.lst ys)) (hl : RawsL p H ys l) (h1 : l.length ≤ 1000)
    (q : ∀ B zs H', Same H H' → H' B = some (.lst zs) → Pas H' zs (l.map qOf) → Q (.ref B) H') :
    tLc (iSeq K (tVar 1)) (gName 3) tYes (tCall (spLow C) [] E0 (tCons (tOp (rIxT K) (tVar 3) (tC (V.int 0))) (tCons (tOp (rIxT K) (tVar 3) (tC (V.int 1))) tNil))) [3]
      [some (.ref p), some (.ref A), o2, o3, o4, o5, o6, o7, o8, o9] H Q := by
  have i0 : ∀ x y : V, atI [x, y] 0 = some x := fun x y => atI_nat (j := 0) rfl
  have i1 : ∀ x y : V, atI [x, y] 1 = some y := fun x y => atI_nat (j := 1) rfl
  have ly := hl.length
  refine comp_seq (fun k y H' => ∃ q, (l.map qOf)[k]? = some q ∧ PA H' y q) (fun k y H1 H2 s ⟨q, e, z⟩ => ⟨q, e, z.same s⟩) rfl (.inl (SqL.of hA)) (Nat.le_trans (by omega) (by decide : (1000 : Nat) ≤ sizeLine)) (fun k x H1 R hk s1 r => ?_) fun D zs H1 hD s1 e1 e2 e3 => q D zs H1 s1 e1 (pas_of (by rw [List.length_map]; omega) e3)
  obtain ⟨tb, et, c, rfl, nc, hc, b0, tl, bl⟩ := hl.at hk
  refine ⟨.ref c, rfl, c, _, 0, _, rfl, rfl, SqT.of (s1 _ _ hc), i0 _ _, .ref c, rfl, c, _, 1, _, rfl, rfl, SqT.of (s1 _ _ hc), i1 _ _, tb.1, tb.2, rfl, b0, Nat.lt_of_lt_of_le bl (Nat.pow_le_pow_right (by decide) (by decide)), fun d nd => r _ _ (same_new nd) fun D hD nD => ⟨qOf tb, by rw [List.getElem?_map, et]; rfl, d, rfl, ?_⟩⟩
  rw [off_ne (fun z => nD (by rw [← z]; exact nd))]
  exact upd_same
/-- they as fractions -/
theorem mades {A : Addr} {ys : List V} {l : List (Int × Int)} (hA : H A = some (.lst ys)) (hl : RawsL p H ys l) (h1 : l.length ≤ 1000)
    (q : ∀ B zs H', H B = none → Same H H' → H' B = some (.lst zs) → Rats C H' zs (l.map qOf) → Q (.ref B) H') :
    tLc (iSeq K (tVar 1)) (gName 3) tYes (tMake C (spMk C) [] E0 (tCons (tOp (rIxT K) (tVar 3) (tC (V.int 0))) (tCons (tOp (rIxT K) (tVar 3) (tC (V.int 1))) tNil))) [3]
      [some (.ref p), some (.ref A), o2, o3, o4, o5, o6, o7, o8, o9] H Q := by
  have i0 : ∀ x y : V, atI [x, y] 0 = some x := fun x y => atI_nat (j := 0) rfl
  have i1 : ∀ x y : V, atI [x, y] 1 = some y := fun x y => atI_nat (j := 1) rfl
  have ly := hl.length
  refine comp_seq (fun k y H' => ∃ q a, (l.map qOf)[k]? = some q ∧ y = .ref a ∧ RatAt C H' a q) (fun k y H1 H2 s ⟨q, a, e, ey, z⟩ => ⟨q, a, e, ey, z.same s⟩) rfl (.inl (SqL.of hA)) (Nat.le_trans (by omega) (by decide : (1000 : Nat) ≤ sizeLine)) (fun k x H1 R hk s1 r => ?_) fun D zs H1 hD s1 e1 e2 e3 => q D zs H1 hD s1 e1 (rats_of (by rw [List.length_map]; omega) e3)
  obtain ⟨tb, et, c, rfl, nc, hc, b0, tl, bl⟩ := hl.at hk
  refine ⟨.ref c, rfl, c, _, 0, _, rfl, rfl, SqT.of (s1 _ _ hc), i0 _ _, .ref c, rfl, c, _, 1, _, rfl, rfl, SqT.of (s1 _ _ hc), i1 _ _, fun m dz nm ndz ne => ?_⟩
  refine ⟨m, dz, tb.1, tb.2, rfl, upd_same, b0, Nat.lt_of_lt_of_le bl (Nat.pow_le_pow_right (by decide) (by decide)), fun H2 keep hm => ⟨rfl, r _ _ (fun z o e => keep z o (by rw [upd_ne (ne_of_none e nm), upd_ne (ne_of_none e ndz)]; exact e) (ne_of_none e nm)) fun D hD nD => ⟨qOf tb, m, by rw [List.getElem?_map, et]; rfl, rfl, ?_⟩⟩⟩
  exact ratAt_off (fun z => nD (by rw [← z]; exact nm)) hm
end
end KT

set_option Elab.async false
set_option linter.all false
set_option maxRecDepth 100000
set_option maxHeartbeats 4000000
namespace KT
open PySem L2 TW
/-- the three kinds -/
def kd (d : D) : List Bool := [isN d, isI d, isC d]
section
variable {K : W.Frag} {C : Addr} {p : Addr} {o1 o2 o3 o4 o5 o6 o7 o8 o9 : Option V} {H : Hp} {Q : VK}
theorem kinds {A : Addr} {xs : List V} {ds : List D} (hA : H A = some (.lst xs)) (hd : Dts C H xs ds) (h1 : ds.length ≤ 1000) (hl : ∀ d ∈ ds, d.len ≤ sizeLine)
    (q : ∀ B zs H', Same H H' → H' B = some (.lst zs) → BLs H' zs (ds.map kd) → Q (.ref B) H') :
    tLc (iSeq K (tVar 7)) (gName 8) tYes (tLst (tCons (tCall (spB C isN) [] E0 (tCons (tVar 8) tNil)) (tCons (tCall (spB C isI) [] E0 (tCons (tVar 8) tNil)) (tCons (tCall (spB C isC) [] E0 (tCons (tVar 8) tNil)) tNil)))) [8]
      [some (.ref p), o1, o2, o3, o4, o5, o6, some (.ref A), o8, o9] H Q := by
  have ly := hd.length
  refine comp_seq (fun k y H' => ∃ bs, (ds.map kd)[k]? = some bs ∧ BL H' y bs) (fun k y H1 H2 s ⟨bs, e, z⟩ => ⟨bs, e, z.same s⟩) rfl (.inl (SqL.of hA)) (Nat.le_trans (by omega) (by decide : (1000 : Nat) ≤ sizeLine)) (fun k x H1 R hk s1 r => ?_) fun D zs H1 hD s1 e1 e2 e3 => q D zs H1 s1 e1 (bls_of (by rw [List.length_map]; omega) e3)
  obtain ⟨d, ed, dd⟩ := hd.at hk
  have ld := hl d (List.mem_of_getElem? ed)
  refine ⟨x, rfl, x, d, rfl, dd.same s1, ld, fun H2 s2 => ⟨x, rfl, x, d, rfl, dd.same (s1.trans s2), ld, fun H3 s3 => ⟨x, rfl, x, d, rfl, dd.same ((s1.trans s2).trans s3), ld, fun H4 s4 => ⟨by show 3 ≤ 2 ^ 24; decide, fun f nf => r _ _ (((s2.trans s3).trans s4).trans (same_new nf)) fun D hD nD => ⟨kd d, by rw [List.getElem?_map, ed]; rfl, f, rfl, ?_⟩⟩⟩⟩⟩
  rw [off_ne (fun z => nD (by
    rw [← z]
    cases e : H1 f with
    | none => rfl
    | some o =>
      rw [((s2.trans s3).trans s4) _ _ e] at nf
      cases nf))]
  exact upd_same
theorem falses (q : ∀ B zs H', Same H H' → H' B = some (.lst zs) → BLs H' zs (List.replicate 6 [false, false, false]) → Q (.ref B) H') :
    tLc (iRng1 (tCons (tC (V.int 6)) tNil)) (gName 2) tYes (tOp rRep (tLst (tCons (tC (V.bl false)) tNil)) (tC (V.int 3))) [2] [some (.ref p), o1, o2, o3, o4, o5, o6, o7, o8, o9] H Q := by
  refine ⟨6, rfl, by decide, by decide, fun A nA => ?_⟩
  refine lc_range (n := 6) (fun k H' => Same H H' ∧ ∃ ys, H' A = some (.lst ys) ∧ ys.length = k ∧ BLs (off A H') ys (List.replicate k [false, false, false]))
    ⟨same_new nA, [], upd_same, rfl, .nil⟩ (fun k H' hk ⟨s1, ys, e1, ly, d1⟩ => ⟨rfl, ?_⟩) fun H' ⟨s1, ys, e1, ly, d1⟩ => q A ys H' s1 e1 (d1.same off_same)
  refine ⟨by show 1 ≤ 2 ^ 24; decide, fun f nf => ⟨f, 3, [.bl false], rfl, rfl, upd_same, by decide, by decide, by decide, fun g ng => ?_⟩⟩
  have s2 : Same H' (upd H' f (.lst [.bl false])) := same_new nf
  have s3 : Same (upd H' f (.lst [.bl false])) (upd (upd H' f (.lst [.bl false])) g (.lst [.bl false, .bl false, .bl false])) := same_new ng
  have s23 := s2.trans s3
  have e2 := s23 _ _ e1
  have nAg : g ≠ A := fun z => by
    rw [z, s2 _ _ e1] at ng
    cases ng
  refine ⟨ys, e2, small1000 (by omega), fun c o e => ?_, ys ++ [.ref g], upd_same, by rw [List.length_append, ly]; rfl, ?_⟩
  · rw [upd_ne (ne_of_none e nA)]
    exact s23 _ _ (s1 _ _ e)
  · rw [List.replicate_succ']
    have up : Same (off A H') (off A (upd (upd (upd H' f (.lst [.bl false])) g (.lst [.bl false, .bl false, .bl false])) A (.lst (ys ++ [.ref g])))) := fun c o e => by
      have nc : c ≠ A := fun z => by
        rw [z] at e
        unfold off at e
        rw [if_pos rfl] at e
        cases e
      rw [off_ne nc] at e ⊢
      rw [upd_ne nc]
      exact s23 _ _ e
    refine (d1.same up).app (.cons ⟨g, rfl, ?_⟩ .nil)
    rw [off_ne nAg, upd_ne nAg, upd_same]
    rfl
/-- four totals -/
theorem totals {A : Addr} {xs : List V} {l : List Rat} (hA : H A = some (.lst xs)) (hx : Nums C H xs l) (hl : l.length ≤ 1000) (hs : Short l) (q : ∀ f ys H', Same H H' → H' f = some (.lst ys) → Rats C H' ys [sumQ l, sumQ l, sumQ l, sumQ []] → Q (.ref f) H') :
    tLst (tCons (ClX.tCMeth C (spTotal K C) E0 (tC (V.ref C)) (tCons (tVar 5) tNil)) (tCons (ClX.tCMeth C (spTotal K C) E0 (tC (V.ref C)) (tCons (tCB (fun xs H_1 Q => ∃ p ys, xs = [V.ref p] ∧ ((SqL K H_1 p ys ∧ ∀ (l : Addr), H_1 l = none → Q (V.ref l) (upd H_1 l (HO.tup ys))) ∨ SqT K H_1 p ys ∧ Q (V.ref p) H_1)) (tCons (tVar 5) tNil)) tNil))
      (tCons (tCMethN C [Str.ofString "numbers"].length (spTotal K C) (fun vs zs => vs ++ zs) (tC (V.ref C)) (tCons (tVar 5) tNil)) (tCons (ClX.tCMeth C (spTotal K C) E0 (tC (V.ref C)) (tCons (tLst tNil) tNil)) tNil))))
      [some (.ref p), o1, o2, o3, o4, some (.ref A), o6, o7, o8, o9] H Q := by
  refine ⟨rfl, .ref A, rfl, A, xs, l, rfl, .inl (SqL.of hA), .inl hA, hx, hl, hs, fun p1 H1 s1 r1 => ?_⟩
  have hA1 := s1 _ _ hA
  refine ⟨rfl, .ref A, rfl, A, xs, rfl, .inl ⟨SqL.of hA1, fun t nt => ⟨t, xs, l, rfl, .inr (SqT.of upd_same), .inr upd_same, (hx.same s1).same (same_new nt), hl, hs, fun p2 H2 s2 r2 => ?_⟩⟩⟩
  have s12 := (same_new nt).trans s2
  have hA2 := s12 _ _ hA1
  refine ⟨rfl, .ref A, rfl, rfl, A, xs, l, rfl, .inl (SqL.of hA2), .inl hA2, hx.same (s1.trans s12), hl, hs, fun p3 H3 s3 r3 => ?_⟩
  refine ⟨rfl, Nat.zero_le _, fun e ne => ⟨e, [], [], rfl, .inl (SqL.of upd_same), .inl upd_same, .nil, Nat.zero_le _, short_of (fun _ h => nomatch h) (Nat.zero_le _), fun p4 H4 s4 r4 => ?_⟩⟩
  have s34 := (same_new ne).trans s4
  refine ⟨by show 4 ≤ 2 ^ 24; decide, fun f nf => ?_⟩
  have s5 : Same H4 (upd H4 f (.lst [.ref p1, .ref p2, .ref p3, .ref p4])) := same_new nf
  exact q f _ _ ((((s1.trans s12).trans s3).trans s34).trans s5) upd_same (.cons (((((r1.same s12).same s3).same s34).same s5)) (.cons (((r2.same s3).same s34).same s5) (.cons ((r3.same s34).same s5) (.cons (r4.same s5) .nil))))
/-- the totals against the law's own -/
theorem against {B f : Addr} {zs ys : List V} {l : List Rat} (hB : H B = some (.lst zs)) (hz : Pas H zs l) (hl : l.length ≤ 18) (hb : ∀ q ∈ l, Bits 150 q) (hf : H f = some (.lst ys)) (hy : Rats C H ys [sumQ (l ++ [((7 : Int) : Rat)]), sumQ (l ++ [((7 : Int) : Rat)]), sumQ (l ++ [((7 : Int) : Rat)]), sumQ []])
    {N : Bool → Hp → Prop} (q : ∀ H', Same H H' → N false H') :
    tTest (tOp (rNeD K) (tCall (spPairs K C) [] E0 (tCons (tVar 6) tNil))
      (tOp rCat (tOp rRep (tLst (tCons (tCall (spLTot K) [] E0 (tCons (tOp rCat (tVar 4) (tLst (tCons (tTup (tCons (tC (V.int 7)) (tCons (tC (V.int 1)) tNil))) tNil))) tNil)) tNil)) (tC (V.int 3)))
        (tLst (tCons (tTup (tCons (tC (V.int 0)) (tCons (tC (V.int 1)) tNil))) tNil))))
      [some (.ref p), o1, o2, o3, some (.ref B), o5, some (.ref f), o7, o8, o9] H N := by
  refine ⟨.ref f, rfl, f, ys, _, rfl, hf, hy, by show 4 ≤ 1000; decide, fun c cs H1 s1 ec hc => ?_⟩
  refine ⟨.ref B, rfl, by show 2 ≤ 2 ^ 24; decide, fun t nt => ⟨by show 1 ≤ 2 ^ 24; decide, fun l1 nl1 => ?_⟩⟩
  have s2 : Same H1 (upd H1 t (.tup [.int 7, .int 1])) := same_new nt
  have s3 : Same (upd H1 t (.tup [.int 7, .int 1])) (upd (upd H1 t (.tup [.int 7, .int 1])) l1 (.lst [.ref t])) := same_new nl1
  have pt : PA (upd H1 t (.tup [.int 7, .int 1])) (.ref t) ((7 : Int) : Rat) := pa_int upd_same
  have s13 := (s1.trans s2).trans s3
  have lz := hz.length
  refine ⟨B, l1, zs, [.ref t], rfl, rfl, s13 _ _ hB, upd_same, Nat.le_trans (by show zs.length + 1 ≤ 1000; omega) (by decide : (1000 : Nat) ≤ sizeLine), fun g ng => ?_⟩
  have s4 := same_new (o := .lst (zs ++ [.ref t])) ng
  have h7 : Bits 150 ((7 : Int) : Rat) := ⟨by rw [Rat.num_intCast]; decide, by rw [Rat.den_intCast]; decide⟩
  refine ⟨g, _, l ++ [((7 : Int) : Rat)], rfl, upd_same, ((hz.same s13).app (.cons (pt.same s3) .nil)).same s4, by rw [List.length_append]; show l.length + 1 ≤ 1000; omega, short_of (mem_app hb h7) (by rw [List.length_append]; show l.length + 1 ≤ 20; omega), fun d H2 s5 pd => ?_⟩
  refine ⟨by show 1 ≤ 2 ^ 24; decide, fun l2 nl2 => ⟨l2, 3, [.ref d], rfl, rfl, upd_same, by decide, by decide, by show 1 * 3 ≤ 2 ^ 24; decide, fun g2 ng2 => ?_⟩⟩
  have s6 : Same H2 (upd H2 l2 (.lst [.ref d])) := same_new nl2
  have s7 : Same (upd H2 l2 (.lst [.ref d])) (upd (upd H2 l2 (.lst [.ref d])) g2 (.lst [.ref d, .ref d, .ref d])) := same_new ng2
  have hg2 : upd (upd H2 l2 (.lst [.ref d])) g2 (.lst [.ref d, .ref d, .ref d]) g2 = some (.lst [.ref d, .ref d, .ref d]) := upd_same
  have sA := (((s2.trans s3).trans s4).trans s5).trans (s6.trans s7)
  have pd' := pd.same (s6.trans s7)
  refine ⟨by show 2 ≤ 2 ^ 24; decide, fun t2 nt2 => ⟨by show 1 ≤ 2 ^ 24; decide, fun l3 nl3 => ?_⟩⟩
  change upd (upd H2 l2 (.lst [.ref d])) g2 (.lst [.ref d, .ref d, .ref d]) t2 = none at nt2
  change upd (upd (upd H2 l2 (.lst [.ref d])) g2 (.lst [.ref d, .ref d, .ref d])) t2 (.tup [.int 0, .int 1]) l3 = none at nl3
  change rCat _ _ (upd (upd (upd (upd H2 l2 (.lst [.ref d])) g2 (.lst [.ref d, .ref d, .ref d])) t2 (.tup [.int 0, .int 1])) l3 (.lst [.ref t2])) _
  generalize upd (upd H2 l2 (.lst [.ref d])) g2 (.lst [.ref d, .ref d, .ref d]) = H3 at hg2 sA pd' nt2 nl3 ⊢
  have s8 : Same H3 (upd H3 t2 (.tup [.int 0, .int 1])) := same_new nt2
  have s9 : Same (upd H3 t2 (.tup [.int 0, .int 1])) (upd (upd H3 t2 (.tup [.int 0, .int 1])) l3 (.lst [.ref t2])) := same_new nl3
  have p0 : PA (upd H3 t2 (.tup [.int 0, .int 1])) (.ref t2) (sumQ []) := pa_int (n := 0) upd_same
  refine ⟨g2, l3, [.ref d, .ref d, .ref d], [.ref t2], rfl, rfl, s9 _ _ (s8 _ _ hg2), upd_same, by show 3 + 1 ≤ 2 ^ 24; decide, fun g3 ng3 => ?_⟩
  have s10 := same_new (o := .lst ([V.ref d, .ref d, .ref d] ++ [.ref t2])) ng3
  have sB := (s8.trans s9).trans s10
  refine ⟨_, _, .lst (SqL.of (sB _ _ (sA _ _ ec))) ((hc.same sA).same sB).dp, .lst (SqL.of upd_same) (Pas.dp (l := [sumQ (l ++ [((7 : Int) : Rat)]), sumQ (l ++ [((7 : Int) : Rat)]), sumQ (l ++ [((7 : Int) : Rat)]), sumQ []]) (.cons (pd'.same sB) (.cons (pd'.same sB) (.cons (pd'.same sB) (.cons ((p0.same s9).same s10) .nil))))), rfl, rfl, _, rfl, ?_⟩
  rw [ne_same _ rfl]
  exact q _ ((s1.trans sA).trans sB)
end
end KT

set_option Elab.async false
set_option linter.all false
set_option maxRecDepth 100000
set_option maxHeartbeats 4000000
namespace KT
open PySem L2 TW
abbrev l_right : Stmt := top 29
theorem lc_right : FnScope ["_law_pot_here", "_law_raws", "_law_turn", "_law_raw_here", "_law_pairs_here", "_law_given", "_law_told", "_law_values", "_law_one", "_law_due"] ["_law_pot_here"] (defScope l_right) := ⟨rfl, rfl, rfl, by decide +kernel, rfl, by decide +kernel, by decide +kernel⟩
theorem due4 {σ : L2.St} {H : Hp} {Q : VK} (q : ∀ b ys H', Same H H' → H' b = some (.lst ys) → BLs H' ys [[true, true, true], [true, true, true], [true, true, false], [true, true, true]] → Q (.ref b) H') :
    tLst (tCons (tLst (tCons (tC (V.bl true)) (tCons (tC (V.bl true)) (tCons (tC (V.bl true)) tNil)))) (tCons (tLst (tCons (tC (V.bl true)) (tCons (tC (V.bl true)) (tCons (tC (V.bl true)) tNil)))) (tCons (tLst (tCons (tC (V.bl true)) (tCons (tC (V.bl true)) (tCons (tC (V.bl false)) tNil)))) (tCons (tLst (tCons (tC (V.bl true)) (tCons (tC (V.bl true)) (tCons (tC (V.bl true)) tNil)))) tNil)))) σ H Q := by
  refine ⟨by show 3 ≤ 2 ^ 24; decide, fun b1 m1 => ⟨by show 3 ≤ 2 ^ 24; decide, fun b2 m2 => ⟨by show 3 ≤ 2 ^ 24; decide, fun b3 m3 => ⟨by show 3 ≤ 2 ^ 24; decide, fun b4 m4 => ⟨by show 4 ≤ 2 ^ 24; decide, fun b5 m5 => ?_⟩⟩⟩⟩⟩
  have r1 := same_new (o := .lst [V.bl true, .bl true, .bl true]) m1
  have r2 := same_new (o := .lst [V.bl true, .bl true, .bl true]) m2
  have r3 := same_new (o := .lst [V.bl true, .bl true, .bl false]) m3
  have r4 := same_new (o := .lst [V.bl true, .bl true, .bl true]) m4
  have r5 := same_new (o := .lst [V.ref b1, .ref b2, .ref b3, .ref b4]) m5
  refine q b5 _ _ ((((r1.trans r2).trans r3).trans r4).trans r5) upd_same ?_
  exact .cons ⟨b1, rfl, r5 _ _ (r4 _ _ (r3 _ _ (r2 _ _ upd_same)))⟩ (.cons ⟨b2, rfl, r5 _ _ (r4 _ _ (r3 _ _ upd_same))⟩ (.cons ⟨b3, rfl, r5 _ _ (r4 _ _ upd_same)⟩ (.cons ⟨b4, rfl, r5 _ _ upd_same⟩ .nil)))
theorem last1 {σ : L2.St} {H : Hp} {Q : VK} (q : ∀ b ys H', Same H H' → H' b = some (.lst ys) → BLs H' ys [[true, true, true]] → Q (.ref b) H') :
    tLst (tCons (tLst (tCons (tC (V.bl true)) (tCons (tC (V.bl true)) (tCons (tC (V.bl true)) tNil)))) tNil) σ H Q := by
  refine ⟨by show 3 ≤ 2 ^ 24; decide, fun b1 m1 => ⟨by show 1 ≤ 2 ^ 24; decide, fun b5 m5 => ?_⟩⟩
  have r1 := same_new (o := .lst [V.bl true, .bl true, .bl true]) m1
  have r5 := same_new (o := .lst [V.ref b1]) m5
  refine q b5 _ _ (r1.trans r5) upd_same ?_
  exact .cons ⟨b1, rfl, r5 _ _ upd_same⟩ .nil
section
variable {P : Program} {w : World} {K : W.Frag} {mg : Str → Option Value} {base : Heap} {C HC : Addr}
def spRight : Sp := fun vs H Q _ => ∃ p, vs = [.ref p] ∧ PotAt H p ∧ ∀ H', Q (.bl true) H'
theorem ok_right {f dr pk ra on tw lo prs lt fi tp tg isn isi isc : Addr} {fd drd pkd rad ond twd lod prsd ltd fid tgd isnd isid iscd : FuncData} {mc : Value} (F : At K mg "_law_right" l_right ["_law_pot_here"] f fd) (T : Txt K mg C HC) (T2 : Txt2 mg)
    (Dr : At K mg "_law_draw" s_draw ["_law_pot_here", "_law_room"] dr drd) (NDr : FnOk P w K mg base L2.CX0 1 dr drd ["_law_pot_here", "_law_room"] spDraw)
    (Pk : At K mg "_law_pick" s_pick ["_law_pot_here", "_law_some"] pk pkd) (NPk : FnOk P w K mg base L2.CX0 2 pk pkd ["_law_pot_here", "_law_some"] spPick)
    (Ra : At K mg "_law_raw" l_raw ["_law_pot_here"] ra rad) (NRa : FnOk P w K mg base L2.CX0 3 ra rad ["_law_pot_here"] spRaw)
    (On : At K mg "_law_one_right" l_one ["_law_raw_here"] on ond) (NOn : FnG P w K mg base L2.CX0 9 on ond ["_law_raw_here"] spOne)
    (Tw : At K mg "_law_two_right" l_two ["_law_raw_here", "_law_other_raw", "_law_number"] tw twd) (NTw : FnOk P w K mg base L2.CX0 9 tw twd ["_law_raw_here", "_law_other_raw", "_law_number"] spTwo)
    (Lo : At K mg "_law_low" s_low ["_law_top", "_law_bottom"] lo lod) (NLo : FnOk P w K mg base L2.CX0 1 lo lod ["_law_top", "_law_bottom"] (spLow C))
    (Prs : At K mg "_law_pairs" l_pairs ["_law_value"] prs prsd) (NPrs : FnOk P w K mg base L2.CX0 4 prs prsd ["_law_value"] (spPairs K C))
    (Lt : At K mg "_law_total" l_total ["_law_pairs_here"] lt ltd) (NLt : FnOk P w K mg base L2.CX0 3 lt ltd ["_law_pairs_here"] (spLTot K))
    (I : InitR K fi fid) (M : Mk K C fi) (Nm : FnOk P w K mg base L2.CX0 2 fi fid ["self", "top", "bottom"] (spMk C))
    (cr : ClX.CRead K C mc) (cm : ClX.CMet K C mc "total" tp tg) (NTo : FnOk P w K mg base L2.CX0 6 tg tgd ["cls", "numbers"] (spTotal K C)) (bTo : Binds K tgd ["cls", "numbers"] []) (kTo : KBn K tgd ["cls", "numbers"] 1 ["numbers"] (fun us ws => us ++ ws) (fun vs zs => vs ++ zs))
    (Isn : At K mg "is_number" s_is_number ["value"] isn isnd) (NIsn : FnOk P w K mg base L2.CX0 2 isn isnd ["value"] (spB C isN))
    (Isi : At K mg "is_integer" s_is_integer ["value"] isi isid) (NIsi : FnOk P w K mg base L2.CX0 1 isi isid ["value"] (spB C isI))
    (Isc : At K mg "is_count" s_is_count ["value"] isc iscd) (NIsc : FnOk P w K mg base L2.CX0 2 isc iscd ["value"] (spB C isC)) :
    FnG P w K mg base L2.CX0 11 f fd ["_law_pot_here"] spRight := by
  refine okG F.fn lc_right (fun vs H Q E h => ?_) fun cdv A outer s H vs Q E gd hr h => ?_
  · obtain ⟨p, rfl, _⟩ := h
    rfl
  obtain ⟨p, rfl, hp, q⟩ := h
  have hr1 : Room 1 _ := hr.mono (by decide)
  have hr2 : Room 2 _ := hr.mono (by decide)
  have hr3 : Room 3 _ := hr.mono (by decide)
  have hr4 : Room 4 _ := hr.mono (by decide)
  have hr6 : Room 6 _ := hr.mono (by decide)
  have hr9 : Room 9 _ := hr.mono (by decide)
  have nd := lc_right.nd
  obtain ⟨ds2, vd2, bd2⟩ := initR_all I
  have RTo := fnR_of NTo bTo
  refine ⟨_, (pss_cons (ps_setLc (i := 1) (own := [("_law_turn", 2)]) (g := gName 2) (tt := tYes) rfl lc_right.nd rfl rfl (sw_true rfl rfl rfl (by decide +kernel)) (pi_range1 (by rfl) T2.range_ (pa_cons pe_int pa_nil)) (blkOk_by (N := ["_law_pot_here", "_law_raws", "_law_turn", "_law_raw_here", "_law_pairs_here", "_law_given", "_law_told", "_law_values", "_law_one", "_law_due"]) (sc := defScope l_right) (by decide +kernel)) (fun _ _ _ _ _ => pg_name (i := 2) lc_right.nd rfl (Or.inl rfl)) (fun _ _ _ _ _ => pts_nil) (fun _ _ _ _ _ => (pe_call NRa hr3 (by rfl) Ra.mg Ra.fn.kp Ra.b .nil pass0 (pa_cons (pv 0) pa_nil)))) (pss_cons (ps_expr (pe_bm PySem.F.plainAttrs_list PySem.F.slot_list_append PySem.F.type_list_append mt_append (pv 1) (pa_cons (pe_tup (pa_cons (pe_op op_mulW (pe_ix (r := rIxT K) ix_tup (pe_ix (r := rIxL K) ix_list (pv 1) pe_int (fun _ _ => rfl)) pe_int (fun _ _ => rfl)) pe_int) (pa_cons (pe_op op_mulW (pe_ix (r := rIxT K) ix_tup (pe_ix (r := rIxL K) ix_list (pv 1) pe_int (fun _ _ => rfl)) pe_int (fun _ _ => rfl)) pe_int) pa_nil))) pa_nil))) (pss_cons (ps_expr (pe_bm PySem.F.plainAttrs_list PySem.F.slot_list_append PySem.F.type_list_append mt_append (pv 1) (pa_cons (pe_tup (pa_cons pe_int (pa_cons (pe_ix (r := rIxT K) ix_tup (pe_ix (r := rIxL K) ix_list (pv 1) pe_int (fun _ _ => rfl)) pe_int (fun _ _ => rfl)) pa_nil))) pa_nil))) (pss_cons (ps_for PassesOwn.never rfl (pi_list (pv 1)) (pg_name (i := 3) lc_right.nd rfl (Or.inl rfl)) (pss_one (ps_if (pt_not (pt_val (pe_callG NOn gd hr9 (by rfl) On.mg On.fn.kp On.b pass0 (pa_cons (pv 3) pa_nil)))) (pss_one (ps_ret pe_bl)) pss_nil))) (pss_cons (ps_for PassesOwn.never rfl (pi_range1 (by rfl) T2.range_ (pa_cons pe_int pa_nil)) (pg_name (i := 2) lc_right.nd rfl (Or.inl rfl)) (pss_one (ps_if (pt_not (pt_val (pe_call NTw hr9 (by rfl) Tw.mg Tw.fn.kp Tw.b .nil pass0 (pa_cons (pe_call NPk hr2 (by rfl) Pk.mg Pk.fn.kp Pk.b .nil pass0 (pa_cons (pv 0) (pa_cons (pv 1) pa_nil))) (pa_cons (pe_call NPk hr2 (by rfl) Pk.mg Pk.fn.kp Pk.b .nil pass0 (pa_cons (pv 0) (pa_cons (pv 1) pa_nil))) (pa_cons (pe_op op_sub (pe_call NDr hr1 (by rfl) Dr.mg Dr.fn.kp Dr.b .nil pass0 (pa_cons (pv 0) (pa_cons pe_int pa_nil))) pe_int) pa_nil)))))) (pss_one (ps_ret pe_bl)) pss_nil))) (pss_cons (ps_setLc (i := 4) (own := [("_law_raw_here", 3)]) (g := gName 3) (tt := tYes) rfl lc_right.nd rfl rfl (sw_true rfl rfl rfl (by decide +kernel)) (pi_seq (pv 1)) (blkOk_by (N := ["_law_pot_here", "_law_raws", "_law_turn", "_law_raw_here", "_law_pairs_here", "_law_given", "_law_told", "_law_values", "_law_one", "_law_due"]) (sc := defScope l_right) (by decide +kernel)) (fun _ _ _ _ _ => pg_name (i := 3) lc_right.nd rfl (Or.inl rfl)) (fun _ _ _ _ _ => pts_nil) (fun _ _ _ _ _ => (pe_call NLo hr1 (by rfl) Lo.mg Lo.fn.kp Lo.b .nil pass0 (pa_cons (pe_ix (r := rIxT K) ix_tup (pv 3) pe_int (fun _ _ => rfl)) (pa_cons (pe_ix (r := rIxT K) ix_tup (pv 3) pe_int (fun _ _ => rfl)) pa_nil))))) (pss_cons (ps_set (i := 5) lc_right.nd rfl (.inl rfl) (pe_op op_cat (pe_lc (own := [("_law_raw_here", 3)]) (g := gName 3) (tt := tYes) rfl lc_right.nd (pi_seq (pv 1)) (blkOk_by (N := ["_law_pot_here", "_law_raws", "_law_turn", "_law_raw_here", "_law_pairs_here", "_law_given", "_law_told", "_law_values", "_law_one", "_law_due"]) (sc := defScope l_right) (by decide +kernel)) (fun _ _ _ _ _ => pg_name (i := 3) lc_right.nd rfl (Or.inl rfl)) (fun _ _ _ _ _ => pts_nil) (fun _ _ _ _ _ => (pe_make M Nm hr3 (by rfl) T.mgC bd2 vd2 pass0 (pa_cons (pe_ix (r := rIxT K) ix_tup (pv 3) pe_int (fun _ _ => rfl)) (pa_cons (pe_ix (r := rIxT K) ix_tup (pv 3) pe_int (fun _ _ => rfl)) pa_nil))))) (pe_lst (pa_cons pe_int pa_nil)))) (pss_cons (ps_set (i := 6) lc_right.nd rfl (.inl rfl) (pe_lst (pa_cons (ClX.pe_cmeth (pe_glob (v := .ref C) (by rfl) T.mgC rfl) cr cm RTo hr6 pass0 (pa_cons (pv 5) pa_nil)) (pa_cons (ClX.pe_cmeth (pe_glob (v := .ref C) (by rfl) T.mgC rfl) cr cm RTo hr6 pass0 (pa_cons (pe_callTy call_tuple_of (by rfl) T.tuple_ (by decide +kernel) (pa_cons (pv 5) pa_nil)) pa_nil)) (pa_cons (pe_cmethN0 (pe_glob (v := .ref C) (by rfl) T.mgC rfl) cr cm NTo hr6 kTo (pk_cons (pv 5) pk_nil)) (pa_cons (ClX.pe_cmeth (pe_glob (v := .ref C) (by rfl) T.mgC rfl) cr cm RTo hr6 pass0 (pa_cons (pe_lst pa_nil) pa_nil)) pa_nil)))))) (pss_cons (ps_if (pt_cmpR (op_neD hr.units) (pe_call NPrs hr4 (by rfl) Prs.mg Prs.fn.kp Prs.b .nil pass0 (pa_cons (pv 6) pa_nil)) (pe_op op_cat (pe_op op_rep (pe_lst (pa_cons (pe_call NLt hr3 (by rfl) Lt.mg Lt.fn.kp Lt.b .nil pass0 (pa_cons (pe_op op_cat (pv 4) (pe_lst (pa_cons (pe_tup (pa_cons pe_int (pa_cons pe_int pa_nil))) pa_nil))) pa_nil)) pa_nil)) pe_int) (pe_lst (pa_cons (pe_tup (pa_cons pe_int (pa_cons pe_int pa_nil))) pa_nil))) (nomark _)) (pss_one (ps_ret pe_bl)) pss_nil) (pss_cons (ps_set (i := 7) lc_right.nd rfl (.inl rfl) (pe_lst (pa_cons pe_int (pa_cons pe_int (pa_cons (pe_un un_neg pe_int) (pa_cons pe_int (pa_cons pe_bl (pa_cons pe_bl (pa_cons pe_non (pa_cons pe_str (pa_cons (pe_lst (pa_cons pe_int pa_nil)) (pa_cons (pe_tup (pa_cons pe_int (pa_cons pe_int pa_nil))) (pa_cons (pe_op op_pow pe_int pe_int) pa_nil))))))))))))) (pss_cons (ps_setLc (i := 6) (own := [("_law_one", 8)]) (g := gName 8) (tt := tYes) rfl lc_right.nd rfl rfl (sw_true rfl rfl rfl (by decide +kernel)) (pi_seq (pv 7)) (blkOk_by (N := ["_law_pot_here", "_law_raws", "_law_turn", "_law_raw_here", "_law_pairs_here", "_law_given", "_law_told", "_law_values", "_law_one", "_law_due"]) (sc := defScope l_right) (by decide +kernel)) (fun _ _ _ _ _ => pg_name (i := 8) lc_right.nd rfl (Or.inl rfl)) (fun _ _ _ _ _ => pts_nil) (fun _ _ _ _ _ => (pe_lst (pa_cons (pe_call NIsn hr2 (by rfl) Isn.mg Isn.fn.kp Isn.b .nil pass0 (pa_cons (pv 8) pa_nil)) (pa_cons (pe_call NIsi hr1 (by rfl) Isi.mg Isi.fn.kp Isi.b .nil pass0 (pa_cons (pv 8) pa_nil)) (pa_cons (pe_call NIsc hr2 (by rfl) Isc.mg Isc.fn.kp Isc.b .nil pass0 (pa_cons (pv 8) pa_nil)) pa_nil)))))) (pss_cons (ps_set (i := 9) lc_right.nd rfl (.inl rfl) (pe_lst (pa_cons (pe_lst (pa_cons pe_bl (pa_cons pe_bl (pa_cons pe_bl pa_nil)))) (pa_cons (pe_lst (pa_cons pe_bl (pa_cons pe_bl (pa_cons pe_bl pa_nil)))) (pa_cons (pe_lst (pa_cons pe_bl (pa_cons pe_bl (pa_cons pe_bl pa_nil)))) (pa_cons (pe_lst (pa_cons pe_bl (pa_cons pe_bl (pa_cons pe_bl pa_nil)))) pa_nil)))))) (pss_one (ps_ret (pe_cmpR (op_eqD hr.units) (pv 6) (pe_op op_cat (pe_op op_cat (pv 9) (pe_lc (own := [("_law_turn", 2)]) (g := gName 2) (tt := tYes) rfl lc_right.nd (pi_range1 (by rfl) T2.range_ (pa_cons pe_int pa_nil)) (blkOk_by (N := ["_law_pot_here", "_law_raws", "_law_turn", "_law_raw_here", "_law_pairs_here", "_law_given", "_law_told", "_law_values", "_law_one", "_law_due"]) (sc := defScope l_right) (by decide +kernel)) (fun _ _ _ _ _ => pg_name (i := 2) lc_right.nd rfl (Or.inl rfl)) (fun _ _ _ _ _ => pts_nil) (fun _ _ _ _ _ => (pe_op op_rep (pe_lst (pa_cons pe_bl pa_nil)) pe_int)))) (pe_lst (pa_cons (pe_lst (pa_cons pe_bl (pa_cons pe_bl (pa_cons pe_bl pa_nil)))) pa_nil))) (nomark _)))))))))))))))), ?_⟩
  have i0 : ∀ x y : V, atI [x, y] 0 = some x := fun x y => atI_nat (j := 0) rfl
  have i1 : ∀ x y : V, atI [x, y] 1 = some y := fun x y => atI_nat (j := 1) rfl
  dsimp only [tNext, gName, tSeq, tAsg, tDrop]
  refine raws6 hp fun A ys l H1 b1 p1 nAp e1 d1 l1 sm => ?_
  have ly := d1.length
  -- the seventh
  obtain ⟨x0, ex0⟩ : ∃ x, ys[0]? = some x := ⟨ys[0]'(by omega), List.getElem?_eq_getElem (by omega)⟩
  obtain ⟨x1, ex1⟩ : ∃ x, ys[1]? = some x := ⟨ys[1]'(by omega), List.getElem?_eq_getElem (by omega)⟩
  obtain ⟨⟨t, b⟩, et, c, ec, nc, hc, b0, tb, bb⟩ := d1.at ex0
  obtain ⟨st, sb⟩ := sm _ (List.mem_of_getElem? et)
  have at0 : atI ys 0 = some x0 := atI_nat (j := 0) ex0
  have k3 : (3 : Int).natAbs < 2 ^ 2 := by decide
  have m1 := abs_mul st k3
  have m2 := abs_mul sb k3
  refine ⟨.ref A, rfl, .inl ⟨rfl, _, .inl (.inl e1)⟩, ?_⟩
  refine ⟨.ref A, rfl, A, ys, 0, x0, rfl, rfl, SqL.of e1, at0, c, _, 0, _, ec, rfl, SqT.of hc, i0 _ _, t, 3, rfl, rfl, wide_mul st k3 (by decide) (by decide) (by decide), ?_⟩
  refine ⟨.ref A, rfl, A, ys, 0, x0, rfl, rfl, SqL.of e1, at0, c, _, 1, _, ec, rfl, SqT.of hc, i1 _ _, b, 3, rfl, rfl, wide_mul sb k3 (by decide) (by decide) (by decide), ?_⟩
  refine ⟨by show 2 ≤ 2 ^ 24; decide, fun t1 nt1 => ⟨A, ys, .ref t1, rfl, rfl, (same_new nt1) _ _ e1, small1000 (by omega), ?_⟩⟩
  have e1t := (same_new (o := .tup [.int (t * 3), .int (b * 3)]) nt1) _ _ e1
  have rt1 : Raw p (upd H1 t1 (.tup [.int (t * 3), .int (b * 3)])) (.ref t1) (t * 3) (b * 3) := ⟨t1, rfl, (pot_ne p1 nt1).symm, upd_same, (by omega : b * 3 ≠ 0), m1, m2⟩
  have d2 := ((d1.but (But.of (same_new (o := .tup [.int (t * 3), .int (b * 3)]) nt1))).app rt1).upd (vs := ys ++ [.ref t1]) e1t
  have p2 := (p1.upd (o := .tup [.int (t * 3), .int (b * 3)]) (pot_ne p1 nt1)).upd (o := .lst (ys ++ [.ref t1])) nAp.symm
  have e2 : upd (upd H1 t1 (.tup [.int (t * 3), .int (b * 3)])) A (.lst (ys ++ [.ref t1])) A = some (.lst (ys ++ [.ref t1])) := upd_same
  generalize upd (upd H1 t1 (.tup [.int (t * 3), .int (b * 3)])) A (.lst (ys ++ [.ref t1])) = H2 at d2 p2 e2 ⊢
  clear rt1 e1t
  -- the eighth
  have ex1' : (ys ++ [V.ref t1])[1]? = some x1 := by rw [List.getElem?_append_left (by omega)]; exact ex1
  obtain ⟨⟨t', b'⟩, et', c', ec', nc', hc', b0', tb', bb'⟩ := d2.at ex1'
  have at1 : atI (ys ++ [V.ref t1]) 1 = some x1 := atI_nat (j := 1) ex1'
  refine ⟨.ref A, rfl, .inl ⟨rfl, _, .inl (.inl e2)⟩, ?_⟩
  refine ⟨.ref A, rfl, A, _, 1, x1, rfl, rfl, SqL.of e2, at1, c', _, 1, _, ec', rfl, SqT.of hc', i1 _ _, ?_⟩
  refine ⟨by show 2 ≤ 2 ^ 24; decide, fun t2 nt2 => ⟨A, _, .ref t2, rfl, rfl, (same_new nt2) _ _ e2, small1000 (by rw [List.length_append]; show ys.length + 1 ≤ 1000; omega), ?_⟩⟩
  have e2t := (same_new (o := .tup [.int 0, .int b']) nt2) _ _ e2
  have rt2 : Raw p (upd H2 t2 (.tup [.int 0, .int b'])) (.ref t2) 0 b' := ⟨t2, rfl, (pot_ne p2 nt2).symm, upd_same, b0', by decide, bb'⟩
  have d3 := ((d2.but (But.of (same_new (o := .tup [.int 0, .int b']) nt2))).app rt2).upd (vs := ys ++ [.ref t1] ++ [.ref t2]) e2t
  have p3 := (p2.upd (o := .tup [.int 0, .int b']) (pot_ne p2 nt2)).upd (o := .lst (ys ++ [.ref t1] ++ [.ref t2])) nAp.symm
  have e3 : upd (upd H2 t2 (.tup [.int 0, .int b'])) A (.lst (ys ++ [.ref t1] ++ [.ref t2])) A = some (.lst (ys ++ [.ref t1] ++ [.ref t2])) := upd_same
  have l8 : (l ++ [(t * 3, b * 3)] ++ [(0, b')]).length = 8 := by rw [List.length_append, List.length_append, l1]; rfl
  generalize upd (upd H2 t2 (.tup [.int 0, .int b'])) A (.lst (ys ++ [.ref t1] ++ [.ref t2])) = H3 at d3 p3 e3 ⊢
  generalize l ++ [(t * 3, b * 3)] ++ [(0, b')] = L at d3 l8
  generalize ys ++ [V.ref t1] ++ [V.ref t2] = Y at d3 e3
  clear rt2 e2t d2 p2 e2 d1 p1 e1
  -- one by one
  refine ones (K := K) e3 d3 fun o3 H4 s4 => ?_
  have p4 := p3.same s4
  have e4 := s4 _ _ e3
  have d4 := d3.but (But.of s4)
  -- two by two
  refine twos p4 nAp e4 d4 l8 fun o2 H5 b5 p5 => ?_
  have e5 := b5 _ _ e4 nAp
  have d5 := d4.but b5
  clear d4 e4 p4 d3 e3 p3
  -- the pairs
  dsimp only [tNext, gName, tSeq, tAsg]
  refine lows (C := C) (K := K) e5 d5 (by omega) fun B zs H6 s6 eB hz => ?_
  have e6 := s6 _ _ e5
  have d6 := d5.but (But.of s6)
  -- the fractions
  refine op_go (mades (C := C) (K := K) e6 d6 (by omega) fun D gs H7 nD s7 eD hg => ?_)
  refine ⟨by show 1 ≤ 2 ^ 24; decide, fun l7 nl7 => ⟨D, l7, gs, [.int 7], rfl, rfl, (same_new nl7) _ _ eD, upd_same, ?_, fun G nG => ?_⟩⟩
  · have z := hg.length
    rw [List.length_map] at z
    exact Nat.le_trans (by show gs.length + 1 ≤ 1000; omega) (by decide : (1000 : Nat) ≤ sizeLine)
  have s8 : Same H7 (upd H7 l7 (.lst [.int 7])) := same_new nl7
  have s9 : Same (upd H7 l7 (.lst [.int 7])) (upd (upd H7 l7 (.lst [.int 7])) G (.lst (gs ++ [.int 7]))) := same_new nG
  have hn : Nums C (upd (upd H7 l7 (.lst [.int 7])) G (.lst (gs ++ [.int 7]))) (gs ++ [.int 7]) (L.map qOf ++ [((7 : Int) : Rat)]) := ((hg.same s8).same s9).nums
  have eG : upd (upd H7 l7 (.lst [.int 7])) G (.lst (gs ++ [.int 7])) G = some (.lst (gs ++ [.int 7])) := upd_same
  have s69 := (s7.trans s8).trans s9
  have eB9 := s69 _ _ eB
  have hz9 := hz.same s69
  generalize upd (upd H7 l7 (.lst [.int 7])) G (.lst (gs ++ [.int 7])) = H9 at hn eG eB9 hz9 ⊢
  have bits := d5.bits
  have lm : (L.map qOf).length = 8 := by rw [List.length_map]; exact l8
  have h7 : Bits 150 ((7 : Int) : Rat) := ⟨by rw [Rat.num_intCast]; decide, by rw [Rat.den_intCast]; decide⟩
  generalize L.map qOf = M at hn hz9 bits lm
  -- the totals
  refine totals (K := K) eG hn (by rw [List.length_append]; show M.length + 1 ≤ 1000; omega) (short_of (mem_app bits h7) (by rw [List.length_append]; show M.length + 1 ≤ 20; omega)) fun f xs H10 s10 ef hx => ?_
  refine ifs_no (P := fun _ => True) (fun N g => against (K := K) (C := C) (s10 _ _ eB9) (hz9.same s10) (by omega) bits ef hx fun H' _ => g H' trivial) fun H11 _ => ?_
  -- the kinds
  dsimp only [tNext, gName, tSeq, tAsg]
  have z2 : (2 : Nat) ≤ 2 ^ 24 := by decide
  refine ⟨1, rfl, by show 1 ≤ 2 ^ 24; decide, fun a1 n1 => ⟨by show 2 ≤ 2 ^ 24; decide, fun a2 n2 => ⟨10, 5, rfl, rfl, ⟨by decide, by decide, by decide⟩, by show 11 ≤ 2 ^ 24; decide, fun a3 n3 => ?_⟩⟩⟩
  have t1 : Same (upd H11 a1 (.lst [.int 1])) (upd (upd H11 a1 (.lst [.int 1])) a2 (.tup [.int 1, .int 2])) := same_new n2
  have t2 : Same (upd (upd H11 a1 (.lst [.int 1])) a2 (.tup [.int 1, .int 2])) (upd (upd (upd H11 a1 (.lst [.int 1])) a2 (.tup [.int 1, .int 2])) a3 (.lst [.int 0, .int 1, .int (-1), .int 5, .bl true, .bl false, .non, .str "1", .ref a1, .ref a2, .int (10 ^ (5 : Int).toNat)])) := same_new n3
  have ea1 := t2 _ _ (t1 _ _ upd_same)
  have ea2 := t2 _ _ upd_same
  refine kinds (K := K) (C := C) (A := a3) (ds := [.int 0, .int 1, .int (-1), .int 5, .bl true, .bl false, .non, .str "1", .lst [.int 1], .tup [.int 1, .int 2], .int (10 ^ (5 : Int).toNat)]) upd_same
    (.cons (.int _) (.cons (.int _) (.cons (.int _) (.cons (.int _) (.cons (.bl _) (.cons (.bl _) (.cons .non (.cons (.str _) (.cons (.lst ea1 (.cons (.int _) .nil)) (.cons (.tup ea2 (.cons (.int _) (.cons (.int _) .nil))) (.cons (.int _) .nil)))))))))))
    (by show 11 ≤ 1000; decide) ?_ fun B zs H12 s12 eB12 hB => ?_
  · intro d hd
    simp only [List.mem_cons, List.not_mem_nil, or_false] at hd
    rcases hd with rfl | rfl | rfl | rfl | rfl | rfl | rfl | rfl | rfl | rfl | rfl <;> first | exact (by show 1921 ≤ 2 ^ 24; decide) | exact (by decide +kernel) | exact small1000 (by decide) | exact Nat.le_of_lt (small1000 (by decide))
  clear t1 t2 ea1 ea2 n1 n2 n3
  refine due4 fun W ws H13 s13 eW hW => ?_
  refine ⟨.ref B, rfl, .ref W, rfl, falses fun E es H14 s14 eE hE => ?_⟩
  have lW := hW.length
  have lE := hE.length
  have s24 : (1000 : Nat) ≤ sizeLine := by decide
  refine ⟨W, E, ws, es, rfl, rfl, s14 _ _ eW, eE, Nat.le_trans (by rw [lW, lE]; decide) s24, fun g ng => ?_⟩
  have r1 := same_new (o := .lst (ws ++ es)) ng
  refine last1 fun L1 ls H15 s15 eL hL => ?_
  have lL := hL.length
  refine ⟨g, L1, ws ++ es, ls, rfl, rfl, s15 _ _ upd_same, eL, Nat.le_trans (by rw [List.length_append, lW, lE, lL]; decide) s24, fun g2 ng2 => ?_⟩
  have r2 := same_new (o := .lst (ws ++ es ++ ls)) ng2
  have hAll := (((((hW.same s14).same r1).same s15).app (((hE.same r1).same s15))).app hL).same r2
  have hTold := ((((hB.same s13).same s14).same r1).same s15).same r2
  have eTold := r2 _ _ (s15 _ _ (r1 _ _ (s14 _ _ (s13 _ _ eB12))))
  refine ⟨_, _, .lst (SqL.of eTold) hTold.dp, .lst (SqL.of upd_same) hAll.dp, rfl, rfl, ?_⟩
  have ev : ∀ X : PyData, X.canLay0 = true → PyData.eqv X X = true := fun X h => SeqAt.eqv_refl _ h
  refine (congrArg (fun b => Q (.bl b) _) (ev (.list ([[true, true, true], [true, true, true], [true, true, false], [true, true, true], [false, false, false], [false, false, false], [false, false, false], [false, false, false], [false, false, false], [false, false, false], [true, true, true]].map fun bs => .list (bs.map .bool))) rfl)).mpr (q _)
end
end KT

set_option Elab.async false
set_option linter.all false
set_option maxRecDepth 100000
set_option maxHeartbeats 4000000
namespace KT
open PySem L2 TW
abbrev s_law : Stmt := top 30
theorem sc_law : FnScope ["_law_script"] ["_law_script"] (defScope s_law) := ⟨rfl, rfl, rfl, by decide +kernel, rfl, by decide +kernel, by decide +kernel⟩
def spLaw (K : W.Frag) : Sp := fun vs H Q _ => ∃ (a : Addr) (ns : List Int), vs = [.ref a] ∧ SqL K H a (ns.map V.int) ∧ ns.length ≤ 1000 ∧ ∀ H', Q (.bl true) H'
section
variable {P : Program} {w : World} {K : W.Frag} {mg : Str → Option Value} {base : Heap} {C HC : Addr}
theorem ok_law {f g r : Addr} {fd gd rd : FuncData} (F : Fun K "law" "law" s_law f fd) (T : Txt K mg C HC)
    (G : At K mg "_law_pot" s_pot ["_law_script", "_law_k"] g gd) (N : FnOk P w K mg base L2.CX0 1 g gd ["_law_script", "_law_k"] (spPot K))
    (Rt : At K mg "_law_right" l_right ["_law_pot_here"] r rd) (NR : FnG P w K mg base L2.CX0 11 r rd ["_law_pot_here"] spRight) : FnG P w K mg base L2.CX0 12 f fd ["_law_script"] (spLaw K) := by
  refine okG F sc_law (fun vs H Q E h => ?_) fun cdv A outer s H vs Q E gd hr h => ?_
  · obtain ⟨a, ns, rfl, _⟩ := h
    rfl
  obtain ⟨a, ns, rfl, hs, hl, q⟩ := h
  have hr1 : Room 1 _ := hr.mono (by decide)
  refine ⟨_, (pss_one (ps_ret (pe_callG NR gd hr (by rfl) Rt.mg Rt.fn.kp Rt.b pass0 (pa_cons (pe_call N hr1 (by rfl) G.mg G.fn.kp G.b .nil pass0 (pa_cons (pv 0) (pa_cons pe_int pa_nil))) pa_nil)))), ?_⟩
  exact ⟨.ref a, rfl, a, ns, rfl, hs, fun p H' s np pot => ⟨p, rfl, pot, q⟩⟩
end
/-! ### what the top has written -/
/-- a def of the top stands -/
def Dn (K : W.Frag) (x : Str) (st : Stmt) : Prop := ∃ (f : Addr) (fd : FuncData), W.nsIn K mainGlobals x = some (some (.ref f)) ∧ Fun K x x st f fd
/-- a method stands -/
def MeAt (K : W.Frag) (C : Addr) (x qual : Str) (st : Stmt) : Prop := ∃ (f : Addr) (fd : FuncData), W.findIn K (.ref C) x = some (some (.ref f)) ∧ W.isFn K (.ref f) = true ∧ Fun K x qual st f fd
section
variable {K : W.Frag} {h : Heap} {mg : Str → Option Value}
theorem dn {x : Str} {st : Stmt} {f : Addr} {oc : Value} {od an : Option Addr} {osl : Array (Option Value)} {kV doc pm cdv ct : Value} (n : W.nsIn K mainGlobals x = some (some (.ref f)))
    (l : K.lookup f = some ⟨oc, od, .func (W.fnOf x x (defArgs st) (defBody st) (defScope st) .none kV doc pm an cdv ct), osl⟩) (c : W.codeIn K cdv x = true) (k : W.keepIn K (.ref f) = true) : Dn K x st := ⟨f, _, n, fun_mk l c k⟩
theorem Dn.at_ {x : Str} {st : Stmt} (X : K.In h) (G : h.Ns mainGlobals mg) (d : Dn K x st) (ps : List Str)
    (hb : ∀ (kV doc pm : Value) (an : Option Addr) (cdv ct : Value) (us : List Value), us.length = ps.length → bindArgs (W.fnOf x x (defArgs st) (defBody st) (defScope st) .none kV doc pm an cdv ct) ⟨us, []⟩ = pure (ps.zip us)) : ∃ (f : Addr) (fd : FuncData), At K mg x st ps f fd := by
  obtain ⟨f, fd, n, F⟩ := d
  exact ⟨f, fd, F, W.mg_of X G n, F.binds hb⟩
theorem tx {C HC : Addr} (X : K.In h) (G : h.Ns mainGlobals mg)
    (aC : W.nsIn K mainGlobals "Ratio" = some (some (.ref C)))
    (z1 : W.nsIn K mainGlobals "isinstance" = some none) (z2 : W.nsIn K mainGlobals "int" = some none) (z3 : W.nsIn K mainGlobals "bool" = some none) (z4 : W.nsIn K mainGlobals "list" = some none) (z5 : W.nsIn K mainGlobals "tuple" = some none)
    (z6 : W.nsIn K mainGlobals "len" = some none) (z7 : W.nsIn K mainGlobals "all" = some none) (g1 : W.nsIn K mainGlobals "gcd" = some (some (.builtin "math.gcd")))
    (pg : W.plainGet K C Str.empty = true) (hd : W.hasDictIn K C = true) (po : W.plainOver K C = true) (sa : W.findIn K (.ref C) "__setattr__" = some (some (.builtin "object.__setattr__")))
    (n1 : W.findIn K (.ref C) "_top" = some none) (n2 : W.findIn K (.ref C) "_bottom" = some none)
    (atC : W.findIn K (.ref C) "__class__" = some (some (.builtin "object.__class__")))
    (cg : W.specialIn K (.builtin "object.__class__") "__get__" = some (some (.builtin "getset_descriptor.__get__"))) (ct : W.takesIn K (.builtin "object.__class__") = some true)
    (moC : W.mroIn K C (.type "object") = some true)
    (k1 : W.kitOne K (.ref C) (.type "int") = some false) (k2 : W.kitOne K (.ref C) (.type "bool") = some false) (k3 : W.kitOne K (.ref C) (.type "list") = some false) (k4 : W.kitOne K (.ref C) (.type "tuple") = some false) (k5 : W.kitOne K (.ref C) (.ref C) = some true)
    (k6 : W.kitOne K (.type "NoneType") (.ref C) = some false) (k7 : W.kitOne K (.type "bool") (.ref C) = some false) (k8 : W.kitOne K (.type "int") (.ref C) = some false) (k9 : W.kitOne K (.type "str") (.ref C) = some false) (k10 : W.kitOne K (.type "list") (.ref C) = some false)
    (k11 : W.kitOne K (.type "tuple") (.ref C) = some false) (k12 : W.kitOne K (.type "dict") (.ref C) = some false) : Txt K mg C HC := by
  exact ⟨W.mg_none_of X G z1, W.mg_none_of X G z2, W.mg_none_of X G z3, W.mg_none_of X G z4, W.mg_none_of X G z5, W.mg_none_of X G z6, W.mg_none_of X G z7, W.mg_of X G g1, W.mg_of X G aC,
    ⟨pg, hd, po, sa⟩, n1, n2, atC, cg, ct, moC, k1, k2, k3, k4, k5, k6, k7, k8, k9, k10, k11, k12⟩
theorem tx2 (X : K.In h) (G : h.Ns mainGlobals mg) (z1 : W.nsIn K mainGlobals "abs" = some none) (z2 : W.nsIn K mainGlobals "max" = some none) (z3 : W.nsIn K mainGlobals "min" = some none) (z4 : W.nsIn K mainGlobals "divmod" = some none)
    (z5 : W.nsIn K mainGlobals "str" = some none) (z6 : W.nsIn K mainGlobals "range" = some none) (z7 : W.nsIn K mainGlobals "enumerate" = some none) (z8 : W.nsIn K mainGlobals "repr" = some none) : Txt2 mg :=
  ⟨W.mg_none_of X G z1, W.mg_none_of X G z2, W.mg_none_of X G z3, W.mg_none_of X G z4, W.mg_none_of X G z5, W.mg_none_of X G z6, W.mg_none_of X G z7, W.mg_none_of X G z8⟩
theorem me {C : Addr} {x qual : Str} {st : Stmt} {f : Addr} {oc : Value} {od an : Option Addr} {osl : Array (Option Value)} {kV doc pm cdv ct : Value} (a : W.findIn K (.ref C) x = some (some (.ref f))) (i : W.isFn K (.ref f) = true)
    (l : K.lookup f = some ⟨oc, od, .func (W.fnOf x qual (defArgs st) (defBody st) (defScope st) .none kV doc pm an cdv ct), osl⟩) (c : W.codeIn K cdv qual = true) (k : W.keepIn K (.ref f) = true) : MeAt K C x qual st := ⟨f, _, a, i, fun_mk l c k⟩
theorem MeAt.own {C : Addr} {x qual : Str} {st : Stmt} {f : Addr} {fd : FuncData} (a : W.findIn K (.ref C) x = some (some (.ref f))) (i : W.isFn K (.ref f) = true) (F : Fun K x qual st f fd) : Own K C f x ∧ Meth K C x f := ⟨⟨a, i⟩, ⟨a, i, F.kp⟩⟩
theorem prop_ {C p g : Addr} {x qual : Str} {st : Stmt} {oc : Value} {od an : Option Addr} {osl : Array (Option Value)} {kV doc pm cdv ct : Value} {rest : List Value} (hb : ∀ (kV doc pm : Value) (an : Option Addr) (cdv ct : Value) (us : List Value), us.length = 1 → bindArgs (W.fnOf x qual (defArgs st) (defBody st) (defScope st) .none kV doc pm an cdv ct) ⟨us, []⟩ = pure ((["self"] : List Str).zip us))
    (a : W.findIn K (.ref C) x = some (some (.ref p))) (s : W.specialIn K (.ref p) "__get__" = some (some (.builtin "property.__get__")))
    (t : W.takesIn K (.ref p) = some true) (r : W.recIn K p "property" = some (.ref g :: rest))
    (l : K.lookup g = some ⟨oc, od, .func (W.fnOf x qual (defArgs st) (defBody st) (defScope st) .none kV doc pm an cdv ct), osl⟩) (c : W.codeIn K cdv qual = true) (k : W.keepIn K (.ref g) = true) :
    ∃ (p g : Addr) (gd : FuncData), PrAt K C x qual st p g gd := by
  have F := fun_mk (st := st) l c k
  exact ⟨p, g, _, ⟨⟨a, s, t, rest, r⟩, F, F.binds (ps := ["self"]) hb⟩⟩
theorem initR {C f : Addr} {oc : Value} {od an : Option Addr} {osl : Array (Option Value)} {kV doc pm cdv ct : Value} {Td t : Addr} {ot : Value} {odt : Option Addr} {slt : Array (Option Value)} {n : Nat} (a : W.findIn K (.ref C) "__init__" = some (some (.ref f))) (i : W.isFn K (.ref f) = true)
    (l : K.lookup f = some ⟨oc, od, .func (W.fnOf "__init__" "Ratio.__init__" (defArgs r_init) (defBody r_init) (defScope r_init) (.ref Td) kV doc pm an cdv ct), osl⟩) (c : W.codeIn K cdv "Ratio.__init__" = true) (k : W.keepIn K (.ref f) = true)
    (lt : K.lookup Td = some ⟨ot, odt, .seq #[.int 1 t] n, slt⟩) (mk : W.makesIn K C = true) (kc : W.keepIn K (.ref C) = true) : ∃ (f : Addr) (fd : FuncData), InitR K f fd ∧ Mk K C f :=
  ⟨f, _, ⟨⟨oc, od, .ref Td, kV, doc, pm, an, cdv, ct, osl, rfl, l, c, .inr ⟨by simp, Td, _, [.int 1 t], n, rfl, lt, rfl, .cons ⟨t, rfl⟩ .nil⟩, .inl rfl⟩, k⟩, ⟨mk, a, i, kc⟩⟩
theorem strKeys_of {es : Array DictEntry} (h : (es.toList.all fun e => match e.key with | .str _ _ => true | _ => false) = true) : StrKeys es := fun e he => by
  have z := List.all_eq_true.mp h e (Array.mem_toList_iff.2 he)
  cases ek : e.key with
  | str n t => exact ⟨n, t, rfl⟩
  | _ => rw [ek] at z; cases z
/-- the own __eq__, and no __ne__ -/
theorem eqs {C f N : Addr} {nm q : Str} {bs : List Value} {hd : Bool} {sn : List Str} {sub : List Value} {ab : Bool} {col : Option Bool} {dd : Option Addr} {k0 k1 k2 k3 k5 : Option Value} {ni : String} {od an od' : Option Addr} {osl sl : Array (Option Value)} {kV doc pm cdv ct oc' : Value} {es : Array DictEntry} {ep : Nat}
    (a : W.findIn K (.ref C) "__eq__" = some (some (.ref f))) (i : W.isFn K (.ref f) = true)
    (l : K.lookup f = some ⟨.type "function", od, .func (W.fnOf "__eq__" "Ratio.__eq__" (defArgs m_eq) (defBody m_eq) (defScope m_eq) .none kV doc pm an cdv ct), osl⟩) (c : W.codeIn K cdv "Ratio.__eq__" = true) (k : W.keepIn K (.ref f) = true)
    (cl : K.lookup C = some (excClassObj nm q C N bs [.type "object"] hd sn sub ab col dd k0 k1 k2 k3 k5 ni)) (nl : K.lookup N = some ⟨oc', od', .dict es ep, sl⟩) (sk : (es.toList.all fun e => match e.key with | .str _ _ => true | _ => false) = true)
    (n1 : nsFind es "__eq__" = some (.ref f)) (n2 : nsFind es "__ne__" = none) : ∃ (f : Addr) (fd : FuncData), W.findIn K (.ref C) "__eq__" = some (some (.ref f)) ∧ W.isFn K (.ref f) = true ∧ Fun K "__eq__" "Ratio.__eq__" m_eq f fd ∧ NeK K C f :=
  ⟨f, _, a, i, fun_mk l c k, ⟨nm, q, N, bs, hd, sn, sub, ab, col, dd, k0, k1, k2, k3, k5, ni, oc', od', es, ep, sl, _, _, cl, nl, strKeys_of sk, n1, n2, l, rfl, rfl, rfl⟩⟩
/-- a class method stands -/
theorem tot {C p g : Addr} {mc : Value} {oc : Value} {od an : Option Addr} {osl : Array (Option Value)} {kV doc pm cdv ct : Value} {rest : List Value} (a : W.findCls K (.ref C) mc "total" = some (.get (.builtin "classmethod.__get__") (.ref p) .none (.ref C))) (r : W.recIn K p "classmethod" = some (.ref g :: rest)) (fi : W.fnIn K g = true)
    (l : K.lookup g = some ⟨oc, od, .func (W.fnOf "total" "Ratio.total" (defArgs r_total) (defBody r_total) (defScope r_total) .none kV doc pm an cdv ct), osl⟩) (c : W.codeIn K cdv "Ratio.total" = true) (k : W.keepIn K (.ref g) = true) :
    ∃ (p g : Addr) (gd : FuncData), ClX.CMet K C mc "total" p g ∧ Fun K "total" "Ratio.total" r_total g gd := ⟨p, g, _, ⟨a, ⟨rest, r⟩, fi⟩, fun_mk l c k⟩
/-- int's own -/
def IntAt (K : W.Frag) (nm : String) : Prop := ∃ fo ro, W.findIn K (.type "int") (dunder nm) = some fo ∧ W.findIn K (.type "int") (dunderR nm) = some ro ∧ (fo.isSome && !isSeqSlot fo || ro.isSome && !isSeqSlot ro) = true
theorem int_ {nm : String} {x y : Str} {fo ro : Option Value} (e1 : dunder nm = x) (e2 : dunderR nm = y) (h1 : W.findIn K (.type "int") x = some fo) (h2 : W.findIn K (.type "int") y = some ro) (h3 : (fo.isSome && !isSeqSlot fo || ro.isSome && !isSeqSlot ro) = true) : IntAt K nm := ⟨fo, ro, by rw [e1]; exact h1, by rw [e2]; exact h2, h3⟩
theorem ownI_of {C f g : Addr} {nm : String} (hr : W.findIn K (.ref C) (dunderR nm) = some (some (.ref g))) (I : IntAt K nm) (si : W.subIn K (.type "int") (.ref C) = some false) : OwnI K C nm := by
  obtain ⟨fo, ro, h1, h2, _⟩ := I
  exact ⟨⟨_, hr, .inr ⟨g, rfl⟩⟩, ⟨fo, h1⟩, ⟨ro, h2⟩, si⟩
theorem ownR_of {C f g : Addr} {nm : String} (hl : W.findIn K (.ref C) (dunder nm) = some (some (.ref f))) (hr : W.findIn K (.ref C) (dunderR nm) = some (some (.ref g))) (fn : W.isFn K (.ref g) = true) (I : IntAt K nm) (sc : W.subIn K (.ref C) (.type "int") = some false) (sf : W.selfFirst K C = true) : OwnR K C g nm := by
  obtain ⟨fo, ro, h1, h2, h3⟩ := I
  exact ⟨⟨f, hl⟩, hr, fn, ⟨fo, ro, h1, h2, h3⟩, sc, sf⟩
theorem all_mk {l : W.OpenLaw} {w : World} {fa C : Addr} {mc : Value} (X : K.In h) (G : h.Ns mainGlobals mg) (hfa : mg "law" = some (.ref fa)) (T : Txt K mg C C) (T2 : Txt2 mg)
    (I : ∃ (f : Addr) (fd : FuncData), InitR K f fd ∧ Mk K C f)
    (Zrepr : MeAt K C "__repr__" "Ratio.__repr__" s_repr)
    (Zadd : MeAt K C "__add__" "Ratio.__add__" r_add)
    (Zradd : MeAt K C "__radd__" "Ratio.__radd__" m_radd)
    (Zsub : MeAt K C "__sub__" "Ratio.__sub__" r_sub)
    (Zrsub : MeAt K C "__rsub__" "Ratio.__rsub__" m_rsub)
    (Zmul : MeAt K C "__mul__" "Ratio.__mul__" r_mul)
    (Zrmul : MeAt K C "__rmul__" "Ratio.__rmul__" m_rmul)
    (Zneg : MeAt K C "__neg__" "Ratio.__neg__" r_neg)
    (Zover : MeAt K C "over" "Ratio.over" m_over)
    (Zsize : MeAt K C "size" "Ratio.size" m_size)
    (Zbelow : MeAt K C "is_below" "Ratio.is_below" m_below)
    (Zmost : MeAt K C "is_at_most" "Ratio.is_at_most" m_most)
    (Zstr : MeAt K C "__str__" "Ratio.__str__" m_str)
    (Ytop : ∃ (p g : Addr) (gd : FuncData), PrAt K C "top" "Ratio.top" r_top p g gd)
    (Ybot : ∃ (p g : Addr) (gd : FuncData), PrAt K C "bottom" "Ratio.bottom" r_bottom p g gd)
    (Ysign : ∃ (p g : Addr) (gd : FuncData), PrAt K C "sign" "Ratio.sign" m_sign p g gd)
    (Ywhole : ∃ (p g : Addr) (gd : FuncData), PrAt K C "is_whole" "Ratio.is_whole" m_whole p g gd)
    (EQ : ∃ (f : Addr) (fd : FuncData), W.findIn K (.ref C) "__eq__" = some (some (.ref f)) ∧ W.isFn K (.ref f) = true ∧ Fun K "__eq__" "Ratio.__eq__" m_eq f fd ∧ NeK K C f)
    (cr : ClX.CRead K C mc) (TT : ∃ (p g : Addr) (gd : FuncData), ClX.CMet K C mc "total" p g ∧ Fun K "total" "Ratio.total" r_total g gd)
    (i1 : IntAt K "add") (i2 : IntAt K "sub") (i3 : IntAt K "mul") (sf : W.selfFirst K C = true) (si : W.subIn K (.type "int") (.ref C) = some false) (sc : W.subIn K (.ref C) (.type "int") = some false)
    (d1 : Dn K "is_integer" s_is_integer)
    (d2 : Dn K "is_count" s_is_count)
    (d3 : Dn K "is_list" s_is_list)
    (d4 : Dn K "is_number" s_is_number)
    (d5 : Dn K "ratio_of" r_of)
    (e1 : Dn K "_law_pot" s_pot)
    (e2 : Dn K "_law_draw" s_draw)
    (e3 : Dn K "_law_pick" s_pick)
    (e4 : Dn K "_law_low" s_low)
    (e5 : Dn K "_law_sum" l_sum)
    (e6 : Dn K "_law_by" s_by)
    (e7 : Dn K "_law_less" l_less)
    (e8 : Dn K "_law_over" l_over)
    (e9 : Dn K "_law_total" l_total)
    (e10 : Dn K "_law_pair" l_pair)
    (e11 : Dn K "_law_pairs" l_pairs)
    (e12 : Dn K "_law_shown" l_shown)
    (e13 : Dn K "_law_raw" l_raw)
    (e14 : Dn K "_law_one_right" l_one)
    (e15 : Dn K "_law_two_right" l_two)
    (e16 : Dn K "_law_right" l_right)
    (ee : Dn K "law" s_law) :
    ∃ fd : FuncData, (∀ (s : Shared) (v : Value), BindsTo s fd ⟨[v], []⟩ [("_law_script", v)]) ∧ ∀ base : Heap, K.In base → base.Ns mainGlobals mg → FnG l.prog w K mg base L2.CX0 12 fa fd ["_law_script"] (spLaw K) := by
  obtain ⟨f_d1, fd_d1, Ad1⟩ := d1.at_ X G ["value"] fun _ _ _ _ _ _ us hl => match us, hl with | [_], _ => rfl
  obtain ⟨f_d2, fd_d2, Ad2⟩ := d2.at_ X G ["value"] fun _ _ _ _ _ _ us hl => match us, hl with | [_], _ => rfl
  obtain ⟨f_d3, fd_d3, Ad3⟩ := d3.at_ X G ["value"] fun _ _ _ _ _ _ us hl => match us, hl with | [_], _ => rfl
  obtain ⟨f_d4, fd_d4, Ad4⟩ := d4.at_ X G ["value"] fun _ _ _ _ _ _ us hl => match us, hl with | [_], _ => rfl
  obtain ⟨f_d5, fd_d5, Ad5⟩ := d5.at_ X G ["number"] fun _ _ _ _ _ _ us hl => match us, hl with | [_], _ => rfl
  obtain ⟨f_e1, fd_e1, Ae1⟩ := e1.at_ X G ["_law_script", "_law_k"] fun _ _ _ _ _ _ us hl => match us, hl with | [_, _], _ => rfl
  obtain ⟨f_e2, fd_e2, Ae2⟩ := e2.at_ X G ["_law_pot_here", "_law_room"] fun _ _ _ _ _ _ us hl => match us, hl with | [_, _], _ => rfl
  obtain ⟨f_e3, fd_e3, Ae3⟩ := e3.at_ X G ["_law_pot_here", "_law_some"] fun _ _ _ _ _ _ us hl => match us, hl with | [_, _], _ => rfl
  obtain ⟨f_e4, fd_e4, Ae4⟩ := e4.at_ X G ["_law_top", "_law_bottom"] fun _ _ _ _ _ _ us hl => match us, hl with | [_, _], _ => rfl
  obtain ⟨f_e5, fd_e5, Ae5⟩ := e5.at_ X G ["_law_one", "_law_other"] fun _ _ _ _ _ _ us hl => match us, hl with | [_, _], _ => rfl
  obtain ⟨f_e6, fd_e6, Ae6⟩ := e6.at_ X G ["_law_one", "_law_other"] fun _ _ _ _ _ _ us hl => match us, hl with | [_, _], _ => rfl
  obtain ⟨f_e7, fd_e7, Ae7⟩ := e7.at_ X G ["_law_one", "_law_other"] fun _ _ _ _ _ _ us hl => match us, hl with | [_, _], _ => rfl
  obtain ⟨f_e8, fd_e8, Ae8⟩ := e8.at_ X G ["_law_one", "_law_other"] fun _ _ _ _ _ _ us hl => match us, hl with | [_, _], _ => rfl
  obtain ⟨f_e9, fd_e9, Ae9⟩ := e9.at_ X G ["_law_pairs_here"] fun _ _ _ _ _ _ us hl => match us, hl with | [_], _ => rfl
  obtain ⟨f_e10, fd_e10, Ae10⟩ := e10.at_ X G ["_law_value"] fun _ _ _ _ _ _ us hl => match us, hl with | [_], _ => rfl
  obtain ⟨f_e11, fd_e11, Ae11⟩ := e11.at_ X G ["_law_value"] fun _ _ _ _ _ _ us hl => match us, hl with | [_], _ => rfl
  obtain ⟨f_e12, fd_e12, Ae12⟩ := e12.at_ X G ["_law_pair_here"] fun _ _ _ _ _ _ us hl => match us, hl with | [_], _ => rfl
  obtain ⟨f_e13, fd_e13, Ae13⟩ := e13.at_ X G ["_law_pot_here"] fun _ _ _ _ _ _ us hl => match us, hl with | [_], _ => rfl
  obtain ⟨f_e14, fd_e14, Ae14⟩ := e14.at_ X G ["_law_raw_here"] fun _ _ _ _ _ _ us hl => match us, hl with | [_], _ => rfl
  obtain ⟨f_e15, fd_e15, Ae15⟩ := e15.at_ X G ["_law_raw_here", "_law_other_raw", "_law_number"] fun _ _ _ _ _ _ us hl => match us, hl with | [_, _, _], _ => rfl
  obtain ⟨f_e16, fd_e16, Ae16⟩ := e16.at_ X G ["_law_pot_here"] fun _ _ _ _ _ _ us hl => match us, hl with | [_], _ => rfl
  obtain ⟨f_repr, fd_repr, at_repr, is_repr, Frepr⟩ := Zrepr
  have brepr := Frepr.binds (ps := ["self"]) fun _ _ _ _ _ _ us hl => match us, hl with | [_], _ => rfl
  obtain ⟨f_add, fd_add, at_add, is_add, Fadd⟩ := Zadd
  have badd := Fadd.binds (ps := ["self", "other"]) fun _ _ _ _ _ _ us hl => match us, hl with | [_, _], _ => rfl
  obtain ⟨f_radd, fd_radd, at_radd, is_radd, Fradd⟩ := Zradd
  have bradd := Fradd.binds (ps := ["self", "other"]) fun _ _ _ _ _ _ us hl => match us, hl with | [_, _], _ => rfl
  obtain ⟨f_sub, fd_sub, at_sub, is_sub, Fsub⟩ := Zsub
  have bsub := Fsub.binds (ps := ["self", "other"]) fun _ _ _ _ _ _ us hl => match us, hl with | [_, _], _ => rfl
  obtain ⟨f_rsub, fd_rsub, at_rsub, is_rsub, Frsub⟩ := Zrsub
  have brsub := Frsub.binds (ps := ["self", "other"]) fun _ _ _ _ _ _ us hl => match us, hl with | [_, _], _ => rfl
  obtain ⟨f_mul, fd_mul, at_mul, is_mul, Fmul⟩ := Zmul
  have bmul := Fmul.binds (ps := ["self", "other"]) fun _ _ _ _ _ _ us hl => match us, hl with | [_, _], _ => rfl
  obtain ⟨f_rmul, fd_rmul, at_rmul, is_rmul, Frmul⟩ := Zrmul
  have brmul := Frmul.binds (ps := ["self", "other"]) fun _ _ _ _ _ _ us hl => match us, hl with | [_, _], _ => rfl
  obtain ⟨f_neg, fd_neg, at_neg, is_neg, Fneg⟩ := Zneg
  have bneg := Fneg.binds (ps := ["self"]) fun _ _ _ _ _ _ us hl => match us, hl with | [_], _ => rfl
  obtain ⟨f_over, fd_over, at_over, is_over, Fover⟩ := Zover
  have bover := Fover.binds (ps := ["self", "other"]) fun _ _ _ _ _ _ us hl => match us, hl with | [_, _], _ => rfl
  obtain ⟨f_size, fd_size, at_size, is_size, Fsize⟩ := Zsize
  have bsize := Fsize.binds (ps := ["self"]) fun _ _ _ _ _ _ us hl => match us, hl with | [_], _ => rfl
  obtain ⟨f_below, fd_below, at_below, is_below, Fbelow⟩ := Zbelow
  have bbelow := Fbelow.binds (ps := ["self", "other"]) fun _ _ _ _ _ _ us hl => match us, hl with | [_, _], _ => rfl
  obtain ⟨f_most, fd_most, at_most, is_most, Fmost⟩ := Zmost
  have bmost := Fmost.binds (ps := ["self", "other"]) fun _ _ _ _ _ _ us hl => match us, hl with | [_, _], _ => rfl
  obtain ⟨f_str, fd_str, at_str, is_str, Fstr⟩ := Zstr
  have bstr := Fstr.binds (ps := ["self"]) fun _ _ _ _ _ _ us hl => match us, hl with | [_], _ => rfl
  obtain ⟨p_top, g_top, gd_top, PRtop⟩ := Ytop
  obtain ⟨p_bot, g_bot, gd_bot, PRbot⟩ := Ybot
  obtain ⟨p_sign, g_sign, gd_sign, PRsign⟩ := Ysign
  obtain ⟨p_whole, g_whole, gd_whole, PRwhole⟩ := Ywhole
  obtain ⟨f_eq, fd_eq, at_eq, is_eq, Feq, NEk⟩ := EQ
  have beq := Feq.binds (ps := ["self", "other"]) fun _ _ _ _ _ _ us hl => match us, hl with | [_, _], _ => rfl
  obtain ⟨p_tot, g_tot, gd_tot, cm, Ftot⟩ := TT
  have btot := Ftot.binds (ps := ["cls", "numbers"]) fun _ _ _ _ _ _ us hl => match us, hl with | [_, _], _ => rfl
  have ktot := one_kw Ftot (p := "cls") (o := "numbers") fun kV doc pm an cdv ct a b => rfl
  obtain ⟨g8, gd8, n8, F8⟩ := ee
  obtain ⟨fi, fid, FI, MI⟩ := I
  obtain ⟨ds, vd, bd⟩ := initR_all FI
  have e := hfa.symm.trans (W.mg_of X G n8)
  cases e
  refine ⟨gd8, ?_, fun base _ _ => ?_⟩
  · obtain ⟨oc, od, kV, doc, pm, an, cdv, ct, osl, rfl, lk, hcd⟩ := F8.ex
    exact fun s v => .of_eq rfl
  have Nisi := ok_is_integer (P := l.prog) (w := w) (base := base) Ad1 T
  have Nisc := ok_is_count (P := l.prog) (w := w) (base := base) Ad2 T Ad1
  have Nisn := ok_is_number (P := l.prog) (w := w) (base := base) Ad4 T Ad1
  have Nm := ok_mk (P := l.prog) (w := w) (base := base) FI T Ad1
  have Nof := ok_of (P := l.prog) (w := w) (base := base) Ad5 T Ad1 FI MI
  have O : Ops l.prog w K mg base C := ⟨⟨_, _, Ad5, Nof⟩, ⟨_, _, ds, MI, Nm, vd, bd⟩, ⟨_, _, _, PRtop⟩, ⟨_, _, _, PRbot⟩⟩
  have Add : OpAt l.prog w K mg base C "__add__" ["self", "other"] (spOp2 C (· + ·)) := ⟨_, _, ⟨at_add, is_add⟩, ok_add Fadd T O, badd⟩
  have Mul : OpAt l.prog w K mg base C "__mul__" ["self", "other"] (spOp2 C (· * ·)) := ⟨_, _, ⟨at_mul, is_mul⟩, ok_mul Fmul T O, bmul⟩
  have Nneg := ok_neg Fneg T O
  have Neg : OpAt l.prog w K mg base C "__neg__" ["self"] (spOp1 C fun p => -p) := ⟨_, _, ⟨at_neg, is_neg⟩, Nneg, bneg⟩
  have Nsub := ok_sub Fsub T O sf Add Neg
  have Nradd := ok_radd Fradd O sf Add
  have Nrsub := ok_rsub Frsub O sf ⟨at_sub, is_sub⟩ Nsub bsub
  have Nrmul := ok_rmul Frmul O sf Mul
  have OIa : OwnI K C "add" := ownI_of (f := fi) at_radd i1 si
  have OIs : OwnI K C "sub" := ownI_of (f := fi) at_rsub i2 si
  have OIm : OwnI K C "mul" := ownI_of (f := fi) at_rmul i3 si
  have ORa : OwnR K C f_radd "add" := ownR_of at_add at_radd is_radd i1 sc sf
  have ORs : OwnR K C f_rsub "sub" := ownR_of at_sub at_rsub is_rsub i2 sc sf
  have ORm : OwnR K C f_rmul "mul" := ownR_of at_mul at_rmul is_rmul i3 sc sf
  have OA : OpAll l.prog w K mg base C "add" 5 6 (· + ·) := ⟨⟨_, _, ⟨at_add, is_add⟩, ok_add Fadd T O, badd⟩, OIa, ⟨_, _, ORa, Nradd, bradd⟩⟩
  have OS : OpAll l.prog w K mg base C "sub" 6 7 (· - ·) := ⟨⟨_, _, ⟨at_sub, is_sub⟩, Nsub, bsub⟩, OIs, ⟨_, _, ORs, Nrsub, brsub⟩⟩
  have OM : OpAll l.prog w K mg base C "mul" 5 6 (· * ·) := ⟨⟨_, _, ⟨at_mul, is_mul⟩, ok_mul Fmul T O, bmul⟩, OIm, ⟨_, _, ORm, Nrmul, brmul⟩⟩
  have Nover := ok_over Fover T O PRsign
  have Nsize := ok_size Fsize T T2.abs_ O
  have Nbelow := ok_below Fbelow T O
  have Nmost := ok_most Fmost T O
  have Nstr := ok_str (P := l.prog) (w := w) (base := base) Fstr T T2.str_
  have Neq := ok_eq (P := l.prog) (w := w) (mg := mg) (base := base) Feq T
  have Ntot := ok_total Ftot T Ad3 FI MI ⟨_, _, Ad1⟩ sf OIa Add
  have Np := ok_pot (P := l.prog) (w := w) (base := base) Ae1 T T2
  have Nd := ok_draw (P := l.prog) (w := w) (base := base) Ae2 T T2
  have Nk := ok_pick Ae3 T Ae2 Nd
  have Nl := ok_low (P := l.prog) (w := w) (base := base) Ae4 T T2
  have Nsu := ok_lsum Ae5 Ae4 Nl
  have Nby := ok_by' Ae6 T Ae4 Nl
  have Nle := ok_lless Ae7 Ae5 Nsu
  have Nov := ok_lover Ae8 Ae4 Nl
  have Nlt := ok_ltotal Ae9 Ae5 Nsu
  have Npa := ok_lpair Ae10 T O
  have Nps := ok_lpairs Ae11 T Ae10 Npa
  have Nsh := ok_lshown (P := l.prog) (w := w) (base := base) Ae12 T2.str_
  have Nra := ok_raw Ae13 T Ae2 Nd Ae3 Nk
  have RR : RatR l.prog w K mg base C 1 := ⟨f_repr, fd_repr, at_repr, is_repr, ok_repr Frepr T, brepr⟩
  have None_ := ok_one Ae14 T T2 Ae4 Nl Ae10 Npa Ae12 Nsh FI MI Ad1 ⟨at_str, is_str⟩ Nstr bstr PRsign PRwhole ⟨at_size, is_size, Fsize.kp⟩ Nsize bsize ⟨at_neg, is_neg⟩ Nneg bneg ORs Nrsub brsub Ad4 Nisn Ad2 Nisc RR
  have Ntwo := ok_two Ae15 T Ae4 Nl Ae10 Npa Ae11 Nps Ae5 Nsu Ae7 Nle Ae6 Nby Ae8 Nov FI MI Nm sf OA OS OM ⟨at_over, is_over, Fover.kp⟩ Fover Nover bover ⟨at_below, is_below, Fbelow.kp⟩ Nbelow bbelow ⟨at_most, is_most, Fmost.kp⟩ Nmost bmost ⟨at_eq, is_eq⟩ Neq beq NEk si sc
  exact ok_law F8 T Ae1 Np Ae16 (ok_right Ae16 T T2 Ae2 Nd Ae3 Nk Ae13 Nra Ae14 None_ Ae15 Ntwo Ae4 Nl Ae11 Nps Ae9 Nlt FI MI Nm cr cm Ntot btot ktot Ad4 Nisn Ad1 Nisi Ad2 Nisc)
end
theorem walk {l : W.OpenLaw} {q : Program} {loose : List Str} {XP : (Str → Option Value) → Heap → Prop} {YP : World → Heap → Prop} {d : DefRec} {K : Params → W.Frag} (hn : l.most = some 63) (hdf : d.params.defaults = [])
    (hY : ∀ (w : World) (h : Heap), YP w h → (K w.params).In h)
    (F : ∀ (w : World) (mg : Str → Option Value) (fa : Addr) (h : Heap), (K w.params).In h → h.Ns mainGlobals mg → mg d.name = some (.ref fa) →
      ∃ fd : FuncData, (∀ (s : Shared) (u : Value), BindsTo s fd ⟨[u], []⟩ [("_law_script", u)]) ∧ ∀ base : Heap, (K w.params).In base → base.Ns mainGlobals mg → FnG l.prog w (K w.params) mg base L2.CX0 12 fa fd ["_law_script"] (spLaw (K w.params))) :
    W.WalkO q loose XP YP l.row.toRowW d [] (fun f vs => PySem.call f vs) :=
  walkG (n := 63) (k := 12) (x := "_law_script") (sp := spLaw) hn (by decide) hdf ⟨rfl, by decide, by decide⟩ hY F fun K H a ns hl _ hS => ⟨a, ns, rfl, hS, Nat.le_trans hl (by decide), fun _ => rfl⟩
end KT

set_option Elab.async false
set_option linter.all false
open PySem PySem.W PyProof.Rows
set_option maxRecDepth 100000 in
set_option maxHeartbeats 0 in
theorem PySem.Challenge.cw_tracewords_k11_ratios_reckoned_holds : PySem.Challenge.rw_tracewords_k11_ratios_reckoned.Holds := by
  w_on; o_law; k_head; (case hw => w_witness2)
  k_fill
  refine KT.walk (l := PySem.Challenge.rw_tracewords_k11_ratios_reckoned) rfl rfl (fun w h Y => PySem.W.kIn_of Y) ?F
  case F =>
    intro w mg fa h KX G hmg
    refine' KT.all_mk (mc := .type "type") KX G hmg (KT.tx KX G ?q_aC ?q_z1 ?q_z2 ?q_z3 ?q_z4 ?q_z5 ?q_z6 ?q_z7 ?q_g1 ?q_pg ?q_hd ?q_po ?q_sa ?q_n1 ?q_n2 ?q_atC ?q_cg ?q_ct ?q_moC ?q_k1 ?q_k2 ?q_k3 ?q_k4 ?q_k5 ?q_k6 ?q_k7 ?q_k8 ?q_k9 ?q_k10 ?q_k11 ?q_k12) (KT.tx2 KX G ?q_y1 ?q_y2 ?q_y3 ?q_y4 ?q_y5 ?q_y6 ?q_y7 ?q_y8) (KT.initR ?q_ia ?q_ii ?q_il ?q_ic ?q_ik ?q_it ?q_im ?q_ikc) (KT.me ?q_mrepra ?q_mrepri ?q_mreprl ?q_mreprc ?q_mreprk) (KT.me ?q_madda ?q_maddi ?q_maddl ?q_maddc ?q_maddk) (KT.me ?q_mradda ?q_mraddi ?q_mraddl ?q_mraddc ?q_mraddk) (KT.me ?q_msuba ?q_msubi ?q_msubl ?q_msubc ?q_msubk) (KT.me ?q_mrsuba ?q_mrsubi ?q_mrsubl ?q_mrsubc ?q_mrsubk) (KT.me ?q_mmula ?q_mmuli ?q_mmull ?q_mmulc ?q_mmulk) (KT.me ?q_mrmula ?q_mrmuli ?q_mrmull ?q_mrmulc ?q_mrmulk) (KT.me ?q_mnega ?q_mnegi ?q_mnegl ?q_mnegc ?q_mnegk) (KT.me ?q_movera ?q_moveri ?q_moverl ?q_moverc ?q_moverk) (KT.me ?q_msizea ?q_msizei ?q_msizel ?q_msizec ?q_msizek) (KT.me ?q_mbelowa ?q_mbelowi ?q_mbelowl ?q_mbelowc ?q_mbelowk) (KT.me ?q_mmosta ?q_mmosti ?q_mmostl ?q_mmostc ?q_mmostk) (KT.me ?q_mstra ?q_mstri ?q_mstrl ?q_mstrc ?q_mstrk) (KT.prop_ (fun _ _ _ _ _ _ us hl => match us, hl with | [_], _ => rfl) ?q_ptopa ?q_ptops ?q_ptopt ?q_ptopr ?q_ptopl ?q_ptopc ?q_ptopk) (KT.prop_ (fun _ _ _ _ _ _ us hl => match us, hl with | [_], _ => rfl) ?q_pbota ?q_pbots ?q_pbott ?q_pbotr ?q_pbotl ?q_pbotc ?q_pbotk) (KT.prop_ (fun _ _ _ _ _ _ us hl => match us, hl with | [_], _ => rfl) ?q_psigna ?q_psigns ?q_psignt ?q_psignr ?q_psignl ?q_psignc ?q_psignk) (KT.prop_ (fun _ _ _ _ _ _ us hl => match us, hl with | [_], _ => rfl) ?q_pwholea ?q_pwholes ?q_pwholet ?q_pwholer ?q_pwholel ?q_pwholec ?q_pwholek) (KT.eqs ?q_eqa ?q_eqi ?q_eql ?q_eqc ?q_eqk ?q_eqcl ?q_eqnl ?q_eqsk ?q_eqn1 ?q_eqn2) ⟨?q_crr, ?q_crg⟩ (KT.tot ?q_ta ?q_tr ?q_tf ?q_tl ?q_tc ?q_tk) (KT.int_ (x := "__add__") (y := "__radd__") rfl rfl ?q_iadd1 ?q_iadd2 ?q_iadd3) (KT.int_ (x := "__sub__") (y := "__rsub__") rfl rfl ?q_isub1 ?q_isub2 ?q_isub3) (KT.int_ (x := "__mul__") (y := "__rmul__") rfl rfl ?q_imul1 ?q_imul2 ?q_imul3) ?q_sf ?q_si ?q_sc (KT.dn ?q_d1n ?q_d1l ?q_d1c ?q_d1k) (KT.dn ?q_d2n ?q_d2l ?q_d2c ?q_d2k) (KT.dn ?q_d3n ?q_d3l ?q_d3c ?q_d3k) (KT.dn ?q_d4n ?q_d4l ?q_d4c ?q_d4k) (KT.dn ?q_d5n ?q_d5l ?q_d5c ?q_d5k) (KT.dn ?q_e1n ?q_e1l ?q_e1c ?q_e1k) (KT.dn ?q_e2n ?q_e2l ?q_e2c ?q_e2k) (KT.dn ?q_e3n ?q_e3l ?q_e3c ?q_e3k) (KT.dn ?q_e4n ?q_e4l ?q_e4c ?q_e4k) (KT.dn ?q_e5n ?q_e5l ?q_e5c ?q_e5k) (KT.dn ?q_e6n ?q_e6l ?q_e6c ?q_e6k) (KT.dn ?q_e7n ?q_e7l ?q_e7c ?q_e7k) (KT.dn ?q_e8n ?q_e8l ?q_e8c ?q_e8k) (KT.dn ?q_e9n ?q_e9l ?q_e9c ?q_e9k) (KT.dn ?q_e10n ?q_e10l ?q_e10c ?q_e10k) (KT.dn ?q_e11n ?q_e11l ?q_e11c ?q_e11k) (KT.dn ?q_e12n ?q_e12l ?q_e12c ?q_e12k) (KT.dn ?q_e13n ?q_e13l ?q_e13c ?q_e13k) (KT.dn ?q_e14n ?q_e14l ?q_e14c ?q_e14k) (KT.dn ?q_e15n ?q_e15l ?q_e15c ?q_e15k) (KT.dn ?q_e16n ?q_e16l ?q_e16c ?q_e16k) (KT.dn ?q_een ?q_eel ?q_eec ?q_eek)
    (case q_aC => first | k_is | kit_is)
    (case q_z1 => first | k_is | kit_is)
    (case q_z2 => first | k_is | kit_is)
    (case q_z3 => first | k_is | kit_is)
    (case q_z4 => first | k_is | kit_is)
    (case q_z5 => first | k_is | kit_is)
    (case q_z6 => first | k_is | kit_is)
    (case q_z7 => first | k_is | kit_is)
    (case q_g1 => first | k_is | kit_is)
    (case q_pg => first | k_is | kit_is)
    (case q_hd => first | k_is | kit_is)
    (case q_po => first | k_is | kit_is)
    (case q_sa => first | k_is | kit_is)
    (case q_n1 => first | k_is | kit_is)
    (case q_n2 => first | k_is | kit_is)
    (case q_atC => first | k_is | kit_is)
    (case q_cg => first | k_is | kit_is)
    (case q_ct => first | k_is | kit_is)
    (case q_moC => first | k_is | kit_is)
    (case q_k1 => first | k_is | kit_is)
    (case q_k2 => first | k_is | kit_is)
    (case q_k3 => first | k_is | kit_is)
    (case q_k4 => first | k_is | kit_is)
    (case q_k5 => first | k_is | kit_is)
    (case q_k6 => first | k_is | kit_is)
    (case q_k7 => first | k_is | kit_is)
    (case q_k8 => first | k_is | kit_is)
    (case q_k9 => first | k_is | kit_is)
    (case q_k10 => first | k_is | kit_is)
    (case q_k11 => first | k_is | kit_is)
    (case q_k12 => first | k_is | kit_is)
    (case q_y1 => first | k_is | kit_is)
    (case q_y2 => first | k_is | kit_is)
    (case q_y3 => first | k_is | kit_is)
    (case q_y4 => first | k_is | kit_is)
    (case q_y5 => first | k_is | kit_is)
    (case q_y6 => first | k_is | kit_is)
    (case q_y7 => first | k_is | kit_is)
    (case q_y8 => first | k_is | kit_is)
    (case q_ia => first | k_is | kit_is)
    (case q_ii => first | k_is | kit_is)
    (case q_il => first | k_is | kit_is)
    (case q_ic => first | k_is | kit_is)
    (case q_ik => first | k_is | kit_is)
    (case q_it => first | k_is | kit_is)
    (case q_im => first | k_is | kit_is)
    (case q_ikc => first | k_is | kit_is)
    (case q_mrepra => first | k_is | kit_is)
    (case q_mrepri => first | k_is | kit_is)
    (case q_mreprl => first | k_is | kit_is)
    (case q_mreprc => first | k_is | kit_is)
    (case q_mreprk => first | k_is | kit_is)
    (case q_madda => first | k_is | kit_is)
    (case q_maddi => first | k_is | kit_is)
    (case q_maddl => first | k_is | kit_is)
    (case q_maddc => first | k_is | kit_is)
    (case q_maddk => first | k_is | kit_is)
    (case q_mradda => first | k_is | kit_is)
    (case q_mraddi => first | k_is | kit_is)
    (case q_mraddl => first | k_is | kit_is)
    (case q_mraddc => first | k_is | kit_is)
    (case q_mraddk => first | k_is | kit_is)
    (case q_msuba => first | k_is | kit_is)
    (case q_msubi => first | k_is | kit_is)
    (case q_msubl => first | k_is | kit_is)
    (case q_msubc => first | k_is | kit_is)
    (case q_msubk => first | k_is | kit_is)
    (case q_mrsuba => first | k_is | kit_is)
    (case q_mrsubi => first | k_is | kit_is)
    (case q_mrsubl => first | k_is | kit_is)
    (case q_mrsubc => first | k_is | kit_is)
    (case q_mrsubk => first | k_is | kit_is)
    (case q_mmula => first | k_is | kit_is)
    (case q_mmuli => first | k_is | kit_is)
    (case q_mmull => first | k_is | kit_is)
    (case q_mmulc => first | k_is | kit_is)
    (case q_mmulk => first | k_is | kit_is)
    (case q_mrmula => first | k_is | kit_is)
    (case q_mrmuli => first | k_is | kit_is)
    (case q_mrmull => first | k_is | kit_is)
    (case q_mrmulc => first | k_is | kit_is)
    (case q_mrmulk => first | k_is | kit_is)
    (case q_mnega => first | k_is | kit_is)
    (case q_mnegi => first | k_is | kit_is)
    (case q_mnegl => first | k_is | kit_is)
    (case q_mnegc => first | k_is | kit_is)
    (case q_mnegk => first | k_is | kit_is)
    (case q_movera => first | k_is | kit_is)
    (case q_moveri => first | k_is | kit_is)
    (case q_moverl => first | k_is | kit_is)
    (case q_moverc => first | k_is | kit_is)
    (case q_moverk => first | k_is | kit_is)
    (case q_msizea => first | k_is | kit_is)
    (case q_msizei => first | k_is | kit_is)
    (case q_msizel => first | k_is | kit_is)
    (case q_msizec => first | k_is | kit_is)
    (case q_msizek => first | k_is | kit_is)
    (case q_mbelowa => first | k_is | kit_is)
    (case q_mbelowi => first | k_is | kit_is)
    (case q_mbelowl => first | k_is | kit_is)
    (case q_mbelowc => first | k_is | kit_is)
    (case q_mbelowk => first | k_is | kit_is)
    (case q_mmosta => first | k_is | kit_is)
    (case q_mmosti => first | k_is | kit_is)
    (case q_mmostl => first | k_is | kit_is)
    (case q_mmostc => first | k_is | kit_is)
    (case q_mmostk => first | k_is | kit_is)
    (case q_mstra => first | k_is | kit_is)
    (case q_mstri => first | k_is | kit_is)
    (case q_mstrl => first | k_is | kit_is)
    (case q_mstrc => first | k_is | kit_is)
    (case q_mstrk => first | k_is | kit_is)
    (case q_ptopa => first | k_is | kit_is)
    (case q_ptops => first | k_is | kit_is)
    (case q_ptopt => first | k_is | kit_is)
    (case q_ptopr => first | k_is | kit_is)
    (case q_ptopl => first | k_is | kit_is)
    (case q_ptopc => first | k_is | kit_is)
    (case q_ptopk => first | k_is | kit_is)
    (case q_pbota => first | k_is | kit_is)
    (case q_pbots => first | k_is | kit_is)
    (case q_pbott => first | k_is | kit_is)
    (case q_pbotr => first | k_is | kit_is)
    (case q_pbotl => first | k_is | kit_is)
    (case q_pbotc => first | k_is | kit_is)
    (case q_pbotk => first | k_is | kit_is)
    (case q_psigna => first | k_is | kit_is)
    (case q_psigns => first | k_is | kit_is)
    (case q_psignt => first | k_is | kit_is)
    (case q_psignr => first | k_is | kit_is)
    (case q_psignl => first | k_is | kit_is)
    (case q_psignc => first | k_is | kit_is)
    (case q_psignk => first | k_is | kit_is)
    (case q_pwholea => first | k_is | kit_is)
    (case q_pwholes => first | k_is | kit_is)
    (case q_pwholet => first | k_is | kit_is)
    (case q_pwholer => first | k_is | kit_is)
    (case q_pwholel => first | k_is | kit_is)
    (case q_pwholec => first | k_is | kit_is)
    (case q_pwholek => first | k_is | kit_is)
    (case q_eqa => first | k_is | kit_is)
    (case q_eqi => first | k_is | kit_is)
    (case q_eql => first | k_is | kit_is)
    (case q_eqc => first | k_is | kit_is)
    (case q_eqk => first | k_is | kit_is)
    (case q_eqcl => first | k_is | kit_is)
    (case q_eqnl => first | k_is | kit_is)
    (case q_eqsk => first | k_is | kit_is | rfl | decide +kernel)
    (case q_eqn1 => first | k_is | kit_is | rfl | decide +kernel)
    (case q_eqn2 => first | k_is | kit_is | rfl | decide +kernel)
    (case q_crr => first | k_is | kit_is)
    (case q_crg => first | k_is | kit_is)
    (case q_ta => first | k_is | kit_is)
    (case q_tr => first | k_is | kit_is)
    (case q_tf => first | k_is | kit_is)
    (case q_tl => first | k_is | kit_is)
    (case q_tc => first | k_is | kit_is)
    (case q_tk => first | k_is | kit_is)
    (case q_iadd1 => first | k_is | kit_is)
    (case q_iadd2 => first | k_is | kit_is)
    (case q_iadd3 => first | k_is | kit_is | rfl | decide +kernel)
    (case q_isub1 => first | k_is | kit_is)
    (case q_isub2 => first | k_is | kit_is)
    (case q_isub3 => first | k_is | kit_is | rfl | decide +kernel)
    (case q_imul1 => first | k_is | kit_is)
    (case q_imul2 => first | k_is | kit_is)
    (case q_imul3 => first | k_is | kit_is | rfl | decide +kernel)
    (case q_sf => first | k_is | kit_is)
    (case q_si => first | k_is | kit_is)
    (case q_sc => first | k_is | kit_is)
    (case q_d1n => first | k_is | kit_is)
    (case q_d1l => first | k_is | kit_is)
    (case q_d1c => first | k_is | kit_is)
    (case q_d1k => first | k_is | kit_is)
    (case q_d2n => first | k_is | kit_is)
    (case q_d2l => first | k_is | kit_is)
    (case q_d2c => first | k_is | kit_is)
    (case q_d2k => first | k_is | kit_is)
    (case q_d3n => first | k_is | kit_is)
    (case q_d3l => first | k_is | kit_is)
    (case q_d3c => first | k_is | kit_is)
    (case q_d3k => first | k_is | kit_is)
    (case q_d4n => first | k_is | kit_is)
    (case q_d4l => first | k_is | kit_is)
    (case q_d4c => first | k_is | kit_is)
    (case q_d4k => first | k_is | kit_is)
    (case q_d5n => first | k_is | kit_is)
    (case q_d5l => first | k_is | kit_is)
    (case q_d5c => first | k_is | kit_is)
    (case q_d5k => first | k_is | kit_is)
    (case q_e1n => first | k_is | kit_is)
    (case q_e1l => first | k_is | kit_is)
    (case q_e1c => first | k_is | kit_is)
    (case q_e1k => first | k_is | kit_is)
    (case q_e2n => first | k_is | kit_is)
    (case q_e2l => first | k_is | kit_is)
    (case q_e2c => first | k_is | kit_is)
    (case q_e2k => first | k_is | kit_is)
    (case q_e3n => first | k_is | kit_is)
    (case q_e3l => first | k_is | kit_is)
    (case q_e3c => first | k_is | kit_is)
    (case q_e3k => first | k_is | kit_is)
    (case q_e4n => first | k_is | kit_is)
    (case q_e4l => first | k_is | kit_is)
    (case q_e4c => first | k_is | kit_is)
    (case q_e4k => first | k_is | kit_is)
    (case q_e5n => first | k_is | kit_is)
    (case q_e5l => first | k_is | kit_is)
    (case q_e5c => first | k_is | kit_is)
    (case q_e5k => first | k_is | kit_is)
    (case q_e6n => first | k_is | kit_is)
    (case q_e6l => first | k_is | kit_is)
    (case q_e6c => first | k_is | kit_is)
    (case q_e6k => first | k_is | kit_is)
    (case q_e7n => first | k_is | kit_is)
    (case q_e7l => first | k_is | kit_is)
    (case q_e7c => first | k_is | kit_is)
    (case q_e7k => first | k_is | kit_is)
    (case q_e8n => first | k_is | kit_is)
    (case q_e8l => first | k_is | kit_is)
    (case q_e8c => first | k_is | kit_is)
    (case q_e8k => first | k_is | kit_is)
    (case q_e9n => first | k_is | kit_is)
    (case q_e9l => first | k_is | kit_is)
    (case q_e9c => first | k_is | kit_is)
    (case q_e9k => first | k_is | kit_is)
    (case q_e10n => first | k_is | kit_is)
    (case q_e10l => first | k_is | kit_is)
    (case q_e10c => first | k_is | kit_is)
    (case q_e10k => first | k_is | kit_is)
    (case q_e11n => first | k_is | kit_is)
    (case q_e11l => first | k_is | kit_is)
    (case q_e11c => first | k_is | kit_is)
    (case q_e11k => first | k_is | kit_is)
    (case q_e12n => first | k_is | kit_is)
    (case q_e12l => first | k_is | kit_is)
    (case q_e12c => first | k_is | kit_is)
    (case q_e12k => first | k_is | kit_is)
    (case q_e13n => first | k_is | kit_is)
    (case q_e13l => first | k_is | kit_is)
    (case q_e13c => first | k_is | kit_is)
    (case q_e13k => first | k_is | kit_is)
    (case q_e14n => first | k_is | kit_is)
    (case q_e14l => first | k_is | kit_is)
    (case q_e14c => first | k_is | kit_is)
    (case q_e14k => first | k_is | kit_is)
    (case q_e15n => first | k_is | kit_is)
    (case q_e15l => first | k_is | kit_is)
    (case q_e15c => first | k_is | kit_is)
    (case q_e15k => first | k_is | kit_is)
    (case q_e16n => first | k_is | kit_is)
    (case q_e16l => first | k_is | kit_is)
    (case q_e16c => first | k_is | kit_is)
    (case q_e16k => first | k_is | kit_is)
    (case q_een => first | k_is | kit_is)
    (case q_eel => first | k_is | kit_is)
    (case q_eec => first | k_is | kit_is)
    (case q_eek => first | k_is | kit_is)
#print axioms PySem.Challenge.cw_tracewords_k11_ratios_reckoned_holds
