import PyProof.Rows.All
import Wide.All
import OpenK.AllK
import Wide.FinOn
import HandS.ForMost
import HandS.Strs
import HandS.IsInst
import PySem.Challenge.RW_whensure_k13_views_written
set_option Elab.async false
set_option linter.all false
set_option maxRecDepth 100000
namespace Vs
open PySem PySem.Spec PyProof.Rows L2

theorem posJ {j : Int} (h : decide (0 < j) = true) : 0 < j := of_decide_eq_true h
/-! ### heaps -/
theorem same_upd {H : Hp} {p : Addr} {o : HO} (h : H p = none) : Same H (upd H p o) := fun b x e => by
  rw [upd_ne (ne_of_none e h)]
  exact e
theorem sTup {K : PySem.W.Frag} {H H' : Hp} {a : Addr} {xs : List V} (e : Same H H') (h : SqT K H a xs) : SqT K H' a xs := by
  rcases h with (h | ⟨o, h⟩) | h
  · exact .inl (.inl (e _ _ h))
  · exact .inl (.inr ⟨o, e _ _ h⟩)
  · exact .inr h
/-- all that was tracked is as it was, but for what stands at o -/
def But (o : Addr) (H H' : Hp) : Prop := ∀ b u, b ≠ o → H b = some u → H' b = some u
theorem But.refl (o : Addr) (H : Hp) : But o H H := fun _ _ _ h => h
theorem But.trans {o : Addr} {H H1 H2 : Hp} (a : But o H H1) (b : But o H1 H2) : But o H H2 := fun c u n h => b c u n (a c u n h)
theorem But.of {o : Addr} {H H' : Hp} (a : Same H H') : But o H H' := fun c u _ h => a c u h
theorem But.set {o : Addr} {H : Hp} {u : HO} : But o H (upd H o u) := fun c u' n h => by rw [upd_ne n]; exact h

/-! ### xs.extend(t), t a tuple -/
theorem ext_tup (l : Addr) (items : Array Value) (n : Nat) (b : Addr) (ob : Obj) (items2 : Array Value) (n2 : Nat) (hs0 : ¬(!items.isEmpty && Builtin.List.listTooLong (items.size + items2.size)) = true) (hs1 : items.size ≤ sizeLine) (hs2 : items.size + items2.size ≤ sizeLine + 1) (hcl : ob.cls = .type "tuple") (hda : ob.data = .seq items2 n2) :
    Meets (Builtin.«list.extend» ⟨[.ref l, .ref b], []⟩) (fun _ R s => s.heap.get? l = some { cls := .type "list", dict := none, data := .seq items n, slots := #[] } ∧ s.heap.get? b = some ob ∧ R (.ok (.ret Value.none)) { s with heap := s.heap.update l (Obj.mapSeq fun x => x ++ items2), toks := s.toks }) := by
  obtain ⟨oc, od, oda, osl⟩ := ob
  cases hcl
  cases hda
  refine .of_wp fun prog w A R s h => ?_
  obtain ⟨hp, g, d, tk, os⟩ := s
  obtain ⟨hl, hb, h⟩ := h
  have f1 := AutoSeq1.idx_int; have f2 := AutoSeq1.sub_tuple_tuple; have f3 := AutoSeq1.sub_list_list; have f4 := AutoSeq1.sub_tuple_list; have f5 := AutoSeq1.sub_list_tuple
  have hz' : (items ++ items2).size ≤ sizeLine + 1 := by rw [Array.size_append]; exact hs2
  wp_walk using (wpAny_updateSeq hl rfl (hz := hs1) (_hz' := hz')), AutoSeq1.wpAny_loadPart' hl, AutoSeq1.wpAny_loadPart' hb
  exact ⟨_, rfl, h⟩
def rExtT (K : PySem.W.Frag) : V → List V → Hp → VK → Prop := fun x vs H Q => ∃ l b xs zs, x = .ref l ∧ vs = [.ref b] ∧ H l = some (.lst xs) ∧ SqT K H b zs ∧ xs.length + zs.length ≤ sizeLine ∧ Q .non (upd H l (.lst (xs ++ zs)))
theorem mt_extendT {X : Cx} : MtR X "list.extend" (rExtT X.K) := by
  intro pins s σ H x vs v us Q I rx rv h
  obtain ⟨l, b, xs, zs, rfl, rfl, hH, hB, hz, q⟩ := h
  cases rx
  obtain ⟨u, rfl, ru⟩ := rv.one
  cases ru
  obtain ⟨z, its, n, r, hl, e⟩ := I.lstM hH
  obtain ⟨its2, r2, ⟨ob, e2, hcl, n2, hda⟩, hl2⟩ := I.tuple hB
  have hl3 := r2.length
  have hsz : its.toArray.size + its2.toArray.size ≤ sizeLine := by rw [List.size_toArray, List.size_toArray]; omega
  have hlong : ¬ (!its.toArray.isEmpty && Builtin.List.listTooLong (its.toArray.size + its2.toArray.size)) = true := by
    rw [notLongL hsz, Bool.and_false]
    exact Bool.false_ne_true
  refine call_meets F.slot_list_extend ⟨_, e, rfl⟩ F.entry_list_extend (F.args_list_extend_2 _ _)
    (ext_tup l its.toArray n b ob its2.toArray n2 hlong (by rw [List.size_toArray]; omega) (by omega) hcl hda) ⟨e, e2, ?_⟩
  refine ⟨.non, _, I.lset (its' := its ++ its2) hH e (by simp) (r.append r2) ?_, rfl, q⟩
  rw [List.length_append]
  omega

/-! ### what a letter, a view holds -/
def deedNames : List Str := ["note", "kind", "mark", "send", "tell", "hear", "promise", "commit", "anew"]
theorem dn_len : deedNames.length = 9 := rfl
theorem dn_nodup : deedNames.Nodup := by decide +kernel
structure Dd where
  place : Nat
  nums : List Int
structure Ev where
  asleep : Bool
  shown : List Int
  after : List Int
  deed : Dd
  knows : List Int
structure Rc where
  dev : Int
  num : Int
  ev : Ev
structure Lt where
  s : Int
  r : Int
  k : Int
  n : Int
  recs : List Rc
def b2n (b : Bool) : Int := if b then 1 else 0
def numSeq (ns : List Int) : List Int := (ns.length : Int) :: ns
def numD (d : Dd) : List Int := (d.place : Int) :: (if d.place = 8 then numSeq d.nums else d.nums)
def numE (e : Ev) : List Int := [b2n e.asleep] ++ numSeq e.shown ++ numSeq e.after ++ numD e.deed ++ numSeq e.knows
def numR (r : Rc) : List Int := [r.dev, r.num] ++ numE r.ev
def numL (l : Lt) : List Int := [l.s, l.r, l.k, l.n, (l.recs.length : Int)] ++ l.recs.flatMap numR
def In18 (n : Int) : Prop := n.natAbs < 10 ^ 18
def Nt18 (n : Int) : Prop := In18 n ∧ 0 ≤ n
def arity (p : Nat) : Nat := [0, 2, 3, 2, 1, 2, 2, 1, 0].getD p 0
/-- which number of a deed may be below 0 -/
def mayNeg (p i : Nat) : Prop := (p = 2 ∧ i = 2) ∨ p = 7
structure Dd.Ok (d : Dd) : Prop where
  pl : d.place < 9
  len : d.nums.length ≤ 4
  ar : d.place ≠ 8 → d.nums.length = arity d.place
  sm : ∀ n ∈ d.nums, In18 n
  nt : ∀ i n, d.nums[i]? = some n → ¬ mayNeg d.place i → 0 ≤ n
structure Ev.Ok (e : Ev) : Prop where
  s1 : e.shown.length ≤ 4
  s2 : e.after.length ≤ 4
  s3 : e.knows.length ≤ 6
  m1 : ∀ n ∈ e.shown, In18 n
  m2 : ∀ n ∈ e.after, In18 n
  m3 : ∀ n ∈ e.knows, Nt18 n
  d : e.deed.Ok
structure Rc.Ok (r : Rc) : Prop where
  d : Nt18 r.dev
  n : Nt18 r.num
  e : r.ev.Ok
structure Lt.Ok (l : Lt) : Prop where
  s : Nt18 l.s
  r : Nt18 l.r
  k : Nt18 l.k
  n : Nt18 l.n
  len : l.recs.length ≤ 20
  rs : ∀ r ∈ l.recs, r.Ok
/-- the tuple of a list of ints -/
def TupI (K : PySem.W.Frag) (H : Hp) (a : Addr) (ns : List Int) : Prop := SqT K H a (ns.map V.int)
def DdAt (K : PySem.W.Frag) (H : Hp) (a : Addr) (d : Dd) : Prop :=
  ∃ z rest, deedNames[d.place]? = some z ∧ SqT K H a (.str z :: rest) ∧ ((d.place = 8 ∧ ∃ b, rest = [.ref b] ∧ TupI K H b d.nums) ∨ (d.place ≠ 8 ∧ rest = d.nums.map V.int))
def EvAt (K : PySem.W.Frag) (H : Hp) (a : Addr) (e : Ev) : Prop :=
  ∃ p q d r, SqT K H a [.bl e.asleep, .ref p, .ref q, .ref d, .ref r] ∧ TupI K H p e.shown ∧ TupI K H q e.after ∧ DdAt K H d e.deed ∧ TupI K H r e.knows
def RcAt (K : PySem.W.Frag) (H : Hp) (a : Addr) (r : Rc) : Prop := ∃ e, SqT K H a [.int r.dev, .int r.num, .ref e] ∧ EvAt K H e r.ev
/-- objects one beside the other -/
def Each {α : Type} (P : Addr → α → Prop) (as : List Addr) (xs : List α) : Prop := as.length = xs.length ∧ ∀ (i : Nat) (a : Addr) (x : α), as[i]? = some a → xs[i]? = some x → P a x
def LtAt (K : PySem.W.Frag) (H : Hp) (a : Addr) (l : Lt) : Prop :=
  ∃ b as, SqT K H a [.int l.s, .int l.r, .int l.k, .int l.n, .ref b] ∧ SqT K H b (as.map V.ref) ∧ Each (RcAt K H) as l.recs
section
variable {K : PySem.W.Frag} {H H' : Hp}
theorem TupI.keep {a ns} (e : Same H H') (h : TupI K H a ns) : TupI K H' a ns := sTup e h
theorem DdAt.keep {a d} (e : Same H H') (h : DdAt K H a d) : DdAt K H' a d := by
  obtain ⟨z, rest, h0, h1, h2⟩ := h
  refine ⟨z, rest, h0, sTup e h1, ?_⟩
  rcases h2 with ⟨h2, b, h3, h4⟩ | h2
  · exact .inl ⟨h2, b, h3, h4.keep e⟩
  · exact .inr h2
theorem EvAt.keep {a d} (e : Same H H') (h : EvAt K H a d) : EvAt K H' a d := by
  obtain ⟨p, q, d, r, h1, h2, h3, h4, h5⟩ := h
  exact ⟨p, q, d, r, sTup e h1, h2.keep e, h3.keep e, h4.keep e, h5.keep e⟩
theorem RcAt.keep {a d} (e : Same H H') (h : RcAt K H a d) : RcAt K H' a d := by
  obtain ⟨p, h1, h2⟩ := h
  exact ⟨p, sTup e h1, h2.keep e⟩
theorem Each.keep {α : Type} {P P' : Addr → α → Prop} {as xs} (h : Each P as xs) (f : ∀ a x, P a x → P' a x) : Each P' as xs := ⟨h.1, fun i a x h1 h2 => f a x (h.2 i a x h1 h2)⟩
theorem Each.nil {α : Type} {P : Addr → α → Prop} : Each P [] [] := ⟨rfl, fun i a x h => by simp at h⟩
theorem Each.snoc {α : Type} {P : Addr → α → Prop} {as xs} (h : Each P as xs) {a : Addr} {x : α} (p : P a x) : Each P (as ++ [a]) (xs ++ [x]) := by
  refine ⟨by simp [h.1], fun i b y h1 h2 => ?_⟩
  by_cases hi : i < as.length
  · rw [List.getElem?_append_left hi] at h1
    rw [List.getElem?_append_left (by rw [← h.1]; exact hi)] at h2
    exact h.2 i b y h1 h2
  · rw [List.getElem?_append_right (by omega)] at h1
    rw [List.getElem?_append_right (by rw [← h.1]; omega)] at h2
    rw [← h.1] at h2
    cases e : i - as.length with
    | zero =>
      rw [e] at h1 h2
      cases h1
      cases h2
      exact p
    | succ n =>
      rw [e] at h1
      simp at h1
theorem Each.get {α : Type} {P : Addr → α → Prop} {as xs} (h : Each P as xs) {i : Nat} {a : Addr} (ha : as[i]? = some a) : ∃ x, xs[i]? = some x ∧ P a x := by
  have hi : i < xs.length := by rw [← h.1]; exact (List.getElem?_eq_some_iff.mp ha).1
  exact ⟨xs[i], List.getElem?_eq_getElem hi, h.2 i a _ ha (List.getElem?_eq_getElem hi)⟩
theorem LtAt.keep {a d} (e : Same H H') (h : LtAt K H a d) : LtAt K H' a d := by
  obtain ⟨b, as, h1, h2, h3⟩ := h
  exact ⟨b, as, sTup e h1, sTup e h2, h3.keep fun _ _ q => q.keep e⟩
end
/-! ### sizes -/
theorem numD_len {d : Dd} (h : d.Ok) : (numD d).length ≤ 6 := by
  have := h.len
  unfold numD numSeq
  split <;> simp <;> omega
theorem numE_len {e : Ev} (h : e.Ok) : (numE e).length ≤ 24 := by
  have h1 := h.s1; have h2 := h.s2; have h3 := h.s3; have h4 := numD_len h.d
  unfold numE numSeq
  simp only [List.length_append, List.length_cons, List.length_nil]
  omega
theorem numR_len {r : Rc} (h : r.Ok) : (numR r).length ≤ 26 := by
  have h1 := numE_len h.e
  unfold numR
  simp only [List.length_append, List.length_cons, List.length_nil]
  omega
theorem flat_len {α : Type} {f : α → List Int} {m : Nat} : ∀ {xs : List α}, (∀ x ∈ xs, (f x).length ≤ m) → (xs.flatMap f).length ≤ xs.length * m
  | [], _ => by simp
  | x :: r, h => by
    have h1 := h x List.mem_cons_self
    have h2 := flat_len (xs := r) fun y hy => h y (List.mem_cons_of_mem _ hy)
    rw [List.flatMap_cons, List.length_append, List.length_cons, Nat.succ_mul]
    omega
theorem In18.zero : In18 0 := by unfold In18; decide
theorem In18.small {n : Nat} (h : n ≤ 1000) : In18 (n : Int) := by
  unfold In18
  rw [Int.natAbs_natCast]
  exact Nat.lt_of_le_of_lt h (by decide)
theorem In18.log {n : Int} (h : In18 n) : n.natAbs.log2 < 1920 := by
  unfold In18 at h
  by_cases h0 : n.natAbs = 0
  · rw [h0]
    decide
  · exact (Nat.log2_lt h0).mpr (Nat.lt_of_lt_of_le h (by decide +kernel))
theorem numD_in {d : Dd} (h : d.Ok) : ∀ n ∈ numD d, In18 n := by
  intro n hn
  have hp := h.pl
  have hl := h.len
  unfold numD at hn
  rcases List.mem_cons.mp hn with e | hn
  · rw [e]
    exact In18.small (by omega)
  · split at hn
    · unfold numSeq at hn
      rcases List.mem_cons.mp hn with e | hn
      · rw [e]
        exact In18.small (by omega)
      · exact h.sm n hn
    · exact h.sm n hn
theorem seq_in {ns : List Int} (hl : ns.length ≤ 1000) (h : ∀ n ∈ ns, In18 n) : ∀ n ∈ numSeq ns, In18 n := by
  intro n hn
  unfold numSeq at hn
  rcases List.mem_cons.mp hn with e | hn
  · rw [e]
    exact In18.small hl
  · exact h n hn
theorem numE_in {e : Ev} (h : e.Ok) : ∀ n ∈ numE e, In18 n := by
  intro n hn
  have h1 := h.s1; have h2 := h.s2; have h3 := h.s3
  unfold numE at hn
  rcases List.mem_append.mp hn with hn | hn
  · rcases List.mem_append.mp hn with hn | hn
    · rcases List.mem_append.mp hn with hn | hn
      · rcases List.mem_append.mp hn with hn | hn
        · rw [List.mem_singleton.mp hn]
          unfold b2n
          split
          · exact In18.small (n := 1) (by decide)
          · exact In18.zero
        · exact seq_in (by omega) h.m1 n hn
      · exact seq_in (by omega) h.m2 n hn
    · exact numD_in h.d n hn
  · exact seq_in (by omega) (fun n hn => (h.m3 n hn).1) n hn
theorem numR_in {r : Rc} (h : r.Ok) : ∀ n ∈ numR r, In18 n := by
  intro n hn
  unfold numR at hn
  rcases List.mem_append.mp hn with hn | hn
  · rcases List.mem_cons.mp hn with e | hn
    · rw [e]; exact h.d.1
    · rw [List.mem_singleton.mp hn]; exact h.n.1
  · exact numE_in h.e n hn
theorem numL_len {l : Lt} (h : l.Ok) : (numL l).length ≤ 600 := by
  have h1 := flat_len (f := numR) (m := 26) (xs := l.recs) fun r hr => numR_len (h.rs r hr)
  have h2 := h.len
  unfold numL
  simp only [List.length_append, List.length_cons, List.length_nil]
  omega
theorem numL_in {l : Lt} (h : l.Ok) : ∀ n ∈ numL l, In18 n := by
  intro n hn
  have hl := h.len
  unfold numL at hn
  rcases List.mem_append.mp hn with hn | hn
  · simp only [List.mem_cons, List.not_mem_nil, or_false] at hn
    rcases hn with e | e | e | e | e <;> rw [e]
    · exact h.s.1
    · exact h.r.1
    · exact h.k.1
    · exact h.n.1
    · exact In18.small (by omega)
  · obtain ⟨r, hr, hn⟩ := List.mem_flatMap.mp hn
    exact numR_in (h.rs r hr) n hn
/-! ### the text -/
def words (ns : List Int) : List Str := ns.map fun n => toString n
def textOf (head : Str) (ns : List Int) : Str := head ++ Str.ofString "\n" ++ Txt.join (Str.ofString " ") (words ns) ++ Str.ofString "\n"

theorem join_len (y : Str) : ∀ parts : List Str, (Str.join y parts).length ≤ (parts.map (·.length)).sum + parts.length * y.length
  | [] => Nat.zero_le _
  | [x] => by
    show x.length ≤ x.length + 0 + _
    omega
  | x :: z :: r => by
    have h := join_len y (z :: r)
    show (x ++ y ++ Str.join y (z :: r)).length ≤ _
    rw [Str.length_append, Str.length_append]
    rw [List.map_cons, List.sum_cons, List.length_cons, Nat.succ_mul]
    omega
theorem word_len {n : Int} (h : In18 n) : (Str.ofString (toString n)).length ≤ 19 := by
  unfold In18 at h
  have e := int_text_length_le10 (k := 18) (by decide) h
  rw [PySem.ofString_length]
  exact e
theorem words_sum {ns : List Int} (h : ∀ n ∈ ns, In18 n) : ((words ns).map (·.length)).sum ≤ ns.length * 19 := by
  induction ns with
  | nil => exact Nat.zero_le _
  | cons a r ih =>
    have h1 := word_len (h a List.mem_cons_self)
    have h2 := ih fun n hn => h n (List.mem_cons_of_mem _ hn)
    show (Str.ofString (toString a)).length + ((words r).map (·.length)).sum ≤ _
    rw [List.length_cons, Nat.succ_mul]
    omega
theorem words_len (ns : List Int) : (words ns).length = ns.length := List.length_map _
theorem blank_len : (Str.ofString " ").length = 1 := by decide +kernel
theorem nl_len : (Str.ofString "\n").length = 1 := by decide +kernel
theorem joined_len {ns : List Int} (h : ∀ n ∈ ns, In18 n) : (Txt.join (Str.ofString " ") (words ns)).length ≤ ns.length * 20 := by
  have h1 := join_len (Str.ofString " ") (words ns)
  have h2 := words_sum h
  rw [← TL.join_eq, words_len, blank_len] at h1
  omega
theorem line2 : (20000 : Nat) ≤ sizeLine := by decide
theorem join_fit {ns : List Int} (h : ∀ n ∈ ns, In18 n) (hl : ns.length ≤ 1000) : ((words ns).map (·.length)).sum + (words ns).length * (Str.ofString " ").length ≤ 16777216 := by
  have h2 := words_sum h
  rw [words_len, blank_len]
  omega
theorem sizes {n : Nat} (h : n ≤ 100000) : n ≤ sizeLine := Nat.le_trans h (by decide)
theorem sizes' {n : Nat} (h : n ≤ 100000) : n < sizeLine := Nat.lt_of_le_of_lt h (by decide)
theorem words_take_succ {ns : List Int} {i : Nat} (h : i < ns.length) : words (ns.take (i + 1)) = words (ns.take i) ++ [(toString ns[i] : Str)] := by
  unfold words
  rw [List.take_add_one, List.getElem?_eq_getElem h, List.map_append]
  rfl
theorem int_get {ns : List Int} {i : Nat} {x : V} (h : (ns.map V.int)[i]? = some x) : ∃ hi : i < ns.length, x = V.int ns[i] := by
  have hi := (List.getElem?_eq_some_iff.mp h).1
  rw [List.length_map] at hi
  refine ⟨hi, ?_⟩
  rw [List.getElem?_map, List.getElem?_eq_getElem hi] at h
  exact (Option.some.inj h).symm
theorem ref_get {as : List Addr} {i : Nat} {x : V} (h : (as.map V.ref)[i]? = some x) : ∃ hi : i < as.length, x = V.ref as[i] := by
  have hi := (List.getElem?_eq_some_iff.mp h).1
  rw [List.length_map] at hi
  refine ⟨hi, ?_⟩
  rw [List.getElem?_map, List.getElem?_eq_getElem hi] at h
  exact (Option.some.inj h).symm
/-! ### what is no list stands while the list at o changes -/
theorem butTup {K : PySem.W.Frag} {H H' : Hp} {o a : Addr} {xs ys : List V} (e : But o H H') (ho : H o = some (.lst xs)) (h : SqT K H a ys) : SqT K H' a ys := by
  rcases h with (h | ⟨ob, h⟩) | h
  · exact .inl (.inl (e _ _ (ne_of h ho (by intro z; cases z)) h))
  · exact .inl (.inr ⟨ob, e _ _ (ne_of h ho (by intro z; cases z)) h⟩)
  · exact .inr h
section
variable {K : PySem.W.Frag} {H H' : Hp} {o : Addr} {xs : List V}
theorem TupI.but {a ns} (e : But o H H') (ho : H o = some (.lst xs)) (h : TupI K H a ns) : TupI K H' a ns := butTup e ho h
theorem DdAt.but {a d} (e : But o H H') (ho : H o = some (.lst xs)) (h : DdAt K H a d) : DdAt K H' a d := by
  obtain ⟨z, rest, h0, h1, h2⟩ := h
  refine ⟨z, rest, h0, butTup e ho h1, ?_⟩
  rcases h2 with ⟨h2, b, h3, h4⟩ | h2
  · exact .inl ⟨h2, b, h3, h4.but e ho⟩
  · exact .inr h2
theorem EvAt.but {a d} (e : But o H H') (ho : H o = some (.lst xs)) (h : EvAt K H a d) : EvAt K H' a d := by
  obtain ⟨p, q, d, r, h1, h2, h3, h4, h5⟩ := h
  exact ⟨p, q, d, r, butTup e ho h1, h2.but e ho, h3.but e ho, h4.but e ho, h5.but e ho⟩
end
/-! ### the names of deeds -/
theorem dn_first {j m : Nat} {z : Str} (h : deedNames[j]? = some z) (hm : m < j) : deedNames[m]? ≠ some z := fun e => by
  have := nd_ix dn_nodup e h
  omega
theorem dn_anew {j : Nat} {z : Str} (h : deedNames[j]? = some z) : z = "anew" ↔ j = 8 := by
  refine ⟨fun e => nd_ix dn_nodup (x := z) h (by rw [e]; rfl), fun e => ?_⟩
  subst e
  exact (Option.some.inj h).symm
theorem dn_note {j : Nat} {z : Str} (h : deedNames[j]? = some z) : z = "note" ↔ j = 0 := by
  refine ⟨fun e => nd_ix dn_nodup (x := z) h (by rw [e]; rfl), fun e => ?_⟩
  subst e
  exact (Option.some.inj h).symm
/-- a def of the text, as it stands behind the top -/
structure Df (K : PySem.W.Frag) (mg : Str → Option Value) (x : Str) (st : Stmt) (ps : List Str) (f : Addr) (fd : FuncData) : Prop where
  F : Fun K x x st f fd
  b : Binds K fd ps []
  m : mg x = some (.ref f)
/-- the built-ins that the text calls are still its own -/
structure Txt (K : PySem.W.Frag) (mg : Str → Option Value) : Prop where
  len : mg "len" = none
  str : mg "str" = none
  int : mg "int" = none
  range : mg "range" = none
  tuple : mg "tuple" = none
  list : mg "list" = none
  isinstance : mg "isinstance" = none
  bool : mg "bool" = none
/-- the tuple of the deeds' names stands at aD -/
structure Deeds (K : PySem.W.Frag) (mg : Str → Option Value) (aD : Addr) : Prop where
  m : mg "DEEDS" = some (.ref aD)
  o : ∃ ob : Obj, K.lookup aD = some ob ∧ ob.cls = .type "tuple" ∧ ob.dict = none
  sq : ∀ H, SqT K H aD (deedNames.map V.str)

theorem vint_eq {a b : Int} (c : decide (V.int a = V.int b) = true) : a = b := by injection (of_decide_eq_true c)
theorem vint_ne {a b : Int} (c : ¬ decide (V.int a = V.int b) = true) : a ≠ b := fun e => c (decide_eq_true (by rw [e]))
theorem one_of {ns : List Int} (h : ns.length = 1) : ∃ x, ns = [x] := by
  match ns, h with
  | [x], _ => exact ⟨x, rfl⟩
theorem two_of {ns : List Int} (h : ns.length = 2) : ∃ x y, ns = [x, y] := by
  match ns, h with
  | [x, y], _ => exact ⟨x, y, rfl⟩
theorem four_of {ns : List Int} (h : ns.length = 4) : ∃ x y z u, ns = [x, y, z, u] := by
  match ns, h with
  | [x, y, z, u], _ => exact ⟨x, y, z, u, rfl⟩
theorem nt_one {a n : Int} {i : Nat} (h : [a][i]? = some n) (ha : 0 ≤ a) : 0 ≤ n := by
  match i, h with
  | 0, h => cases h; exact ha
theorem nt_two {a b n : Int} {i : Nat} (h : [a, b][i]? = some n) (ha : 0 ≤ a) (hb : 0 ≤ b) : 0 ≤ n := by
  match i, h with
  | 0, h => cases h; exact ha
  | 1, h => cases h; exact hb
theorem nt_three {a b c n : Int} {i : Nat} (h : [a, b, c][i]? = some n) (h2 : ¬ mayNeg 2 i) (ha : 0 ≤ a) (hb : 0 ≤ b) : 0 ≤ n := by
  match i, h with
  | 0, h => cases h; exact ha
  | 1, h => cases h; exact hb
  | 2, h => exact absurd (Or.inl ⟨rfl, rfl⟩) h2
end Vs

namespace Vs
open PySem PySem.Spec PyProof.Rows L2
section
variable {K : PySem.W.Frag} {H H' : Hp}
theorem tyT {a : Addr} {xs : List V} (h : SqT K H a xs) : TyX K H (.ref a) (.type "tuple") := by
  rcases h with (h | ⟨o, h⟩) | ⟨o, its, n, h, hc, _⟩
  · exact .base (.tup h)
  · exact .fTuple h
  · exact .kTuple h hc
theorem tyL {a : Addr} {xs : List V} (h : SqL K H a xs) : TyX K H (.ref a) (.type "list") := by
  rcases h with (h | ⟨o, h⟩) | ⟨o, its, n, h, hc, _⟩
  · exact .base (.lst h)
  · exact .base (.frz h)
  · exact .kList h hc
/-- both denote the same, down to depth n -/
def Sim (K : PySem.W.Frag) (H : Hp) : Nat → V → V → Prop
  | 0, _, _ => False
  | n + 1, x, y => (∃ b, x = .bl b ∧ y = .bl b) ∨ (∃ i, x = .int i ∧ y = .int i) ∨ (∃ z, x = .str z ∧ y = .str z) ∨
    (∃ a b xs ys, x = .ref a ∧ y = .ref b ∧ ((SqT K H a xs ∧ SqT K H b ys) ∨ (SqL K H a xs ∧ SqL K H b ys)) ∧ xs.length = ys.length ∧ xs.length ≤ 1000 ∧ ∀ (i : Nat) u v, xs[i]? = some u → ys[i]? = some v → Sim K H n u v)
theorem Sim.int {n : Nat} {i : Int} : Sim K H (n + 1) (.int i) (.int i) := .inr (.inl ⟨i, rfl, rfl⟩)
theorem Sim.str {n : Nat} {z : Str} : Sim K H (n + 1) (.str z) (.str z) := .inr (.inr (.inl ⟨z, rfl, rfl⟩))
theorem Sim.bl {n : Nat} {b : Bool} : Sim K H (n + 1) (.bl b) (.bl b) := .inl ⟨b, rfl, rfl⟩
theorem Sim.tup {n : Nat} {a b : Addr} {xs ys : List V} (h1 : SqT K H a xs) (h2 : SqT K H b ys) (hl : xs.length = ys.length) (hs : xs.length ≤ 1000) (h : ∀ (i : Nat) u v, xs[i]? = some u → ys[i]? = some v → Sim K H n u v) : Sim K H (n + 1) (.ref a) (.ref b) :=
  .inr (.inr (.inr ⟨a, b, xs, ys, rfl, rfl, .inl ⟨h1, h2⟩, hl, hs, h⟩))
theorem Sim.lst {n : Nat} {a b : Addr} {xs ys : List V} (h1 : SqL K H a xs) (h2 : SqL K H b ys) (hl : xs.length = ys.length) (hs : xs.length ≤ 1000) (h : ∀ (i : Nat) u v, xs[i]? = some u → ys[i]? = some v → Sim K H n u v) : Sim K H (n + 1) (.ref a) (.ref b) :=
  .inr (.inr (.inr ⟨a, b, xs, ys, rfl, rfl, .inr ⟨h1, h2⟩, hl, hs, h⟩))
theorem all_nil {R : V → V → Prop} : ∀ (i : Nat) u v, ([] : List V)[i]? = some u → ([] : List V)[i]? = some v → R u v := fun i u v h => by simp at h
theorem all_cons {R : V → V → Prop} {x y : V} {xs ys : List V} (h : R x y) (t : ∀ (i : Nat) u v, xs[i]? = some u → ys[i]? = some v → R u v) : ∀ (i : Nat) u v, (x :: xs)[i]? = some u → (y :: ys)[i]? = some v → R u v
  | 0, _, _, h1, h2 => by cases h1; cases h2; exact h
  | i + 1, u, v, h1, h2 => t i u v h1 h2
theorem all_ints {n : Nat} {ns : List Int} : ∀ (i : Nat) u v, (ns.map V.int)[i]? = some u → (ns.map V.int)[i]? = some v → Sim K H (n + 1) u v := fun i u v h1 h2 => by
  rw [h1] at h2
  cases h2
  obtain ⟨hi, rfl⟩ := int_get h1
  exact .int
theorem simI {n : Nat} {a b : Addr} {ns : List Int} (h1 : TupI K H a ns) (h2 : TupI K H b ns) (hs : ns.length ≤ 1000) : Sim K H (n + 2) (.ref a) (.ref b) := .tup h1 h2 rfl (by rw [List.length_map]; exact hs) all_ints
theorem simD {n : Nat} {a b : Addr} {d : Dd} (h1 : DdAt K H a d) (h2 : DdAt K H b d) (hk : d.Ok) : Sim K H (n + 3) (.ref a) (.ref b) := by
  have hl := hk.len
  obtain ⟨z, r, e1, t1, q1⟩ := h1
  obtain ⟨z', r', e2, t2, q2⟩ := h2
  rw [e1] at e2
  cases e2
  rcases q1 with ⟨p8, c, rfl, h1⟩ | ⟨n8, rfl⟩
  · rcases q2 with ⟨_, c', rfl, h2⟩ | ⟨n8, _⟩
    · exact .tup t1 t2 rfl (by show 2 ≤ 1000; decide) (all_cons .str (all_cons (simI h1 h2 (by omega)) all_nil))
    · exact absurd p8 n8
  · rcases q2 with ⟨p8, _⟩ | ⟨_, rfl⟩
    · exact absurd p8 n8
    · exact .tup t1 t2 rfl (by rw [List.length_cons, List.length_map]; omega) (all_cons .str all_ints)
theorem simE {n : Nat} {a b : Addr} {e : Ev} (h1 : EvAt K H a e) (h2 : EvAt K H b e) (hk : e.Ok) : Sim K H (n + 4) (.ref a) (.ref b) := by
  have k1 := hk.s1; have k2 := hk.s2; have k3 := hk.s3
  obtain ⟨p, q, d, r, t, f1, f2, f3, f4⟩ := h1
  obtain ⟨p', q', d', r', t', g1, g2, g3, g4⟩ := h2
  exact .tup t t' rfl (by show 5 ≤ 1000; decide) (all_cons .bl (all_cons (simI f1 g1 (by omega)) (all_cons (simI f2 g2 (by omega)) (all_cons (simD f3 g3 hk.d) (all_cons (simI f4 g4 (by omega)) all_nil)))))
theorem simR {n : Nat} {a b : Addr} {r : Rc} (h1 : RcAt K H a r) (h2 : RcAt K H b r) (hk : r.Ok) : Sim K H (n + 5) (.ref a) (.ref b) := by
  obtain ⟨e, t, f⟩ := h1
  obtain ⟨e', t', g⟩ := h2
  exact .tup t t' rfl (by show 3 ≤ 1000; decide) (all_cons .int (all_cons .int (all_cons (simE f g hk.e) all_nil)))
theorem simEach {α : Type} {P : Addr → α → Prop} {n : Nat} {as bs : List Addr} {xs : List α} (h1 : Each P as xs) (h2 : Each P bs xs) (h : ∀ a b x, x ∈ xs → P a x → P b x → Sim K H n (.ref a) (.ref b)) :
    ∀ (i : Nat) u v, (as.map V.ref)[i]? = some u → (bs.map V.ref)[i]? = some v → Sim K H n u v := fun i u v e1 e2 => by
  obtain ⟨i1, rfl⟩ := ref_get e1
  obtain ⟨i2, rfl⟩ := ref_get e2
  have ix : i < xs.length := by rw [← h1.1]; exact i1
  exact h _ _ xs[i] (List.getElem_mem ix) (h1.2 i _ _ (List.getElem?_eq_getElem i1) (List.getElem?_eq_getElem ix)) (h2.2 i _ _ (List.getElem?_eq_getElem i2) (List.getElem?_eq_getElem ix))
theorem simL {n : Nat} {a b : Addr} {l : Lt} (h1 : LtAt K H a l) (h2 : LtAt K H b l) (hk : l.Ok) : Sim K H (n + 7) (.ref a) (.ref b) := by
  have hl := hk.len
  obtain ⟨p, as, t, f, g⟩ := h1
  obtain ⟨p', as', t', f', g'⟩ := h2
  refine .tup t t' rfl (by show 5 ≤ 1000; decide) (all_cons .int (all_cons .int (all_cons .int (all_cons .int (all_cons ?_ all_nil)))))
  exact .tup f f' (by rw [List.length_map, List.length_map, g.1, g'.1]) (by rw [List.length_map, g.1]; omega) (simEach g g' fun a b x hx u v => simR u v (hk.rs x hx))
/-! ### what some calls ask, without the frame -/
abbrev rListOf (K : PySem.W.Frag) : List V → Hp → VK → Prop := fun xs H Q => ∃ p ys, xs = [V.ref p] ∧ (SqL K H p ys ∨ SqT K H p ys) ∧ ∀ l, H l = none → Q (.ref l) (upd H l (.lst ys))
abbrev rTupleOf (K : PySem.W.Frag) : List V → Hp → VK → Prop := fun xs H Q => ∃ p ys, xs = [V.ref p] ∧ ((SqL K H p ys ∧ ∀ l, H l = none → Q (.ref l) (upd H l (.tup ys))) ∨ (SqT K H p ys ∧ Q (.ref p) H))
abbrev rLenOf (K : PySem.W.Frag) : List V → Hp → VK → Prop := fun xs H Q => ∃ p ys, xs = [V.ref p] ∧ (SqL K H p ys ∨ SqT K H p ys) ∧ Q (.int ys.length) H
/-! ### views -/
def RowAt (K : PySem.W.Frag) (H : Hp) (a : Addr) (es : List Ev) : Prop := ∃ as, H a = some (.lst (as.map V.ref)) ∧ Each (EvAt K H) as es
def VwAt (K : PySem.W.Frag) (H : Hp) (v : Addr) (vw : List (List Ev)) : Prop := ∃ rows, H v = some (.lst (rows.map V.ref)) ∧ Each (RowAt K H) rows vw
theorem RowAt.keep {a es} (e : Same H H') (h : RowAt K H a es) : RowAt K H' a es := by
  obtain ⟨as, h1, h2⟩ := h
  exact ⟨as, e _ _ h1, h2.keep fun _ _ z => z.keep e⟩
theorem VwAt.keep {v vw} (e : Same H H') (h : VwAt K H v vw) : VwAt K H' v vw := by
  obtain ⟨as, h1, h2⟩ := h
  exact ⟨as, e _ _ h1, h2.keep fun _ _ z => z.keep e⟩
structure VwOk (vw : List (List Ev)) : Prop where
  len : vw.length ≤ 6
  sum : (vw.map List.length).sum ≤ 40
  ok : ∀ es ∈ vw, ∀ e ∈ es, e.Ok
def numEs (es : List Ev) : List Int := (es.length : Int) :: es.flatMap numE
def numV (vw : List (List Ev)) : List Int := (vw.length : Int) :: vw.flatMap numEs
theorem len_le_sum {vw : List (List Ev)} {es : List Ev} (h : es ∈ vw) : es.length ≤ (vw.map List.length).sum := by
  induction vw with
  | nil => simp at h
  | cons x r ih =>
    rw [List.map_cons, List.sum_cons]
    rcases List.mem_cons.mp h with e | h
    · rw [e]; omega
    · have := ih h; omega
theorem simRow {n : Nat} {a b : Addr} {es : List Ev} (h1 : RowAt K H a es) (h2 : RowAt K H b es) (hl : es.length ≤ 100) (hk : ∀ e ∈ es, e.Ok) : Sim K H (n + 5) (.ref a) (.ref b) := by
  obtain ⟨as, f, g⟩ := h1
  obtain ⟨as', f', g'⟩ := h2
  exact .lst (SqL.of f) (SqL.of f') (by rw [List.length_map, List.length_map, g.1, g'.1]) (by rw [List.length_map, g.1]; omega) (simEach g g' fun a b x hx u v => simE u v (hk x hx))
theorem simV {n : Nat} {a b : Addr} {vw : List (List Ev)} (h1 : VwAt K H a vw) (h2 : VwAt K H b vw) (hk : VwOk vw) : Sim K H (n + 6) (.ref a) (.ref b) := by
  have hl := hk.len
  have hs := hk.sum
  obtain ⟨as, f, g⟩ := h1
  obtain ⟨as', f', g'⟩ := h2
  exact .lst (SqL.of f) (SqL.of f') (by rw [List.length_map, List.length_map, g.1, g'.1]) (by rw [List.length_map, g.1]; omega) (simEach g g' fun a b x hx u v => simRow u v (by have := len_le_sum hx; omega) (hk.ok x hx))
end
theorem numV_len_le {vw : List (List Ev)} (h : ∀ es ∈ vw, ∀ e ∈ es, e.Ok) : (vw.flatMap numEs).length ≤ vw.length + (vw.map List.length).sum * 24 := by
  induction vw with
  | nil => exact Nat.zero_le _
  | cons x r ih =>
    have h1 := ih fun es hes => h es (List.mem_cons_of_mem _ hes)
    have h2 := flat_len (f := numE) (m := 24) (xs := x) fun e he => numE_len (h x List.mem_cons_self e he)
    rw [List.flatMap_cons, List.length_append, List.map_cons, List.sum_cons, List.length_cons]
    show ((x.length : Int) :: x.flatMap numE).length + _ ≤ _
    rw [List.length_cons]
    omega
theorem numV_len {vw : List (List Ev)} (h : VwOk vw) : (numV vw).length ≤ 967 := by
  have h1 := numV_len_le h.ok
  have h2 := h.len
  have h3 := h.sum
  unfold numV
  rw [List.length_cons]
  omega
theorem numEs_in {es : List Ev} (hl : es.length ≤ 100) (h : ∀ e ∈ es, e.Ok) : ∀ n ∈ numEs es, In18 n := by
  intro n hn
  unfold numEs at hn
  rcases List.mem_cons.mp hn with e | hn
  · rw [e]; exact In18.small (by omega)
  · obtain ⟨e, he, hn⟩ := List.mem_flatMap.mp hn
    exact numE_in (h e he) n hn
theorem numV_in {vw : List (List Ev)} (h : VwOk vw) : ∀ n ∈ numV vw, In18 n := by
  intro n hn
  have h2 := h.len
  have h3 := h.sum
  unfold numV at hn
  rcases List.mem_cons.mp hn with e | hn
  · rw [e]; exact In18.small (by omega)
  · obtain ⟨es, he, hn⟩ := List.mem_flatMap.mp hn
    exact numEs_in (by have := len_le_sum he; omega) (h.ok es he) n hn
theorem flat_take_le {α : Type} {f : α → List Int} {xs : List α} (i : Nat) : ((xs.take i).flatMap f).length ≤ (xs.flatMap f).length := by
  rw [show xs.flatMap f = (xs.take i).flatMap f ++ (xs.drop i).flatMap f by rw [← List.flatMap_append, List.take_append_drop], List.length_append]
  omega
theorem flat_take {α : Type} {f : α → List Int} {xs : List α} {i : Nat} {x : α} (h : xs[i]? = some x) : (xs.take (i + 1)).flatMap f = (xs.take i).flatMap f ++ f x := by
  rw [List.take_add_one, h, List.flatMap_append]
  show _ ++ (f x ++ []) = _
  rw [List.append_nil]
theorem flat_take_len {α : Type} {f : α → List Int} {m : Nat} {xs : List α} (h : ∀ x ∈ xs, (f x).length ≤ m) (i : Nat) : ((xs.take i).flatMap f).length ≤ i * m := by
  have h1 := flat_len (f := f) (m := m) (xs := xs.take i) fun x hx => h x (List.mem_of_mem_take hx)
  have h2 : (xs.take i).length ≤ i := by rw [List.length_take]; omega
  exact Nat.le_trans h1 (Nat.mul_le_mul_right m h2)
theorem sum_grow {vw : List (List Ev)} {j : Nat} {es : List Ev} {e : Ev} (h : vw[j]? = some es) : ((vw.set j (es ++ [e])).map List.length).sum = (vw.map List.length).sum + 1 := by
  induction vw generalizing j with
  | nil => simp at h
  | cons x r ih =>
    cases j with
    | zero =>
      cases h
      show (es ++ [e]).length + (r.map List.length).sum = es.length + (r.map List.length).sum + 1
      rw [List.length_append, List.length_singleton]
      omega
    | succ j =>
      show x.length + ((r.set j (es ++ [e])).map List.length).sum = x.length + (r.map List.length).sum + 1
      rw [ih h]
      omega
end Vs


namespace Vs
open PySem PySem.Spec PyProof.Rows L2

def topS (i : Nat) : Stmt := PySem.Challenge.pw_whensure_k13_views_written.main.body.getD i (.Pass ⟨0, 0, 0, 0⟩)
abbrev s_write_integers : Stmt := topS 1
abbrev nm_write_integers : List Str := ["head", "integers", "words", "integer"]
theorem sc_write_integers : FnScope nm_write_integers ["head", "integers"] (defScope s_write_integers) := ⟨rfl, rfl, rfl, by decide +kernel, rfl, by decide +kernel, by decide +kernel⟩
abbrev s_put_sequence : Stmt := topS 2
abbrev nm_put_sequence : List Str := ["out", "integers"]
theorem sc_put_sequence : FnScope nm_put_sequence ["out", "integers"] (defScope s_put_sequence) := ⟨rfl, rfl, rfl, by decide +kernel, rfl, by decide +kernel, by decide +kernel⟩
abbrev s_put_deed : Stmt := topS 6
abbrev nm_put_deed : List Str := ["out", "deed"]
theorem sc_put_deed : FnScope nm_put_deed ["out", "deed"] (defScope s_put_deed) := ⟨rfl, rfl, rfl, by decide +kernel, rfl, by decide +kernel, by decide +kernel⟩
abbrev s_put_event : Stmt := topS 7
abbrev nm_put_event : List Str := ["out", "event", "asleep", "shown", "after", "deed", "knows"]
theorem sc_put_event : FnScope nm_put_event ["out", "event"] (defScope s_put_event) := ⟨rfl, rfl, rfl, by decide +kernel, rfl, by decide +kernel, by decide +kernel⟩
abbrev s_write_view : Stmt := topS 8
abbrev nm_write_view : List Str := ["view", "out", "events", "event"]
theorem sc_write_view : FnScope nm_write_view ["view"] (defScope s_write_view) := ⟨rfl, rfl, rfl, by decide +kernel, rfl, by decide +kernel, by decide +kernel⟩
abbrev s__law_cell : Stmt := topS 10
abbrev nm__law_cell : List Str := ["script", "k", "cell", "mixed", "more"]
theorem sc__law_cell : FnScope nm__law_cell ["script", "k"] (defScope s__law_cell) := ⟨rfl, rfl, rfl, by decide +kernel, rfl, by decide +kernel, by decide +kernel⟩
abbrev s__law_values : Stmt := topS 11
abbrev nm__law_values : List Str := ["seed", "count", "signed", "values", "k", "value"]
theorem sc__law_values : FnScope nm__law_values ["seed", "count", "signed"] (defScope s__law_values) := ⟨rfl, rfl, rfl, by decide +kernel, rfl, by decide +kernel, by decide +kernel⟩
abbrev s__law_deed : Stmt := topS 12
abbrev nm__law_deed : List Str := ["shape", "seed", "place", "naturals", "signed"]
theorem sc__law_deed : FnScope nm__law_deed ["shape", "seed"] (defScope s__law_deed) := ⟨rfl, rfl, rfl, by decide +kernel, rfl, by decide +kernel, by decide +kernel⟩
abbrev s__law_event : Stmt := topS 13
abbrev nm__law_event : List Str := ["first", "second", "third", "shown", "after", "knows"]
theorem sc__law_event : FnScope nm__law_event ["first", "second", "third"] (defScope s__law_event) := ⟨rfl, rfl, rfl, by decide +kernel, rfl, by decide +kernel, by decide +kernel⟩
abbrev s__law_view : Stmt := topS 14
abbrev nm__law_view : List Str := ["script", "most", "head", "view", "k", "event", "row"]
theorem sc__law_view : FnScope nm__law_view ["script", "most"] (defScope s__law_view) := ⟨rfl, rfl, rfl, by decide +kernel, rfl, by decide +kernel, by decide +kernel⟩
abbrev s__law_deed_numbers : Stmt := topS 15
abbrev nm__law_deed_numbers : List Str := ["deed", "names", "numbers"]
theorem sc__law_deed_numbers : FnScope nm__law_deed_numbers ["deed"] (defScope s__law_deed_numbers) := ⟨rfl, rfl, rfl, by decide +kernel, rfl, by decide +kernel, by decide +kernel⟩
abbrev s__law_event_numbers : Stmt := topS 16
abbrev nm__law_event_numbers : List Str := ["event", "numbers", "k"]
theorem sc__law_event_numbers : FnScope nm__law_event_numbers ["event"] (defScope s__law_event_numbers) := ⟨rfl, rfl, rfl, by decide +kernel, rfl, by decide +kernel, by decide +kernel⟩
abbrev s__law_view_numbers : Stmt := topS 17
abbrev nm__law_view_numbers : List Str := ["view", "numbers", "events", "event"]
theorem sc__law_view_numbers : FnScope nm__law_view_numbers ["view"] (defScope s__law_view_numbers) := ⟨rfl, rfl, rfl, by decide +kernel, rfl, by decide +kernel, by decide +kernel⟩
abbrev s__law_text : Stmt := topS 18
abbrev nm__law_text : List Str := ["head", "numbers", "number"]
theorem sc__law_text : FnScope nm__law_text ["head", "numbers"] (defScope s__law_text) := ⟨rfl, rfl, rfl, by decide +kernel, rfl, by decide +kernel, by decide +kernel⟩
abbrev s__law_same : Stmt := topS 19
abbrev nm__law_same : List Str := ["actual", "expected", "k"]
theorem sc__law_same : FnScope nm__law_same ["actual", "expected"] (defScope s__law_same) := ⟨rfl, rfl, rfl, by decide +kernel, rfl, by decide +kernel, by decide +kernel⟩
abbrev s_law : Stmt := topS 20
abbrev nm_law : List Str := ["script", "view", "copy", "actual", "events"]
theorem sc_law : FnScope nm_law ["script"] (defScope s_law) := ⟨rfl, rfl, rfl, by decide +kernel, rfl, by decide +kernel, by decide +kernel⟩
section
variable {P : Program} {w : World} {K : PySem.W.Frag} {mg : Str → Option Value} {base : Heap}
def sp_write_integers (K : PySem.W.Frag) : Sp := fun vs H Q _ => ∃ (hd : Str) (a : Addr) (ns : List Int), vs = [.str hd, .ref a] ∧ SqL K H a (ns.map V.int) ∧ (∀ n ∈ ns, In18 n) ∧ ns.length ≤ 1000 ∧ hd.length ≤ 100 ∧ ∀ H', Same H H' → Q (.str (textOf hd ns)) H'
theorem ok_write_integers {f : Addr} {fd : FuncData} (D : Df K mg "write_integers" s_write_integers ["head", "integers"] f fd) (T : Txt K mg) : FnOk P w K mg base CX0 1 f fd ["head", "integers"] (sp_write_integers K) := by
  refine D.F.ok sc_write_integers (fun vs H Q E h => ?_) (fun cdv A outer s H vs Q E hr h => ?_)
  · obtain ⟨hd, a, ns, rfl, _⟩ := h
    rfl
  obtain ⟨hd, a, ns, rfl, hS, hi, hl, hh, q⟩ := h
  refine ⟨_, (pss_cons (ps_setLc (i := 2) (own := [("integer", 3)]) (g := gName 3) (tt := tYes) rfl sc_write_integers.nd rfl rfl (sw_true rfl rfl rfl (by decide +kernel)) (pi_list (pv 1)) (blkOk_by (own := [("integer", 3)]) (N := nm_write_integers) (sc := defScope s_write_integers) (by decide +kernel)) (fun _ _ _ _ _ => (pg_name (i := 3) sc_write_integers.nd rfl (Or.inl rfl))) (fun _ _ _ _ _ => pts_nil) (fun _ _ _ _ _ => (pe_callTy call_str_int rfl T.str (by decide +kernel) (pa_cons (pv 3) pa_nil))))
    (pss_one (ps_ret (pe_op op_add_str (pe_op op_add_str (pe_op op_add_str (pv 0) pe_str) (pe_join pe_str (pv 2))) pe_str)))), ?_⟩
  refine ⟨_, rfl, a, rfl, ⟨_, hS⟩, fun D hD => lc_list (K := K) (a := a) (xs := ns.map V.int) (fun i H' => Same H H' ∧ H' D = some (.lst ((words (ns.take i)).map V.str))) ⟨same_upd hD, upd_same⟩ (fun i H' _ p => p.1.seq hS) ?_ ?_⟩
  · rintro i x H' hx ⟨sm, e⟩
    obtain ⟨hil, rfl⟩ := int_get hx
    have hlt : ((words (ns.take i)).map V.str).length = i := by rw [List.length_map, words_len, List.length_take]; omega
    refine ⟨rfl, _, rfl, _, rfl, (hi _ (List.getElem_mem hil)).log, _, e, by rw [hlt]; exact sizes' (by omega), fun b u h => ?_, ?_⟩
    · rw [upd_ne (ne_of_none h hD)]
      exact sm b u h
    · rw [upd_same, words_take_succ hil, List.map_append]
      rfl
  · rintro H' ⟨sm, e⟩
    rw [List.length_map, List.take_length] at e
    have hj := joined_len hi
    have l1 : (hd ++ Str.ofString "\n").length ≤ 101 := by rw [Str.length_append, nl_len]; omega
    have l2 : (hd ++ Str.ofString "\n" ++ Txt.join (Str.ofString " ") (words ns)).length ≤ 20101 := by rw [Str.length_append]; omega
    refine ⟨_, rfl, _, _, rfl, rfl, sizes (by rw [nl_len]; omega), ⟨_, rfl⟩, _, rfl, _, _, _, rfl, rfl, .inl (SqL.of e), join_fit hi hl, _, _, rfl, rfl, sizes (by omega), _, _, rfl, rfl, sizes (by rw [nl_len]; omega), q H' sm⟩
def sp_put_sequence (K : PySem.W.Frag) : Sp := fun vs H Q _ => ∃ (o b : Addr) (xs : List V) (ns : List Int), vs = [.ref o, .ref b] ∧ H o = some (.lst xs) ∧ TupI K H b ns ∧ xs.length + ns.length ≤ 2000 ∧
  ∀ H', But o H H' → H' o = some (.lst (xs ++ (numSeq ns).map V.int)) → Q .non H'
theorem ok_put_sequence {f : Addr} {fd : FuncData} (D : Df K mg "put_sequence" s_put_sequence ["out", "integers"] f fd) (T : Txt K mg) : FnOk P w K mg base CX0 1 f fd ["out", "integers"] (sp_put_sequence K) := by
  refine D.F.ok sc_put_sequence (fun vs H Q E h => ?_) (fun cdv A outer s H vs Q E hr h => ?_)
  · obtain ⟨o, b, xs, ns, rfl, _⟩ := h
    rfl
  obtain ⟨o, b, xs, ns, rfl, ho, hb, hl, q⟩ := h
  refine ⟨_, (pss_cons (ps_expr (pe_bm PySem.F.plainAttrs_list PySem.F.slot_list_append PySem.F.type_list_append mt_append (pv 0) (pa_cons (pe_callB call_len_seq rfl T.len PySem.boot_len (pa_cons (pv 1) pa_nil)) pa_nil)))
    (pss_one (ps_expr (pe_bm PySem.F.plainAttrs_list PySem.F.slot_list_extend PySem.F.type_list_extend mt_extendT (pv 0) (pa_cons (pv 1) pa_nil))))), ?_⟩
  refine ⟨_, rfl, .inl ⟨rfl, _, SqL.of ho⟩, _, rfl, _, _, rfl, .inr hb, _, _, _, rfl, rfl, ho, sizes' (by omega), ?_⟩
  refine ⟨_, rfl, .inl ⟨rfl, _, SqL.of upd_same⟩, _, rfl, _, _, _, _, rfl, rfl, upd_same, hb.but But.set ho, sizes (by rw [List.length_append, List.length_map, List.length_singleton]; omega), ?_⟩
  refine q _ (But.set.trans But.set) ?_
  rw [upd_same, List.append_assoc, List.length_map]
  rfl
theorem cut1 (xs : List V) : cutV xs (some 1) none = xs.drop 1 := by
  unfold cutV
  rw [show HT.sIx xs.length 0 (some 1) = min 1 xs.length from HT.sIx_nat xs.length 0 1, HT.sIx_none]
  cases xs with
  | nil => rfl
  | cons x r =>
    rw [show min 1 (x :: r).length = 1 by rw [List.length_cons]; omega]
    show (List.take ((x :: r).length - 1) r) = r
    rw [List.length_cons, Nat.add_sub_cancel]
    exact List.take_length
def sp_put_deed (K : PySem.W.Frag) : Sp := fun vs H Q _ => ∃ (o a : Addr) (xs : List V) (d : Dd), vs = [.ref o, .ref a] ∧ H o = some (.lst xs) ∧ DdAt K H a d ∧ d.Ok ∧ xs.length ≤ 1800 ∧
  ∀ H', But o H H' → H' o = some (.lst (xs ++ (numD d).map V.int)) → Q .non H'
theorem ok_put_deed {f : Addr} {fd : FuncData} (D : Df K mg "put_deed" s_put_deed ["out", "deed"] f fd) (T : Txt K mg) {aD : Addr} (DS : Deeds K mg aD) {f_put_sequence : Addr} {fd_put_sequence : FuncData} (D_put_sequence : Df K mg "put_sequence" s_put_sequence ["out", "integers"] f_put_sequence fd_put_sequence) (G_put_sequence : FnOk P w K mg base CX0 1 f_put_sequence fd_put_sequence ["out", "integers"] (sp_put_sequence K)) : FnOk P w K mg base CX0 2 f fd ["out", "deed"] (sp_put_deed K) := by
  refine D.F.ok sc_put_deed (fun vs H Q E h => ?_) (fun cdv A outer s H vs Q E hr h => ?_)
  · obtain ⟨o, a, xs, d, rfl, _⟩ := h
    rfl
  obtain ⟨o, a, xs, d, rfl, ho, hd, hk, hl, q⟩ := h
  refine ⟨_, (pss_cons (ps_expr (pe_bm PySem.F.plainAttrs_list PySem.F.slot_list_append PySem.F.type_list_append mt_append (pv 0) (pa_cons (pe_bm PySem.F.plainAttrs_tuple PySem.F.slot_tuple_index PySem.F.type_tuple_index mt_tup_index (pe_glob (v := V.ref aD) rfl DS.m rfl) (pa_cons (pe_ix ix_tup (pv 1) pe_int (fun _ _ => rfl)) pa_nil)) pa_nil)))
    (pss_one (ps_if (pt_cmpR op_eq (pe_ix ix_tup (pv 1) pe_int (fun _ _ => rfl)) pe_str (nomark _))
      (pss_one (ps_expr (pe_call G_put_sequence (hr.mono (by decide)) rfl D_put_sequence.m D_put_sequence.F.kp D_put_sequence.b .nil pass0 (pa_cons (pv 0) (pa_cons (pe_ix ix_tup (pv 1) pe_int (fun _ _ => rfl)) pa_nil)))))
      (pss_one (ps_expr (pe_bm PySem.F.plainAttrs_list PySem.F.slot_list_extend PySem.F.type_list_extend mt_extendT (pv 0) (pa_cons (pe_slice sl_tup (pv 1) (po_some pe_int) po_none) pa_nil))))))), ?_⟩
  obtain ⟨ob, lk, oc, od⟩ := DS.o
  have hn := hk.len
  obtain ⟨z, rest, hz, ht, hr2⟩ := id hd
  have hz' : (deedNames.map V.str)[d.place]? = some (V.str z) := by rw [List.getElem?_map, hz]; rfl
  refine ⟨_, rfl, .inl ⟨rfl, _, SqL.of ho⟩, .inr (.inl ⟨rfl, ob, lk, oc, od⟩), _, rfl, _, _, _, _, rfl, rfl, ht, at_of (j := 0) rfl rfl, _, _, _, _, rfl, rfl, DS.sq _, hz, fun m hm => dn_first hz hm, _, _, _, rfl, rfl, ho, sizes' (by omega), ?_⟩
  have b1 : But o H (upd H o (.lst (xs ++ [V.int (d.place : Int)]))) := But.set
  have ht1 := butTup b1 ho ht
  have hl1 : (xs ++ [V.int (d.place : Int)]).length = xs.length + 1 := by rw [List.length_append, List.length_singleton]
  refine ⟨_, rfl, _, _, _, _, rfl, rfl, ht1, at_of (j := 0) rfl rfl, rfl, _, rfl, ?_⟩
  refine ite2 (fun c => ?_) (fun c => ?_)
  · have c' : z = "anew" := by injection (of_decide_eq_true c)
    have h8 := (dn_anew hz).mp c'
    rcases hr2 with ⟨_, b, rfl, hb⟩ | ⟨n8, _⟩
    · refine ⟨_, rfl, _, rfl, _, _, _, _, rfl, rfl, ht1, at_of (j := 1) rfl rfl, _, _, _, _, rfl, upd_same, hb.but b1 ho, by omega, fun H' b2 e => ?_⟩
      refine q H' (b1.trans b2) ?_
      rw [e, List.append_assoc]
      unfold numD
      rw [if_pos h8]
      rfl
    · exact absurd h8 n8
  · have c' : ¬ z = "anew" := fun e => c (decide_eq_true (by rw [e]))
    have h8 : d.place ≠ 8 := fun e => c' ((dn_anew hz).mpr e)
    rcases hr2 with ⟨e8, _⟩ | ⟨_, rfl⟩
    · exact absurd e8 h8
    · refine ⟨_, rfl, .inl ⟨rfl, _, SqL.of upd_same⟩, _, rfl, _, rfl, _, _, rfl, ht1, ?_, fun p hp => ?_⟩
      · rintro ⟨e, _⟩
        rw [show ((1 : Int)) = ((1 : Nat) : Int) from rfl, HT.sIx_nat] at e
        rw [List.length_cons] at e
        omega
      · have s2 : Same (upd H o (.lst (xs ++ [V.int (d.place : Int)]))) (upd (upd H o (.lst (xs ++ [V.int (d.place : Int)]))) p (.tup (cutV (V.str z :: d.nums.map V.int) (some 1) none))) := same_upd hp
        refine ⟨_, _, _, _, rfl, rfl, s2 _ _ upd_same, SqT.of upd_same, ?_, ?_⟩
        · rw [cut1, hl1]
          refine sizes ?_
          show _ + (d.nums.map V.int).length ≤ _
          rw [List.length_map]
          omega
        · refine q _ ((b1.trans (But.of s2)).trans But.set) ?_
          rw [upd_same, cut1, List.append_assoc]
          unfold numD
          rw [if_neg h8]
          rfl
def sp_put_event (K : PySem.W.Frag) : Sp := fun vs H Q _ => ∃ (o a : Addr) (xs : List V) (e : Ev), vs = [.ref o, .ref a] ∧ H o = some (.lst xs) ∧ EvAt K H a e ∧ e.Ok ∧ xs.length ≤ 1500 ∧
  ∀ H', But o H H' → H' o = some (.lst (xs ++ (numE e).map V.int)) → Q .non H'
theorem ok_put_event {f : Addr} {fd : FuncData} (D : Df K mg "put_event" s_put_event ["out", "event"] f fd) (T : Txt K mg) {f_put_sequence : Addr} {fd_put_sequence : FuncData} (D_put_sequence : Df K mg "put_sequence" s_put_sequence ["out", "integers"] f_put_sequence fd_put_sequence) (G_put_sequence : FnOk P w K mg base CX0 1 f_put_sequence fd_put_sequence ["out", "integers"] (sp_put_sequence K)) {f_put_deed : Addr} {fd_put_deed : FuncData} (D_put_deed : Df K mg "put_deed" s_put_deed ["out", "deed"] f_put_deed fd_put_deed) (G_put_deed : FnOk P w K mg base CX0 2 f_put_deed fd_put_deed ["out", "deed"] (sp_put_deed K)) : FnOk P w K mg base CX0 3 f fd ["out", "event"] (sp_put_event K) := by
  refine D.F.ok sc_put_event (fun vs H Q E h => ?_) (fun cdv A outer s H vs Q E hr h => ?_)
  · obtain ⟨o, a, xs, e, rfl, _⟩ := h
    rfl
  obtain ⟨o, a, xs, e, rfl, ho, ⟨p1, p2, p3, p4, ht, h1, h2, h3, h4⟩, hk, hl, q⟩ := h
  refine ⟨_, (pss_cons (ps_asg (pv 1) (pg_tup rfl (pgs_cons (pg_name (i := 2) sc_put_event.nd rfl (Or.inl rfl)) (pgs_cons (pg_name (i := 3) sc_put_event.nd rfl (Or.inl rfl)) (pgs_cons (pg_name (i := 4) sc_put_event.nd rfl (Or.inl rfl)) (pgs_cons (pg_name (i := 5) sc_put_event.nd rfl (Or.inl rfl)) (pgs_cons (pg_name (i := 6) sc_put_event.nd rfl (Or.inl rfl)) pgs_nil)))))))
    (pss_cons (ps_expr (pe_bm PySem.F.plainAttrs_list PySem.F.slot_list_append PySem.F.type_list_append mt_append (pv 0) (pa_cons (pe_ifExp (pt_val (pv 2)) pe_int pe_int) pa_nil)))
    (pss_cons (ps_expr (pe_call G_put_sequence (hr.mono (by decide)) rfl D_put_sequence.m D_put_sequence.F.kp D_put_sequence.b .nil pass0 (pa_cons (pv 0) (pa_cons (pv 3) pa_nil))))
    (pss_cons (ps_expr (pe_call G_put_sequence (hr.mono (by decide)) rfl D_put_sequence.m D_put_sequence.F.kp D_put_sequence.b .nil pass0 (pa_cons (pv 0) (pa_cons (pv 4) pa_nil))))
    (pss_cons (ps_expr (pe_call G_put_deed (hr.mono (by decide)) rfl D_put_deed.m D_put_deed.F.kp D_put_deed.b .nil pass0 (pa_cons (pv 0) (pa_cons (pv 5) pa_nil))))
    (pss_one (ps_expr (pe_call G_put_sequence (hr.mono (by decide)) rfl D_put_sequence.m D_put_sequence.F.kp D_put_sequence.b .nil pass0 (pa_cons (pv 0) (pa_cons (pv 6) pa_nil)))))))))), ?_⟩
  have k1 := hk.s1; have k2 := hk.s2; have k3 := hk.s3; have k4 := numD_len hk.d
  refine ⟨_, rfl, _, _, rfl, ht, rfl, _, _, rfl, _, _, rfl, _, _, rfl, _, _, rfl, _, _, rfl, rfl, ?_⟩
  refine ⟨_, rfl, .inl ⟨rfl, _, SqL.of ho⟩, _, rfl, _, rfl, ?_⟩
  have key : ∀ b : Int, b = b2n e.asleep → (upd H o (.lst (xs ++ [V.int b]))) = (upd H o (.lst (xs ++ [V.int (b2n e.asleep)]))) := fun b hb => by rw [hb]
  have b1 : But o H (upd H o (.lst (xs ++ [V.int (b2n e.asleep)]))) := But.set
  refine ite2 (fun c => ?_) (fun c => ?_)
  all_goals
    refine ⟨_, _, _, rfl, rfl, ho, sizes' (by omega), ?_⟩
    first | rw [key 1 (by unfold b2n; rw [if_pos c])] | rw [key 0 (by unfold b2n; rw [if_neg c])]
    refine ⟨_, rfl, _, rfl, o, p1, _, _, rfl, upd_same, h1.but b1 ho, by rw [List.length_append, List.length_singleton]; omega, fun H2 b2 e2 => ?_⟩
    have b12 := b1.trans b2
    refine ⟨_, rfl, _, rfl, o, p2, _, _, rfl, e2, h2.but b12 ho, by simp [numSeq]; omega, fun H3 b3 e3 => ?_⟩
    have b13 := b12.trans b3
    refine ⟨_, rfl, _, rfl, o, p3, _, _, rfl, e3, h3.but b13 ho, hk.d, by simp [numSeq]; omega, fun H4 b4 e4 => ?_⟩
    have b14 := b13.trans b4
    refine ⟨_, rfl, _, rfl, o, p4, _, _, rfl, e4, h4.but b14 ho, by simp only [List.length_append, List.length_map, numSeq, List.length_cons, List.length_nil]; omega, fun H5 b5 e5 => ?_⟩
    refine q H5 (b14.trans b5) ?_
    rw [e5]
    unfold numE
    simp only [List.append_assoc, List.map_append, List.map_cons, List.map_nil]
def sp_write_view (K : PySem.W.Frag) : Sp := fun vs H Q _ => ∃ (a : Addr) (vw : List (List Ev)), vs = [.ref a] ∧ VwAt K H a vw ∧ VwOk vw ∧ ∀ H', Same H H' → Q (.str (textOf "whensure view" (numV vw))) H'
theorem ok_write_view {f : Addr} {fd : FuncData} (D : Df K mg "write_view" s_write_view ["view"] f fd) (T : Txt K mg) {t_VIEW_HEAD : Tok} (g_VIEW_HEAD : mg "VIEW_HEAD" = some (.str "whensure view" t_VIEW_HEAD)) {f_write_integers : Addr} {fd_write_integers : FuncData} (D_write_integers : Df K mg "write_integers" s_write_integers ["head", "integers"] f_write_integers fd_write_integers) (G_write_integers : FnOk P w K mg base CX0 1 f_write_integers fd_write_integers ["head", "integers"] (sp_write_integers K)) {f_put_event : Addr} {fd_put_event : FuncData} (D_put_event : Df K mg "put_event" s_put_event ["out", "event"] f_put_event fd_put_event) (G_put_event : FnOk P w K mg base CX0 3 f_put_event fd_put_event ["out", "event"] (sp_put_event K)) : FnOk P w K mg base CX0 4 f fd ["view"] (sp_write_view K) := by
  refine D.F.ok sc_write_view (fun vs H Q E h => ?_) (fun cdv A outer s H vs Q E hr h => ?_)
  · obtain ⟨a, vw, rfl, _⟩ := h
    rfl
  obtain ⟨a, vw, rfl, hv, hk, q⟩ := h
  refine ⟨_, (pss_cons (ps_set (i := 1) sc_write_view.nd rfl (Or.inl rfl) (pe_lst (pa_cons (pe_callB call_len_seq rfl T.len PySem.boot_len (pa_cons (pv 0) pa_nil)) pa_nil)))
    (pss_cons (ps_for PassesOwn.never rfl (pi_list (pv 0)) (pg_name (i := 2) sc_write_view.nd rfl (Or.inl rfl))
      (pss_cons (ps_expr (pe_bm PySem.F.plainAttrs_list PySem.F.slot_list_append PySem.F.type_list_append mt_append (pv 1) (pa_cons (pe_callB call_len_seq rfl T.len PySem.boot_len (pa_cons (pv 2) pa_nil)) pa_nil)))
    (pss_one (ps_for PassesOwn.never rfl (pi_list (pv 2)) (pg_name (i := 3) sc_write_view.nd rfl (Or.inl rfl))
      (pss_one (ps_expr (pe_call G_put_event (hr.mono (by decide)) rfl D_put_event.m D_put_event.F.kp D_put_event.b .nil pass0 (pa_cons (pv 1) (pa_cons (pv 3) pa_nil)))))))))
    (pss_one (ps_ret (pe_call G_write_integers (hr.mono (by decide)) rfl D_write_integers.m D_write_integers.F.kp D_write_integers.b .nil pass0 (pa_cons (pe_glob (v := V.str "whensure view") rfl g_VIEW_HEAD ⟨_, rfl⟩) (pa_cons (pv 1) pa_nil))))))), ?_⟩
  have hv0 := hv
  obtain ⟨rows, ha, he⟩ := hv
  have k1 := hk.len; have k2 := hk.sum; have kn := numV_len hk
  have hal : (rows.map V.ref).length = vw.length := by rw [List.length_map]; exact he.1
  refine ⟨_, rfl, _, _, rfl, .inl (SqL.of ha), (by show 1 ≤ sizeLine; decide), fun o hp => ?_⟩
  have s1 : Same H (upd H o (.lst [.int ((rows.map V.ref).length : Nat)])) := same_upd hp
  refine ⟨_, rfl, a, rfl, ⟨_, SqL.of (s1 _ _ ha)⟩, for_list (K := K) (a := a) (xs := rows.map V.ref) (fun i σ H' => ∃ d e, σ = [some (.ref a), some (.ref o), d, e] ∧ Same H H' ∧ H' o = some (.lst (([(vw.length : Int)] ++ (vw.take i).flatMap numEs).map V.int)))
    ⟨none, none, rfl, s1, ?_⟩ (fun i σ H' _ ⟨_, _, _, sm, _⟩ => SqL.of (sm _ _ ha)) ?_ ?_⟩
  · rw [upd_same, hal]
    rfl
  · rintro i x σ H' hx ⟨d, e, rfl, sm, eo⟩
    obtain ⟨hil, rfl⟩ := ref_get hx
    obtain ⟨es, hes, as, hr, hE⟩ := he.get (List.getElem?_eq_getElem hil)
    have hmem := List.mem_of_getElem? hes
    have kes := hk.ok es hmem
    have hel := len_le_sum hmem
    have hpre : ((vw.take i).flatMap numEs).length + (numEs es).length ≤ 966 := by
      have h1 := flat_take_le (f := numEs) (xs := vw) (i + 1)
      rw [flat_take hes, List.length_append] at h1
      unfold numV at kn
      rw [List.length_cons] at kn
      omega
    have hne : (numEs es).length = 1 + (es.flatMap numE).length := by unfold numEs; rw [List.length_cons]; omega
    have hal2 : (as.map V.ref).length = es.length := by rw [List.length_map]; exact hE.1
    refine ⟨_, rfl, .inl ⟨rfl, _, SqL.of eo⟩, _, rfl, _, _, rfl, .inl (SqL.of (sm _ _ hr)), _, _, _, rfl, rfl, eo, sizes' (by rw [List.length_map, List.length_append, List.length_singleton]; omega), ?_⟩
    have b0 : But o H' (upd H' o (.lst (([(vw.length : Int)] ++ (vw.take i).flatMap numEs).map V.int ++ [V.int ((as.map V.ref).length : Nat)]))) := But.set
    have sm0 : Same H (upd H' o (.lst (([(vw.length : Int)] ++ (vw.take i).flatMap numEs).map V.int ++ [V.int ((as.map V.ref).length : Nat)]))) := fun c w hc => b0 c w (ne_of_none hc hp) (sm _ _ hc)
    refine ⟨_, rfl, _, rfl, ⟨_, SqL.of (sm0 _ _ hr)⟩, for_list (K := K) (a := rows[i]) (xs := as.map V.ref) (fun j σ H2 => ∃ e, σ = [some (.ref a), some (.ref o), some (.ref rows[i]), e] ∧ Same H H2 ∧ H2 o = some (.lst (([(vw.length : Int)] ++ (vw.take i).flatMap numEs ++ ([(es.length : Int)] ++ (es.take j).flatMap numE)).map V.int)))
      ⟨_, rfl, sm0, ?_⟩ (fun i σ H' _ ⟨_, _, sm, _⟩ => SqL.of (sm _ _ hr)) ?_ ?_⟩
    · rw [upd_same, hal2]
      simp only [List.map_append, List.append_assoc, List.map_cons, List.map_nil, List.take_zero, List.flatMap_nil, List.append_nil]
    · rintro j y σ H2 hy ⟨e, rfl, sm2, eo2⟩
      obtain ⟨hjl, rfl⟩ := ref_get hy
      obtain ⟨ev, hev, hEv⟩ := hE.get (List.getElem?_eq_getElem hjl)
      have hf := flat_take_le (f := numE) (xs := es) j
      refine ⟨_, rfl, _, rfl, o, _, _, ev, rfl, eo2, hEv.keep sm2, kes ev (List.mem_of_getElem? hev), by rw [List.length_map, List.length_append, List.length_append, List.length_append, List.length_singleton, List.length_singleton]; omega, fun H3 b3 e3 => ?_⟩
      refine ⟨_, rfl, fun c w hc => b3 c w (ne_of_none hc hp) (sm2 _ _ hc), ?_⟩
      rw [e3, flat_take hev]
      simp only [List.append_assoc, List.map_append, List.map_cons, List.map_nil]
    · rintro σ H2 ⟨e, rfl, sm2, eo2⟩
      refine ⟨_, _, rfl, sm2, ?_⟩
      rw [eo2, flat_take hes, hal2, List.take_length]
      simp only [List.append_assoc]
      rfl
  · rintro σ H' ⟨d, e, rfl, sm, eo⟩
    rw [hal, List.take_length] at eo
    exact ⟨_, rfl, _, o, numV vw, rfl, SqL.of eo, numV_in hk, by omega, by decide +kernel, fun H2 s2 => q H2 (sm.trans s2)⟩
def sp__law_cell (K : PySem.W.Frag) : Sp := fun vs H Q _ => ∃ (a : Addr) (ns : List Int) (k : Int), vs = [.ref a, .int k] ∧ SqL K H a (ns.map V.int) ∧ 0 ≤ k ∧ k ≤ 1000 ∧ ∀ c : Int, Q (.int c) H
theorem ok__law_cell {f : Addr} {fd : FuncData} (D : Df K mg "_law_cell" s__law_cell ["script", "k"] f fd) (T : Txt K mg) : FnOk P w K mg base CX0 1 f fd ["script", "k"] (sp__law_cell K) := by
  refine D.F.ok sc__law_cell (fun vs H Q E h => ?_) (fun cdv A outer s H vs Q E hr h => ?_)
  · obtain ⟨a, ns, k, rfl, _⟩ := h
    rfl
  obtain ⟨a, ns, k, rfl, hS, h0, h1, q⟩ := h
  refine ⟨_, (pss_cons (ps_set (i := 2) sc__law_cell.nd rfl (Or.inl rfl) pe_int)
    (pss_cons (ps_if (pt_cmpR op_lt (pv 1) (pe_callB call_len_seq rfl T.len PySem.boot_len (pa_cons (pv 0) pa_nil)) (nomark _))
      (pss_one (ps_set (i := 2) sc__law_cell.nd rfl (Or.inl rfl) (pe_ix ix_list (pv 0) (pv 1) (fun _ _ => rfl))))
      pss_nil)
    (pss_cons (ps_if (pt_cmpR op_lt (pv 2) pe_int (nomark _))
      (pss_one (ps_set (i := 2) sc__law_cell.nd rfl (Or.inl rfl) (pe_op op_sub pe_int (pe_op op_mul pe_int (pv 2)))))
      pss_nil)
    (pss_cons (ps_if (pt_cmpR op_ge (pv 2) (pe_op op_pow pe_int pe_int) (nomark _))
      (pss_one (ps_ret (pv 2)))
      pss_nil)
    (pss_cons (ps_set (i := 3) sc__law_cell.nd rfl (Or.inl rfl) (pe_op op_mod (pe_op op_add (pe_op op_add (pe_op op_mul (pe_callTy call_int1 rfl T.int (by decide +kernel) (pa_cons (pv 2) pa_nil)) pe_int) (pe_op op_mul (pv 1) pe_int)) pe_int) pe_int))
    (pss_cons (ps_set (i := 3) sc__law_cell.nd rfl (Or.inl rfl) (pe_op op_mod (pe_op op_add (pe_op op_add (pe_op op_mul (pv 3) pe_int) (pe_op op_mul (pv 1) pe_int)) pe_int) pe_int))
    (pss_cons (ps_set (i := 4) sc__law_cell.nd rfl (Or.inl rfl) (pe_op op_mod (pe_op op_add (pe_op op_mul (pv 3) pe_int) pe_int) pe_int))
    (pss_one (ps_ret (pe_op op_add (pe_op op_mul (pv 3) pe_int) (pv 4))))))))))), ?_⟩
  refine ⟨_, rfl, _, rfl, _, _, rfl, .inl hS, _, _, rfl, rfl, _, rfl, ?_⟩
  refine ite2 (fun c => ?_) (fun c => ?_)
  · have c' : k < (((ns.map V.int).length : Nat) : Int) := of_decide_eq_true c
    rw [List.length_map] at c'
    refine ⟨_, rfl, _, rfl, _, _, _, _, rfl, rfl, hS, at_of (j := k.toNat) (v := V.int (ns[k.toNat]'(by omega))) (by omega) (by rw [List.getElem?_map, List.getElem?_eq_getElem (by omega)]; rfl), ?_⟩
    refine ⟨_, rfl, _, _, rfl, rfl, _, rfl, ?_⟩
    refine ite2 (fun c2 => ?_) (fun c2 => ?_)
    · refine ⟨_, rfl, _, _, rfl, rfl, (.inl (by decide)), _, _, rfl, rfl, ?_⟩
      refine ⟨_, rfl, _, _, rfl, rfl, ⟨by decide, by decide, by decide⟩, _, _, rfl, rfl, _, rfl, ?_⟩
      refine ite2 (fun c => ⟨_, rfl, q _⟩) (fun c => ?_)
      refine ⟨_, rfl, .inl ⟨_, rfl, _, _, rfl, rfl, (.inr (by decide)), _, rfl, _, _, rfl, rfl, (.inr (by decide)), _, _, rfl, rfl, _, _, rfl, rfl, _, _, rfl, rfl, (posJ rfl), ?_⟩⟩
      refine ⟨_, rfl, _, _, rfl, rfl, (.inr (by decide)), _, rfl, _, _, rfl, rfl, (.inr (by decide)), _, _, rfl, rfl, _, _, rfl, rfl, _, _, rfl, rfl, (posJ rfl), ?_⟩
      refine ⟨_, rfl, _, _, rfl, rfl, (.inr (by decide)), _, _, rfl, rfl, _, _, rfl, rfl, (posJ rfl), ?_⟩
      exact ⟨_, rfl, _, _, rfl, rfl, (.inr (by decide)), _, rfl, _, _, rfl, rfl, q _⟩
    · refine ⟨_, rfl, _, _, rfl, rfl, ⟨by decide, by decide, by decide⟩, _, _, rfl, rfl, _, rfl, ?_⟩
      refine ite2 (fun c => ⟨_, rfl, q _⟩) (fun c => ?_)
      refine ⟨_, rfl, .inl ⟨_, rfl, _, _, rfl, rfl, (.inr (by decide)), _, rfl, _, _, rfl, rfl, (.inr (by decide)), _, _, rfl, rfl, _, _, rfl, rfl, _, _, rfl, rfl, (posJ rfl), ?_⟩⟩
      refine ⟨_, rfl, _, _, rfl, rfl, (.inr (by decide)), _, rfl, _, _, rfl, rfl, (.inr (by decide)), _, _, rfl, rfl, _, _, rfl, rfl, _, _, rfl, rfl, (posJ rfl), ?_⟩
      refine ⟨_, rfl, _, _, rfl, rfl, (.inr (by decide)), _, _, rfl, rfl, _, _, rfl, rfl, (posJ rfl), ?_⟩
      exact ⟨_, rfl, _, _, rfl, rfl, (.inr (by decide)), _, rfl, _, _, rfl, rfl, q _⟩
  · refine ⟨_, rfl, _, _, rfl, rfl, _, rfl, ?_⟩
    refine ite2 (fun c2 => absurd (of_decide_eq_true c2) (by omega)) (fun c2 => ?_)
    refine ⟨_, rfl, _, _, rfl, rfl, ⟨by decide, by decide, by decide⟩, _, _, rfl, rfl, _, rfl, ?_⟩
    refine ite2 (fun c => ⟨_, rfl, q _⟩) (fun c => ?_)
    refine ⟨_, rfl, .inl ⟨_, rfl, _, _, rfl, rfl, (.inr (by decide)), _, rfl, _, _, rfl, rfl, (.inr (by decide)), _, _, rfl, rfl, _, _, rfl, rfl, _, _, rfl, rfl, (posJ rfl), ?_⟩⟩
    refine ⟨_, rfl, _, _, rfl, rfl, (.inr (by decide)), _, rfl, _, _, rfl, rfl, (.inr (by decide)), _, _, rfl, rfl, _, _, rfl, rfl, _, _, rfl, rfl, (posJ rfl), ?_⟩
    refine ⟨_, rfl, _, _, rfl, rfl, (.inr (by decide)), _, _, rfl, rfl, _, _, rfl, rfl, (posJ rfl), ?_⟩
    exact ⟨_, rfl, _, _, rfl, rfl, (.inr (by decide)), _, rfl, _, _, rfl, rfl, q _⟩
theorem menu_at (j : Int) : ∃ v : Int, atI [V.int 4, V.int 100, V.int ((10 : Int) ^ (9 : Int).toNat), V.int ((10 : Int) ^ (18 : Int).toNat)] (j % 4) = some (.int v) ∧ 0 < v ∧ v ≤ 10 ^ 18 := by
  have h1 : 0 ≤ j % 4 := Int.emod_nonneg _ (by decide)
  have h2 : j % 4 < 4 := Int.emod_lt_of_pos _ (by decide)
  have h : j % 4 = 0 ∨ j % 4 = 1 ∨ j % 4 = 2 ∨ j % 4 = 3 := by omega
  rcases h with e | e | e | e <;> rw [e]
  · exact ⟨_, at_of (j := 0) rfl rfl, by decide, by decide⟩
  · exact ⟨_, at_of (j := 1) rfl rfl, by decide, by decide⟩
  · exact ⟨_, at_of (j := 2) rfl rfl, by decide, by decide⟩
  · exact ⟨_, at_of (j := 3) rfl rfl, by decide, by decide⟩
theorem fmod_in {x v : Int} (h : 0 < v) (h2 : v ≤ 10 ^ 18) : In18 (x.fmod v) ∧ 0 ≤ x.fmod v := by
  have h1 : 0 ≤ x.fmod v := Int.fmod_nonneg_of_pos _ h
  have h3 : x.fmod v < v := Int.fmod_lt_of_pos _ h
  refine ⟨?_, h1⟩
  unfold In18
  omega
theorem In18.neg {n : Int} (h : In18 n) : In18 (0 - n) := by
  unfold In18 at h ⊢
  omega
def sp__law_values (K : PySem.W.Frag) : Sp := fun vs H Q _ => ∃ (s c : Int) (b : Bool), vs = [.int s, .int c, .bl b] ∧ 0 ≤ c ∧ c ≤ 1000 ∧
  ∀ (p : Addr) (H' : Hp) (vals : List Int), Same H H' → H p = none → H' p = some (.lst (vals.map V.int)) → vals.length = c.toNat → (∀ v ∈ vals, In18 v ∧ (b = false → 0 ≤ v)) → Q (.ref p) H'
theorem ok__law_values {f : Addr} {fd : FuncData} (D : Df K mg "_law_values" s__law_values ["seed", "count", "signed"] f fd) (T : Txt K mg) : FnOk P w K mg base CX0 1 f fd ["seed", "count", "signed"] (sp__law_values K) := by
  refine D.F.ok sc__law_values (fun vs H Q E h => ?_) (fun cdv A outer s H vs Q E hr h => ?_)
  · obtain ⟨s, n, b, rfl, _⟩ := h
    rfl
  obtain ⟨sd, cc, sg, rfl, hc0, hn, q⟩ := h
  refine ⟨_, (pss_cons (ps_set (i := 3) sc__law_values.nd rfl (Or.inl rfl) (pe_lst pa_nil))
    (pss_cons (ps_for PassesOwn.never rfl (pi_range1 rfl T.range (pa_cons (pv 1) pa_nil)) (pg_name (i := 4) sc__law_values.nd rfl (Or.inl rfl))
      (pss_cons (ps_set (i := 5) sc__law_values.nd rfl (Or.inl rfl) (pe_op op_modN (pe_callTy call_int1 rfl T.int (by decide +kernel) (pa_cons (pe_op op_fdivN (pv 0) (pe_op op_add (pe_op op_mul (pv 4) (pv 4)) pe_int)) pa_nil)) (pe_ix ix_list (pe_lst (pa_cons pe_int (pa_cons pe_int (pa_cons (pe_op op_pow pe_int pe_int) (pa_cons (pe_op op_pow pe_int pe_int) pa_nil))))) (pe_op op_mod (pe_callTy call_int1 rfl T.int (by decide +kernel) (pa_cons (pe_op op_add (pv 0) (pv 4)) pa_nil)) pe_int) (fun _ _ => rfl))))
    (pss_cons (ps_if (PW.pt (pw_and (pt_val (pv 2)) (pw_and1 (pt_cmpR op_eq (pe_op op_mod (pe_callTy call_int1 rfl T.int (by decide +kernel) (pa_cons (pe_op op_add (pe_op op_fdiv (pv 0) pe_int) (pv 4)) pa_nil)) pe_int) pe_int (nomark _)))))
      (pss_one (ps_set (i := 5) sc__law_values.nd rfl (Or.inl rfl) (pe_op op_sub pe_int (pv 5))))
      pss_nil)
    (pss_one (ps_expr (pe_bm PySem.F.plainAttrs_list PySem.F.slot_list_append PySem.F.type_list_append mt_append (pv 3) (pa_cons (pv 5) pa_nil)))))))
    (pss_one (ps_ret (pv 3))))), ?_⟩
  refine ⟨(by show 0 ≤ sizeLine; decide), fun p hp => ?_⟩
  refine ⟨_, rfl, _, rfl, by omega, by omega, for_range (lo := 0) (n := cc.toNat) (fun i σ H' => ∃ kv vv, ∃ vals : List Int, σ = [some (.int sd), some (.int cc), some (.bl sg), some (.ref p), kv, vv] ∧ Same H H' ∧ H' p = some (.lst (vals.map V.int)) ∧ vals.length = i ∧ (∀ v ∈ vals, In18 v ∧ (sg = false → 0 ≤ v)))
    ⟨none, none, [], rfl, same_upd hp, upd_same, rfl, fun v hv => by simp at hv⟩ ?_ ?_⟩
  · rintro i σ H' hi ⟨kv, vv, vals, rfl, sm, ep, el, hv⟩
    have hi' : i < 1000 := by omega
    have hii : i * i ≤ 1000 * 1000 := Nat.mul_le_mul (by omega) (by omega)
    have ei : ((0 : Int) + (i : Int)) * (0 + (i : Int)) = ((i * i : Nat) : Int) := by simp
    refine ⟨_, rfl, _, rfl, _, rfl, _, _, rfl, rfl, (.inl (by omega)), _, _, rfl, rfl, _, _, rfl, rfl, ⟨by rw [ei]; omega, by rw [ei]; omega⟩, .inl ⟨_, rfl, ?_⟩⟩
    refine ⟨_, _, rfl, rfl, ⟨by decide, by decide, by decide⟩, _, _, rfl, rfl, ⟨by decide, by decide, by decide⟩, (by show 4 ≤ sizeLine; decide), fun m hm => ?_⟩
    have sm2 : Same H' (upd H' m (.lst [V.int 4, V.int 100, V.int ((10 : Int) ^ (9 : Int).toNat), V.int ((10 : Int) ^ (18 : Int).toNat)])) := same_upd hm
    obtain ⟨v, hv1, hv2, hv3⟩ := menu_at (sd + (0 + (i : Int)))
    refine ⟨_, rfl, _, rfl, _, _, rfl, rfl, .inl ⟨_, rfl, _, _, rfl, rfl, (posJ rfl), _, _, _, _, rfl, rfl, SqL.of upd_same, hv1, _, _, rfl, rfl, by omega, ?_⟩⟩
    have hval := fmod_in (x := sd.fdiv ((0 + (i : Int)) * (0 + (i : Int)) + 1)) hv2 hv3
    have hlt : (vals.map V.int).length < sizeLine := by rw [List.length_map, el]; exact sizes' (by omega)
    have ep2 := sm2 _ _ ep
    have fin : ∀ (z : Int), In18 z → (sg = false → 0 ≤ z) → ∃ kv vv, ∃ vals' : List Int, ([some (.int sd), some (.int cc), some (.bl sg), some (.ref p), some (.int (0 + (i : Int))), some (.int z)] : L2.St) = [some (.int sd), some (.int cc), some (.bl sg), some (.ref p), kv, vv] ∧
        Same H (upd (upd H' m (.lst [V.int 4, V.int 100, V.int ((10 : Int) ^ (9 : Int).toNat), V.int ((10 : Int) ^ (18 : Int).toNat)])) p (.lst (vals.map V.int ++ [V.int z]))) ∧
        (upd (upd H' m (.lst [V.int 4, V.int 100, V.int ((10 : Int) ^ (9 : Int).toNat), V.int ((10 : Int) ^ (18 : Int).toNat)])) p (.lst (vals.map V.int ++ [V.int z]))) p = some (.lst (vals'.map V.int)) ∧ vals'.length = i + 1 ∧ (∀ v ∈ vals', In18 v ∧ (sg = false → 0 ≤ v)) := by
      intro z hz hz2
      refine ⟨_, _, vals ++ [z], rfl, fun c u hc => ?_, ?_, by simp [el], fun v hv' => ?_⟩
      · rw [upd_ne (ne_of_none hc hp)]
        exact sm2 _ _ (sm _ _ hc)
      · rw [upd_same, List.map_append]
        rfl
      · rcases List.mem_append.mp hv' with h | h
        · exact hv v h
        · rw [List.mem_singleton.mp h]
          exact ⟨hz, hz2⟩
    refine ⟨_, rfl, _, rfl, ite2 (fun c => ?_) (fun c => ?_)⟩
    · refine ⟨_, rfl, _, _, rfl, rfl, ⟨posJ rfl, by decide⟩, _, rfl, _, _, rfl, rfl, .inl ⟨_, rfl, _, _, rfl, rfl, (posJ rfl), rfl, _, rfl, ite2 (fun c2 => ?_) (fun c2 => ?_)⟩⟩
      · refine ⟨_, rfl, _, _, rfl, rfl, ?_⟩
        exact ⟨_, rfl, .inl ⟨rfl, _, SqL.of ep2⟩, _, rfl, _, _, _, rfl, rfl, ep2, hlt, fin _ hval.1.neg (fun h => absurd c (by rw [h]; decide))⟩
      · exact ⟨_, rfl, .inl ⟨rfl, _, SqL.of ep2⟩, _, rfl, _, _, _, rfl, rfl, ep2, hlt, fin _ hval.1 (fun _ => hval.2)⟩
    · refine iteF ?_
      exact ⟨_, rfl, .inl ⟨rfl, _, SqL.of ep2⟩, _, rfl, _, _, _, rfl, rfl, ep2, hlt, fin _ hval.1 (fun _ => hval.2)⟩
  · rintro σ H' ⟨kv, vv, vals, rfl, sm, ep, el, hv⟩
    exact ⟨_, rfl, q p H' vals sm hp ep (by omega) hv⟩
theorem menu7 {j : Int} (h : j = 1 ∨ j = 3 ∨ j = 5 ∨ j = 6) : ∃ z : Str, atI [V.str "note", V.str "kind", V.str "mark", V.str "send", V.str "tell", V.str "hear", V.str "promise"] j = some (.str z) ∧ deedNames[j.toNat]? = some z ∧ j.toNat < 9 ∧ j.toNat ≠ 8 ∧ arity j.toNat = 2 ∧ ∀ i, ¬ mayNeg j.toNat i := by
  rcases h with e | e | e | e <;> rw [e]
  · exact ⟨_, at_of (j := 1) rfl rfl, rfl, by decide, by decide, rfl, fun i h => by rcases h with ⟨h, _⟩ | h <;> exact absurd h (by decide)⟩
  · exact ⟨_, at_of (j := 3) rfl rfl, rfl, by decide, by decide, rfl, fun i h => by rcases h with ⟨h, _⟩ | h <;> exact absurd h (by decide)⟩
  · exact ⟨_, at_of (j := 5) rfl rfl, rfl, by decide, by decide, rfl, fun i h => by rcases h with ⟨h, _⟩ | h <;> exact absurd h (by decide)⟩
  · exact ⟨_, at_of (j := 6) rfl rfl, rfl, by decide, by decide, rfl, fun i h => by rcases h with ⟨h, _⟩ | h <;> exact absurd h (by decide)⟩
def sp__law_deed (K : PySem.W.Frag) : Sp := fun vs H Q _ => ∃ (s t : Int), vs = [.int s, .int t] ∧ ∀ (a : Addr) (H' : Hp) (d : Dd), Same H H' → DdAt K H' a d → d.Ok → Q (.ref a) H'
theorem ok__law_deed {f : Addr} {fd : FuncData} (D : Df K mg "_law_deed" s__law_deed ["shape", "seed"] f fd) (T : Txt K mg) {f__law_values : Addr} {fd__law_values : FuncData} (D__law_values : Df K mg "_law_values" s__law_values ["seed", "count", "signed"] f__law_values fd__law_values) (G__law_values : FnOk P w K mg base CX0 1 f__law_values fd__law_values ["seed", "count", "signed"] (sp__law_values K)) : FnOk P w K mg base CX0 2 f fd ["shape", "seed"] (sp__law_deed K) := by
  refine D.F.ok sc__law_deed (fun vs H Q E h => ?_) (fun cdv A outer s H vs Q E hr h => ?_)
  · obtain ⟨s, t, rfl, _⟩ := h
    rfl
  obtain ⟨sh, sd, rfl, q⟩ := h
  refine ⟨_, (pss_cons (ps_set (i := 2) sc__law_deed.nd rfl (Or.inl rfl) (pe_op op_mod (pe_callTy call_int1 rfl T.int (by decide +kernel) (pa_cons (pv 0) pa_nil)) pe_int))
    (pss_cons (ps_set (i := 3) sc__law_deed.nd rfl (Or.inl rfl) (pe_call G__law_values (hr.mono (by decide)) rfl D__law_values.m D__law_values.F.kp D__law_values.b .nil pass0 (pa_cons (pv 1) (pa_cons pe_int (pa_cons pe_bl pa_nil)))))
    (pss_cons (ps_set (i := 4) sc__law_deed.nd rfl (Or.inl rfl) (pe_call G__law_values (hr.mono (by decide)) rfl D__law_values.m D__law_values.F.kp D__law_values.b .nil pass0 (pa_cons (pe_op op_fdiv (pv 1) pe_int) (pa_cons pe_int (pa_cons pe_bl pa_nil)))))
    (pss_cons (ps_if (pt_cmpR op_eq (pv 2) pe_int (nomark _))
      (pss_one (ps_ret (pe_tup (pa_cons pe_str pa_nil))))
      pss_nil)
    (pss_cons (ps_if (pt_cmpR op_eq (pv 2) pe_int (nomark _))
      (pss_one (ps_ret (pe_tup (pa_cons pe_str (pa_cons (pe_ix ix_list (pv 3) pe_int (fun _ _ => rfl)) (pa_cons (pe_ix ix_list (pv 3) pe_int (fun _ _ => rfl)) (pa_cons (pe_ix ix_list (pv 4) pe_int (fun _ _ => rfl)) pa_nil)))))))
      pss_nil)
    (pss_cons (ps_if (pt_cmpR op_eq (pv 2) pe_int (nomark _))
      (pss_one (ps_ret (pe_tup (pa_cons pe_str (pa_cons (pe_ix ix_list (pv 3) pe_int (fun _ _ => rfl)) pa_nil)))))
      pss_nil)
    (pss_cons (ps_if (pt_cmpR op_eq (pv 2) pe_int (nomark _))
      (pss_one (ps_ret (pe_tup (pa_cons pe_str (pa_cons (pe_ix ix_list (pv 4) pe_int (fun _ _ => rfl)) pa_nil)))))
      pss_nil)
    (pss_cons (ps_if (pt_cmpR op_eq (pv 2) pe_int (nomark _))
      (pss_one (ps_ret (pe_tup (pa_cons pe_str (pa_cons (pe_callTy call_tuple_of rfl T.tuple (by decide +kernel) (pa_cons (pe_call G__law_values (hr.mono (by decide)) rfl D__law_values.m D__law_values.F.kp D__law_values.b .nil pass0 (pa_cons (pe_op op_fdiv (pv 1) pe_int) (pa_cons (pe_op op_mod (pe_op op_fdiv (pe_callTy call_int1 rfl T.int (by decide +kernel) (pa_cons (pv 0) pa_nil)) pe_int) pe_int) (pa_cons pe_bl pa_nil)))) pa_nil)) pa_nil)))))
      pss_nil)
    (pss_one (ps_ret (pe_tup (pa_cons (pe_ix ix_list (pe_lst (pa_cons pe_str (pa_cons pe_str (pa_cons pe_str (pa_cons pe_str (pa_cons pe_str (pa_cons pe_str (pa_cons pe_str pa_nil)))))))) (pv 2) (fun _ _ => rfl)) (pa_cons (pe_ix ix_list (pv 3) pe_int (fun _ _ => rfl)) (pa_cons (pe_ix ix_list (pv 3) pe_int (fun _ _ => rfl)) pa_nil)))))))))))))), ?_⟩
  refine ⟨_, rfl, .inl ⟨_, rfl, _, _, rfl, rfl, (posJ rfl), ?_⟩⟩
  refine ⟨_, rfl, sd, 2, false, rfl, by decide, by decide, fun p1 H1 vals1 s1 n1 e1 l1 v1 => ?_⟩
  refine ⟨_, rfl, _, _, rfl, rfl, ⟨posJ rfl, by decide⟩, _, 1, true, rfl, by decide, by decide, fun p2 H2 vals2 s2 n2 e2 l2 v2 => ?_⟩
  obtain ⟨x, y, rfl⟩ := two_of l1
  obtain ⟨z, rfl⟩ := one_of l2
  have e1' := s2 _ _ e1
  have s12 := s1.trans s2
  have hx := v1 x (by simp)
  have hy := v1 y (by simp)
  have hz := v2 z (by simp)
  have hp0 : 0 ≤ sh % 9 := Int.emod_nonneg _ (by decide)
  have hp9 : sh % 9 < 9 := Int.emod_lt_of_pos _ (by decide)
  refine ⟨_, rfl, rfl, _, rfl, ite2 (fun c => ?_) (fun c0 => ?_)⟩
  · refine ⟨(by show 1 ≤ sizeLine; decide), fun p hp => ?_⟩
    exact q p _ ⟨0, []⟩ (s12.trans (same_upd hp)) ⟨_, _, rfl, SqT.of upd_same, .inr ⟨of_decide_eq_true rfl, rfl⟩⟩ ⟨of_decide_eq_true rfl, of_decide_eq_true rfl, fun _ => rfl, fun n h => by simp at h, fun i n h => by simp at h⟩
  refine ⟨_, rfl, rfl, _, rfl, ite2 (fun c => ?_) (fun c2 => ?_)⟩
  · refine ⟨_, rfl, _, _, _, _, rfl, rfl, SqL.of e1', at_of (j := 0) rfl rfl, _, rfl, _, _, _, _, rfl, rfl, SqL.of e1', at_of (j := 1) rfl rfl, _, rfl, _, _, _, _, rfl, rfl, SqL.of e2, at_of (j := 0) rfl rfl, (by show 4 ≤ sizeLine; decide), fun p hp => ?_⟩
    refine q p _ ⟨2, [x, y, z]⟩ (s12.trans (same_upd hp)) ⟨_, _, rfl, SqT.of upd_same, .inr ⟨of_decide_eq_true rfl, rfl⟩⟩ ⟨of_decide_eq_true rfl, of_decide_eq_true rfl, fun _ => rfl, fun n h => ?_, fun i n h hm => nt_three h hm (hx.2 rfl) (hy.2 rfl)⟩
    simp only [List.mem_cons, List.not_mem_nil, or_false] at h
    rcases h with e | e | e <;> rw [e]
    · exact hx.1
    · exact hy.1
    · exact hz.1
  refine ⟨_, rfl, rfl, _, rfl, ite2 (fun c => ?_) (fun c4 => ?_)⟩
  · refine ⟨_, rfl, _, _, _, _, rfl, rfl, SqL.of e1', at_of (j := 0) rfl rfl, (by show 2 ≤ sizeLine; decide), fun p hp => ?_⟩
    refine q p _ ⟨4, [x]⟩ (s12.trans (same_upd hp)) ⟨_, _, rfl, SqT.of upd_same, .inr ⟨of_decide_eq_true rfl, rfl⟩⟩ ⟨of_decide_eq_true rfl, of_decide_eq_true rfl, fun _ => rfl, fun n h => ?_, fun i n h hm => nt_one h (hx.2 rfl)⟩
    rw [List.mem_singleton.mp h]
    exact hx.1
  refine ⟨_, rfl, rfl, _, rfl, ite2 (fun c => ?_) (fun c7 => ?_)⟩
  · refine ⟨_, rfl, _, _, _, _, rfl, rfl, SqL.of e2, at_of (j := 0) rfl rfl, (by show 2 ≤ sizeLine; decide), fun p hp => ?_⟩
    refine q p _ ⟨7, [z]⟩ (s12.trans (same_upd hp)) ⟨_, _, rfl, SqT.of upd_same, .inr ⟨of_decide_eq_true rfl, rfl⟩⟩ ⟨of_decide_eq_true rfl, of_decide_eq_true rfl, fun _ => rfl, fun n h => ?_, fun i n h hm => absurd (Or.inr rfl) hm⟩
    rw [List.mem_singleton.mp h]
    exact hz.1
  refine ⟨_, rfl, rfl, _, rfl, ite2 (fun c => ?_) (fun c8 => ?_)⟩
  · have hk0 : 0 ≤ sh / 9 % 4 := Int.emod_nonneg _ (by decide)
    have hk4 : sh / 9 % 4 < 4 := Int.emod_lt_of_pos _ (by decide)
    refine ⟨_, rfl, _, _, rfl, rfl, ⟨posJ rfl, by decide⟩, _, rfl, .inl ⟨_, rfl, _, _, rfl, rfl, ⟨posJ rfl, by decide⟩, _, _, rfl, rfl, (posJ rfl), _, _, false, rfl, hk0, by omega, fun p3 H3 vals3 s3 n3 e3 l3 v3 => ?_⟩⟩
    refine ⟨_, _, rfl, .inl ⟨SqL.of e3, fun u hu => ⟨(by show 2 ≤ sizeLine; decide), fun p hp => ?_⟩⟩⟩
    have s5 : Same (upd H3 u (.tup (vals3.map V.int))) (upd (upd H3 u (.tup (vals3.map V.int))) p (.tup [V.str "anew", V.ref u])) := same_upd hp
    exact q p _ ⟨8, vals3⟩ (s12.trans (s3.trans ((same_upd hu).trans s5))) ⟨_, _, rfl, SqT.of upd_same, .inl ⟨rfl, u, rfl, SqT.of (s5 _ _ upd_same)⟩⟩
      ⟨of_decide_eq_true rfl, by show vals3.length ≤ 4; omega, fun h => absurd rfl h, fun n h => (v3 n h).1, fun i n h _ => (v3 n (List.mem_of_getElem? h)).2 rfl⟩
  have d0 := vint_ne c0
  have d2 := vint_ne c2
  have d4 := vint_ne c4
  have d7 := vint_ne c7
  have d8 := vint_ne c8
  obtain ⟨zz, a1, a2, a3, a4, a5, a6⟩ := menu7 (j := sh % 9) (by omega)
  refine ⟨(by show 7 ≤ sizeLine; decide), fun m hm => ?_⟩
  have s3 := (same_upd hm : Same H2 (upd H2 m (.lst [V.str "note", V.str "kind", V.str "mark", V.str "send", V.str "tell", V.str "hear", V.str "promise"])))
  have e1m := s3 _ _ e1'
  refine ⟨_, rfl, _, _, _, _, rfl, rfl, SqL.of upd_same, a1, _, rfl, _, _, _, _, rfl, rfl, SqL.of e1m, at_of (j := 0) rfl rfl, _, rfl, _, _, _, _, rfl, rfl, SqL.of e1m, at_of (j := 1) rfl rfl, (by show 3 ≤ sizeLine; decide), fun p hp => ?_⟩
  refine q p _ ⟨(sh % 9).toNat, [x, y]⟩ (s12.trans (s3.trans (same_upd hp))) ⟨_, _, a2, SqT.of upd_same, .inr ⟨a4, rfl⟩⟩ ⟨a3, of_decide_eq_true rfl, fun _ => a5.symm, fun n h => ?_, fun i n h _ => nt_two h (hx.2 rfl) (hy.2 rfl)⟩
  simp only [List.mem_cons, List.not_mem_nil, or_false] at h
  rcases h with e | e <;> rw [e]
  · exact hx.1
  · exact hy.1
def sp__law_event (K : PySem.W.Frag) : Sp := fun vs H Q _ => ∃ (s t u : Int), vs = [.int s, .int t, .int u] ∧ ∀ (a : Addr) (H' : Hp) (e : Ev), Same H H' → EvAt K H' a e → e.Ok → Q (.ref a) H'
theorem ok__law_event {f : Addr} {fd : FuncData} (D : Df K mg "_law_event" s__law_event ["first", "second", "third"] f fd) (T : Txt K mg) {f__law_values : Addr} {fd__law_values : FuncData} (D__law_values : Df K mg "_law_values" s__law_values ["seed", "count", "signed"] f__law_values fd__law_values) (G__law_values : FnOk P w K mg base CX0 1 f__law_values fd__law_values ["seed", "count", "signed"] (sp__law_values K)) {f__law_deed : Addr} {fd__law_deed : FuncData} (D__law_deed : Df K mg "_law_deed" s__law_deed ["shape", "seed"] f__law_deed fd__law_deed) (G__law_deed : FnOk P w K mg base CX0 2 f__law_deed fd__law_deed ["shape", "seed"] (sp__law_deed K)) : FnOk P w K mg base CX0 3 f fd ["first", "second", "third"] (sp__law_event K) := by
  refine D.F.ok sc__law_event (fun vs H Q E h => ?_) (fun cdv A outer s H vs Q E hr h => ?_)
  · obtain ⟨s, t, u, rfl, _⟩ := h
    rfl
  obtain ⟨x1, x2, x3, rfl, q⟩ := h
  refine ⟨_, (pss_cons (ps_set (i := 3) sc__law_event.nd rfl (Or.inl rfl) (pe_callTy call_tuple_of rfl T.tuple (by decide +kernel) (pa_cons (pe_call G__law_values (hr.mono (by decide)) rfl D__law_values.m D__law_values.F.kp D__law_values.b .nil pass0 (pa_cons (pv 1) (pa_cons (pe_op op_mod (pe_op op_fdiv (pe_callTy call_int1 rfl T.int (by decide +kernel) (pa_cons (pv 0) pa_nil)) pe_int) pe_int) (pa_cons pe_bl pa_nil)))) pa_nil)))
    (pss_cons (ps_set (i := 4) sc__law_event.nd rfl (Or.inl rfl) (pe_callTy call_tuple_of rfl T.tuple (by decide +kernel) (pa_cons (pe_call G__law_values (hr.mono (by decide)) rfl D__law_values.m D__law_values.F.kp D__law_values.b .nil pass0 (pa_cons (pe_op op_fdiv (pv 1) pe_int) (pa_cons (pe_op op_mod (pe_op op_fdiv (pe_callTy call_int1 rfl T.int (by decide +kernel) (pa_cons (pv 0) pa_nil)) pe_int) pe_int) (pa_cons pe_bl pa_nil)))) pa_nil)))
    (pss_cons (ps_set (i := 5) sc__law_event.nd rfl (Or.inl rfl) (pe_callTy call_tuple_of rfl T.tuple (by decide +kernel) (pa_cons (pe_call G__law_values (hr.mono (by decide)) rfl D__law_values.m D__law_values.F.kp D__law_values.b .nil pass0 (pa_cons (pe_op op_fdiv (pv 2) pe_int) (pa_cons (pe_op op_mod (pe_op op_fdiv (pe_callTy call_int1 rfl T.int (by decide +kernel) (pa_cons (pv 0) pa_nil)) pe_int) pe_int) (pa_cons pe_bl pa_nil)))) pa_nil)))
    (pss_one (ps_ret (pe_tup (pa_cons (pe_cmpR op_eq (pe_op op_mod (pe_callTy call_int1 rfl T.int (by decide +kernel) (pa_cons (pv 0) pa_nil)) pe_int) pe_int (nomark _)) (pa_cons (pv 3) (pa_cons (pv 4) (pa_cons (pe_call G__law_deed (hr.mono (by decide)) rfl D__law_deed.m D__law_deed.F.kp D__law_deed.b .nil pass0 (pa_cons (pe_op op_fdiv (pv 0) pe_int) (pa_cons (pv 2) pa_nil))) (pa_cons (pv 5) pa_nil))))))))))), ?_⟩
  have m1 : 0 ≤ x1 / 2 % 4 := Int.emod_nonneg _ (by decide)
  have m1' : x1 / 2 % 4 < 4 := Int.emod_lt_of_pos _ (by decide)
  have m2 : 0 ≤ x1 / 8 % 4 := Int.emod_nonneg _ (by decide)
  have m2' : x1 / 8 % 4 < 4 := Int.emod_lt_of_pos _ (by decide)
  have m3 : 0 ≤ x1 / 1152 % 5 := Int.emod_nonneg _ (by decide)
  have m3' : x1 / 1152 % 5 < 5 := Int.emod_lt_of_pos _ (by decide)
  refine ⟨_, rfl, _, rfl, .inl ⟨_, rfl, _, _, rfl, rfl, ⟨posJ rfl, by decide⟩, _, _, rfl, rfl, (posJ rfl), _, _, true, rfl, m1, by omega, fun p1 H1 vals1 s1 n1 e1 l1 v1 => ?_⟩⟩
  refine ⟨_, _, rfl, .inl ⟨SqL.of e1, fun u1 hu1 => ?_⟩⟩
  have t1 : Same H1 (upd H1 u1 (.tup (vals1.map V.int))) := same_upd hu1
  refine ⟨_, rfl, _, _, rfl, rfl, ⟨posJ rfl, by decide⟩, _, rfl, .inl ⟨_, rfl, _, _, rfl, rfl, ⟨posJ rfl, by decide⟩, _, _, rfl, rfl, (posJ rfl), _, _, true, rfl, m2, by omega, fun p2 H2 vals2 s2 n2 e2 l2 v2 => ?_⟩⟩
  refine ⟨_, _, rfl, .inl ⟨SqL.of e2, fun u2 hu2 => ?_⟩⟩
  have t2 : Same H2 (upd H2 u2 (.tup (vals2.map V.int))) := same_upd hu2
  refine ⟨_, rfl, _, _, rfl, rfl, ⟨posJ rfl, by decide⟩, _, rfl, .inl ⟨_, rfl, _, _, rfl, rfl, ⟨posJ rfl, by decide⟩, _, _, rfl, rfl, (posJ rfl), _, _, false, rfl, m3, by omega, fun p3 H3 vals3 s3 n3 e3 l3 v3 => ?_⟩⟩
  refine ⟨_, _, rfl, .inl ⟨SqL.of e3, fun u3 hu3 => ?_⟩⟩
  have t3 : Same H3 (upd H3 u3 (.tup (vals3.map V.int))) := same_upd hu3
  refine ⟨_, rfl, .inl ⟨_, rfl, _, _, rfl, rfl, (posJ rfl), rfl, _, rfl, _, rfl, _, rfl, _, _, rfl, rfl, ⟨posJ rfl, by decide⟩, _, rfl, _, _, rfl, fun ad H4 d s4 hd hk => ?_⟩⟩
  refine ⟨_, rfl, (by show 5 ≤ sizeLine; decide), fun p hp => ?_⟩
  have s5 : Same H4 (upd H4 p (.tup [.bl (decide (V.int (x1 % 2) = V.int 1)), .ref u1, .ref u2, .ref ad, .ref u3])) := same_upd hp
  have k3 := s4.trans s5
  have k2 := t2.trans (s3.trans (t3.trans k3))
  refine q p _ ⟨_, vals1, vals2, d, vals3⟩ (s1.trans (t1.trans (s2.trans k2))) ⟨u1, u2, ad, u3, SqT.of upd_same, SqT.of ((s2.trans k2) _ _ upd_same), SqT.of ((s3.trans (t3.trans k3)) _ _ upd_same), hd.keep s5, SqT.of (k3 _ _ upd_same)⟩
    ⟨by show vals1.length ≤ 4; omega, by show vals2.length ≤ 4; omega, by show vals3.length ≤ 6; omega, fun n h => (v1 n h).1, fun n h => (v2 n h).1, fun n h => ⟨(v3 n h).1, (v3 n h).2 rfl⟩, hk⟩
theorem refs_set {rows : List Addr} : rows.map V.ref = rows.map V.ref := rfl
def sp__law_view (K : PySem.W.Frag) : Sp := fun vs H Q _ => ∃ (a : Addr) (ns : List Int) (m : Int), vs = [.ref a, .int m] ∧ SqL K H a (ns.map V.int) ∧ 0 ≤ m ∧ m ≤ 19 ∧ ∀ (p : Addr) (H' : Hp) (vw : List (List Ev)), Same H H' → VwAt K H' p vw → VwOk vw → vw.length ≤ 4 → (vw.map List.length).sum ≤ m.toNat → Q (.ref p) H'
theorem ok__law_view {f : Addr} {fd : FuncData} (D : Df K mg "_law_view" s__law_view ["script", "most"] f fd) (T : Txt K mg) {f__law_cell : Addr} {fd__law_cell : FuncData} (D__law_cell : Df K mg "_law_cell" s__law_cell ["script", "k"] f__law_cell fd__law_cell) (G__law_cell : FnOk P w K mg base CX0 1 f__law_cell fd__law_cell ["script", "k"] (sp__law_cell K)) {f__law_event : Addr} {fd__law_event : FuncData} (D__law_event : Df K mg "_law_event" s__law_event ["first", "second", "third"] f__law_event fd__law_event) (G__law_event : FnOk P w K mg base CX0 3 f__law_event fd__law_event ["first", "second", "third"] (sp__law_event K)) : FnOk P w K mg base CX0 4 f fd ["script", "most"] (sp__law_view K) := by
  refine D.F.ok sc__law_view (fun vs H Q E h => ?_) (fun cdv A outer s H vs Q E hr h => ?_)
  · obtain ⟨a, ns, m, rfl, _⟩ := h
    rfl
  obtain ⟨a, ns, m, rfl, hS, hm0, hm, q⟩ := h
  refine ⟨_, (pss_cons (ps_set (i := 2) sc__law_view.nd rfl (Or.inl rfl) (pe_call G__law_cell (hr.mono (by decide)) rfl D__law_cell.m D__law_cell.F.kp D__law_cell.b .nil pass0 (pa_cons (pv 0) (pa_cons pe_int pa_nil))))
    (pss_cons (ps_setLc (i := 3) (own := [("k", 4)]) (g := gName 4) (tt := tYes) rfl sc__law_view.nd rfl rfl (sw_true rfl rfl rfl (by decide +kernel)) (pi_range1 rfl T.range (pa_cons (pe_op op_mod (pe_op op_fdiv (pe_callTy call_int1 rfl T.int (by decide +kernel) (pa_cons (pv 2) pa_nil)) pe_int) pe_int) pa_nil)) (blkOk_by (own := [("k", 4)]) (N := nm__law_view) (sc := defScope s__law_view) (by decide +kernel)) (fun _ _ _ _ _ => (pg_name (i := 4) sc__law_view.nd rfl (Or.inl rfl))) (fun _ _ _ _ _ => pts_nil) (fun _ _ _ _ _ => (pe_lst pa_nil)))
    (pss_cons (ps_for PassesOwn.never rfl (pi_range1 rfl T.range (pa_cons (pe_op op_modN (pe_callTy call_int1 rfl T.int (by decide +kernel) (pa_cons (pv 2) pa_nil)) (pe_op op_add (pv 1) pe_int)) pa_nil)) (pg_name (i := 4) sc__law_view.nd rfl (Or.inl rfl))
      (pss_cons (ps_set (i := 5) sc__law_view.nd rfl (Or.inl rfl) (pe_call G__law_event (hr.mono (by decide)) rfl D__law_event.m D__law_event.F.kp D__law_event.b .nil pass0 (pa_cons (pe_call G__law_cell (hr.mono (by decide)) rfl D__law_cell.m D__law_cell.F.kp D__law_cell.b .nil pass0 (pa_cons (pv 0) (pa_cons (pe_op op_add (pe_op op_mul pe_int (pv 4)) pe_int) pa_nil))) (pa_cons (pe_call G__law_cell (hr.mono (by decide)) rfl D__law_cell.m D__law_cell.F.kp D__law_cell.b .nil pass0 (pa_cons (pv 0) (pa_cons (pe_op op_add (pe_op op_mul pe_int (pv 4)) pe_int) pa_nil))) (pa_cons (pe_call G__law_cell (hr.mono (by decide)) rfl D__law_cell.m D__law_cell.F.kp D__law_cell.b .nil pass0 (pa_cons (pv 0) (pa_cons (pe_op op_add (pe_op op_mul pe_int (pv 4)) pe_int) pa_nil))) pa_nil)))))
    (pss_one (ps_if (pt_cmpR op_gt (pe_callB call_len_seq rfl T.len PySem.boot_len (pa_cons (pv 3) pa_nil)) pe_int (nomark _))
      (pss_cons (ps_set (i := 6) sc__law_view.nd rfl (Or.inl rfl) (pe_ix ix_list (pv 3) (pe_op op_modN (pe_op op_fdiv (pe_callTy call_int1 rfl T.int (by decide +kernel) (pa_cons (pe_call G__law_cell (hr.mono (by decide)) rfl D__law_cell.m D__law_cell.F.kp D__law_cell.b .nil pass0 (pa_cons (pv 0) (pa_cons (pe_op op_add (pe_op op_mul pe_int (pv 4)) pe_int) pa_nil))) pa_nil)) pe_int) (pe_callB call_len_seq rfl T.len PySem.boot_len (pa_cons (pv 3) pa_nil))) (fun _ _ => rfl)))
    (pss_one (ps_expr (pe_bm PySem.F.plainAttrs_list PySem.F.slot_list_append PySem.F.type_list_append mt_append (pv 6) (pa_cons (pv 5) pa_nil)))))
      pss_nil))))
    (pss_one (ps_ret (pv 3)))))), ?_⟩
  refine ⟨_, rfl, a, ns, 0, rfl, hS, by decide, by decide, fun hd => ?_⟩
  have g0 : 0 ≤ hd / 7 % 5 := Int.emod_nonneg _ (by decide)
  have g1 : hd / 7 % 5 < 5 := Int.emod_lt_of_pos _ (by decide)
  have f0 : 0 ≤ hd.fmod (m + 1) := Int.fmod_nonneg_of_pos _ (by omega)
  have f1 : hd.fmod (m + 1) < m + 1 := Int.fmod_lt_of_pos _ (by omega)
  refine ⟨_, rfl, .inl ⟨_, rfl, _, _, rfl, rfl, ⟨posJ rfl, by decide⟩, _, _, rfl, rfl, (posJ rfl), _, rfl, by omega, by omega, fun D hD => lc_range (lo := 0) (n := (hd / 7 % 5).toNat) (fun i H' => ∃ rows : List Addr, rows.length = i ∧ Same H H' ∧ H' D = some (.lst (rows.map V.ref)) ∧ D ∉ rows ∧ rows.Nodup ∧ ∀ r ∈ rows, H r = none ∧ H' r = some (.lst []))
    ⟨[], rfl, same_upd hD, upd_same, by simp, List.nodup_nil, fun r h => by simp at h⟩ ?_ ?_⟩⟩
  · rintro i H' hi ⟨rows, hl, sm, eD, nD, nd, hr2⟩
    refine ⟨rfl, (by show 0 ≤ sizeLine; decide), fun p hp => ?_⟩
    have s2 : Same H' (upd H' p (.lst [])) := same_upd hp
    have nDp : D ≠ p := ne_of_none eD hp
    have npr : p ∉ rows := fun h => by
      have := (hr2 p h).2
      rw [hp] at this
      cases this
    refine ⟨_, s2 _ _ eD, by rw [List.length_map, hl]; exact sizes' (by omega), rows ++ [p], by simp [hl], fun c w hc => ?_, ?_, ?_, ?_, fun r h => ?_⟩
    · rw [upd_ne (ne_of_none hc hD)]
      exact s2 _ _ (sm _ _ hc)
    · rw [upd_same, List.map_append]
      rfl
    · intro h
      rcases List.mem_append.mp h with h | h
      · exact nD h
      · exact nDp (List.mem_singleton.mp h)
    · exact List.nodup_append.mpr ⟨nd, List.nodup_cons.mpr ⟨by simp, List.nodup_nil⟩, fun x hx y hy => by rw [List.mem_singleton.mp hy]; exact fun e => npr (e ▸ hx)⟩
    · rcases List.mem_append.mp h with h | h
      · have hrD : r ≠ D := fun e => nD (e ▸ h)
        refine ⟨(hr2 r h).1, ?_⟩
        rw [upd_ne hrD]
        exact s2 _ _ (hr2 r h).2
      · rw [List.mem_singleton.mp h]
        refine ⟨sm.free hp, ?_⟩
        rw [upd_ne nDp.symm, upd_same]
  · rintro H1 ⟨rows, hl, sm1, eD, nD, nd, hr2⟩
    refine ⟨_, rfl, .inl ⟨_, rfl, _, rfl, _, _, rfl, rfl, _, _, rfl, rfl, by omega, _, rfl, by omega, by omega, for_range (lo := 0) (n := (hd.fmod (m + 1)).toNat) (fun i σ H' => ∃ k v5 v6, ∃ (vw : List (List Ev)), σ = [some (.ref a), some (.int m), some (.int hd), some (.ref D), k, v5, v6] ∧ Same H H' ∧ H' D = some (.lst (rows.map V.ref)) ∧ Each (RowAt K H') rows vw ∧ (∀ es ∈ vw, ∀ e ∈ es, e.Ok) ∧ (vw.map List.length).sum ≤ i)
      ⟨none, none, none, List.replicate rows.length [], rfl, sm1, eD, ⟨by simp, fun i b es h1 h2 => ?_⟩, fun es hes e he => ?_, ?_⟩ ?_ ?_⟩⟩
    · have hb := List.mem_of_getElem? h1
      have he : es = [] := List.eq_of_mem_replicate (List.mem_of_getElem? h2)
      subst he
      exact ⟨[], (hr2 b hb).2, Each.nil⟩
    · rw [List.eq_of_mem_replicate hes] at he
      simp at he
    · simp
    · rintro i σ H' hi ⟨k, v5, v6, vw, rfl, sm, eD2, hE, hk, hsum⟩
      have hi' : i ≤ 19 := by omega
      refine ⟨_, rfl, _, rfl, _, _, rfl, rfl, (.inl (by decide)), _, _, rfl, rfl, a, ns, _, rfl, sm.seq hS, by omega, by omega, fun c1 => ?_⟩
      refine ⟨_, rfl, _, rfl, _, _, rfl, rfl, (.inl (by decide)), _, _, rfl, rfl, a, ns, _, rfl, sm.seq hS, by omega, by omega, fun c2 => ?_⟩
      refine ⟨_, rfl, _, rfl, _, _, rfl, rfl, (.inl (by decide)), _, _, rfl, rfl, a, ns, _, rfl, sm.seq hS, by omega, by omega, fun c3 => ?_⟩
      refine ⟨_, _, _, rfl, fun ae H2 ev s2 hev hek => ?_⟩
      have sm2 := sm.trans s2
      have eD3 := s2 _ _ eD2
      have hE2 := hE.keep fun _ _ z => RowAt.keep s2 z
      refine ⟨_, rfl, _, _, rfl, .inl (SqL.of eD3), _, _, rfl, rfl, _, rfl, ite2 (fun c => ?_) (fun c => ?_)⟩
      · have c' : ((rows.map V.ref).length : Int) > 0 := of_decide_eq_true c
        rw [List.length_map] at c'
        refine ⟨_, rfl, _, rfl, _, rfl, _, _, rfl, rfl, (.inl (by decide)), _, _, rfl, rfl, a, ns, _, rfl, sm2.seq hS, by omega, by omega, fun c4 => ?_⟩
        have j0 : 0 ≤ (c4 / 3).fmod (rows.length : Int) := Int.fmod_nonneg_of_pos _ c'
        have j1 : (c4 / 3).fmod (rows.length : Int) < (rows.length : Int) := Int.fmod_lt_of_pos _ c'
        obtain ⟨j, hj⟩ : ∃ j : Nat, (c4 / 3).fmod (rows.length : Int) = (j : Int) := ⟨_, (Int.toNat_of_nonneg j0).symm⟩
        have hjl : j < rows.length := by omega
        obtain ⟨es, hes, as, hrow, hEs⟩ := hE2.get (List.getElem?_eq_getElem hjl)
        have hes' := List.mem_of_getElem? hes
        have hel := len_le_sum hes'
        refine .inl ⟨_, rfl, _, _, rfl, rfl, ⟨posJ rfl, by decide⟩, _, rfl, _, _, rfl, .inl (SqL.of eD3), _, _, rfl, rfl, by rw [List.length_map]; omega, _, _, _, _, rfl, rfl, SqL.of eD3, at_of (j := j) (v := V.ref rows[j]) (by rw [List.length_map]; exact hj) (by rw [List.getElem?_map, List.getElem?_eq_getElem hjl]; rfl), ?_⟩
        refine ⟨_, rfl, .inl ⟨rfl, _, SqL.of hrow⟩, _, rfl, _, _, _, rfl, rfl, hrow, by rw [List.length_map, hEs.1]; exact sizes' (by omega), ?_⟩
        have bt : But rows[j] H2 (upd H2 rows[j] (.lst (as.map V.ref ++ [V.ref ae]))) := But.set
        have hjm : rows[j] ∈ rows := List.getElem_mem hjl
        have hvl : j < vw.length := by rw [← hE.1]; exact hjl
        refine ⟨_, _, _, vw.set j (es ++ [ev]), rfl, fun c w hc => ?_, ?_, ⟨by rw [List.length_set]; exact hE.1, fun i2 b es2 h1 h2 => ?_⟩, fun es2 h2 e2 he2 => ?_, ?_⟩
        · exact bt c w (ne_of_none hc (hr2 _ hjm).1) (sm2 _ _ hc)
        · rw [upd_ne (fun e => nD (by rw [e]; exact hjm) : D ≠ rows[j])]
          exact eD3
        · by_cases hij : i2 = j
          · subst hij
            rw [List.getElem?_set_self hvl] at h2
            cases h2
            rw [List.getElem?_eq_getElem hjl] at h1
            cases h1
            refine ⟨as ++ [ae], by rw [upd_same, List.map_append]; rfl, ((hEs.snoc hev).keep fun _ _ z => z.but bt hrow)⟩
          · rw [List.getElem?_set_ne (fun e => hij e.symm)] at h2
            obtain ⟨as2, q1, q2⟩ := hE2.2 i2 b es2 h1 h2
            have hb : b ≠ rows[j] := fun e => by
              rw [e] at h1
              exact hij (nd_ix nd h1 (List.getElem?_eq_getElem hjl))
            exact ⟨as2, bt _ _ hb q1, q2.keep fun _ _ z => z.but bt hrow⟩
        · rcases List.mem_or_eq_of_mem_set h2 with h2 | rfl
          · exact hk es2 h2 e2 he2
          · rcases List.mem_append.mp he2 with h | h
            · exact hk es hes' e2 h
            · rw [List.mem_singleton.mp h]
              exact hek
        · rw [sum_grow hes]
          omega
      · exact ⟨_, _, _, vw, rfl, sm2, eD3, hE2, hk, by omega⟩
    · rintro σ H' ⟨k, v5, v6, vw, rfl, sm, eD2, hE, hk, hsum⟩
      have hl2 := hE.1
      exact ⟨_, rfl, q D H' vw sm ⟨rows, eD2, hE⟩ ⟨by omega, by omega, hk⟩ (by omega) (by omega)⟩
def sp__law_deed_numbers (K : PySem.W.Frag) : Sp := fun vs H Q _ => ∃ (a : Addr) (d : Dd), vs = [.ref a] ∧ DdAt K H a d ∧ d.Ok ∧ ∀ (p : Addr) (H' : Hp), Same H H' → H p = none → H' p = some (.lst ((numD d).map V.int)) → Q (.ref p) H'
theorem ok__law_deed_numbers {f : Addr} {fd : FuncData} (D : Df K mg "_law_deed_numbers" s__law_deed_numbers ["deed"] f fd) (T : Txt K mg) : FnOk P w K mg base CX0 1 f fd ["deed"] (sp__law_deed_numbers K) := by
  refine D.F.ok sc__law_deed_numbers (fun vs H Q E h => ?_) (fun cdv A outer s H vs Q E hr h => ?_)
  · obtain ⟨a, d, rfl, _⟩ := h
    rfl
  obtain ⟨a, d, rfl, ⟨z, rest, hz, ht, hr2⟩, hk, q⟩ := h
  refine ⟨_, (pss_cons (ps_set (i := 1) sc__law_deed_numbers.nd rfl (Or.inl rfl) (pe_lst (pa_cons pe_str (pa_cons pe_str (pa_cons pe_str (pa_cons pe_str (pa_cons pe_str (pa_cons pe_str (pa_cons pe_str (pa_cons pe_str (pa_cons pe_str pa_nil)))))))))))
    (pss_cons (ps_set (i := 2) sc__law_deed_numbers.nd rfl (Or.inl rfl) (pe_lst (pa_cons (pe_bm PySem.F.plainAttrs_list PySem.F.slot_list_index PySem.F.type_list_index mt_index (pv 1) (pa_cons (pe_ix ix_tup (pv 0) pe_int (fun _ _ => rfl)) pa_nil)) pa_nil)))
    (pss_cons (ps_if (pt_cmpR op_eq (pe_ix ix_tup (pv 0) pe_int (fun _ _ => rfl)) pe_str (nomark _))
      (pss_cons (ps_expr (pe_bm PySem.F.plainAttrs_list PySem.F.slot_list_append PySem.F.type_list_append mt_append (pv 2) (pa_cons (pe_callB call_len_seq rfl T.len PySem.boot_len (pa_cons (pe_ix ix_tup (pv 0) pe_int (fun _ _ => rfl)) pa_nil)) pa_nil)))
    (pss_one (ps_expr (pe_bm PySem.F.plainAttrs_list PySem.F.slot_list_extend PySem.F.type_list_extend mt_extendT (pv 2) (pa_cons (pe_ix ix_tup (pv 0) pe_int (fun _ _ => rfl)) pa_nil)))))
      (pss_one (ps_expr (pe_bm PySem.F.plainAttrs_list PySem.F.slot_list_extend PySem.F.type_list_extend mt_extendT (pv 2) (pa_cons (pe_slice sl_tup (pv 0) (po_some pe_int) po_none) pa_nil)))))
    (pss_one (ps_ret (pv 2)))))), ?_⟩
  have hn := hk.len
  have hz' : (deedNames.map V.str)[d.place]? = some (V.str z) := by rw [List.getElem?_map, hz]; rfl
  refine ⟨(by show 9 ≤ sizeLine; decide), fun m hm => ?_⟩
  have s1 : Same H (upd H m (.lst (deedNames.map V.str))) := same_upd hm
  refine ⟨_, rfl, .inl ⟨rfl, _, SqL.of upd_same⟩, _, rfl, _, _, _, _, rfl, rfl, sTup s1 ht, at_of (j := 0) rfl rfl, _, deedNames.map V.str, _, d.place, V.str z, rfl, rfl, SqL.of upd_same, rfl, by decide +kernel, hz', by show (z == z) = true; exact beq_self_eq_true z, fun m' z' hlt h' => ?_, (by show 1 ≤ sizeLine; decide), fun p hp => ?_⟩
  · rw [List.getElem?_map] at h'
    cases e : deedNames[m']? with
    | none => rw [e] at h'; cases h'
    | some y =>
      rw [e] at h'
      cases h'
      show (y == z) = false
      exact beq_false_of_ne fun e2 => dn_first hz hlt (by rw [e, e2])
  have s2 : Same (upd H m (.lst (deedNames.map V.str))) (upd (upd H m (.lst (deedNames.map V.str))) p (.lst [V.int (d.place : Int)])) := same_upd hp
  have s12 := s1.trans s2
  have hpn : H p = none := s1.free hp
  have ht2 := sTup s12 ht
  refine ⟨_, rfl, _, _, _, _, rfl, rfl, ht2, at_of (j := 0) rfl rfl, rfl, _, rfl, ite2 (fun c => ?_) (fun c => ?_)⟩
  · have c' : z = "anew" := by injection (of_decide_eq_true c)
    have h8 := (dn_anew hz).mp c'
    rcases hr2 with ⟨_, b, rfl, hb⟩ | ⟨n8, _⟩
    · have hb2 := hb.keep s12
      refine ⟨_, rfl, .inl ⟨rfl, _, SqL.of upd_same⟩, _, rfl, _, _, _, _, rfl, rfl, ht2, at_of (j := 1) rfl rfl, _, _, rfl, .inr hb2, _, _, _, rfl, rfl, upd_same, sizes' (by show 1 ≤ _; decide), ?_⟩
      have b1 : But p (upd (upd H m (.lst (deedNames.map V.str))) p (.lst [V.int (d.place : Int)])) (upd (upd (upd H m (.lst (deedNames.map V.str))) p (.lst [V.int (d.place : Int)])) p (.lst ([V.int (d.place : Int)] ++ [V.int ((d.nums.map V.int).length : Nat)]))) := But.set
      refine ⟨_, rfl, .inl ⟨rfl, _, SqL.of upd_same⟩, _, rfl, _, _, _, _, rfl, rfl, butTup b1 upd_same ht2, at_of (j := 1) rfl rfl, _, _, _, _, rfl, rfl, upd_same, hb2.but b1 upd_same, sizes (by rw [List.length_map]; simp only [List.length_append, List.length_cons, List.length_nil]; omega), ?_⟩
      refine ⟨_, rfl, q p _ (fun c w hc => ?_) hpn ?_⟩
      · have cp := ne_of_none hc hpn
        rw [upd_ne cp, upd_ne cp]
        exact s12 _ _ hc
      · rw [upd_same, List.length_map]
        unfold numD
        rw [if_pos h8]
        rfl
    · exact absurd h8 n8
  · have c' : ¬ z = "anew" := fun e => c (decide_eq_true (by rw [e]))
    have h8 : d.place ≠ 8 := fun e => c' ((dn_anew hz).mpr e)
    rcases hr2 with ⟨e8, _⟩ | ⟨_, rfl⟩
    · exact absurd e8 h8
    · refine ⟨_, rfl, .inl ⟨rfl, _, SqL.of upd_same⟩, _, rfl, _, rfl, _, _, rfl, ht2, ?_, fun u hu => ?_⟩
      · rintro ⟨e, _⟩
        rw [show ((1 : Int)) = ((1 : Nat) : Int) from rfl, HT.sIx_nat] at e
        rw [List.length_cons] at e
        omega
      · have s3 : Same (upd (upd H m (.lst (deedNames.map V.str))) p (.lst [V.int (d.place : Int)])) (upd (upd (upd H m (.lst (deedNames.map V.str))) p (.lst [V.int (d.place : Int)])) u (.tup (cutV (V.str z :: d.nums.map V.int) (some 1) none))) := same_upd hu
        refine ⟨_, _, _, _, rfl, rfl, s3 _ _ upd_same, SqT.of upd_same, ?_, ?_⟩
        · rw [cut1]
          refine sizes ?_
          show 1 + (d.nums.map V.int).length ≤ _
          rw [List.length_map]
          omega
        · refine ⟨_, rfl, q p _ (fun c w hc => ?_) hpn ?_⟩
          · rw [upd_ne (ne_of_none hc hpn)]
            exact s3 _ _ (s12 _ _ hc)
          · rw [upd_same, cut1]
            unfold numD
            rw [if_neg h8]
            rfl
theorem numE_eq (e : Ev) : numE e = ([b2n e.asleep] ++ numSeq e.shown ++ numSeq e.after) ++ numD e.deed ++ numSeq e.knows := rfl
def sp__law_event_numbers (K : PySem.W.Frag) : Sp := fun vs H Q _ => ∃ (a : Addr) (e : Ev), vs = [.ref a] ∧ EvAt K H a e ∧ e.Ok ∧ ∀ (p : Addr) (H' : Hp), Same H H' → H p = none → H' p = some (.lst ((numE e).map V.int)) → Q (.ref p) H'
theorem ok__law_event_numbers {f : Addr} {fd : FuncData} (D : Df K mg "_law_event_numbers" s__law_event_numbers ["event"] f fd) (T : Txt K mg) {f__law_deed_numbers : Addr} {fd__law_deed_numbers : FuncData} (D__law_deed_numbers : Df K mg "_law_deed_numbers" s__law_deed_numbers ["deed"] f__law_deed_numbers fd__law_deed_numbers) (G__law_deed_numbers : FnOk P w K mg base CX0 1 f__law_deed_numbers fd__law_deed_numbers ["deed"] (sp__law_deed_numbers K)) : FnOk P w K mg base CX0 2 f fd ["event"] (sp__law_event_numbers K) := by
  refine D.F.ok sc__law_event_numbers (fun vs H Q E h => ?_) (fun cdv A outer s H vs Q E hr h => ?_)
  · obtain ⟨a, e, rfl, _⟩ := h
    rfl
  obtain ⟨a, e, rfl, ⟨p1, p2, p3, p4, ht, h1, h2, h3, h4⟩, hk, q⟩ := h
  refine ⟨_, (pss_cons (ps_set (i := 1) sc__law_event_numbers.nd rfl (Or.inl rfl) (pe_lst (pa_cons (pe_callTy call_int1 rfl T.int (by decide +kernel) (pa_cons (pe_ix ix_tup (pv 0) pe_int (fun _ _ => rfl)) pa_nil)) pa_nil)))
    (pss_cons (ps_for PassesOwn.never rfl (pi_range2 rfl T.range (pa_cons pe_int (pa_cons pe_int pa_nil))) (pg_name (i := 2) sc__law_event_numbers.nd rfl (Or.inl rfl))
      (pss_cons (ps_expr (pe_bm PySem.F.plainAttrs_list PySem.F.slot_list_append PySem.F.type_list_append mt_append (pv 1) (pa_cons (pe_callB call_len_seq rfl T.len PySem.boot_len (pa_cons (pe_ix ix_tup (pv 0) (pv 2) (fun _ _ => rfl)) pa_nil)) pa_nil)))
    (pss_one (ps_expr (pe_bm PySem.F.plainAttrs_list PySem.F.slot_list_extend PySem.F.type_list_extend mt_extendT (pv 1) (pa_cons (pe_ix ix_tup (pv 0) (pv 2) (fun _ _ => rfl)) pa_nil))))))
    (pss_cons (ps_expr (pe_bm PySem.F.plainAttrs_list PySem.F.slot_list_extend PySem.F.type_list_extend mt_extend (pv 1) (pa_cons (pe_call G__law_deed_numbers (hr.mono (by decide)) rfl D__law_deed_numbers.m D__law_deed_numbers.F.kp D__law_deed_numbers.b .nil pass0 (pa_cons (pe_ix ix_tup (pv 0) pe_int (fun _ _ => rfl)) pa_nil)) pa_nil)))
    (pss_cons (ps_expr (pe_bm PySem.F.plainAttrs_list PySem.F.slot_list_append PySem.F.type_list_append mt_append (pv 1) (pa_cons (pe_callB call_len_seq rfl T.len PySem.boot_len (pa_cons (pe_ix ix_tup (pv 0) pe_int (fun _ _ => rfl)) pa_nil)) pa_nil)))
    (pss_cons (ps_expr (pe_bm PySem.F.plainAttrs_list PySem.F.slot_list_extend PySem.F.type_list_extend mt_extendT (pv 1) (pa_cons (pe_ix ix_tup (pv 0) pe_int (fun _ _ => rfl)) pa_nil)))
    (pss_one (ps_ret (pv 1)))))))), ?_⟩
  have k1 := hk.s1; have k2 := hk.s2; have k3 := hk.s3; have k4 := numD_len hk.d
  refine ⟨_, rfl, _, _, _, _, rfl, rfl, ht, at_of (j := 0) rfl rfl, .inr ⟨_, rfl, (by show 1 ≤ sizeLine; decide), fun p hp => ?_⟩⟩
  have s1 : Same H (upd H p (.lst [V.int (b2n e.asleep)])) := same_upd hp
  refine ⟨_, _, rfl, ⟨by decide, by decide, by decide, by decide⟩, for_range (lo := 1) (n := 2) (fun i σ H' => ∃ k, σ = [some (.ref a), some (.ref p), k] ∧ Same H H' ∧ H' p = some (.lst (([b2n e.asleep] ++ (if i = 0 then [] else if i = 1 then numSeq e.shown else numSeq e.shown ++ numSeq e.after)).map V.int)))
    ⟨none, rfl, s1, upd_same⟩ ?_ ?_⟩
  · rintro i σ H' hi ⟨k, rfl, sm, ep⟩
    have ht2 := sTup sm ht
    obtain ⟨ns, b, ys, hn, hb, hy, hat, ep', fin⟩ : ∃ (ns : List Int) (b : Addr) (ys : List Int), ns.length ≤ 100 ∧ TupI K H' b ys ∧ ys.length ≤ 100 ∧ atI [V.bl e.asleep, V.ref p1, V.ref p2, V.ref p3, V.ref p4] (1 + (i : Int)) = some (.ref b) ∧ H' p = some (.lst (ns.map V.int)) ∧
        (∀ H2, Same H H2 → H2 p = some (.lst ((ns ++ numSeq ys).map V.int)) → ∃ k, ([some (V.ref a), some (V.ref p), some (V.int (1 + (i : Int)))] : L2.St) = [some (.ref a), some (.ref p), k] ∧ Same H H2 ∧ H2 p = some (.lst (([b2n e.asleep] ++ (if i + 1 = 0 then [] else if i + 1 = 1 then numSeq e.shown else numSeq e.shown ++ numSeq e.after)).map V.int))) := by
      have hi2 : i = 0 ∨ i = 1 := by omega
      rcases hi2 with rfl | rfl
      · exact ⟨[b2n e.asleep], p1, e.shown, by simp, h1.keep sm, by omega, at_of (j := 1) rfl rfl, ep, fun H2 sm2 ep2 => ⟨_, rfl, sm2, ep2⟩⟩
      · exact ⟨[b2n e.asleep] ++ numSeq e.shown, p2, e.after, by simp [numSeq]; omega, h2.keep sm, by omega, at_of (j := 2) rfl rfl, ep, fun H2 sm2 ep2 => ⟨_, rfl, sm2, by rw [ep2, List.append_assoc]; rfl⟩⟩
    have b1 : But p H' (upd H' p (.lst (ns.map V.int ++ [V.int ((ys.map V.int).length : Nat)]))) := But.set
    have l1 : (ns.map V.int).length ≤ 100 := by rw [List.length_map]; exact hn
    refine ⟨_, rfl, .inl ⟨rfl, _, SqL.of ep'⟩, _, rfl, _, rfl, _, _, _, _, rfl, rfl, ht2, hat, _, _, rfl, .inr hb, _, _, _, rfl, rfl, ep', sizes' (by omega), ?_⟩
    refine ⟨_, rfl, .inl ⟨rfl, _, SqL.of upd_same⟩, _, rfl, _, rfl, _, _, _, _, rfl, rfl, butTup b1 ep' ht2, hat, _, _, _, _, rfl, rfl, upd_same, hb.but b1 ep', sizes (by rw [List.length_map (as := ys)]; simp only [List.length_append, List.length_cons, List.length_nil]; omega), fin _ (fun c w hc => ?_) ?_⟩
    · have cp := ne_of_none hc hp
      rw [upd_ne cp, upd_ne cp]
      exact sm _ _ hc
    · rw [upd_same, List.length_map, List.map_append, List.append_assoc]
      rfl
  · rintro σ H' ⟨k, rfl, sm, ep⟩
    have ht2 := sTup sm ht
    have ep' : H' p = some (.lst (([b2n e.asleep] ++ numSeq e.shown ++ numSeq e.after).map V.int)) := by rw [ep, List.append_assoc]; rfl
    have l1 : (([b2n e.asleep] ++ numSeq e.shown ++ numSeq e.after).map V.int).length ≤ 40 := by simp [numSeq]; omega
    refine ⟨_, rfl, .inl ⟨rfl, _, SqL.of ep'⟩, _, rfl, _, _, _, _, rfl, rfl, ht2, at_of (j := 3) rfl rfl, p3, e.deed, rfl, h3.keep sm, hk.d, fun u H2 s2 nu eu => ?_⟩
    have ep2 := s2 _ _ ep'
    have sm2 := sm.trans s2
    have b1 : But p H2 (upd H2 p (.lst (([b2n e.asleep] ++ numSeq e.shown ++ numSeq e.after).map V.int ++ (numD e.deed).map V.int))) := But.set
    refine ⟨_, _, _, _, rfl, rfl, ep2, eu, sizes (by rw [List.length_map] at l1 ⊢; rw [List.length_map]; omega), ?_⟩
    have ht3 := butTup b1 ep2 (sTup sm2 ht)
    have h43 := (h4.keep sm2).but b1 ep2
    have l2 : (([b2n e.asleep] ++ numSeq e.shown ++ numSeq e.after).map V.int ++ (numD e.deed).map V.int).length ≤ 60 := by rw [List.length_append, List.length_map (as := numD e.deed)]; omega
    refine ⟨_, rfl, .inl ⟨rfl, _, SqL.of upd_same⟩, _, rfl, _, _, _, _, rfl, rfl, ht3, at_of (j := 4) rfl rfl, _, _, rfl, .inr h43, _, _, _, rfl, rfl, upd_same, sizes' (by omega), ?_⟩
    refine ⟨_, rfl, .inl ⟨rfl, _, SqL.of upd_same⟩, _, rfl, _, _, _, _, rfl, rfl, butTup But.set upd_same ht3, at_of (j := 4) rfl rfl, _, _, _, _, rfl, rfl, upd_same, h43.but But.set upd_same, sizes (by rw [List.length_append, List.length_singleton, List.length_map]; omega), ?_⟩
    refine ⟨_, rfl, q p _ (fun c w hc => ?_) hp ?_⟩
    · have cp := ne_of_none hc hp
      rw [upd_ne cp, upd_ne cp, upd_ne cp]
      exact sm2 _ _ hc
    · rw [upd_same, numE_eq]
      simp only [List.map_append, List.append_assoc, List.length_map, numSeq, List.map_cons, List.map_nil]
      rfl
def sp__law_view_numbers (K : PySem.W.Frag) : Sp := fun vs H Q _ => ∃ (a : Addr) (vw : List (List Ev)), vs = [.ref a] ∧ VwAt K H a vw ∧ VwOk vw ∧ ∀ (p : Addr) (H' : Hp), Same H H' → H' p = some (.lst ((numV vw).map V.int)) → Q (.ref p) H'
theorem ok__law_view_numbers {f : Addr} {fd : FuncData} (D : Df K mg "_law_view_numbers" s__law_view_numbers ["view"] f fd) (T : Txt K mg) {f__law_event_numbers : Addr} {fd__law_event_numbers : FuncData} (D__law_event_numbers : Df K mg "_law_event_numbers" s__law_event_numbers ["event"] f__law_event_numbers fd__law_event_numbers) (G__law_event_numbers : FnOk P w K mg base CX0 2 f__law_event_numbers fd__law_event_numbers ["event"] (sp__law_event_numbers K)) : FnOk P w K mg base CX0 3 f fd ["view"] (sp__law_view_numbers K) := by
  refine D.F.ok sc__law_view_numbers (fun vs H Q E h => ?_) (fun cdv A outer s H vs Q E hr h => ?_)
  · obtain ⟨a, vw, rfl, _⟩ := h
    rfl
  obtain ⟨a, vw, rfl, hv, hk, q⟩ := h
  refine ⟨_, (pss_cons (ps_set (i := 1) sc__law_view_numbers.nd rfl (Or.inl rfl) (pe_lst (pa_cons (pe_callB call_len_seq rfl T.len PySem.boot_len (pa_cons (pv 0) pa_nil)) pa_nil)))
    (pss_cons (ps_for PassesOwn.never rfl (pi_list (pv 0)) (pg_name (i := 2) sc__law_view_numbers.nd rfl (Or.inl rfl))
      (pss_cons (ps_expr (pe_bm PySem.F.plainAttrs_list PySem.F.slot_list_append PySem.F.type_list_append mt_append (pv 1) (pa_cons (pe_callB call_len_seq rfl T.len PySem.boot_len (pa_cons (pv 2) pa_nil)) pa_nil)))
    (pss_one (ps_for PassesOwn.never rfl (pi_list (pv 2)) (pg_name (i := 3) sc__law_view_numbers.nd rfl (Or.inl rfl))
      (pss_one (ps_expr (pe_bm PySem.F.plainAttrs_list PySem.F.slot_list_extend PySem.F.type_list_extend mt_extend (pv 1) (pa_cons (pe_call G__law_event_numbers (hr.mono (by decide)) rfl D__law_event_numbers.m D__law_event_numbers.F.kp D__law_event_numbers.b .nil pass0 (pa_cons (pv 3) pa_nil)) pa_nil))))))))
    (pss_one (ps_ret (pv 1))))), ?_⟩
  have hv0 := hv
  obtain ⟨rows, ha, he⟩ := hv
  have k1 := hk.len; have k2 := hk.sum; have kn := numV_len hk
  have hal : (rows.map V.ref).length = vw.length := by rw [List.length_map]; exact he.1
  refine ⟨_, rfl, _, _, rfl, .inl (SqL.of ha), (by show 1 ≤ sizeLine; decide), fun o hp => ?_⟩
  have s1 : Same H (upd H o (.lst [.int ((rows.map V.ref).length : Nat)])) := same_upd hp
  refine ⟨_, rfl, a, rfl, ⟨_, SqL.of (s1 _ _ ha)⟩, for_list (K := K) (a := a) (xs := rows.map V.ref) (fun i σ H' => ∃ d e, σ = [some (.ref a), some (.ref o), d, e] ∧ Same H H' ∧ H' o = some (.lst (([(vw.length : Int)] ++ (vw.take i).flatMap numEs).map V.int)))
    ⟨none, none, rfl, s1, ?_⟩ (fun i σ H' _ ⟨_, _, _, sm, _⟩ => SqL.of (sm _ _ ha)) ?_ ?_⟩
  · rw [upd_same, hal]
    rfl
  · rintro i x σ H' hx ⟨d, e, rfl, sm, eo⟩
    obtain ⟨hil, rfl⟩ := ref_get hx
    obtain ⟨es, hes, as, hr, hE⟩ := he.get (List.getElem?_eq_getElem hil)
    have hmem := List.mem_of_getElem? hes
    have kes := hk.ok es hmem
    have hel := len_le_sum hmem
    have hpre : ((vw.take i).flatMap numEs).length + (numEs es).length ≤ 966 := by
      have h1 := flat_take_le (f := numEs) (xs := vw) (i + 1)
      rw [flat_take hes, List.length_append] at h1
      unfold numV at kn
      rw [List.length_cons] at kn
      omega
    have hne : (numEs es).length = 1 + (es.flatMap numE).length := by unfold numEs; rw [List.length_cons]; omega
    have hal2 : (as.map V.ref).length = es.length := by rw [List.length_map]; exact hE.1
    refine ⟨_, rfl, .inl ⟨rfl, _, SqL.of eo⟩, _, rfl, _, _, rfl, .inl (SqL.of (sm _ _ hr)), _, _, _, rfl, rfl, eo, sizes' (by rw [List.length_map, List.length_append, List.length_singleton]; omega), ?_⟩
    have b0 : But o H' (upd H' o (.lst (([(vw.length : Int)] ++ (vw.take i).flatMap numEs).map V.int ++ [V.int ((as.map V.ref).length : Nat)]))) := But.set
    have sm0 : Same H (upd H' o (.lst (([(vw.length : Int)] ++ (vw.take i).flatMap numEs).map V.int ++ [V.int ((as.map V.ref).length : Nat)]))) := fun c w hc => b0 c w (ne_of_none hc hp) (sm _ _ hc)
    refine ⟨_, rfl, _, rfl, ⟨_, SqL.of (sm0 _ _ hr)⟩, for_list (K := K) (a := rows[i]) (xs := as.map V.ref) (fun j σ H2 => ∃ e, σ = [some (.ref a), some (.ref o), some (.ref rows[i]), e] ∧ Same H H2 ∧ H2 o = some (.lst (([(vw.length : Int)] ++ (vw.take i).flatMap numEs ++ ([(es.length : Int)] ++ (es.take j).flatMap numE)).map V.int)))
      ⟨_, rfl, sm0, ?_⟩ (fun i σ H' _ ⟨_, _, sm, _⟩ => SqL.of (sm _ _ hr)) ?_ ?_⟩
    · rw [upd_same, hal2]
      simp only [List.map_append, List.append_assoc, List.map_cons, List.map_nil, List.take_zero, List.flatMap_nil, List.append_nil]
    · rintro j y σ H2 hy ⟨e, rfl, sm2, eo2⟩
      obtain ⟨hjl, rfl⟩ := ref_get hy
      obtain ⟨ev, hev, hEv⟩ := hE.get (List.getElem?_eq_getElem hjl)
      have hf := flat_take_le (f := numE) (xs := es) j
      have kev := kes ev (List.mem_of_getElem? hev)
      have kevn := numE_len kev
      refine ⟨_, rfl, .inl ⟨rfl, _, SqL.of eo2⟩, _, rfl, _, ev, rfl, hEv.keep sm2, kev, fun u H3 s3 nu eu => ?_⟩
      have eo3 := s3 _ _ eo2
      refine ⟨_, _, _, _, rfl, rfl, eo3, eu, sizes (by rw [List.length_map, List.length_map, List.length_append, List.length_append, List.length_append, List.length_singleton, List.length_singleton]; omega), ?_⟩
      refine ⟨_, rfl, fun c w hc => ?_, ?_⟩
      · rw [upd_ne (ne_of_none hc hp)]
        exact s3 _ _ (sm2 _ _ hc)
      · rw [upd_same, flat_take hev]
        simp only [List.append_assoc, List.map_append, List.map_cons, List.map_nil]
    · rintro σ H2 ⟨e, rfl, sm2, eo2⟩
      refine ⟨_, _, rfl, sm2, ?_⟩
      rw [eo2, flat_take hes, hal2, List.take_length]
      simp only [List.append_assoc]
      rfl
  · rintro σ H' ⟨d, e, rfl, sm, eo⟩
    rw [hal, List.take_length] at eo
    exact ⟨_, rfl, q o H' sm eo⟩
def sp__law_text (K : PySem.W.Frag) : Sp := fun vs H Q _ => ∃ (hd : Str) (a : Addr) (ns : List Int), vs = [.str hd, .ref a] ∧ SqL K H a (ns.map V.int) ∧ (∀ n ∈ ns, In18 n) ∧ ns.length ≤ 1000 ∧ hd.length ≤ 100 ∧ ∀ H', Same H H' → Q (.str (textOf hd ns)) H'
theorem ok__law_text {f : Addr} {fd : FuncData} (D : Df K mg "_law_text" s__law_text ["head", "numbers"] f fd) (T : Txt K mg) : FnOk P w K mg base CX0 1 f fd ["head", "numbers"] (sp__law_text K) := by
  refine D.F.ok sc__law_text (fun vs H Q E h => ?_) (fun cdv A outer s H vs Q E hr h => ?_)
  · obtain ⟨hd, a, ns, rfl, _⟩ := h
    rfl
  obtain ⟨hd, a, ns, rfl, hS, hi, hl, hh, q⟩ := h
  refine ⟨_, (pss_one (ps_ret (pe_op op_add_str (pe_op op_add_str (pe_op op_add_str (pv 0) pe_str) (pe_join pe_str (pe_lc (own := [("number", 2)]) (g := gName 2) (tt := tYes) rfl sc__law_text.nd (pi_list (pv 1)) (blkOk_by (own := [("number", 2)]) (N := nm__law_text) (sc := defScope s__law_text) (by decide +kernel)) (fun _ _ _ _ _ => (pg_name (i := 2) sc__law_text.nd rfl (Or.inl rfl))) (fun _ _ _ _ _ => pts_nil) (fun _ _ _ _ _ => (pe_callTy call_str_int rfl T.str (by decide +kernel) (pa_cons (pv 2) pa_nil)))))) pe_str))), ?_⟩
  have hj := joined_len hi
  have l1 : (hd ++ Str.ofString "\n").length ≤ 101 := by rw [Str.length_append, nl_len]; omega
  have l2 : (hd ++ Str.ofString "\n" ++ Txt.join (Str.ofString " ") (words ns)).length ≤ 20101 := by rw [Str.length_append]; omega
  refine ⟨_, rfl, _, _, rfl, rfl, sizes (by rw [nl_len]; omega), ⟨_, rfl⟩, _, rfl, a, rfl, ⟨_, hS⟩, fun D hD => lc_list (K := K) (a := a) (xs := ns.map V.int) (fun i H' => Same H H' ∧ H' D = some (.lst ((words (ns.take i)).map V.str))) ⟨same_upd hD, upd_same⟩ (fun i H' _ p => p.1.seq hS) ?_ ?_⟩
  · rintro i x H' hx ⟨sm, e⟩
    obtain ⟨hil, rfl⟩ := int_get hx
    have hlt : ((words (ns.take i)).map V.str).length = i := by rw [List.length_map, words_len, List.length_take]; omega
    refine ⟨rfl, _, rfl, _, rfl, (hi _ (List.getElem_mem hil)).log, _, e, by rw [hlt]; exact sizes' (by omega), fun b u h => ?_, ?_⟩
    · rw [upd_ne (ne_of_none h hD)]
      exact sm b u h
    · rw [upd_same, words_take_succ hil, List.map_append]
      rfl
  · rintro H' ⟨sm, e⟩
    rw [List.length_map, List.take_length] at e
    exact ⟨_, _, _, rfl, rfl, .inl (SqL.of e), join_fit hi hl, _, _, rfl, rfl, sizes (by omega), _, _, rfl, rfl, sizes (by rw [nl_len]; omega), q H' sm⟩
def sp__law_same (K : PySem.W.Frag) (n : Nat) : Sp := fun vs H Q _ => ∃ x y, vs = [x, y] ∧ Sim K H n x y ∧ Q (.bl true) H
theorem ok__law_same_step {f : Addr} {fd : FuncData} (D : Df K mg "_law_same" s__law_same ["actual", "expected"] f fd) (T : Txt K mg) {n : Nat} (G__law_same : FnOk P w K mg base CX0 n f fd ["actual", "expected"] (sp__law_same K n)) : FnOk P w K mg base CX0 (n + 1) f fd ["actual", "expected"] (sp__law_same K (n + 1)) := by
  refine D.F.ok sc__law_same (fun vs H Q E h => ?_) (fun cdv A outer s H vs Q E hr h => ?_)
  · obtain ⟨x, y, rfl, _⟩ := h
    rfl
  obtain ⟨x, y, rfl, hs, q⟩ := h
  refine ⟨_, (pss_cons (ps_if (pt_val (pe_callB call_isi rfl T.isinstance (by decide +kernel) (pa_cons (pv 1) (pa_cons (pe_bltn (v := V.ty "bool") (by rfl) T.bool (by decide +kernel) rfl) pa_nil))))
      (pss_one (ps_ret (pe_and (pe_callB call_isi rfl T.isinstance (by decide +kernel) (pa_cons (pv 0) (pa_cons (pe_bltn (v := V.ty "bool") (by rfl) T.bool (by decide +kernel) rfl) pa_nil))) (pe_one (pe_cmpR op_eq (pv 0) (pv 1) (nomark _))))))
      pss_nil)
    (pss_cons (ps_if (pt_val (pe_callB call_isi rfl T.isinstance (by decide +kernel) (pa_cons (pv 1) (pa_cons (pe_bltn (v := V.ty "int") (by rfl) T.int (by decide +kernel) rfl) pa_nil))))
      (pss_one (ps_ret (pe_and (pe_callB call_isi rfl T.isinstance (by decide +kernel) (pa_cons (pv 0) (pa_cons (pe_bltn (v := V.ty "int") (by rfl) T.int (by decide +kernel) rfl) pa_nil))) (pe_and (pe_not (pe_callB call_isi rfl T.isinstance (by decide +kernel) (pa_cons (pv 0) (pa_cons (pe_bltn (v := V.ty "bool") (by rfl) T.bool (by decide +kernel) rfl) pa_nil)))) (pe_one (pe_cmpR op_eq (pv 0) (pv 1) (nomark _)))))))
      pss_nil)
    (pss_cons (ps_if (pt_val (pe_callB call_isi rfl T.isinstance (by decide +kernel) (pa_cons (pv 1) (pa_cons (pe_bltn (v := V.ty "str") (by rfl) T.str (by decide +kernel) rfl) pa_nil))))
      (pss_one (ps_ret (pe_and (pe_callB call_isi rfl T.isinstance (by decide +kernel) (pa_cons (pv 0) (pa_cons (pe_bltn (v := V.ty "str") (by rfl) T.str (by decide +kernel) rfl) pa_nil))) (pe_one (pe_cmpR op_eq (pv 0) (pv 1) (nomark _))))))
      pss_nil)
    (pss_cons (ps_if (PW.pt (pw_and (pt_val (pe_callB call_isi rfl T.isinstance (by decide +kernel) (pa_cons (pv 1) (pa_cons (pe_bltn (v := V.ty "tuple") (by rfl) T.tuple (by decide +kernel) rfl) pa_nil)))) (pw_and1 (pt_not (pt_val (pe_callB call_isi rfl T.isinstance (by decide +kernel) (pa_cons (pv 0) (pa_cons (pe_bltn (v := V.ty "tuple") (by rfl) T.tuple (by decide +kernel) rfl) pa_nil))))))))
      (pss_one (ps_ret pe_bl))
      pss_nil)
    (pss_cons (ps_if (PW.pt (pw_and (pt_val (pe_callB call_isi rfl T.isinstance (by decide +kernel) (pa_cons (pv 1) (pa_cons (pe_bltn (v := V.ty "list") (by rfl) T.list (by decide +kernel) rfl) pa_nil)))) (pw_and1 (pt_not (pt_val (pe_callB call_isi rfl T.isinstance (by decide +kernel) (pa_cons (pv 0) (pa_cons (pe_bltn (v := V.ty "list") (by rfl) T.list (by decide +kernel) rfl) pa_nil))))))))
      (pss_one (ps_ret pe_bl))
      pss_nil)
    (pss_cons (ps_if (pt_cmpR op_ne (pe_callB call_len_seq rfl T.len PySem.boot_len (pa_cons (pv 0) pa_nil)) (pe_callB call_len_seq rfl T.len PySem.boot_len (pa_cons (pv 1) pa_nil)) (nomark _))
      (pss_one (ps_ret pe_bl))
      pss_nil)
    (pss_cons (ps_for PassesOwn.never rfl (pi_range1 rfl T.range (pa_cons (pe_callB call_len_seq rfl T.len PySem.boot_len (pa_cons (pv 1) pa_nil)) pa_nil)) (pg_name (i := 2) sc__law_same.nd rfl (Or.inl rfl))
      (pss_one (ps_if (pt_not (pt_val (pe_call G__law_same hr rfl D.m D.F.kp D.b .nil pass0 (pa_cons (pe_ix ix_seq (pv 0) (pv 2) (fun _ _ => rfl)) (pa_cons (pe_ix ix_seq (pv 1) (pv 2) (fun _ _ => rfl)) pa_nil)))))
      (pss_one (ps_ret pe_bl))
      pss_nil)))
    (pss_one (ps_ret pe_bl))))))))), ?_⟩
  rcases hs with ⟨b, rfl, rfl⟩ | ⟨i, rfl, rfl⟩ | ⟨z, rfl, rfl⟩ | ⟨a, b, xs, ys, rfl, rfl, hT, hl, hz, hs⟩
  · refine ⟨_, rfl, _, _, _, _, _, rfl, ClsV.ty "bool", .base (TyOf.bl _), kit_ty (r := true) (by decide +kernel), _, rfl, iteT ?_⟩
    refine ⟨_, rfl, _, _, _, _, _, rfl, ClsV.ty "bool", .base (TyOf.bl _), kit_ty (r := true) (by decide +kernel), _, rfl, iteT ?_⟩
    refine ⟨_, rfl, _, rfl, rfl, ?_⟩
    have e : decide (V.bl b = V.bl b) = true := decide_eq_true rfl
    show Q (.bl (decide (V.bl b = V.bl b))) H
    rw [e]
    exact q
  · refine ⟨_, rfl, _, _, _, _, _, rfl, ClsV.ty "bool", .base (TyOf.int _), kit_ty (r := false) (by decide +kernel), _, rfl, iteF ?_⟩
    refine ⟨_, rfl, _, _, _, _, _, rfl, ClsV.ty "int", .base (TyOf.int _), kit_ty (r := true) (by decide +kernel), _, rfl, iteT ?_⟩
    refine ⟨_, rfl, _, _, _, _, _, rfl, ClsV.ty "int", .base (TyOf.int _), kit_ty (r := true) (by decide +kernel), _, rfl, iteT ?_⟩
    refine ⟨_, rfl, _, _, _, _, _, rfl, ClsV.ty "bool", .base (TyOf.int _), kit_ty (r := false) (by decide +kernel), _, rfl, _, rfl, iteT ?_⟩
    refine ⟨_, rfl, _, rfl, rfl, ?_⟩
    have e : decide (V.int i = V.int i) = true := decide_eq_true rfl
    show Q (.bl (decide (V.int i = V.int i))) H
    rw [e]
    exact q
  · refine ⟨_, rfl, _, _, _, _, _, rfl, ClsV.ty "bool", .base (TyOf.str _), kit_ty (r := false) (by decide +kernel), _, rfl, iteF ?_⟩
    refine ⟨_, rfl, _, _, _, _, _, rfl, ClsV.ty "int", .base (TyOf.str _), kit_ty (r := false) (by decide +kernel), _, rfl, iteF ?_⟩
    refine ⟨_, rfl, _, _, _, _, _, rfl, ClsV.ty "str", .base (TyOf.str _), kit_ty (r := true) (by decide +kernel), _, rfl, iteT ?_⟩
    refine ⟨_, rfl, _, _, _, _, _, rfl, ClsV.ty "str", .base (TyOf.str _), kit_ty (r := true) (by decide +kernel), _, rfl, iteT ?_⟩
    refine ⟨_, rfl, _, rfl, rfl, ?_⟩
    have e : decide (V.str z = V.str z) = true := decide_eq_true rfl
    show Q (.bl (decide (V.str z = V.str z))) H
    rw [e]
    exact q
  · rcases hT with ⟨h1, h2⟩ | ⟨h1, h2⟩
    · refine ⟨_, rfl, _, _, _, _, _, rfl, ClsV.ty "bool", tyT h2, kit_ty (r := false) (by decide +kernel), _, rfl, iteF ?_⟩
      refine ⟨_, rfl, _, _, _, _, _, rfl, ClsV.ty "int", tyT h2, kit_ty (r := false) (by decide +kernel), _, rfl, iteF ?_⟩
      refine ⟨_, rfl, _, _, _, _, _, rfl, ClsV.ty "str", tyT h2, kit_ty (r := false) (by decide +kernel), _, rfl, iteF ?_⟩
      refine ⟨_, rfl, _, _, _, _, _, rfl, ClsV.ty "tuple", tyT h2, kit_ty (r := true) (by decide +kernel), _, rfl, iteT ?_⟩
      refine ⟨_, rfl, _, _, _, _, _, rfl, ClsV.ty "tuple", tyT h1, kit_ty (r := true) (by decide +kernel), _, rfl, iteF ?_⟩
      refine ⟨_, rfl, _, _, _, _, _, rfl, ClsV.ty "list", tyT h2, kit_ty (r := false) (by decide +kernel), _, rfl, iteF (iteF ?_)⟩
      refine ⟨_, rfl, _, _, rfl, .inr h1, _, rfl, _, _, rfl, .inr h2, rfl, _, rfl, ?_⟩
      refine iteNS (by rw [hl]) ?_
      refine ⟨_, rfl, _, _, rfl, .inr h2, _, rfl, by omega, by omega, for_range (lo := 0) (n := ((ys.length : Nat) : Int).toNat) (fun i σ H' => ∃ k, σ = [some (.ref a), some (.ref b), k] ∧ H' = H) ⟨none, rfl, rfl⟩ ?_ ?_⟩
      · rintro i σ H' hi ⟨k, rfl, rfl⟩
        have hi1 : i < xs.length := by omega
        have hi2 : i < ys.length := by omega
        refine ⟨_, rfl, _, rfl, .inr (.inl ⟨_, _, _, xs[i], rfl, rfl, h1, at_of (j := i) (by omega) (List.getElem?_eq_getElem hi1), _, rfl, _, rfl, .inr (.inl ⟨_, _, _, ys[i], rfl, rfl, h2, at_of (j := i) (by omega) (List.getElem?_eq_getElem hi2), xs[i], ys[i], rfl, hs i _ _ (List.getElem?_eq_getElem hi1) (List.getElem?_eq_getElem hi2), _, rfl, iteF ?_⟩)⟩)⟩
        exact ⟨_, rfl, rfl⟩
      · rintro σ H' ⟨k, rfl, rfl⟩
        exact q
    · refine ⟨_, rfl, _, _, _, _, _, rfl, ClsV.ty "bool", tyL h2, kit_ty (r := false) (by decide +kernel), _, rfl, iteF ?_⟩
      refine ⟨_, rfl, _, _, _, _, _, rfl, ClsV.ty "int", tyL h2, kit_ty (r := false) (by decide +kernel), _, rfl, iteF ?_⟩
      refine ⟨_, rfl, _, _, _, _, _, rfl, ClsV.ty "str", tyL h2, kit_ty (r := false) (by decide +kernel), _, rfl, iteF ?_⟩
      refine ⟨_, rfl, _, _, _, _, _, rfl, ClsV.ty "tuple", tyL h2, kit_ty (r := false) (by decide +kernel), _, rfl, iteF (iteF ?_)⟩
      refine ⟨_, rfl, _, _, _, _, _, rfl, ClsV.ty "list", tyL h2, kit_ty (r := true) (by decide +kernel), _, rfl, iteT ?_⟩
      refine ⟨_, rfl, _, _, _, _, _, rfl, ClsV.ty "list", tyL h1, kit_ty (r := true) (by decide +kernel), _, rfl, iteF ?_⟩
      refine ⟨_, rfl, _, _, rfl, .inl h1, _, rfl, _, _, rfl, .inl h2, rfl, _, rfl, ?_⟩
      refine iteNS (by rw [hl]) ?_
      refine ⟨_, rfl, _, _, rfl, .inl h2, _, rfl, by omega, by omega, for_range (lo := 0) (n := ((ys.length : Nat) : Int).toNat) (fun i σ H' => ∃ k, σ = [some (.ref a), some (.ref b), k] ∧ H' = H) ⟨none, rfl, rfl⟩ ?_ ?_⟩
      · rintro i σ H' hi ⟨k, rfl, rfl⟩
        have hi1 : i < xs.length := by omega
        have hi2 : i < ys.length := by omega
        refine ⟨_, rfl, _, rfl, .inl ⟨_, _, _, xs[i], rfl, rfl, h1, at_of (j := i) (by omega) (List.getElem?_eq_getElem hi1), _, rfl, _, rfl, .inl ⟨_, _, _, ys[i], rfl, rfl, h2, at_of (j := i) (by omega) (List.getElem?_eq_getElem hi2), xs[i], ys[i], rfl, hs i _ _ (List.getElem?_eq_getElem hi1) (List.getElem?_eq_getElem hi2), _, rfl, iteF ?_⟩⟩⟩
        exact ⟨_, rfl, rfl⟩
      · rintro σ H' ⟨k, rfl, rfl⟩
        exact q
theorem ok__law_same {f : Addr} {fd : FuncData} (D : Df K mg "_law_same" s__law_same ["actual", "expected"] f fd) (T : Txt K mg) : FnOk P w K mg base CX0 8 f fd ["actual", "expected"] (sp__law_same K 8) := by
  suffices h : ∀ n, FnOk P w K mg base CX0 n f fd ["actual", "expected"] (sp__law_same K n) from h 8
  intro n
  induction n with
  | zero =>
    have no : ∀ vs H Q E, ¬ sp__law_same K 0 vs H Q E := by
      rintro vs H Q E ⟨x, y, _, h, _⟩
      exact h
    exact ⟨fun vs H Q E h => absurd h (no vs H Q E), fun A outer s H args us vs Q E _ _ _ _ h => absurd h (no vs H Q E)⟩
  | succ n ih => exact ok__law_same_step D T ih
def sp_law (K : PySem.W.Frag) : Sp := fun vs H Q _ => ∃ (a : Addr) (ns : List Int), vs = [.ref a] ∧ SqL K H a (ns.map V.int) ∧ ns.length ≤ 63 ∧ ∀ H', Q (.bl true) H'
theorem ok_law {f : Addr} {fd : FuncData} (D : Df K mg "law" s_law ["script"] f fd) (T : Txt K mg) {f_write_view : Addr} {fd_write_view : FuncData} (D_write_view : Df K mg "write_view" s_write_view ["view"] f_write_view fd_write_view) (G_write_view : FnOk P w K mg base CX0 4 f_write_view fd_write_view ["view"] (sp_write_view K)) {f__law_view : Addr} {fd__law_view : FuncData} (D__law_view : Df K mg "_law_view" s__law_view ["script", "most"] f__law_view fd__law_view) (G__law_view : FnOk P w K mg base CX0 4 f__law_view fd__law_view ["script", "most"] (sp__law_view K)) {f__law_view_numbers : Addr} {fd__law_view_numbers : FuncData} (D__law_view_numbers : Df K mg "_law_view_numbers" s__law_view_numbers ["view"] f__law_view_numbers fd__law_view_numbers) (G__law_view_numbers : FnOk P w K mg base CX0 3 f__law_view_numbers fd__law_view_numbers ["view"] (sp__law_view_numbers K)) {f__law_text : Addr} {fd__law_text : FuncData} (D__law_text : Df K mg "_law_text" s__law_text ["head", "numbers"] f__law_text fd__law_text) (G__law_text : FnOk P w K mg base CX0 1 f__law_text fd__law_text ["head", "numbers"] (sp__law_text K)) {f__law_same : Addr} {fd__law_same : FuncData} (D__law_same : Df K mg "_law_same" s__law_same ["actual", "expected"] f__law_same fd__law_same) (G__law_same : FnOk P w K mg base CX0 8 f__law_same fd__law_same ["actual", "expected"] (sp__law_same K 8)) : FnOk P w K mg base CX0 9 f fd ["script"] (sp_law K) := by
  refine D.F.ok sc_law (fun vs H Q E h => ?_) (fun cdv A outer s H vs Q E hr h => ?_)
  · obtain ⟨a, ns, rfl, _⟩ := h
    rfl
  obtain ⟨a, ns, rfl, hS, h63, q⟩ := h
  refine ⟨_, (pss_cons (ps_set (i := 1) sc_law.nd rfl (Or.inl rfl) (pe_call G__law_view (hr.mono (by decide)) rfl D__law_view.m D__law_view.F.kp D__law_view.b .nil pass0 (pa_cons (pv 0) (pa_cons pe_int pa_nil))))
    (pss_cons (ps_setLc (i := 2) (own := [("events", 4)]) (g := gName 4) (tt := tYes) rfl sc_law.nd rfl rfl (sw_true rfl rfl rfl (by decide +kernel)) (pi_list (pv 1)) (blkOk_by (own := [("events", 4)]) (N := nm_law) (sc := defScope s_law) (by decide +kernel)) (fun _ _ _ _ _ => (pg_name (i := 4) sc_law.nd rfl (Or.inl rfl))) (fun _ _ _ _ _ => pts_nil) (fun _ _ _ _ _ => (pe_callTy (T := "list") (r := rListOf K) call_list_of rfl T.list (by decide +kernel) (pa_cons (pv 4) pa_nil))))
    (pss_cons (ps_set (i := 3) sc_law.nd rfl (Or.inl rfl) (pe_call G_write_view (hr.mono (by decide)) rfl D_write_view.m D_write_view.F.kp D_write_view.b .nil pass0 (pa_cons (pv 1) pa_nil)))
    (pss_cons (ps_if (PW.pt (pw_or (pt_not (pt_val (pe_callB call_isi rfl T.isinstance (by decide +kernel) (pa_cons (pv 3) (pa_cons (pe_bltn (v := V.ty "str") (by rfl) T.str (by decide +kernel) rfl) pa_nil))))) (pw_or1 (pt_not (pt_val (pe_call G__law_same (hr.mono (by decide)) rfl D__law_same.m D__law_same.F.kp D__law_same.b .nil pass0 (pa_cons (pv 1) (pa_cons (pv 2) pa_nil))))))))
      (pss_one (ps_ret pe_bl))
      pss_nil)
    (pss_one (ps_ret (pe_cmpR op_eq (pv 3) (pe_call G__law_text (hr.mono (by decide)) rfl D__law_text.m D__law_text.F.kp D__law_text.b .nil pass0 (pa_cons pe_str (pa_cons (pe_call G__law_view_numbers (hr.mono (by decide)) rfl D__law_view_numbers.m D__law_view_numbers.F.kp D__law_view_numbers.b .nil pass0 (pa_cons (pv 2) pa_nil)) pa_nil))) (nomark _)))))))), ?_⟩
  refine ⟨_, rfl, a, ns, 8, rfl, hS, by decide, by decide, fun p H1 vw s1 hv hk hv4 hsum => ?_⟩
  have hv0 := hv
  obtain ⟨rows, ha, hE⟩ := hv
  have k1 := hk.len; have k2 := hk.sum; have kn := numV_len hk
  have hal : (rows.map V.ref).length = vw.length := by rw [List.length_map]; exact hE.1
  refine ⟨_, rfl, p, rfl, ⟨_, SqL.of ha⟩, fun D hD => lc_list (K := K) (a := p) (xs := rows.map V.ref) (fun i H' => ∃ cs, Same H1 H' ∧ H' D = some (.lst (cs.map V.ref)) ∧ D ∉ cs ∧ Each (RowAt K H') cs (vw.take i)) ⟨[], same_upd hD, upd_same, by simp, Each.nil⟩ (fun i H' _ ⟨_, sm, _⟩ => SqL.of (sm _ _ ha)) ?_ ?_⟩
  · rintro i x H' hx ⟨cs, sm, eD, nD, hC⟩
    obtain ⟨hil, rfl⟩ := ref_get hx
    obtain ⟨es, hes, as, hr, hEs⟩ := hE.get (List.getElem?_eq_getElem hil)
    refine ⟨rfl, _, rfl, _, _, rfl, .inl (SqL.of (sm _ _ hr)), fun u hu => ?_⟩
    have s2 : Same H' (upd H' u (.lst (as.map V.ref))) := same_upd hu
    have nDu : D ≠ u := ne_of_none eD hu
    have hcl := hC.1
    rw [List.length_take] at hcl
    refine ⟨_, s2 _ _ eD, by rw [List.length_map]; exact sizes' (by omega), cs ++ [u], fun c w hc => ?_, ?_, ?_, ?_⟩
    · rw [upd_ne (ne_of_none hc hD)]
      exact s2 _ _ (sm _ _ hc)
    · rw [upd_same, List.map_append]
      rfl
    · intro h
      rcases List.mem_append.mp h with h | h
      · exact nD h
      · exact nDu (List.mem_singleton.mp h)
    · have bt : But D (upd H' u (.lst (as.map V.ref))) (upd (upd H' u (.lst (as.map V.ref))) D (.lst (cs.map V.ref ++ [V.ref u]))) := But.set
      have e2 : vw.take (i + 1) = vw.take i ++ [es] := by rw [List.take_add_one, hes]; rfl
      rw [e2]
      refine Each.snoc ⟨hC.1, fun j b es2 h1 h2 => ?_⟩ ?_
      · obtain ⟨as2, g1, g2⟩ := (hC.keep fun _ _ z => RowAt.keep s2 z).2 j b es2 h1 h2
        exact ⟨as2, bt _ _ (fun e => nD (e ▸ List.mem_of_getElem? h1)) g1, g2.keep fun _ _ z => z.but bt (s2 _ _ eD)⟩
      · exact ⟨as, bt _ _ nDu.symm upd_same, (hEs.keep fun _ _ z => EvAt.keep (sm.trans s2) z).keep fun _ _ z => z.but bt (s2 _ _ eD)⟩
  · rintro H2 ⟨cs, sm2, eD, nD, hC⟩
    rw [hal, List.take_length] at hC
    have hc2 : VwAt K H2 D vw := ⟨cs, eD, hC⟩
    refine ⟨_, rfl, p, vw, rfl, hv0.keep sm2, hk, fun H3 s3 => ?_⟩
    refine ⟨_, rfl, _, _, _, _, _, rfl, ClsV.ty "str", .base (TyOf.str _), kit_ty (r := true) (by decide +kernel), _, rfl, iteF ?_⟩
    refine ⟨_, rfl, _, rfl, _, _, rfl, simV (n := 2) (hv0.keep (sm2.trans s3)) (hc2.keep s3) hk, _, rfl, iteF ?_⟩
    refine ⟨_, rfl, _, rfl, D, vw, rfl, hc2.keep s3, hk, fun u H4 s4 e4 => ⟨_, u, numV vw, rfl, SqL.of e4, numV_in hk, by omega, by decide +kernel, fun H5 s5 => ⟨rfl, ?_⟩⟩⟩
    have e : (V.str (textOf "whensure view" (numV vw))) = V.str (textOf "whensure view" (numV vw)) := rfl
    show Q (.bl (decide (V.str (textOf "whensure view" (numV vw)) = V.str (textOf "whensure view" (numV vw))))) H5
    rw [decide_eq_true e]
    exact q H5
end
theorem all_mk {l : PySem.W.OpenLaw} {w : World} {K : PySem.W.Frag} {h : Heap} {mg : Str → Option Value} {fa : Addr} (X : K.In h) (G : h.Ns mainGlobals mg) (hfa : mg "law" = some (.ref fa))
    {od0 an0 : Option Addr} {sl0 : Array (Option Value)} {oc0 kV0 dc0 pm0 cd0 ct0 : Value} {f0 : Addr} {od1 an1 : Option Addr} {sl1 : Array (Option Value)} {oc1 kV1 dc1 pm1 cd1 ct1 : Value} {f1 : Addr} {od2 an2 : Option Addr} {sl2 : Array (Option Value)} {oc2 kV2 dc2 pm2 cd2 ct2 : Value} {f2 : Addr} {od3 an3 : Option Addr} {sl3 : Array (Option Value)} {oc3 kV3 dc3 pm3 cd3 ct3 : Value} {f3 : Addr} {od4 an4 : Option Addr} {sl4 : Array (Option Value)} {oc4 kV4 dc4 pm4 cd4 ct4 : Value} {f4 : Addr} {od5 an5 : Option Addr} {sl5 : Array (Option Value)} {oc5 kV5 dc5 pm5 cd5 ct5 : Value} {f5 : Addr} {od6 an6 : Option Addr} {sl6 : Array (Option Value)} {oc6 kV6 dc6 pm6 cd6 ct6 : Value} {f6 : Addr} {od7 an7 : Option Addr} {sl7 : Array (Option Value)} {oc7 kV7 dc7 pm7 cd7 ct7 : Value} {f7 : Addr} {od8 an8 : Option Addr} {sl8 : Array (Option Value)} {oc8 kV8 dc8 pm8 cd8 ct8 : Value} {f8 : Addr} {od9 an9 : Option Addr} {sl9 : Array (Option Value)} {oc9 kV9 dc9 pm9 cd9 ct9 : Value} {f9 : Addr} {od10 an10 : Option Addr} {sl10 : Array (Option Value)} {oc10 kV10 dc10 pm10 cd10 ct10 : Value} {f10 : Addr} {od11 an11 : Option Addr} {sl11 : Array (Option Value)} {oc11 kV11 dc11 pm11 cd11 ct11 : Value} {f11 : Addr} {od12 an12 : Option Addr} {sl12 : Array (Option Value)} {oc12 kV12 dc12 pm12 cd12 ct12 : Value} {f12 : Addr} {od13 an13 : Option Addr} {sl13 : Array (Option Value)} {oc13 kV13 dc13 pm13 cd13 ct13 : Value} {f13 : Addr} {od14 an14 : Option Addr} {sl14 : Array (Option Value)} {oc14 kV14 dc14 pm14 cd14 ct14 : Value} {f14 : Addr} {od15 an15 : Option Addr} {sl15 : Array (Option Value)} {oc15 kV15 dc15 pm15 cd15 ct15 : Value} {f15 : Addr} {tD0 tD1 tD2 tD3 tD4 tD5 tD6 tD7 tD8 : Tok} {aD : Addr} {nD : Nat} {slD : Array (Option Value)} {t_VIEW_HEAD : Tok}
    (a0 : PySem.W.nsIn K mainGlobals "write_integers" = some (some (.ref f0))) (l0 : K.lookup f0 = some ⟨oc0, od0, .func (PySem.W.fnOf "write_integers" "write_integers" (defArgs s_write_integers) (defBody s_write_integers) (defScope s_write_integers) .none kV0 dc0 pm0 an0 cd0 ct0), sl0⟩) (c0 : PySem.W.codeIn K cd0 "write_integers" = true) (k0 : PySem.W.keepIn K (.ref f0) = true)
    (a1 : PySem.W.nsIn K mainGlobals "put_sequence" = some (some (.ref f1))) (l1 : K.lookup f1 = some ⟨oc1, od1, .func (PySem.W.fnOf "put_sequence" "put_sequence" (defArgs s_put_sequence) (defBody s_put_sequence) (defScope s_put_sequence) .none kV1 dc1 pm1 an1 cd1 ct1), sl1⟩) (c1 : PySem.W.codeIn K cd1 "put_sequence" = true) (k1 : PySem.W.keepIn K (.ref f1) = true)
    (a2 : PySem.W.nsIn K mainGlobals "put_deed" = some (some (.ref f2))) (l2 : K.lookup f2 = some ⟨oc2, od2, .func (PySem.W.fnOf "put_deed" "put_deed" (defArgs s_put_deed) (defBody s_put_deed) (defScope s_put_deed) .none kV2 dc2 pm2 an2 cd2 ct2), sl2⟩) (c2 : PySem.W.codeIn K cd2 "put_deed" = true) (k2 : PySem.W.keepIn K (.ref f2) = true)
    (a3 : PySem.W.nsIn K mainGlobals "put_event" = some (some (.ref f3))) (l3 : K.lookup f3 = some ⟨oc3, od3, .func (PySem.W.fnOf "put_event" "put_event" (defArgs s_put_event) (defBody s_put_event) (defScope s_put_event) .none kV3 dc3 pm3 an3 cd3 ct3), sl3⟩) (c3 : PySem.W.codeIn K cd3 "put_event" = true) (k3 : PySem.W.keepIn K (.ref f3) = true)
    (a4 : PySem.W.nsIn K mainGlobals "write_view" = some (some (.ref f4))) (l4 : K.lookup f4 = some ⟨oc4, od4, .func (PySem.W.fnOf "write_view" "write_view" (defArgs s_write_view) (defBody s_write_view) (defScope s_write_view) .none kV4 dc4 pm4 an4 cd4 ct4), sl4⟩) (c4 : PySem.W.codeIn K cd4 "write_view" = true) (k4 : PySem.W.keepIn K (.ref f4) = true)
    (a5 : PySem.W.nsIn K mainGlobals "_law_cell" = some (some (.ref f5))) (l5 : K.lookup f5 = some ⟨oc5, od5, .func (PySem.W.fnOf "_law_cell" "_law_cell" (defArgs s__law_cell) (defBody s__law_cell) (defScope s__law_cell) .none kV5 dc5 pm5 an5 cd5 ct5), sl5⟩) (c5 : PySem.W.codeIn K cd5 "_law_cell" = true) (k5 : PySem.W.keepIn K (.ref f5) = true)
    (a6 : PySem.W.nsIn K mainGlobals "_law_values" = some (some (.ref f6))) (l6 : K.lookup f6 = some ⟨oc6, od6, .func (PySem.W.fnOf "_law_values" "_law_values" (defArgs s__law_values) (defBody s__law_values) (defScope s__law_values) .none kV6 dc6 pm6 an6 cd6 ct6), sl6⟩) (c6 : PySem.W.codeIn K cd6 "_law_values" = true) (k6 : PySem.W.keepIn K (.ref f6) = true)
    (a7 : PySem.W.nsIn K mainGlobals "_law_deed" = some (some (.ref f7))) (l7 : K.lookup f7 = some ⟨oc7, od7, .func (PySem.W.fnOf "_law_deed" "_law_deed" (defArgs s__law_deed) (defBody s__law_deed) (defScope s__law_deed) .none kV7 dc7 pm7 an7 cd7 ct7), sl7⟩) (c7 : PySem.W.codeIn K cd7 "_law_deed" = true) (k7 : PySem.W.keepIn K (.ref f7) = true)
    (a8 : PySem.W.nsIn K mainGlobals "_law_event" = some (some (.ref f8))) (l8 : K.lookup f8 = some ⟨oc8, od8, .func (PySem.W.fnOf "_law_event" "_law_event" (defArgs s__law_event) (defBody s__law_event) (defScope s__law_event) .none kV8 dc8 pm8 an8 cd8 ct8), sl8⟩) (c8 : PySem.W.codeIn K cd8 "_law_event" = true) (k8 : PySem.W.keepIn K (.ref f8) = true)
    (a9 : PySem.W.nsIn K mainGlobals "_law_view" = some (some (.ref f9))) (l9 : K.lookup f9 = some ⟨oc9, od9, .func (PySem.W.fnOf "_law_view" "_law_view" (defArgs s__law_view) (defBody s__law_view) (defScope s__law_view) .none kV9 dc9 pm9 an9 cd9 ct9), sl9⟩) (c9 : PySem.W.codeIn K cd9 "_law_view" = true) (k9 : PySem.W.keepIn K (.ref f9) = true)
    (a10 : PySem.W.nsIn K mainGlobals "_law_deed_numbers" = some (some (.ref f10))) (l10 : K.lookup f10 = some ⟨oc10, od10, .func (PySem.W.fnOf "_law_deed_numbers" "_law_deed_numbers" (defArgs s__law_deed_numbers) (defBody s__law_deed_numbers) (defScope s__law_deed_numbers) .none kV10 dc10 pm10 an10 cd10 ct10), sl10⟩) (c10 : PySem.W.codeIn K cd10 "_law_deed_numbers" = true) (k10 : PySem.W.keepIn K (.ref f10) = true)
    (a11 : PySem.W.nsIn K mainGlobals "_law_event_numbers" = some (some (.ref f11))) (l11 : K.lookup f11 = some ⟨oc11, od11, .func (PySem.W.fnOf "_law_event_numbers" "_law_event_numbers" (defArgs s__law_event_numbers) (defBody s__law_event_numbers) (defScope s__law_event_numbers) .none kV11 dc11 pm11 an11 cd11 ct11), sl11⟩) (c11 : PySem.W.codeIn K cd11 "_law_event_numbers" = true) (k11 : PySem.W.keepIn K (.ref f11) = true)
    (a12 : PySem.W.nsIn K mainGlobals "_law_view_numbers" = some (some (.ref f12))) (l12 : K.lookup f12 = some ⟨oc12, od12, .func (PySem.W.fnOf "_law_view_numbers" "_law_view_numbers" (defArgs s__law_view_numbers) (defBody s__law_view_numbers) (defScope s__law_view_numbers) .none kV12 dc12 pm12 an12 cd12 ct12), sl12⟩) (c12 : PySem.W.codeIn K cd12 "_law_view_numbers" = true) (k12 : PySem.W.keepIn K (.ref f12) = true)
    (a13 : PySem.W.nsIn K mainGlobals "_law_text" = some (some (.ref f13))) (l13 : K.lookup f13 = some ⟨oc13, od13, .func (PySem.W.fnOf "_law_text" "_law_text" (defArgs s__law_text) (defBody s__law_text) (defScope s__law_text) .none kV13 dc13 pm13 an13 cd13 ct13), sl13⟩) (c13 : PySem.W.codeIn K cd13 "_law_text" = true) (k13 : PySem.W.keepIn K (.ref f13) = true)
    (a14 : PySem.W.nsIn K mainGlobals "_law_same" = some (some (.ref f14))) (l14 : K.lookup f14 = some ⟨oc14, od14, .func (PySem.W.fnOf "_law_same" "_law_same" (defArgs s__law_same) (defBody s__law_same) (defScope s__law_same) .none kV14 dc14 pm14 an14 cd14 ct14), sl14⟩) (c14 : PySem.W.codeIn K cd14 "_law_same" = true) (k14 : PySem.W.keepIn K (.ref f14) = true)
    (a15 : PySem.W.nsIn K mainGlobals "law" = some (some (.ref f15))) (l15 : K.lookup f15 = some ⟨oc15, od15, .func (PySem.W.fnOf "law" "law" (defArgs s_law) (defBody s_law) (defScope s_law) .none kV15 dc15 pm15 an15 cd15 ct15), sl15⟩) (c15 : PySem.W.codeIn K cd15 "law" = true) (k15 : PySem.W.keepIn K (.ref f15) = true)
    (z_len : PySem.W.nsIn K mainGlobals "len" = some none)
    (z_str : PySem.W.nsIn K mainGlobals "str" = some none)
    (z_int : PySem.W.nsIn K mainGlobals "int" = some none)
    (z_range : PySem.W.nsIn K mainGlobals "range" = some none)
    (z_tuple : PySem.W.nsIn K mainGlobals "tuple" = some none)
    (z_list : PySem.W.nsIn K mainGlobals "list" = some none)
    (z_isinstance : PySem.W.nsIn K mainGlobals "isinstance" = some none)
    (z_bool : PySem.W.nsIn K mainGlobals "bool" = some none)
    (aDm : PySem.W.nsIn K mainGlobals "DEEDS" = some (some (.ref aD))) (lD : K.lookup aD = some ⟨.type "tuple", none, .seq #[.str "note" tD0, .str "kind" tD1, .str "mark" tD2, .str "send" tD3, .str "tell" tD4, .str "hear" tD5, .str "promise" tD6, .str "commit" tD7, .str "anew" tD8] nD, slD⟩)
    (z_VIEW_HEAD : PySem.W.nsIn K mainGlobals "VIEW_HEAD" = some (some (.str "whensure view" t_VIEW_HEAD))) :
    ∃ fd : FuncData, (∀ (s : Shared) (v : Value), BindsTo s fd ⟨[v], []⟩ [("script", v)]) ∧ ∀ base : Heap, K.In base → base.Ns mainGlobals mg → FnOk l.prog w K mg base CX0 9 fa fd ["script"] (sp_law K) := by
  have e := hfa.symm.trans (PySem.W.mg_of X G a15)
  cases e
  have F0 := fun_mk (st := s_write_integers) l0 c0 k0
  have D_write_integers : Df K mg "write_integers" s_write_integers ["head", "integers"] _ _ := ⟨F0, F0.binds (ps := ["head", "integers"]) fun _ _ _ _ _ _ us hl => match us, hl with | [_, _], _ => rfl, PySem.W.mg_of X G a0⟩
  have F1 := fun_mk (st := s_put_sequence) l1 c1 k1
  have D_put_sequence : Df K mg "put_sequence" s_put_sequence ["out", "integers"] _ _ := ⟨F1, F1.binds (ps := ["out", "integers"]) fun _ _ _ _ _ _ us hl => match us, hl with | [_, _], _ => rfl, PySem.W.mg_of X G a1⟩
  have F2 := fun_mk (st := s_put_deed) l2 c2 k2
  have D_put_deed : Df K mg "put_deed" s_put_deed ["out", "deed"] _ _ := ⟨F2, F2.binds (ps := ["out", "deed"]) fun _ _ _ _ _ _ us hl => match us, hl with | [_, _], _ => rfl, PySem.W.mg_of X G a2⟩
  have F3 := fun_mk (st := s_put_event) l3 c3 k3
  have D_put_event : Df K mg "put_event" s_put_event ["out", "event"] _ _ := ⟨F3, F3.binds (ps := ["out", "event"]) fun _ _ _ _ _ _ us hl => match us, hl with | [_, _], _ => rfl, PySem.W.mg_of X G a3⟩
  have F4 := fun_mk (st := s_write_view) l4 c4 k4
  have D_write_view : Df K mg "write_view" s_write_view ["view"] _ _ := ⟨F4, F4.binds (ps := ["view"]) fun _ _ _ _ _ _ us hl => match us, hl with | [_], _ => rfl, PySem.W.mg_of X G a4⟩
  have F5 := fun_mk (st := s__law_cell) l5 c5 k5
  have D__law_cell : Df K mg "_law_cell" s__law_cell ["script", "k"] _ _ := ⟨F5, F5.binds (ps := ["script", "k"]) fun _ _ _ _ _ _ us hl => match us, hl with | [_, _], _ => rfl, PySem.W.mg_of X G a5⟩
  have F6 := fun_mk (st := s__law_values) l6 c6 k6
  have D__law_values : Df K mg "_law_values" s__law_values ["seed", "count", "signed"] _ _ := ⟨F6, F6.binds (ps := ["seed", "count", "signed"]) fun _ _ _ _ _ _ us hl => match us, hl with | [_, _, _], _ => rfl, PySem.W.mg_of X G a6⟩
  have F7 := fun_mk (st := s__law_deed) l7 c7 k7
  have D__law_deed : Df K mg "_law_deed" s__law_deed ["shape", "seed"] _ _ := ⟨F7, F7.binds (ps := ["shape", "seed"]) fun _ _ _ _ _ _ us hl => match us, hl with | [_, _], _ => rfl, PySem.W.mg_of X G a7⟩
  have F8 := fun_mk (st := s__law_event) l8 c8 k8
  have D__law_event : Df K mg "_law_event" s__law_event ["first", "second", "third"] _ _ := ⟨F8, F8.binds (ps := ["first", "second", "third"]) fun _ _ _ _ _ _ us hl => match us, hl with | [_, _, _], _ => rfl, PySem.W.mg_of X G a8⟩
  have F9 := fun_mk (st := s__law_view) l9 c9 k9
  have D__law_view : Df K mg "_law_view" s__law_view ["script", "most"] _ _ := ⟨F9, F9.binds (ps := ["script", "most"]) fun _ _ _ _ _ _ us hl => match us, hl with | [_, _], _ => rfl, PySem.W.mg_of X G a9⟩
  have F10 := fun_mk (st := s__law_deed_numbers) l10 c10 k10
  have D__law_deed_numbers : Df K mg "_law_deed_numbers" s__law_deed_numbers ["deed"] _ _ := ⟨F10, F10.binds (ps := ["deed"]) fun _ _ _ _ _ _ us hl => match us, hl with | [_], _ => rfl, PySem.W.mg_of X G a10⟩
  have F11 := fun_mk (st := s__law_event_numbers) l11 c11 k11
  have D__law_event_numbers : Df K mg "_law_event_numbers" s__law_event_numbers ["event"] _ _ := ⟨F11, F11.binds (ps := ["event"]) fun _ _ _ _ _ _ us hl => match us, hl with | [_], _ => rfl, PySem.W.mg_of X G a11⟩
  have F12 := fun_mk (st := s__law_view_numbers) l12 c12 k12
  have D__law_view_numbers : Df K mg "_law_view_numbers" s__law_view_numbers ["view"] _ _ := ⟨F12, F12.binds (ps := ["view"]) fun _ _ _ _ _ _ us hl => match us, hl with | [_], _ => rfl, PySem.W.mg_of X G a12⟩
  have F13 := fun_mk (st := s__law_text) l13 c13 k13
  have D__law_text : Df K mg "_law_text" s__law_text ["head", "numbers"] _ _ := ⟨F13, F13.binds (ps := ["head", "numbers"]) fun _ _ _ _ _ _ us hl => match us, hl with | [_, _], _ => rfl, PySem.W.mg_of X G a13⟩
  have F14 := fun_mk (st := s__law_same) l14 c14 k14
  have D__law_same : Df K mg "_law_same" s__law_same ["actual", "expected"] _ _ := ⟨F14, F14.binds (ps := ["actual", "expected"]) fun _ _ _ _ _ _ us hl => match us, hl with | [_, _], _ => rfl, PySem.W.mg_of X G a14⟩
  have F15 := fun_mk (st := s_law) l15 c15 k15
  have D_law : Df K mg "law" s_law ["script"] _ _ := ⟨F15, F15.binds (ps := ["script"]) fun _ _ _ _ _ _ us hl => match us, hl with | [_], _ => rfl, PySem.W.mg_of X G a15⟩
  have DS : Deeds K mg aD := ⟨PySem.W.mg_of X G aDm, ⟨_, lD, rfl, rfl⟩, fun H => .inr ⟨_, _, _, lD, rfl, rfl, (show 9 ≤ sizeLine by decide), .cons ⟨_, rfl⟩ (.cons ⟨_, rfl⟩ (.cons ⟨_, rfl⟩ (.cons ⟨_, rfl⟩ (.cons ⟨_, rfl⟩ (.cons ⟨_, rfl⟩ (.cons ⟨_, rfl⟩ (.cons ⟨_, rfl⟩ (.cons ⟨_, rfl⟩ (.nil)))))))))⟩⟩
  have g_VIEW_HEAD := PySem.W.mg_of X G z_VIEW_HEAD
  have T : Txt K mg := ⟨PySem.W.mg_none_of X G z_len, PySem.W.mg_none_of X G z_str, PySem.W.mg_none_of X G z_int, PySem.W.mg_none_of X G z_range, PySem.W.mg_none_of X G z_tuple, PySem.W.mg_none_of X G z_list, PySem.W.mg_none_of X G z_isinstance, PySem.W.mg_none_of X G z_bool⟩
  refine ⟨PySem.W.fnOf "law" "law" (defArgs s_law) (defBody s_law) (defScope s_law) .none kV15 dc15 pm15 an15 cd15 ct15, fun s v => .of_eq rfl, fun base _ _ => ?_⟩
  have G_write_integers : FnOk l.prog w K mg base CX0 1 _ _ ["head", "integers"] (sp_write_integers K) := ok_write_integers D_write_integers T  
  have G_put_sequence : FnOk l.prog w K mg base CX0 1 _ _ ["out", "integers"] (sp_put_sequence K) := ok_put_sequence D_put_sequence T  
  have G_put_deed : FnOk l.prog w K mg base CX0 2 _ _ ["out", "deed"] (sp_put_deed K) := ok_put_deed D_put_deed T DS D_put_sequence G_put_sequence
  have G_put_event : FnOk l.prog w K mg base CX0 3 _ _ ["out", "event"] (sp_put_event K) := ok_put_event D_put_event T  D_put_sequence G_put_sequence D_put_deed G_put_deed
  have G_write_view : FnOk l.prog w K mg base CX0 4 _ _ ["view"] (sp_write_view K) := ok_write_view D_write_view T g_VIEW_HEAD D_write_integers G_write_integers D_put_event G_put_event
  have G__law_cell : FnOk l.prog w K mg base CX0 1 _ _ ["script", "k"] (sp__law_cell K) := ok__law_cell D__law_cell T  
  have G__law_values : FnOk l.prog w K mg base CX0 1 _ _ ["seed", "count", "signed"] (sp__law_values K) := ok__law_values D__law_values T  
  have G__law_deed : FnOk l.prog w K mg base CX0 2 _ _ ["shape", "seed"] (sp__law_deed K) := ok__law_deed D__law_deed T  D__law_values G__law_values
  have G__law_event : FnOk l.prog w K mg base CX0 3 _ _ ["first", "second", "third"] (sp__law_event K) := ok__law_event D__law_event T  D__law_values G__law_values D__law_deed G__law_deed
  have G__law_view : FnOk l.prog w K mg base CX0 4 _ _ ["script", "most"] (sp__law_view K) := ok__law_view D__law_view T  D__law_cell G__law_cell D__law_event G__law_event
  have G__law_deed_numbers : FnOk l.prog w K mg base CX0 1 _ _ ["deed"] (sp__law_deed_numbers K) := ok__law_deed_numbers D__law_deed_numbers T  
  have G__law_event_numbers : FnOk l.prog w K mg base CX0 2 _ _ ["event"] (sp__law_event_numbers K) := ok__law_event_numbers D__law_event_numbers T  D__law_deed_numbers G__law_deed_numbers
  have G__law_view_numbers : FnOk l.prog w K mg base CX0 3 _ _ ["view"] (sp__law_view_numbers K) := ok__law_view_numbers D__law_view_numbers T  D__law_event_numbers G__law_event_numbers
  have G__law_text : FnOk l.prog w K mg base CX0 1 _ _ ["head", "numbers"] (sp__law_text K) := ok__law_text D__law_text T  
  have G__law_same : FnOk l.prog w K mg base CX0 8 _ _ ["actual", "expected"] (sp__law_same K 8) := ok__law_same D__law_same T  
  have G_law : FnOk l.prog w K mg base CX0 9 _ _ ["script"] (sp_law K) := ok_law D_law T  D_write_view G_write_view D__law_view G__law_view D__law_view_numbers G__law_view_numbers D__law_text G__law_text D__law_same G__law_same
  exact G_law
theorem walk {l : PySem.W.OpenLaw} {q : Program} {loose : List Str} {XP : (Str → Option Value) → Heap → Prop} {YP : World → Heap → Prop} {d : DefRec} {K : Params → PySem.W.Frag} (hn : l.most = some 63) (hdf : d.params.defaults = [])
    (hY : ∀ (w : World) (h : Heap), YP w h → (K w.params).In h)
    (F : ∀ (w : World) (mg : Str → Option Value) (fa : Addr) (h : Heap), (K w.params).In h → h.Ns mainGlobals mg → mg d.name = some (.ref fa) →
      ∃ fd : FuncData, (∀ (s : Shared) (u : Value), BindsTo s fd ⟨[u], []⟩ [("script", u)]) ∧ ∀ base : Heap, (K w.params).In base → base.Ns mainGlobals mg → FnOk l.prog w (K w.params) mg base CX0 9 fa fd ["script"] (sp_law (K w.params))) :
    PySem.W.WalkO q loose XP YP l.row.toRowW d [] (fun f vs => PySem.call f vs) :=
  L2.walk_of (n := 63) (k := 9) (x := "script") (CX := fun _ => CX0) (sp := fun w => sp_law (K w.params)) hn (by decide) hdf ⟨rfl, by decide, by decide⟩ hY F (fun _ _ a ns hl _ hS => ⟨a, ns, rfl, hS, hl, fun _ => rfl⟩) fun _ _ _ _ _ z => z
end Vs
open PySem PySem.W PyProof.Rows
set_option maxRecDepth 100000 in
set_option maxHeartbeats 0 in
theorem PySem.Challenge.cw_whensure_k13_views_written_holds : PySem.Challenge.rw_whensure_k13_views_written.Holds := by
  w_on; o_law; k_head; (case hw => w_witness2)
  k_fill
  refine Vs.walk (l := PySem.Challenge.rw_whensure_k13_views_written) rfl rfl (fun w h Y => PySem.W.kIn_of Y) ?F
  case F =>
    intro w mg fa h KX G hmg
    refine' Vs.all_mk KX G hmg ?a0 ?l0 ?c0 ?k0 ?a1 ?l1 ?c1 ?k1 ?a2 ?l2 ?c2 ?k2 ?a3 ?l3 ?c3 ?k3 ?a4 ?l4 ?c4 ?k4 ?a5 ?l5 ?c5 ?k5 ?a6 ?l6 ?c6 ?k6 ?a7 ?l7 ?c7 ?k7 ?a8 ?l8 ?c8 ?k8 ?a9 ?l9 ?c9 ?k9 ?a10 ?l10 ?c10 ?k10 ?a11 ?l11 ?c11 ?k11 ?a12 ?l12 ?c12 ?k12 ?a13 ?l13 ?c13 ?k13 ?a14 ?l14 ?c14 ?k14 ?a15 ?l15 ?c15 ?k15 ?z_len ?z_str ?z_int ?z_range ?z_tuple ?z_list ?z_isinstance ?z_bool ?aDm ?lD ?z_VIEW_HEAD
    (case a0 => k_is)
    (case l0 => k_is)
    (case c0 => k_is)
    (case k0 => k_is)
    (case a1 => k_is)
    (case l1 => k_is)
    (case c1 => k_is)
    (case k1 => k_is)
    (case a2 => k_is)
    (case l2 => k_is)
    (case c2 => k_is)
    (case k2 => k_is)
    (case a3 => k_is)
    (case l3 => k_is)
    (case c3 => k_is)
    (case k3 => k_is)
    (case a4 => k_is)
    (case l4 => k_is)
    (case c4 => k_is)
    (case k4 => k_is)
    (case a5 => k_is)
    (case l5 => k_is)
    (case c5 => k_is)
    (case k5 => k_is)
    (case a6 => k_is)
    (case l6 => k_is)
    (case c6 => k_is)
    (case k6 => k_is)
    (case a7 => k_is)
    (case l7 => k_is)
    (case c7 => k_is)
    (case k7 => k_is)
    (case a8 => k_is)
    (case l8 => k_is)
    (case c8 => k_is)
    (case k8 => k_is)
    (case a9 => k_is)
    (case l9 => k_is)
    (case c9 => k_is)
    (case k9 => k_is)
    (case a10 => k_is)
    (case l10 => k_is)
    (case c10 => k_is)
    (case k10 => k_is)
    (case a11 => k_is)
    (case l11 => k_is)
    (case c11 => k_is)
    (case k11 => k_is)
    (case a12 => k_is)
    (case l12 => k_is)
    (case c12 => k_is)
    (case k12 => k_is)
    (case a13 => k_is)
    (case l13 => k_is)
    (case c13 => k_is)
    (case k13 => k_is)
    (case a14 => k_is)
    (case l14 => k_is)
    (case c14 => k_is)
    (case k14 => k_is)
    (case a15 => k_is)
    (case l15 => k_is)
    (case c15 => k_is)
    (case k15 => k_is)
    (case z_len => k_is)
    (case z_str => k_is)
    (case z_int => k_is)
    (case z_range => k_is)
    (case z_tuple => k_is)
    (case z_list => k_is)
    (case z_isinstance => k_is)
    (case z_bool => k_is)
    (case aDm => k_is)
    (case lD => k_is)
    (case z_VIEW_HEAD => k_is)
#print axioms PySem.Challenge.cw_whensure_k13_views_written_holds
