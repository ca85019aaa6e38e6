import PyProof.Rows.All
import Wide.All
import OpenK.AllK
import Wide.FinOn
import HandS.ForMost
import HandS.Strs
import HandS.IsInst
import HandS.StrMore
import HandS.NoneIn
import KE.DataEq
import HandS.TupAny
import HandS.Codes
import HandS.Wide
import HandS.FStr
import HandS.Deep
import HandS.Property
import HandS.Walk
import HandS.More
import KE.KDictDisplayH
import HandS.CallLocal
import HandS.SortKw
import KE.DataMinMax
import HandS.DictComp
import HandS.TupSets
import HandS.TupLen
import HandS.Conv
import HandS.TupLe
import HandS.Comp
import HandS.SortRule
import HandS.Iter
import HandS.MapObj
import HandS.Zip
import HandS.ExcOwn
import HandS.Small
import HandS.Star
import HandS.Flt
import PySem.Challenge.RW_whensure_k25_bounds_of_a_clock_are_its_r
set_option Elab.async false
set_option linter.all false
set_option maxRecDepth 100000
namespace Vs
open PySem PySem.Spec PyProof.Rows L2

theorem posJ {j : Int} (h : decide (0 < j) = true) : 0 < j := of_decide_eq_true h
/-! ### heaps -/
theorem same_upd {H : Hp} {p : Addr} {o : HO} (h : H p = none) : Same H (upd H p o) := fun b x e => by
  rw [upd_ne (ne_of_none e h)]
  exact e
theorem sTup {K : PySem.W.Frag} {H H' : Hp} {a : Addr} {xs : List V} (e : Same H H') (h : SqT K H a xs) : SqT K H' a xs := by
  rcases h with (h | ⟨o, h⟩) | h
  · exact .inl (.inl (e _ _ h))
  · exact .inl (.inr ⟨o, e _ _ h⟩)
  · exact .inr h
/-- all that was tracked is as it was, but for what stands at o -/
def But (o : Addr) (H H' : Hp) : Prop := ∀ b u, b ≠ o → H b = some u → H' b = some u
theorem But.refl (o : Addr) (H : Hp) : But o H H := fun _ _ _ h => h
theorem But.trans {o : Addr} {H H1 H2 : Hp} (a : But o H H1) (b : But o H1 H2) : But o H H2 := fun c u n h => b c u n (a c u n h)
theorem But.of {o : Addr} {H H' : Hp} (a : Same H H') : But o H H' := fun c u _ h => a c u h
theorem But.set {o : Addr} {H : Hp} {u : HO} : But o H (upd H o u) := fun c u' n h => by rw [upd_ne n]; exact h

/-! ### xs.extend(t), t a tuple -/
theorem ext_tup (l : Addr) (items : Array Value) (n : Nat) (b : Addr) (ob : Obj) (items2 : Array Value) (n2 : Nat) (hs0 : ¬(!items.isEmpty && Builtin.List.listTooLong (items.size + items2.size)) = true) (hs1 : items.size ≤ sizeLine) (hs2 : items.size + items2.size ≤ sizeLine + 1) (hcl : ob.cls = .type "tuple") (hda : ob.data = .seq items2 n2) :
    Meets (Builtin.«list.extend» ⟨[.ref l, .ref b], []⟩) (fun _ R s => s.heap.get? l = some { cls := .type "list", dict := none, data := .seq items n, slots := #[] } ∧ s.heap.get? b = some ob ∧ R (.ok (.ret Value.none)) { s with heap := s.heap.update l (Obj.mapSeq fun x => x ++ items2), toks := s.toks }) := by
  obtain ⟨oc, od, oda, osl⟩ := ob
  cases hcl
  cases hda
  refine .of_wp fun prog w A R s h => ?_
  obtain ⟨hp, g, d, tk, os⟩ := s
  obtain ⟨hl, hb, h⟩ := h
  have f1 := AutoSeq1.idx_int; have f2 := AutoSeq1.sub_tuple_tuple; have f3 := AutoSeq1.sub_list_list; have f4 := AutoSeq1.sub_tuple_list; have f5 := AutoSeq1.sub_list_tuple
  have hz' : (items ++ items2).size ≤ sizeLine + 1 := by rw [Array.size_append]; exact hs2
  wp_walk using (wpAny_updateSeq hl rfl (hz := hs1) (_hz' := hz')), AutoSeq1.wpAny_loadPart' hl, AutoSeq1.wpAny_loadPart' hb
  exact ⟨_, rfl, h⟩
def rExtT (K : PySem.W.Frag) : V → List V → Hp → VK → Prop := fun x vs H Q => ∃ l b xs zs, x = .ref l ∧ vs = [.ref b] ∧ H l = some (.lst xs) ∧ SqT K H b zs ∧ xs.length + zs.length ≤ sizeLine ∧ Q .non (upd H l (.lst (xs ++ zs)))
theorem mt_extendT {X : Cx} : MtR X "list.extend" (rExtT X.K) := by
  intro pins s σ H x vs v us Q I rx rv h
  obtain ⟨l, b, xs, zs, rfl, rfl, hH, hB, hz, q⟩ := h
  cases rx
  obtain ⟨u, rfl, ru⟩ := rv.one
  cases ru
  obtain ⟨z, its, n, r, hl, e⟩ := I.lstM hH
  obtain ⟨its2, r2, ⟨ob, e2, hcl, n2, hda⟩, hl2⟩ := I.tuple hB
  have hl3 := r2.length
  have hsz : its.toArray.size + its2.toArray.size ≤ sizeLine := by rw [List.size_toArray, List.size_toArray]; omega
  have hlong : ¬ (!its.toArray.isEmpty && Builtin.List.listTooLong (its.toArray.size + its2.toArray.size)) = true := by
    rw [notLongL hsz, Bool.and_false]
    exact Bool.false_ne_true
  refine call_meets F.slot_list_extend ⟨_, e, rfl⟩ F.entry_list_extend (F.args_list_extend_2 _ _)
    (ext_tup l its.toArray n b ob its2.toArray n2 hlong (by rw [List.size_toArray]; omega) (by omega) hcl hda) ⟨e, e2, ?_⟩
  refine ⟨.non, _, I.lset (its' := its ++ its2) hH e (by simp) (r.append r2) ?_, rfl, q⟩
  rw [List.length_append]
  omega

/-! ### what a letter, a view holds -/
def deedNames : List Str := ["note", "kind", "mark", "send", "tell", "hear", "promise", "commit", "anew"]
theorem dn_len : deedNames.length = 9 := rfl
theorem dn_nodup : deedNames.Nodup := by decide +kernel
structure Dd where
  place : Nat
  nums : List Int
structure Ev where
  asleep : Bool
  shown : List Int
  after : List Int
  deed : Dd
  knows : List Int
structure Rc where
  dev : Int
  num : Int
  ev : Ev
structure Lt where
  s : Int
  r : Int
  k : Int
  n : Int
  recs : List Rc
def b2n (b : Bool) : Int := if b then 1 else 0
def numSeq (ns : List Int) : List Int := (ns.length : Int) :: ns
def numD (d : Dd) : List Int := (d.place : Int) :: (if d.place = 8 then numSeq d.nums else d.nums)
def numE (e : Ev) : List Int := [b2n e.asleep] ++ numSeq e.shown ++ numSeq e.after ++ numD e.deed ++ numSeq e.knows
def numR (r : Rc) : List Int := [r.dev, r.num] ++ numE r.ev
def numL (l : Lt) : List Int := [l.s, l.r, l.k, l.n, (l.recs.length : Int)] ++ l.recs.flatMap numR
def In18 (n : Int) : Prop := n.natAbs < 10 ^ 18
def Nt18 (n : Int) : Prop := In18 n ∧ 0 ≤ n
def arity (p : Nat) : Nat := [0, 2, 3, 2, 1, 2, 2, 1, 0].getD p 0
/-- which number of a deed may be below 0 -/
def mayNeg (p i : Nat) : Prop := (p = 2 ∧ i = 2) ∨ p = 7
structure Dd.Ok (d : Dd) : Prop where
  pl : d.place < 9
  len : d.nums.length ≤ 4
  ar : d.place ≠ 8 → d.nums.length = arity d.place
  sm : ∀ n ∈ d.nums, In18 n
  nt : ∀ i n, d.nums[i]? = some n → ¬ mayNeg d.place i → 0 ≤ n
structure Ev.Ok (e : Ev) : Prop where
  s1 : e.shown.length ≤ 4
  s2 : e.after.length ≤ 4
  s3 : e.knows.length ≤ 6
  m1 : ∀ n ∈ e.shown, In18 n
  m2 : ∀ n ∈ e.after, In18 n
  m3 : ∀ n ∈ e.knows, Nt18 n
  d : e.deed.Ok
structure Rc.Ok (r : Rc) : Prop where
  d : Nt18 r.dev
  n : Nt18 r.num
  e : r.ev.Ok
structure Lt.Ok (l : Lt) : Prop where
  s : Nt18 l.s
  r : Nt18 l.r
  k : Nt18 l.k
  n : Nt18 l.n
  len : l.recs.length ≤ 20
  rs : ∀ r ∈ l.recs, r.Ok
/-- the tuple of a list of ints -/
def TupI (K : PySem.W.Frag) (H : Hp) (a : Addr) (ns : List Int) : Prop := SqT K H a (ns.map V.int)
def DdAt (K : PySem.W.Frag) (H : Hp) (a : Addr) (d : Dd) : Prop :=
  ∃ z rest, deedNames[d.place]? = some z ∧ SqT K H a (.str z :: rest) ∧ ((d.place = 8 ∧ ∃ b, rest = [.ref b] ∧ TupI K H b d.nums) ∨ (d.place ≠ 8 ∧ rest = d.nums.map V.int))
def EvAt (K : PySem.W.Frag) (H : Hp) (a : Addr) (e : Ev) : Prop :=
  ∃ p q d r, SqT K H a [.bl e.asleep, .ref p, .ref q, .ref d, .ref r] ∧ TupI K H p e.shown ∧ TupI K H q e.after ∧ DdAt K H d e.deed ∧ TupI K H r e.knows
def RcAt (K : PySem.W.Frag) (H : Hp) (a : Addr) (r : Rc) : Prop := ∃ e, SqT K H a [.int r.dev, .int r.num, .ref e] ∧ EvAt K H e r.ev
/-- objects one beside the other -/
def Each {α : Type} (P : Addr → α → Prop) (as : List Addr) (xs : List α) : Prop := as.length = xs.length ∧ ∀ (i : Nat) (a : Addr) (x : α), as[i]? = some a → xs[i]? = some x → P a x
def LtAt (K : PySem.W.Frag) (H : Hp) (a : Addr) (l : Lt) : Prop :=
  ∃ b as, SqT K H a [.int l.s, .int l.r, .int l.k, .int l.n, .ref b] ∧ SqT K H b (as.map V.ref) ∧ Each (RcAt K H) as l.recs
section
variable {K : PySem.W.Frag} {H H' : Hp}
theorem TupI.keep {a ns} (e : Same H H') (h : TupI K H a ns) : TupI K H' a ns := sTup e h
theorem DdAt.keep {a d} (e : Same H H') (h : DdAt K H a d) : DdAt K H' a d := by
  obtain ⟨z, rest, h0, h1, h2⟩ := h
  refine ⟨z, rest, h0, sTup e h1, ?_⟩
  rcases h2 with ⟨h2, b, h3, h4⟩ | h2
  · exact .inl ⟨h2, b, h3, h4.keep e⟩
  · exact .inr h2
theorem EvAt.keep {a d} (e : Same H H') (h : EvAt K H a d) : EvAt K H' a d := by
  obtain ⟨p, q, d, r, h1, h2, h3, h4, h5⟩ := h
  exact ⟨p, q, d, r, sTup e h1, h2.keep e, h3.keep e, h4.keep e, h5.keep e⟩
theorem RcAt.keep {a d} (e : Same H H') (h : RcAt K H a d) : RcAt K H' a d := by
  obtain ⟨p, h1, h2⟩ := h
  exact ⟨p, sTup e h1, h2.keep e⟩
theorem Each.keep {α : Type} {P P' : Addr → α → Prop} {as xs} (h : Each P as xs) (f : ∀ a x, P a x → P' a x) : Each P' as xs := ⟨h.1, fun i a x h1 h2 => f a x (h.2 i a x h1 h2)⟩
theorem Each.nil {α : Type} {P : Addr → α → Prop} : Each P [] [] := ⟨rfl, fun i a x h => by simp at h⟩
theorem Each.snoc {α : Type} {P : Addr → α → Prop} {as xs} (h : Each P as xs) {a : Addr} {x : α} (p : P a x) : Each P (as ++ [a]) (xs ++ [x]) := by
  refine ⟨by simp [h.1], fun i b y h1 h2 => ?_⟩
  by_cases hi : i < as.length
  · rw [List.getElem?_append_left hi] at h1
    rw [List.getElem?_append_left (by rw [← h.1]; exact hi)] at h2
    exact h.2 i b y h1 h2
  · rw [List.getElem?_append_right (by omega)] at h1
    rw [List.getElem?_append_right (by rw [← h.1]; omega)] at h2
    rw [← h.1] at h2
    cases e : i - as.length with
    | zero =>
      rw [e] at h1 h2
      cases h1
      cases h2
      exact p
    | succ n =>
      rw [e] at h1
      simp at h1
theorem Each.get {α : Type} {P : Addr → α → Prop} {as xs} (h : Each P as xs) {i : Nat} {a : Addr} (ha : as[i]? = some a) : ∃ x, xs[i]? = some x ∧ P a x := by
  have hi : i < xs.length := by rw [← h.1]; exact (List.getElem?_eq_some_iff.mp ha).1
  exact ⟨xs[i], List.getElem?_eq_getElem hi, h.2 i a _ ha (List.getElem?_eq_getElem hi)⟩
theorem LtAt.keep {a d} (e : Same H H') (h : LtAt K H a d) : LtAt K H' a d := by
  obtain ⟨b, as, h1, h2, h3⟩ := h
  exact ⟨b, as, sTup e h1, sTup e h2, h3.keep fun _ _ q => q.keep e⟩
end
/-! ### sizes -/
theorem numD_len {d : Dd} (h : d.Ok) : (numD d).length ≤ 6 := by
  have := h.len
  unfold numD numSeq
  split <;> simp <;> omega
theorem numE_len {e : Ev} (h : e.Ok) : (numE e).length ≤ 24 := by
  have h1 := h.s1; have h2 := h.s2; have h3 := h.s3; have h4 := numD_len h.d
  unfold numE numSeq
  simp only [List.length_append, List.length_cons, List.length_nil]
  omega
theorem numR_len {r : Rc} (h : r.Ok) : (numR r).length ≤ 26 := by
  have h1 := numE_len h.e
  unfold numR
  simp only [List.length_append, List.length_cons, List.length_nil]
  omega
theorem flat_len {α : Type} {f : α → List Int} {m : Nat} : ∀ {xs : List α}, (∀ x ∈ xs, (f x).length ≤ m) → (xs.flatMap f).length ≤ xs.length * m
  | [], _ => by simp
  | x :: r, h => by
    have h1 := h x List.mem_cons_self
    have h2 := flat_len (xs := r) fun y hy => h y (List.mem_cons_of_mem _ hy)
    rw [List.flatMap_cons, List.length_append, List.length_cons, Nat.succ_mul]
    omega
theorem In18.zero : In18 0 := by unfold In18; decide
theorem In18.small {n : Nat} (h : n ≤ 1000) : In18 (n : Int) := by
  unfold In18
  rw [Int.natAbs_natCast]
  exact Nat.lt_of_le_of_lt h (by decide)
theorem In18.log {n : Int} (h : In18 n) : n.natAbs.log2 < 1920 := by
  unfold In18 at h
  by_cases h0 : n.natAbs = 0
  · rw [h0]
    decide
  · exact (Nat.log2_lt h0).mpr (Nat.lt_of_lt_of_le h (by decide +kernel))
theorem numD_in {d : Dd} (h : d.Ok) : ∀ n ∈ numD d, In18 n := by
  intro n hn
  have hp := h.pl
  have hl := h.len
  unfold numD at hn
  rcases List.mem_cons.mp hn with e | hn
  · rw [e]
    exact In18.small (by omega)
  · split at hn
    · unfold numSeq at hn
      rcases List.mem_cons.mp hn with e | hn
      · rw [e]
        exact In18.small (by omega)
      · exact h.sm n hn
    · exact h.sm n hn
theorem seq_in {ns : List Int} (hl : ns.length ≤ 1000) (h : ∀ n ∈ ns, In18 n) : ∀ n ∈ numSeq ns, In18 n := by
  intro n hn
  unfold numSeq at hn
  rcases List.mem_cons.mp hn with e | hn
  · rw [e]
    exact In18.small hl
  · exact h n hn
theorem numE_in {e : Ev} (h : e.Ok) : ∀ n ∈ numE e, In18 n := by
  intro n hn
  have h1 := h.s1; have h2 := h.s2; have h3 := h.s3
  unfold numE at hn
  rcases List.mem_append.mp hn with hn | hn
  · rcases List.mem_append.mp hn with hn | hn
    · rcases List.mem_append.mp hn with hn | hn
      · rcases List.mem_append.mp hn with hn | hn
        · rw [List.mem_singleton.mp hn]
          unfold b2n
          split
          · exact In18.small (n := 1) (by decide)
          · exact In18.zero
        · exact seq_in (by omega) h.m1 n hn
      · exact seq_in (by omega) h.m2 n hn
    · exact numD_in h.d n hn
  · exact seq_in (by omega) (fun n hn => (h.m3 n hn).1) n hn
theorem numR_in {r : Rc} (h : r.Ok) : ∀ n ∈ numR r, In18 n := by
  intro n hn
  unfold numR at hn
  rcases List.mem_append.mp hn with hn | hn
  · rcases List.mem_cons.mp hn with e | hn
    · rw [e]; exact h.d.1
    · rw [List.mem_singleton.mp hn]; exact h.n.1
  · exact numE_in h.e n hn
theorem numL_len {l : Lt} (h : l.Ok) : (numL l).length ≤ 600 := by
  have h1 := flat_len (f := numR) (m := 26) (xs := l.recs) fun r hr => numR_len (h.rs r hr)
  have h2 := h.len
  unfold numL
  simp only [List.length_append, List.length_cons, List.length_nil]
  omega
theorem numL_in {l : Lt} (h : l.Ok) : ∀ n ∈ numL l, In18 n := by
  intro n hn
  have hl := h.len
  unfold numL at hn
  rcases List.mem_append.mp hn with hn | hn
  · simp only [List.mem_cons, List.not_mem_nil, or_false] at hn
    rcases hn with e | e | e | e | e <;> rw [e]
    · exact h.s.1
    · exact h.r.1
    · exact h.k.1
    · exact h.n.1
    · exact In18.small (by omega)
  · obtain ⟨r, hr, hn⟩ := List.mem_flatMap.mp hn
    exact numR_in (h.rs r hr) n hn
/-! ### the text -/
def words (ns : List Int) : List Str := ns.map fun n => toString n
def textOf (head : Str) (ns : List Int) : Str := head ++ Str.ofString "\n" ++ Txt.join (Str.ofString " ") (words ns) ++ Str.ofString "\n"

theorem join_len (y : Str) : ∀ parts : List Str, (Str.join y parts).length ≤ (parts.map (·.length)).sum + parts.length * y.length
  | [] => Nat.zero_le _
  | [x] => by
    show x.length ≤ x.length + 0 + _
    omega
  | x :: z :: r => by
    have h := join_len y (z :: r)
    show (x ++ y ++ Str.join y (z :: r)).length ≤ _
    rw [Str.length_append, Str.length_append]
    rw [List.map_cons, List.sum_cons, List.length_cons, Nat.succ_mul]
    omega
theorem word_len {n : Int} (h : In18 n) : (Str.ofString (toString n)).length ≤ 19 := by
  unfold In18 at h
  have e := int_text_length_le10 (k := 18) (by decide) h
  rw [PySem.ofString_length]
  exact e
theorem words_sum {ns : List Int} (h : ∀ n ∈ ns, In18 n) : ((words ns).map (·.length)).sum ≤ ns.length * 19 := by
  induction ns with
  | nil => exact Nat.zero_le _
  | cons a r ih =>
    have h1 := word_len (h a List.mem_cons_self)
    have h2 := ih fun n hn => h n (List.mem_cons_of_mem _ hn)
    show (Str.ofString (toString a)).length + ((words r).map (·.length)).sum ≤ _
    rw [List.length_cons, Nat.succ_mul]
    omega
theorem words_len (ns : List Int) : (words ns).length = ns.length := List.length_map _
theorem blank_len : (Str.ofString " ").length = 1 := by decide +kernel
theorem nl_len : (Str.ofString "\n").length = 1 := by decide +kernel
theorem joined_len {ns : List Int} (h : ∀ n ∈ ns, In18 n) : (Txt.join (Str.ofString " ") (words ns)).length ≤ ns.length * 20 := by
  have h1 := join_len (Str.ofString " ") (words ns)
  have h2 := words_sum h
  rw [← TL.join_eq, words_len, blank_len] at h1
  omega
theorem line2 : (20000 : Nat) ≤ sizeLine := by decide
theorem join_fit {ns : List Int} (h : ∀ n ∈ ns, In18 n) (hl : ns.length ≤ 1000) : ((words ns).map (·.length)).sum + (words ns).length * (Str.ofString " ").length ≤ 16777216 := by
  have h2 := words_sum h
  rw [words_len, blank_len]
  omega
theorem sizes {n : Nat} (h : n ≤ 100000) : n ≤ sizeLine := Nat.le_trans h (by decide)
theorem sizes' {n : Nat} (h : n ≤ 100000) : n < sizeLine := Nat.lt_of_le_of_lt h (by decide)
theorem words_take_succ {ns : List Int} {i : Nat} (h : i < ns.length) : words (ns.take (i + 1)) = words (ns.take i) ++ [(toString ns[i] : Str)] := by
  unfold words
  rw [List.take_add_one, List.getElem?_eq_getElem h, List.map_append]
  rfl
theorem int_get {ns : List Int} {i : Nat} {x : V} (h : (ns.map V.int)[i]? = some x) : ∃ hi : i < ns.length, x = V.int ns[i] := by
  have hi := (List.getElem?_eq_some_iff.mp h).1
  rw [List.length_map] at hi
  refine ⟨hi, ?_⟩
  rw [List.getElem?_map, List.getElem?_eq_getElem hi] at h
  exact (Option.some.inj h).symm
theorem ref_get {as : List Addr} {i : Nat} {x : V} (h : (as.map V.ref)[i]? = some x) : ∃ hi : i < as.length, x = V.ref as[i] := by
  have hi := (List.getElem?_eq_some_iff.mp h).1
  rw [List.length_map] at hi
  refine ⟨hi, ?_⟩
  rw [List.getElem?_map, List.getElem?_eq_getElem hi] at h
  exact (Option.some.inj h).symm
/-! ### what is no list stands while the list at o changes -/
theorem butTup {K : PySem.W.Frag} {H H' : Hp} {o a : Addr} {xs ys : List V} (e : But o H H') (ho : H o = some (.lst xs)) (h : SqT K H a ys) : SqT K H' a ys := by
  rcases h with (h | ⟨ob, h⟩) | h
  · exact .inl (.inl (e _ _ (ne_of h ho (by intro z; cases z)) h))
  · exact .inl (.inr ⟨ob, e _ _ (ne_of h ho (by intro z; cases z)) h⟩)
  · exact .inr h
section
variable {K : PySem.W.Frag} {H H' : Hp} {o : Addr} {xs : List V}
theorem TupI.but {a ns} (e : But o H H') (ho : H o = some (.lst xs)) (h : TupI K H a ns) : TupI K H' a ns := butTup e ho h
theorem DdAt.but {a d} (e : But o H H') (ho : H o = some (.lst xs)) (h : DdAt K H a d) : DdAt K H' a d := by
  obtain ⟨z, rest, h0, h1, h2⟩ := h
  refine ⟨z, rest, h0, butTup e ho h1, ?_⟩
  rcases h2 with ⟨h2, b, h3, h4⟩ | h2
  · exact .inl ⟨h2, b, h3, h4.but e ho⟩
  · exact .inr h2
theorem EvAt.but {a d} (e : But o H H') (ho : H o = some (.lst xs)) (h : EvAt K H a d) : EvAt K H' a d := by
  obtain ⟨p, q, d, r, h1, h2, h3, h4, h5⟩ := h
  exact ⟨p, q, d, r, butTup e ho h1, h2.but e ho, h3.but e ho, h4.but e ho, h5.but e ho⟩
end
/-! ### the names of deeds -/
theorem dn_first {j m : Nat} {z : Str} (h : deedNames[j]? = some z) (hm : m < j) : deedNames[m]? ≠ some z := fun e => by
  have := nd_ix dn_nodup e h
  omega
theorem dn_anew {j : Nat} {z : Str} (h : deedNames[j]? = some z) : z = "anew" ↔ j = 8 := by
  refine ⟨fun e => nd_ix dn_nodup (x := z) h (by rw [e]; rfl), fun e => ?_⟩
  subst e
  exact (Option.some.inj h).symm
theorem dn_note {j : Nat} {z : Str} (h : deedNames[j]? = some z) : z = "note" ↔ j = 0 := by
  refine ⟨fun e => nd_ix dn_nodup (x := z) h (by rw [e]; rfl), fun e => ?_⟩
  subst e
  exact (Option.some.inj h).symm
/-- a def of the text, as it stands behind the top -/
structure Df (K : PySem.W.Frag) (mg : Str → Option Value) (x : Str) (st : Stmt) (ps : List Str) (f : Addr) (fd : FuncData) : Prop where
  F : Fun K x x st f fd
  b : Binds K fd ps []
  m : mg x = some (.ref f)
/-- the built-ins that the text calls are still its own -/
structure Txt (K : PySem.W.Frag) (mg : Str → Option Value) : Prop where
  len : mg "len" = none
  str : mg "str" = none
  int : mg "int" = none
  range : mg "range" = none
  tuple : mg "tuple" = none
  list : mg "list" = none
  isinstance : mg "isinstance" = none
  bool : mg "bool" = none
  all : mg "all" = none
  min : mg "min" = none
  sum : mg "sum" = none
  enumerate : mg "enumerate" = none
  set : mg "set" = none
  sorted : mg "sorted" = none
  max : mg "max" = none
  zip : mg "zip" = none
  any : mg "any" = none
/-- the tuple of the deeds' names stands at aD -/
structure Deeds (K : PySem.W.Frag) (mg : Str → Option Value) (aD : Addr) : Prop where
  m : mg "DEEDS" = some (.ref aD)
  o : ∃ ob : Obj, K.lookup aD = some ob ∧ ob.cls = .type "tuple" ∧ ob.dict = none
  sq : ∀ H, SqT K H aD (deedNames.map V.str)

theorem vint_eq {a b : Int} (c : decide (V.int a = V.int b) = true) : a = b := by injection (of_decide_eq_true c)
theorem vint_ne {a b : Int} (c : ¬ decide (V.int a = V.int b) = true) : a ≠ b := fun e => c (decide_eq_true (by rw [e]))
theorem one_of {ns : List Int} (h : ns.length = 1) : ∃ x, ns = [x] := by
  match ns, h with
  | [x], _ => exact ⟨x, rfl⟩
theorem two_of {ns : List Int} (h : ns.length = 2) : ∃ x y, ns = [x, y] := by
  match ns, h with
  | [x, y], _ => exact ⟨x, y, rfl⟩
theorem four_of {ns : List Int} (h : ns.length = 4) : ∃ x y z u, ns = [x, y, z, u] := by
  match ns, h with
  | [x, y, z, u], _ => exact ⟨x, y, z, u, rfl⟩
theorem nt_one {a n : Int} {i : Nat} (h : [a][i]? = some n) (ha : 0 ≤ a) : 0 ≤ n := by
  match i, h with
  | 0, h => cases h; exact ha
theorem nt_two {a b n : Int} {i : Nat} (h : [a, b][i]? = some n) (ha : 0 ≤ a) (hb : 0 ≤ b) : 0 ≤ n := by
  match i, h with
  | 0, h => cases h; exact ha
  | 1, h => cases h; exact hb
theorem nt_three {a b c n : Int} {i : Nat} (h : [a, b, c][i]? = some n) (h2 : ¬ mayNeg 2 i) (ha : 0 ≤ a) (hb : 0 ≤ b) : 0 ≤ n := by
  match i, h with
  | 0, h => cases h; exact ha
  | 1, h => cases h; exact hb
  | 2, h => exact absurd (Or.inl ⟨rfl, rfl⟩) h2
end Vs

namespace Vs
open PySem PySem.Spec PyProof.Rows L2
section
variable {K : PySem.W.Frag} {H H' : Hp}
theorem tyT {a : Addr} {xs : List V} (h : SqT K H a xs) : TyX K H (.ref a) (.type "tuple") := by
  rcases h with (h | ⟨o, h⟩) | ⟨o, its, n, h, hc, _⟩
  · exact .base (.tup h)
  · exact .fTuple h
  · exact .kTuple h hc
theorem tyL {a : Addr} {xs : List V} (h : SqL K H a xs) : TyX K H (.ref a) (.type "list") := by
  rcases h with (h | ⟨o, h⟩) | ⟨o, its, n, h, hc, _⟩
  · exact .base (.lst h)
  · exact .base (.frz h)
  · exact .kList h hc
/-- both denote the same, down to depth n -/
def Sim (K : PySem.W.Frag) (H : Hp) : Nat → V → V → Prop
  | 0, _, _ => False
  | n + 1, x, y => (∃ b, x = .bl b ∧ y = .bl b) ∨ (∃ i, x = .int i ∧ y = .int i) ∨ (∃ z, x = .str z ∧ y = .str z) ∨
    (∃ a b xs ys, x = .ref a ∧ y = .ref b ∧ ((SqT K H a xs ∧ SqT K H b ys) ∨ (SqL K H a xs ∧ SqL K H b ys)) ∧ xs.length = ys.length ∧ xs.length ≤ 1000 ∧ ∀ (i : Nat) u v, xs[i]? = some u → ys[i]? = some v → Sim K H n u v)
theorem Sim.int {n : Nat} {i : Int} : Sim K H (n + 1) (.int i) (.int i) := .inr (.inl ⟨i, rfl, rfl⟩)
theorem Sim.str {n : Nat} {z : Str} : Sim K H (n + 1) (.str z) (.str z) := .inr (.inr (.inl ⟨z, rfl, rfl⟩))
theorem Sim.bl {n : Nat} {b : Bool} : Sim K H (n + 1) (.bl b) (.bl b) := .inl ⟨b, rfl, rfl⟩
theorem Sim.tup {n : Nat} {a b : Addr} {xs ys : List V} (h1 : SqT K H a xs) (h2 : SqT K H b ys) (hl : xs.length = ys.length) (hs : xs.length ≤ 1000) (h : ∀ (i : Nat) u v, xs[i]? = some u → ys[i]? = some v → Sim K H n u v) : Sim K H (n + 1) (.ref a) (.ref b) :=
  .inr (.inr (.inr ⟨a, b, xs, ys, rfl, rfl, .inl ⟨h1, h2⟩, hl, hs, h⟩))
theorem Sim.lst {n : Nat} {a b : Addr} {xs ys : List V} (h1 : SqL K H a xs) (h2 : SqL K H b ys) (hl : xs.length = ys.length) (hs : xs.length ≤ 1000) (h : ∀ (i : Nat) u v, xs[i]? = some u → ys[i]? = some v → Sim K H n u v) : Sim K H (n + 1) (.ref a) (.ref b) :=
  .inr (.inr (.inr ⟨a, b, xs, ys, rfl, rfl, .inr ⟨h1, h2⟩, hl, hs, h⟩))
theorem all_nil {R : V → V → Prop} : ∀ (i : Nat) u v, ([] : List V)[i]? = some u → ([] : List V)[i]? = some v → R u v := fun i u v h => by simp at h
theorem all_cons {R : V → V → Prop} {x y : V} {xs ys : List V} (h : R x y) (t : ∀ (i : Nat) u v, xs[i]? = some u → ys[i]? = some v → R u v) : ∀ (i : Nat) u v, (x :: xs)[i]? = some u → (y :: ys)[i]? = some v → R u v
  | 0, _, _, h1, h2 => by cases h1; cases h2; exact h
  | i + 1, u, v, h1, h2 => t i u v h1 h2
theorem all_ints {n : Nat} {ns : List Int} : ∀ (i : Nat) u v, (ns.map V.int)[i]? = some u → (ns.map V.int)[i]? = some v → Sim K H (n + 1) u v := fun i u v h1 h2 => by
  rw [h1] at h2
  cases h2
  obtain ⟨hi, rfl⟩ := int_get h1
  exact .int
theorem simI {n : Nat} {a b : Addr} {ns : List Int} (h1 : TupI K H a ns) (h2 : TupI K H b ns) (hs : ns.length ≤ 1000) : Sim K H (n + 2) (.ref a) (.ref b) := .tup h1 h2 rfl (by rw [List.length_map]; exact hs) all_ints
theorem simD {n : Nat} {a b : Addr} {d : Dd} (h1 : DdAt K H a d) (h2 : DdAt K H b d) (hk : d.Ok) : Sim K H (n + 3) (.ref a) (.ref b) := by
  have hl := hk.len
  obtain ⟨z, r, e1, t1, q1⟩ := h1
  obtain ⟨z', r', e2, t2, q2⟩ := h2
  rw [e1] at e2
  cases e2
  rcases q1 with ⟨p8, c, rfl, h1⟩ | ⟨n8, rfl⟩
  · rcases q2 with ⟨_, c', rfl, h2⟩ | ⟨n8, _⟩
    · exact .tup t1 t2 rfl (by show 2 ≤ 1000; decide) (all_cons .str (all_cons (simI h1 h2 (by omega)) all_nil))
    · exact absurd p8 n8
  · rcases q2 with ⟨p8, _⟩ | ⟨_, rfl⟩
    · exact absurd p8 n8
    · exact .tup t1 t2 rfl (by rw [List.length_cons, List.length_map]; omega) (all_cons .str all_ints)
theorem simE {n : Nat} {a b : Addr} {e : Ev} (h1 : EvAt K H a e) (h2 : EvAt K H b e) (hk : e.Ok) : Sim K H (n + 4) (.ref a) (.ref b) := by
  have k1 := hk.s1; have k2 := hk.s2; have k3 := hk.s3
  obtain ⟨p, q, d, r, t, f1, f2, f3, f4⟩ := h1
  obtain ⟨p', q', d', r', t', g1, g2, g3, g4⟩ := h2
  exact .tup t t' rfl (by show 5 ≤ 1000; decide) (all_cons .bl (all_cons (simI f1 g1 (by omega)) (all_cons (simI f2 g2 (by omega)) (all_cons (simD f3 g3 hk.d) (all_cons (simI f4 g4 (by omega)) all_nil)))))
theorem simR {n : Nat} {a b : Addr} {r : Rc} (h1 : RcAt K H a r) (h2 : RcAt K H b r) (hk : r.Ok) : Sim K H (n + 5) (.ref a) (.ref b) := by
  obtain ⟨e, t, f⟩ := h1
  obtain ⟨e', t', g⟩ := h2
  exact .tup t t' rfl (by show 3 ≤ 1000; decide) (all_cons .int (all_cons .int (all_cons (simE f g hk.e) all_nil)))
theorem simEach {α : Type} {P : Addr → α → Prop} {n : Nat} {as bs : List Addr} {xs : List α} (h1 : Each P as xs) (h2 : Each P bs xs) (h : ∀ a b x, x ∈ xs → P a x → P b x → Sim K H n (.ref a) (.ref b)) :
    ∀ (i : Nat) u v, (as.map V.ref)[i]? = some u → (bs.map V.ref)[i]? = some v → Sim K H n u v := fun i u v e1 e2 => by
  obtain ⟨i1, rfl⟩ := ref_get e1
  obtain ⟨i2, rfl⟩ := ref_get e2
  have ix : i < xs.length := by rw [← h1.1]; exact i1
  exact h _ _ xs[i] (List.getElem_mem ix) (h1.2 i _ _ (List.getElem?_eq_getElem i1) (List.getElem?_eq_getElem ix)) (h2.2 i _ _ (List.getElem?_eq_getElem i2) (List.getElem?_eq_getElem ix))
theorem simL {n : Nat} {a b : Addr} {l : Lt} (h1 : LtAt K H a l) (h2 : LtAt K H b l) (hk : l.Ok) : Sim K H (n + 7) (.ref a) (.ref b) := by
  have hl := hk.len
  obtain ⟨p, as, t, f, g⟩ := h1
  obtain ⟨p', as', t', f', g'⟩ := h2
  refine .tup t t' rfl (by show 5 ≤ 1000; decide) (all_cons .int (all_cons .int (all_cons .int (all_cons .int (all_cons ?_ all_nil)))))
  exact .tup f f' (by rw [List.length_map, List.length_map, g.1, g'.1]) (by rw [List.length_map, g.1]; omega) (simEach g g' fun a b x hx u v => simR u v (hk.rs x hx))
/-! ### what some calls ask, without the frame -/
abbrev rListOf (K : PySem.W.Frag) : List V → Hp → VK → Prop := fun xs H Q => ∃ p ys, xs = [V.ref p] ∧ (SqL K H p ys ∨ SqT K H p ys) ∧ ∀ l, H l = none → Q (.ref l) (upd H l (.lst ys))
abbrev rTupleOf (K : PySem.W.Frag) : List V → Hp → VK → Prop := fun xs H Q => ∃ p ys, xs = [V.ref p] ∧ ((SqL K H p ys ∧ ∀ l, H l = none → Q (.ref l) (upd H l (.tup ys))) ∨ (SqT K H p ys ∧ Q (.ref p) H))
abbrev rLenOf (K : PySem.W.Frag) : List V → Hp → VK → Prop := fun xs H Q => ∃ p ys, xs = [V.ref p] ∧ (SqL K H p ys ∨ SqT K H p ys) ∧ Q (.int ys.length) H
/-! ### views -/
def RowAt (K : PySem.W.Frag) (H : Hp) (a : Addr) (es : List Ev) : Prop := ∃ as, H a = some (.lst (as.map V.ref)) ∧ Each (EvAt K H) as es
def VwAt (K : PySem.W.Frag) (H : Hp) (v : Addr) (vw : List (List Ev)) : Prop := ∃ rows, H v = some (.lst (rows.map V.ref)) ∧ Each (RowAt K H) rows vw
theorem RowAt.keep {a es} (e : Same H H') (h : RowAt K H a es) : RowAt K H' a es := by
  obtain ⟨as, h1, h2⟩ := h
  exact ⟨as, e _ _ h1, h2.keep fun _ _ z => z.keep e⟩
theorem VwAt.keep {v vw} (e : Same H H') (h : VwAt K H v vw) : VwAt K H' v vw := by
  obtain ⟨as, h1, h2⟩ := h
  exact ⟨as, e _ _ h1, h2.keep fun _ _ z => z.keep e⟩
structure VwOk (vw : List (List Ev)) : Prop where
  len : vw.length ≤ 6
  sum : (vw.map List.length).sum ≤ 40
  ok : ∀ es ∈ vw, ∀ e ∈ es, e.Ok
def numEs (es : List Ev) : List Int := (es.length : Int) :: es.flatMap numE
def numV (vw : List (List Ev)) : List Int := (vw.length : Int) :: vw.flatMap numEs
theorem len_le_sum {vw : List (List Ev)} {es : List Ev} (h : es ∈ vw) : es.length ≤ (vw.map List.length).sum := by
  induction vw with
  | nil => simp at h
  | cons x r ih =>
    rw [List.map_cons, List.sum_cons]
    rcases List.mem_cons.mp h with e | h
    · rw [e]; omega
    · have := ih h; omega
theorem simRow {n : Nat} {a b : Addr} {es : List Ev} (h1 : RowAt K H a es) (h2 : RowAt K H b es) (hl : es.length ≤ 100) (hk : ∀ e ∈ es, e.Ok) : Sim K H (n + 5) (.ref a) (.ref b) := by
  obtain ⟨as, f, g⟩ := h1
  obtain ⟨as', f', g'⟩ := h2
  exact .lst (SqL.of f) (SqL.of f') (by rw [List.length_map, List.length_map, g.1, g'.1]) (by rw [List.length_map, g.1]; omega) (simEach g g' fun a b x hx u v => simE u v (hk x hx))
theorem simV {n : Nat} {a b : Addr} {vw : List (List Ev)} (h1 : VwAt K H a vw) (h2 : VwAt K H b vw) (hk : VwOk vw) : Sim K H (n + 6) (.ref a) (.ref b) := by
  have hl := hk.len
  have hs := hk.sum
  obtain ⟨as, f, g⟩ := h1
  obtain ⟨as', f', g'⟩ := h2
  exact .lst (SqL.of f) (SqL.of f') (by rw [List.length_map, List.length_map, g.1, g'.1]) (by rw [List.length_map, g.1]; omega) (simEach g g' fun a b x hx u v => simRow u v (by have := len_le_sum hx; omega) (hk.ok x hx))
end
theorem numV_len_le {vw : List (List Ev)} (h : ∀ es ∈ vw, ∀ e ∈ es, e.Ok) : (vw.flatMap numEs).length ≤ vw.length + (vw.map List.length).sum * 24 := by
  induction vw with
  | nil => exact Nat.zero_le _
  | cons x r ih =>
    have h1 := ih fun es hes => h es (List.mem_cons_of_mem _ hes)
    have h2 := flat_len (f := numE) (m := 24) (xs := x) fun e he => numE_len (h x List.mem_cons_self e he)
    rw [List.flatMap_cons, List.length_append, List.map_cons, List.sum_cons, List.length_cons]
    show ((x.length : Int) :: x.flatMap numE).length + _ ≤ _
    rw [List.length_cons]
    omega
theorem numV_len {vw : List (List Ev)} (h : VwOk vw) : (numV vw).length ≤ 967 := by
  have h1 := numV_len_le h.ok
  have h2 := h.len
  have h3 := h.sum
  unfold numV
  rw [List.length_cons]
  omega
theorem numEs_in {es : List Ev} (hl : es.length ≤ 100) (h : ∀ e ∈ es, e.Ok) : ∀ n ∈ numEs es, In18 n := by
  intro n hn
  unfold numEs at hn
  rcases List.mem_cons.mp hn with e | hn
  · rw [e]; exact In18.small (by omega)
  · obtain ⟨e, he, hn⟩ := List.mem_flatMap.mp hn
    exact numE_in (h e he) n hn
theorem numV_in {vw : List (List Ev)} (h : VwOk vw) : ∀ n ∈ numV vw, In18 n := by
  intro n hn
  have h2 := h.len
  have h3 := h.sum
  unfold numV at hn
  rcases List.mem_cons.mp hn with e | hn
  · rw [e]; exact In18.small (by omega)
  · obtain ⟨es, he, hn⟩ := List.mem_flatMap.mp hn
    exact numEs_in (by have := len_le_sum he; omega) (h.ok es he) n hn
theorem flat_take_le {α : Type} {f : α → List Int} {xs : List α} (i : Nat) : ((xs.take i).flatMap f).length ≤ (xs.flatMap f).length := by
  rw [show xs.flatMap f = (xs.take i).flatMap f ++ (xs.drop i).flatMap f by rw [← List.flatMap_append, List.take_append_drop], List.length_append]
  omega
theorem flat_take {α : Type} {f : α → List Int} {xs : List α} {i : Nat} {x : α} (h : xs[i]? = some x) : (xs.take (i + 1)).flatMap f = (xs.take i).flatMap f ++ f x := by
  rw [List.take_add_one, h, List.flatMap_append]
  show _ ++ (f x ++ []) = _
  rw [List.append_nil]
theorem flat_take_len {α : Type} {f : α → List Int} {m : Nat} {xs : List α} (h : ∀ x ∈ xs, (f x).length ≤ m) (i : Nat) : ((xs.take i).flatMap f).length ≤ i * m := by
  have h1 := flat_len (f := f) (m := m) (xs := xs.take i) fun x hx => h x (List.mem_of_mem_take hx)
  have h2 : (xs.take i).length ≤ i := by rw [List.length_take]; omega
  exact Nat.le_trans h1 (Nat.mul_le_mul_right m h2)
theorem sum_grow {vw : List (List Ev)} {j : Nat} {es : List Ev} {e : Ev} (h : vw[j]? = some es) : ((vw.set j (es ++ [e])).map List.length).sum = (vw.map List.length).sum + 1 := by
  induction vw generalizing j with
  | nil => simp at h
  | cons x r ih =>
    cases j with
    | zero =>
      cases h
      show (es ++ [e]).length + (r.map List.length).sum = es.length + (r.map List.length).sum + 1
      rw [List.length_append, List.length_singleton]
      omega
    | succ j =>
      show x.length + ((r.set j (es ++ [e])).map List.length).sum = x.length + (r.map List.length).sum + 1
      rw [ih h]
      omega
theorem cut1 (xs : List V) : cutV xs (some 1) none = xs.drop 1 := by
  unfold cutV
  rw [show HT.sIx xs.length 0 (some 1) = min 1 xs.length from HT.sIx_nat xs.length 0 1, HT.sIx_none]
  cases xs with
  | nil => rfl
  | cons x r =>
    rw [show min 1 (x :: r).length = 1 by rw [List.length_cons]; omega]
    show (List.take ((x :: r).length - 1) r) = r
    rw [List.length_cons, Nat.add_sub_cancel]
    exact List.take_length
def headL (l : Lt) : List Int := [l.s, l.r, l.k, l.n, (l.recs.length : Int)]
end Vs

namespace Vs
open PySem PySem.Spec PyProof.Rows L2
/-! ### the words of a text -/
abbrev wd (n : Int) : Str := Str.ofString (toString n)
theorem tl_pos {n : Int} (h : 0 ≤ n) : TL.tl (wd n) = TL.numL n.natAbs := by
  have e : n = ((n.natAbs : Nat) : Int) := by omega
  unfold wd
  rw [e, TL.tl_num]
  rfl
theorem tl_neg {n : Int} (h : n < 0) : TL.tl (wd n) = 45 :: TL.numL n.natAbs := by
  have e : (0 : Int) - n = ((n.natAbs : Nat) : Int) := by omega
  unfold wd
  rw [PyProof.Rows.toString_neg h, e]
  have q := TL.tl_num n.natAbs
  rw [TL.tl_ofString] at q ⊢
  rw [String.toList_append, List.map_append, q]
  rfl
theorem In18.numL {n : Int} (h : In18 n) : (TL.numL n.natAbs).length ≤ 18 := TL.numL_len (by decide) h
theorem wd_free {n : Int} {s : Nat} (h : s < 48 ∨ 57 < s) (h2 : s ≠ 45) : s ∉ TL.tl (wd n) := by
  by_cases h0 : 0 ≤ n
  · rw [tl_pos h0]
    exact TL.numL_free h
  · rw [tl_neg (by omega)]
    intro hm
    rcases List.mem_cons.mp hm with e | hm
    · exact h2 e
    · exact TL.numL_free h hm
theorem wd_int {n : Int} (h : In18 n) : intText? (wd n) = some n := by
  have hl := h.numL
  by_cases h0 : 0 ≤ n
  · have e := TL.int_num (n := n.natAbs) (by omega)
    have e2 : ((n.natAbs : Nat) : Int) = n := by omega
    rw [e2] at e
    exact e
  · have t := tl_neg (n := n) (by omega)
    have e := intText_neg (x := wd n) (cs := TL.numL n.natAbs) t (TL.numL_digits _) (TL.numL_ne _) (by rw [TL.len_tl, t, List.length_cons]; omega)
    rw [TL.numL_val] at e
    rw [e]
    congr 1
    omega
/-- the digits of the word -/
def dg (n : Int) : Str := ⟨(TL.numL n.natAbs).toArray⟩
theorem dash_tl : TL.tl (Str.ofString "-") = [45] := by decide +kernel
theorem beqD (a b : List Nat) : (a == b) = decide (a = b) := by
  by_cases h : a = b
  · rw [h, decide_eq_true rfl, beq_self_eq_true]
  · rw [decide_eq_false h, beq_false_of_ne h]
theorem rmdash (x : Str) : TL.tl (Txt.removeprefix x (Str.ofString "-")) = if (TL.tl x).take 1 = [45] then (TL.tl x).drop 1 else TL.tl x := by
  have hl : (Str.ofString "-").length = 1 := by decide +kernel
  unfold Txt.removeprefix
  have hs : Builtin.Str.subAt x (Str.ofString "-") 0 = decide ((TL.tl x).take 1 = [45]) := by
    rw [StrLaws.subAt_eq, hl, show (Str.ofString "-").cps.toList = [45] from dash_tl, List.drop_zero]
    exact beqD _ _
  by_cases h : (TL.tl x).take 1 = [45]
  · rw [hs, decide_eq_true h, if_pos rfl, if_pos h, hl]
    have h1 : 1 ≤ x.length := by
      rw [TL.len_tl]
      cases e : TL.tl x with
      | nil => rw [e] at h; cases h
      | cons a r => rw [List.length_cons]; omega
    unfold Txt.affix
    show TL.tl (if (x.length - 1 == x.length) = true then x else _) = _
    rw [if_neg (by rw [beq_iff_eq]; omega)]
    exact TL.tl_strSub_end x 1
  · rw [hs, decide_eq_false h, if_neg Bool.false_ne_true, if_neg h]
    rfl
theorem zero_tl : TL.tl (Str.ofString "0") = [48] := by decide +kernel
theorem starts0 (x : Str) : Txt.startswith x (Str.ofString "0") = decide ((TL.tl x).take 1 = [48]) := by
  have hl : (Str.ofString "0").length = 1 := by decide +kernel
  unfold Txt.startswith
  rw [StrLaws.subAt_eq, hl, show (Str.ofString "0").cps.toList = [48] from zero_tl, List.drop_zero]
  have e : ((TL.tl x).take 1 == [48]) = decide ((TL.tl x).take 1 = [48]) := beqD _ _
  rw [show List.take 1 x.cps.toList = (TL.tl x).take 1 from rfl, e]
  by_cases h : (TL.tl x).take 1 = [48]
  · have h1 : 1 ≤ x.length := by
      rw [TL.len_tl]
      cases e : TL.tl x with
      | nil => rw [e] at h; cases h
      | cons a r => rw [List.length_cons]; omega
    rw [decide_eq_true h, decide_eq_true (by omega : 0 + 1 ≤ x.length)]
    rfl
  · rw [decide_eq_false h, Bool.and_false]
theorem digit_ascii : ∀ c : Nat, c < 128 → Unicode.isDigit c = (decide (48 ≤ c) && decide (c ≤ 57)) := by decide +kernel
theorem numL_lead {n : Nat} (h : 0 < n) : (TL.numL n).take 1 ≠ [48] := by
  induction n using Nat.strongRecOn with
  | _ n ih =>
    by_cases h1 : n < 10
    · rw [TL.numL_lt h1]
      intro e
      have := List.cons.inj e
      omega
    · rw [TL.numL_step (by omega)]
      have h2 := ih (n / 10) (by omega) (by omega)
      have h3 := TL.numL_ne (n / 10)
      rw [List.take_append_of_le_length (by cases e : TL.numL (n / 10) with | nil => exact absurd e h3 | cons a r => rw [List.length_cons]; omega)]
      exact h2
/-- what is_integer tells of a word -/
def isIntW (z : Str) (m : Int) : Bool :=
  if (!(Txt.isascii (Txt.removeprefix z (Str.ofString "-")) && Txt.isdigit (Txt.removeprefix z (Str.ofString "-"))) || decide (((Txt.removeprefix z (Str.ofString "-")).length : Int) > m)) = true then false
  else (decide (z = Str.ofString "0") || !Txt.startswith (Txt.removeprefix z (Str.ofString "-")) (Str.ofString "0"))
theorem ascii_of {x : Str} (h : NumText.AllDigits (TL.tl x)) (hn : TL.tl x ≠ []) : Txt.isascii x = true ∧ Txt.isdigit x = true := by
  have e1 : x.cps.all (fun c => decide (c < 128)) = (TL.tl x).all (fun c => decide (c < 128)) := (Array.all_toList ..).symm
  have e2 : x.cps.all Unicode.isDigit = (TL.tl x).all Unicode.isDigit := (Array.all_toList ..).symm
  refine ⟨?_, ?_⟩
  · show x.cps.all (fun c => decide (c < 128)) = true
    rw [e1, List.all_eq_true]
    intro c hc
    have := h c hc
    exact decide_eq_true (by omega)
  · unfold Txt.isdigit
    rw [e2, Bool.and_eq_true]
    refine ⟨decide_eq_true (by rw [TL.len_tl]; exact List.length_pos_iff.mpr hn), ?_⟩
    rw [List.all_eq_true]
    intro c hc
    have h1 := h c hc
    rw [digit_ascii c (by omega), decide_eq_true h1.1, decide_eq_true h1.2]
    rfl
theorem wd_digits {n : Int} : TL.tl (Txt.removeprefix (wd n) (Str.ofString "-")) = TL.numL n.natAbs := by
  rw [rmdash]
  by_cases h0 : 0 ≤ n
  · rw [tl_pos h0, if_neg]
    intro e
    have h1 : 45 ∈ TL.numL n.natAbs := List.mem_of_mem_take (by rw [e]; exact List.mem_singleton_self 45)
    exact TL.numL_free (by omega) h1
  · rw [tl_neg (by omega), if_pos (by rfl)]
    rfl
theorem wd_zero : wd 0 = Str.ofString "0" := by decide +kernel
theorem wd_isInt {n m : Int} (h : In18 n) (hm : 18 ≤ m) : isIntW (wd n) m = true := by
  have hd := wd_digits (n := n)
  have hl := h.numL
  have ha := ascii_of (x := Txt.removeprefix (wd n) (Str.ofString "-")) (by rw [hd]; exact TL.numL_digits _) (by rw [hd]; exact TL.numL_ne _)
  unfold isIntW
  rw [ha.1, ha.2, decide_eq_false (by rw [TL.len_tl, hd]; omega)]
  show (decide (wd n = Str.ofString "0") || _) = true
  by_cases h0 : n = 0
  · rw [h0, decide_eq_true wd_zero]
    rfl
  · rw [starts0, hd, decide_eq_false (numL_lead (by omega))]
    exact Bool.or_true _
theorem wd_len {n : Int} (h : In18 n) : (wd n).length ≤ 19 := word_len h
/-! ### the lines and words of a text -/
theorem nl_tl : TL.tl (Str.ofString "\n") = [10] := by decide +kernel
theorem blank_tl : TL.tl (Str.ofString " ") = [32] := by decide +kernel
theorem joinL_free {s : Nat} {S : List Nat} (hs : s ∉ S) : ∀ {ps : List (List Nat)}, (∀ p ∈ ps, s ∉ p) → s ∉ TL.joinL S ps
  | [], _ => by show s ∉ ([] : List Nat); simp
  | [p], h => h p List.mem_cons_self
  | p :: q :: r, h => by
    have h1 := joinL_free hs (ps := q :: r) fun z hz => h z (List.mem_cons_of_mem _ hz)
    intro hm
    rcases List.mem_append.mp hm with hm | hm
    · exact h p List.mem_cons_self hm
    · rcases List.mem_append.mp hm with hm | hm
      · exact hs hm
      · exact h1 hm
theorem joined_free {ns : List Int} : (10 : Nat) ∉ TL.tl (Txt.join (Str.ofString " ") (words ns)) := by
  rw [TL.join_eq, TL.tl_join]
  refine joinL_free (by rw [blank_tl]; decide) fun p hp => ?_
  obtain ⟨z, hz, rfl⟩ := List.mem_map.mp hp
  obtain ⟨n, _, rfl⟩ := List.mem_map.mp hz
  exact wd_free (n := n) (by omega) (by omega)
theorem text_join (hd : Str) (ns : List Int) : textOf hd ns = Txt.join (Str.ofString "\n") [hd, Txt.join (Str.ofString " ") (words ns), Str.ofString ""] := by
  apply TL.ext_tl
  rw [TL.join_eq, TL.tl_join]
  unfold textOf
  rw [TL.tl_append, TL.tl_append, TL.tl_append]
  show _ = TL.tl hd ++ (TL.tl (Str.ofString "\n") ++ (TL.tl (Txt.join (Str.ofString " ") (words ns)) ++ (TL.tl (Str.ofString "\n") ++ [])))
  simp only [List.append_assoc, List.append_nil]
theorem text_split {hd : Str} {ns : List Int} (h : (10 : Nat) ∉ TL.tl hd) : Txt.split (textOf hd ns) (Str.ofString "\n") = [hd, Txt.join (Str.ofString " ") (words ns), Str.ofString ""] := by
  rw [text_join]
  refine TL.split_join (s := 10) (S := []) nl_tl (by decide +kernel) (by simp) fun p hp => ?_
  simp only [List.mem_cons, List.not_mem_nil, or_false] at hp
  rcases hp with rfl | rfl | rfl
  · exact h
  · exact joined_free
  · decide +kernel
theorem words_split {ns : List Int} (h : ns ≠ []) : Txt.split (Txt.join (Str.ofString " ") (words ns)) (Str.ofString " ") = words ns := by
  refine TL.split_join (s := 32) (S := []) blank_tl (by decide +kernel) (by unfold words; simpa using h) fun p hp => ?_
  obtain ⟨n, _, rfl⟩ := List.mem_map.mp hp
  exact wd_free (n := n) (by omega) (by omega)
theorem text_len {hd : Str} {ns : List Int} (h : ∀ n ∈ ns, In18 n) : (textOf hd ns).length ≤ hd.length + ns.length * 20 + 2 := by
  have h1 := joined_len h
  unfold textOf
  rw [Str.length_append, Str.length_append, Str.length_append, nl_len]
  omega
/-! ### methods of a class -/
structure Mt (K : PySem.W.Frag) (C : Addr) (x qual : Str) (st : Stmt) (ps : List Str) (f : Addr) (fd : FuncData) : Prop where
  F : Fun K x qual st f fd
  b : Binds K fd ps []
  m : Meth K C x f
/-! ### a Taker -/
structure Tk (K : PySem.W.Frag) (mg : Str → Option Value) (C : Addr) : Prop where
  cl : Cls K C
  nI : NoAttr K C "integers"
  nT : NoAttr K C "taken"
  mg : mg "Taker" = some (.ref C)
theorem kit : ¬ (("integers" : Str) = "taken") := by decide +kernel
/-- its attributes -/
def tf (l : Addr) (i : Int) : List (Str × V) := putF "taken" (.int i) (putF "integers" (.ref l) [])
theorem tf_eq (l : Addr) (i : Int) : tf l i = ([("integers", V.ref l), ("taken", V.int i)] : List (Str × V)) := by
  show (if ("integers" : Str) = "taken" then [(("integers" : Str), V.int i)] else (("integers" : Str), V.ref l) :: putF "taken" (V.int i) []) = ([("integers", V.ref l), ("taken", V.int i)] : List (Str × V))
  rw [if_neg kit]
  rfl
theorem tf_int (l : Addr) (i : Int) : (tf l i).lookup ("integers" : Str) = some (.ref l) := by
  unfold tf
  rw [lookup_putF, if_neg kit, lookup_putF, if_pos rfl]
theorem tf_tak (l : Addr) (i : Int) : (tf l i).lookup ("taken" : Str) = some (.int i) := by
  unfold tf
  rw [lookup_putF, if_pos rfl]
theorem tf_no (l : Addr) (i : Int) {m : Str} (h1 : ¬ m = "taken") (h2 : ¬ m = "integers") : (tf l i).lookup m = none := by
  unfold tf
  rw [lookup_putF, if_neg h1, lookup_putF, if_neg h2]
  rfl
theorem tf_put (l : Addr) (i j : Int) : putF "taken" (.int j) (tf l i) = tf l j := by
  rw [tf_eq, tf_eq]
  show (if ("integers" : Str) = "taken" then _ else (("integers" : Str), V.ref l) :: (if ("taken" : Str) = "taken" then [(("taken" : Str), V.int j)] else _)) = ([("integers", V.ref l), ("taken", V.int j)] : List (Str × V))
  rw [if_neg kit, if_pos rfl]
/-- a Taker at p, its list at l, with these integers left -/
def TkAt (C : Addr) (H : Hp) (p l : Addr) (rest : List Int) : Prop := ∃ (dx : Addr) (ns : List Int) (i : Nat), H p = some (.ins C dx (tf l (i : Int))) ∧ H l = some (.lst (ns.map V.int)) ∧ i ≤ ns.length ∧ ns.length ≤ 1000 ∧ ns.drop i = rest
theorem TkAt.keep {C : Addr} {H H' : Hp} {p l : Addr} {rest : List Int} (e : Same H H') (h : TkAt C H p l rest) : TkAt C H' p l rest := by
  obtain ⟨dx, ns, i, h1, h2, h3⟩ := h
  exact ⟨dx, ns, i, e _ _ h1, e _ _ h2, h3⟩
theorem TkAt.but {C o : Addr} {H H' : Hp} {p l : Addr} {rest : List Int} (e : But o H H') (hp : o ≠ p) (hl : o ≠ l) (h : TkAt C H p l rest) : TkAt C H' p l rest := by
  obtain ⟨dx, ns, i, h1, h2, h3⟩ := h
  exact ⟨dx, ns, i, e _ _ hp.symm h1, e _ _ hl.symm h2, h3⟩
theorem TkAt.len {C : Addr} {H : Hp} {p l : Addr} {rest : List Int} (h : TkAt C H p l rest) : rest.length ≤ 1000 := by
  obtain ⟨dx, ns, i, h1, h2, h3, h4, rfl⟩ := h
  rw [List.length_drop]
  omega
/-! ### what stands while an instance changes -/
theorem insTup {C dx : Addr} {fs : List (Str × V)} {K : PySem.W.Frag} {H H' : Hp} {o a : Addr} {ys : List V} (e : But o H H') (ho : H o = some (.ins C dx fs)) (h : SqT K H a ys) : SqT K H' a ys := by
  rcases h with (h | ⟨ob, h⟩) | h
  · exact .inl (.inl (e _ _ (ne_of h ho (by intro z; cases z)) h))
  · exact .inl (.inr ⟨ob, e _ _ (ne_of h ho (by intro z; cases z)) h⟩)
  · exact .inr h
section
variable {K : PySem.W.Frag} {H H' : Hp} {o : Addr} {C dx : Addr} {fs : List (Str × V)}
theorem TupI.ins {a ns} (e : But o H H') (ho : H o = some (.ins C dx fs)) (h : TupI K H a ns) : TupI K H' a ns := insTup e ho h
theorem DdAt.ins {a d} (e : But o H H') (ho : H o = some (.ins C dx fs)) (h : DdAt K H a d) : DdAt K H' a d := by
  obtain ⟨z, rest, h0, h1, h2⟩ := h
  refine ⟨z, rest, h0, insTup e ho h1, ?_⟩
  rcases h2 with ⟨h2, b, h3, h4⟩ | h2
  · exact .inl ⟨h2, b, h3, h4.ins e ho⟩
  · exact .inr h2
theorem EvAt.ins {a d} (e : But o H H') (ho : H o = some (.ins C dx fs)) (h : EvAt K H a d) : EvAt K H' a d := by
  obtain ⟨p, q, d, r, h1, h2, h3, h4, h5⟩ := h
  exact ⟨p, q, d, r, insTup e ho h1, h2.ins e ho, h3.ins e ho, h4.ins e ho, h5.ins e ho⟩
theorem RcAt.ins {a d} (e : But o H H') (ho : H o = some (.ins C dx fs)) (h : RcAt K H a d) : RcAt K H' a d := by
  obtain ⟨p, h1, h2⟩ := h
  exact ⟨p, insTup e ho h1, h2.ins e ho⟩
theorem RcAt.but {xs : List V} {a d} (e : But o H H') (ho : H o = some (.lst xs)) (h : RcAt K H a d) : RcAt K H' a d := by
  obtain ⟨p, h1, h2⟩ := h
  exact ⟨p, butTup e ho h1, h2.but e ho⟩
end
theorem inTk {C p l : Addr} {H : Hp} {rs : List Int} (h : TkAt C H p l rs) : ∃ dx i, H p = some (.ins C dx (tf l i)) := by
  obtain ⟨dx, _, i, h, _⟩ := h
  exact ⟨dx, _, h⟩
theorem lsTk {C p l : Addr} {H : Hp} {rs : List Int} (h : TkAt C H p l rs) : ∃ xs, H l = some (.lst xs) := by
  obtain ⟨dx, _, i, _, h, _⟩ := h
  exact ⟨_, h⟩
theorem evs_len_le : ∀ rs : List Ev, rs.length ≤ (rs.flatMap numE).length
  | [] => Nat.zero_le _
  | a :: r => by
    have ih := evs_len_le r
    rw [List.flatMap_cons, List.length_append, List.length_cons]
    have : 1 ≤ (numE a).length := by unfold numE; simp only [List.length_append, List.length_cons]; omega
    omega
theorem rows_len_le : ∀ rs : List (List Ev), rs.length ≤ (rs.flatMap numEs).length
  | [] => Nat.zero_le _
  | a :: r => by
    have ih := rows_len_le r
    rw [List.flatMap_cons, List.length_append, List.length_cons]
    have : 1 ≤ (numEs a).length := by unfold numEs; rw [List.length_cons]; omega
    omega
end Vs

namespace Vs
open PySem PySem.Spec PyProof.Rows L2
/-! ### == and != of data, whatever its texts -/
section
variable {X : Cx}
def rEqP (K : PySem.W.Frag) : R2 := fun x y H Q => ∃ d e, Dp K H x d ∧ Dp K H y e ∧ d.plain = true ∧ e.plain = true ∧ d.depth ≤ 64 ∧ Q (.bl (PyData.eqv d e)) H
def rNeP (K : PySem.W.Frag) : R2 := fun x y H Q => ∃ d e, Dp K H x d ∧ Dp K H y e ∧ d.plain = true ∧ e.plain = true ∧ d.depth ≤ 64 ∧ Q (.bl (!PyData.eqv d e)) H
theorem op_eqP (hu : X.A.units + 64 < cLine) : OpR X (compareOp .Eq) (rEqP X.K) := by
  intro pins s σ H x y v u Q I rx ry h
  obtain ⟨d, e, hd, he, sd, se, hz, q⟩ := h
  obtain ⟨as, r1⟩ := Dp.reads I d x v hd rx
  obtain ⟨bs, r2⟩ := Dp.reads I e y u he ry
  exact SeqAt.eq_plain r1 r2 sd se (Nat.lt_of_le_of_lt (Nat.add_le_add_left (Nat.le_trans (Nat.min_le_left _ _) hz) _) hu) ⟨.bl _, H, I, rfl, q⟩
theorem op_neP (hu : X.A.units + 64 < cLine) : OpR X (compareOp .NotEq) (rNeP X.K) := by
  intro pins s σ H x y v u Q I rx ry h
  obtain ⟨d, e, hd, he, sd, se, hz, q⟩ := h
  obtain ⟨as, r1⟩ := Dp.reads I d x v hd rx
  obtain ⟨bs, r2⟩ := Dp.reads I e y u he ry
  exact SeqAt.ne_plain r1 r2 sd se (Nat.lt_of_le_of_lt (Nat.add_le_add_left (Nat.le_trans (Nat.min_le_left _ _) hz) _) hu) ⟨.bl _, H, I, rfl, q⟩
end
theorem strs_all {K : PySem.W.Frag} {H : Hp} : ∀ ss : List Str, DpAll K H (ss.map V.str) (ss.map PyData.str)
  | [] => .nil
  | s :: r => .cons (.str s) (strs_all r)
theorem strs_dp {K : PySem.W.Frag} {H : Hp} {a : Addr} {ss : List Str} (h : SqL K H a (ss.map V.str)) : Dp K H (.ref a) (.list (ss.map PyData.str)) := .lst h (strs_all ss)
theorem strs_plain : ∀ ss : List Str, PyData.plainAll (ss.map PyData.str) = true
  | [] => rfl
  | s :: r => by
    show (true && PyData.plainAll (r.map PyData.str)) = true
    rw [strs_plain r]
    rfl
theorem strs_depth : ∀ ss : List Str, PyData.depthAll (ss.map PyData.str) ≤ 1
  | [] => Nat.zero_le _
  | s :: r => by
    show max (PyData.depth (PyData.str s)) (PyData.depthAll (r.map PyData.str)) ≤ 1
    have := strs_depth r
    have h : PyData.depth (PyData.str s) ≤ 1 := by simp [PyData.depth]
    omega
theorem strl_plain (ss : List Str) : (PyData.list (ss.map PyData.str)).plain = true := strs_plain ss
theorem strl_depth (ss : List Str) : (PyData.list (ss.map PyData.str)).depth ≤ 64 := by
  have := strs_depth ss
  simp only [PyData.depth]
  omega
end Vs

namespace Vs
open PySem PySem.Spec PyProof.Rows L2
/-! ### data, and when two of them are the same to the sign -/
inductive DV where
  | bl (b : Bool)
  | int (i : Int)
  | str (z : Str)
  | tup (xs : List DV)
  | lst (xs : List DV)
mutual
def sameV : DV → DV → Bool
  | .bl a, .bl b => a == b
  | .int a, .int b => a == b
  | .str a, .str b => a == b
  | .tup xs, .tup ys => sameVL xs ys
  | .lst xs, .lst ys => sameVL xs ys
  | .bl _, .int _ | .bl _, .str _ | .bl _, .tup _ | .bl _, .lst _ => false
  | .int _, .bl _ | .int _, .str _ | .int _, .tup _ | .int _, .lst _ => false
  | .str _, .bl _ | .str _, .int _ | .str _, .tup _ | .str _, .lst _ => false
  | .tup _, .bl _ | .tup _, .int _ | .tup _, .str _ | .tup _, .lst _ => false
  | .lst _, .bl _ | .lst _, .int _ | .lst _, .str _ | .lst _, .tup _ => false
def sameVL : List DV → List DV → Bool
  | [], [] => true
  | x :: xs, y :: ys => sameV x y && sameVL xs ys
  | [], _ :: _ => false
  | _ :: _, [] => false
end
mutual
def depV : DV → Nat
  | .tup xs | .lst xs => depVL xs + 1
  | .bl _ | .int _ | .str _ => 1
def depVL : List DV → Nat
  | [] => 0
  | x :: xs => max (depV x) (depVL xs)
end
mutual
def Den (K : PySem.W.Frag) (H : Hp) : DV → V → Prop
  | .bl b, v => v = .bl b
  | .int i, v => v = .int i
  | .str z, v => v = .str z
  | .tup xs, v => ∃ a vs, v = .ref a ∧ SqT K H a vs ∧ vs.length ≤ 1000 ∧ DenL K H xs vs
  | .lst xs, v => ∃ a vs, v = .ref a ∧ SqL K H a vs ∧ vs.length ≤ 1000 ∧ DenL K H xs vs
def DenL (K : PySem.W.Frag) (H : Hp) : List DV → List V → Prop
  | [], vs => vs = []
  | d :: ds, vs => ∃ v r, vs = v :: r ∧ Den K H d v ∧ DenL K H ds r
end
mutual
theorem sameV_eq : ∀ d e : DV, sameV d e = true → d = e
  | .bl a, .bl b, h => by simp [sameV] at h; rw [h]
  | .int a, .int b, h => by simp [sameV] at h; rw [h]
  | .str a, .str b, h => by simp [sameV] at h; rw [h]
  | .tup xs, .tup ys, h => by rw [sameVL_eq xs ys (by simpa [sameV] using h)]
  | .lst xs, .lst ys, h => by rw [sameVL_eq xs ys (by simpa [sameV] using h)]
  | .bl _, .int _, h | .bl _, .str _, h | .bl _, .tup _, h | .bl _, .lst _, h => by simp [sameV] at h
  | .int _, .bl _, h | .int _, .str _, h | .int _, .tup _, h | .int _, .lst _, h => by simp [sameV] at h
  | .str _, .bl _, h | .str _, .int _, h | .str _, .tup _, h | .str _, .lst _, h => by simp [sameV] at h
  | .tup _, .bl _, h | .tup _, .int _, h | .tup _, .str _, h | .tup _, .lst _, h => by simp [sameV] at h
  | .lst _, .bl _, h | .lst _, .int _, h | .lst _, .str _, h | .lst _, .tup _, h => by simp [sameV] at h
theorem sameVL_eq : ∀ d e : List DV, sameVL d e = true → d = e
  | [], [], _ => rfl
  | x :: xs, y :: ys, h => by
    have h' : sameV x y = true ∧ sameVL xs ys = true := by simpa [sameVL] using h
    rw [sameV_eq x y h'.1, sameVL_eq xs ys h'.2]
  | [], _ :: _, h => by simp [sameVL] at h
  | _ :: _, [], h => by simp [sameVL] at h
end
mutual
theorem sameV_refl : ∀ d : DV, sameV d d = true
  | .bl a => by simp [sameV]
  | .int a => by simp [sameV]
  | .str a => by simp [sameV]
  | .tup xs => by rw [sameV]; exact sameVL_refl xs
  | .lst xs => by rw [sameV]; exact sameVL_refl xs
theorem sameVL_refl : ∀ d : List DV, sameVL d d = true
  | [] => by simp [sameVL]
  | x :: xs => by rw [sameVL, sameV_refl x, sameVL_refl xs]; rfl
end
theorem sameVL_at : ∀ {xs ys : List DV}, xs.length = ys.length → (∀ (i : Nat) x y, xs[i]? = some x → ys[i]? = some y → sameV x y = true) → sameVL xs ys = true
  | [], [], _, _ => by simp [sameVL]
  | x :: xs, y :: ys, hl, h => by
    rw [sameVL, h 0 x y rfl rfl, sameVL_at (Nat.succ.inj hl) fun i u v h1 h2 => h (i + 1) u v h1 h2]
    rfl
theorem sameVL_len : ∀ {xs ys : List DV}, xs.length ≠ ys.length → sameVL xs ys = false
  | [], [], h => absurd rfl h
  | x :: xs, y :: ys, h => by
    rw [sameVL, sameVL_len fun e => h (by rw [List.length_cons, List.length_cons, e]), Bool.and_false]
  | [], _ :: _, _ => by simp [sameVL]
  | _ :: _, [], _ => by simp [sameVL]
theorem sameVL_no : ∀ {xs ys : List DV} {i : Nat} {x y : DV}, xs[i]? = some x → ys[i]? = some y → sameV x y = false → sameVL xs ys = false
  | x :: xs, y :: ys, 0, _, _, h1, h2, h => by
    cases h1
    cases h2
    rw [sameVL, h]
    rfl
  | x :: xs, y :: ys, i + 1, u, v, h1, h2, h => by
    rw [sameVL, sameVL_no (i := i) h1 h2 h, Bool.and_false]
  | [], _, _, _, _, h1, _, _ => by simp at h1
  | _ :: _, [], _, _, _, _, h2, _ => by simp at h2
theorem depVL_at : ∀ {xs : List DV} {i : Nat} {x : DV}, xs[i]? = some x → depV x ≤ depVL xs
  | x :: xs, 0, _, h => by cases h; rw [depVL]; omega
  | x :: xs, i + 1, u, h => by
    have := depVL_at (xs := xs) (i := i) h
    rw [depVL]
    omega
  | [], _, _, h => by simp at h
section
variable {K : PySem.W.Frag} {H H' : Hp}
theorem DenL.len : ∀ {ds : List DV} {vs : List V}, DenL K H ds vs → vs.length = ds.length
  | [], _, h => by rw [DenL] at h; rw [h]; rfl
  | d :: ds, _, h => by
    rw [DenL] at h
    obtain ⟨v, r, rfl, _, h2⟩ := h
    rw [List.length_cons, List.length_cons, DenL.len h2]
theorem DenL.get : ∀ {ds : List DV} {vs : List V} {i : Nat} {d : DV}, DenL K H ds vs → ds[i]? = some d → ∃ v, vs[i]? = some v ∧ Den K H d v
  | d :: ds, _, 0, _, h, hi => by
    rw [DenL] at h
    obtain ⟨v, r, rfl, h1, _⟩ := h
    cases hi
    exact ⟨v, rfl, h1⟩
  | d :: ds, _, i + 1, e, h, hi => by
    rw [DenL] at h
    obtain ⟨v, r, rfl, _, h2⟩ := h
    exact DenL.get (i := i) h2 hi
  | [], _, _, _, _, hi => by simp at hi
theorem DenL.ints : ∀ {ns : List Int}, DenL K H (ns.map DV.int) (ns.map V.int)
  | [] => by rw [List.map_nil, DenL]; rfl
  | n :: r => by
    rw [List.map_cons, DenL]
    exact ⟨_, _, rfl, by rw [Den], DenL.ints⟩
theorem DenL.refs {α : Type} {P : Addr → α → Prop} {f : α → DV} (h : ∀ a x, P a x → Den K H (f x) (.ref a)) : ∀ {as : List Addr} {xs : List α}, Each P as xs → DenL K H (xs.map f) (as.map V.ref)
  | [], [], _ => by rw [List.map_nil, DenL]; rfl
  | a :: as, x :: xs, e => by
    rw [List.map_cons, DenL]
    exact ⟨_, _, rfl, h a x (e.2 0 a x rfl rfl), DenL.refs h ⟨Nat.succ.inj e.1, fun i b y h1 h2 => e.2 (i + 1) b y h1 h2⟩⟩
  | [], _ :: _, e => absurd e.1 (by simp)
  | _ :: _, [], e => absurd e.1 (by simp)
/-- the name of its type -/
def tyN : DV → String
  | .bl _ => "bool"
  | .int _ => "int"
  | .str _ => "str"
  | .tup _ => "tuple"
  | .lst _ => "list"
theorem Den.ty {d : DV} {v : V} (h : Den K H d v) : TyX K H v (.type (tyN d)) := by
  cases d with
  | bl b => rw [Den] at h; rw [h]; exact .base (.bl _)
  | int b => rw [Den] at h; rw [h]; exact .base (.int _)
  | str b => rw [Den] at h; rw [h]; exact .base (.str _)
  | tup xs => rw [Den] at h; obtain ⟨a, vs, rfl, h1, _⟩ := h; exact tyT h1
  | lst xs => rw [Den] at h; obtain ⟨a, vs, rfl, h1, _⟩ := h; exact tyL h1
theorem Den.int_ {i : Int} : Den K H (.int i) (.int i) := by rw [Den]
theorem Den.bl_ {i : Bool} : Den K H (.bl i) (.bl i) := by rw [Den]
theorem Den.str_ {i : Str} : Den K H (.str i) (.str i) := by rw [Den]
theorem Den.tup_ {a : Addr} {vs : List V} {ds : List DV} (h : SqT K H a vs) (hl : vs.length ≤ 1000) (e : DenL K H ds vs) : Den K H (.tup ds) (.ref a) := by rw [Den]; exact ⟨a, vs, rfl, h, hl, e⟩
theorem DenL.nil_ : DenL K H [] [] := by rw [DenL]
theorem DenL.cons_ {d : DV} {ds : List DV} {v : V} {vs : List V} (h : Den K H d v) (t : DenL K H ds vs) : DenL K H (d :: ds) (v :: vs) := by rw [DenL]; exact ⟨_, _, rfl, h, t⟩
/-! ### a letter as data -/
def dvI (ns : List Int) : DV := .tup (ns.map DV.int)
def dvD (d : Dd) : DV := .tup (.str (deedNames.getD d.place Str.empty) :: (if d.place = 8 then [dvI d.nums] else d.nums.map DV.int))
def dvE (e : Ev) : DV := .tup [.bl e.asleep, dvI e.shown, dvI e.after, dvD e.deed, dvI e.knows]
def dvR (r : Rc) : DV := .tup [.int r.dev, .int r.num, dvE r.ev]
def dvL (l : Lt) : DV := .tup [.int l.s, .int l.r, .int l.k, .int l.n, .tup (l.recs.map dvR)]
theorem denI {a ns} (h : TupI K H a ns) (hl : ns.length ≤ 1000) : Den K H (dvI ns) (.ref a) := Den.tup_ h (by rw [List.length_map]; exact hl) DenL.ints
theorem denD {a d} (h : DdAt K H a d) (hk : d.Ok) : Den K H (dvD d) (.ref a) := by
  have hl := hk.len
  obtain ⟨z, r, e, t, q⟩ := h
  have ez : deedNames.getD d.place Str.empty = z := by rw [List.getD_eq_getElem?_getD, e]; rfl
  unfold dvD
  rw [ez]
  rcases q with ⟨p8, b, rfl, h2⟩ | ⟨n8, rfl⟩
  · rw [if_pos p8]
    exact Den.tup_ t (by show 2 ≤ 1000; decide) (DenL.cons_ Den.str_ (DenL.cons_ (denI h2 (by omega)) DenL.nil_))
  · rw [if_neg n8]
    exact Den.tup_ t (by rw [List.length_cons, List.length_map]; omega) (DenL.cons_ Den.str_ DenL.ints)
theorem denE {a e} (h : EvAt K H a e) (hk : e.Ok) : Den K H (dvE e) (.ref a) := by
  have k1 := hk.s1; have k2 := hk.s2; have k3 := hk.s3
  obtain ⟨p, q, d, r, t, f1, f2, f3, f4⟩ := h
  exact Den.tup_ t (by show 5 ≤ 1000; decide) (DenL.cons_ Den.bl_ (DenL.cons_ (denI f1 (by omega)) (DenL.cons_ (denI f2 (by omega)) (DenL.cons_ (denD f3 hk.d) (DenL.cons_ (denI f4 (by omega)) DenL.nil_)))))
theorem denR {a r} (h : RcAt K H a r) (hk : r.Ok) : Den K H (dvR r) (.ref a) := by
  obtain ⟨e, t, f⟩ := h
  exact Den.tup_ t (by show 3 ≤ 1000; decide) (DenL.cons_ Den.int_ (DenL.cons_ Den.int_ (DenL.cons_ (denE f hk.e) DenL.nil_)))
theorem denL {a l} (h : LtAt K H a l) (hk : l.Ok) : Den K H (dvL l) (.ref a) := by
  have hl := hk.len
  obtain ⟨b, as, t, f, g⟩ := h
  refine Den.tup_ t (by show 5 ≤ 1000; decide) (DenL.cons_ Den.int_ (DenL.cons_ Den.int_ (DenL.cons_ Den.int_ (DenL.cons_ Den.int_ (DenL.cons_ (Den.tup_ f (by rw [List.length_map, g.1]; omega) ?_) DenL.nil_)))))
  exact DenL.refs (P := fun a r => RcAt K H a r ∧ r.Ok) (fun a r h => denR h.1 h.2) ⟨g.1, fun i b y h1 h2 => ⟨g.2 i b y h1 h2, hk.rs y (List.mem_of_getElem? h2)⟩⟩
end
theorem int_inj {as bs : List Int} (h : as.map DV.int = bs.map DV.int) : as = bs := by
  induction as generalizing bs with
  | nil =>
    cases bs with
    | nil => rfl
    | cons b r => simp at h
  | cons a r ih =>
    cases bs with
    | nil => simp at h
    | cons b s =>
      rw [List.map_cons, List.map_cons] at h
      injection h with h1 h2
      injection h1 with h1
      rw [h1, ih h2]
theorem dvI_inj {as bs : List Int} (h : dvI as = dvI bs) : as = bs := by
  unfold dvI at h
  injection h with h
  exact int_inj h
theorem dvD_inj {a b : Dd} (ha : a.place < 9) (hb : b.place < 9) (h : dvD a = dvD b) : a = b := by
  unfold dvD at h
  injection h with h
  injection h with h1 h2
  injection h1 with h1
  have e1 : deedNames[a.place]? = some (deedNames.getD a.place Str.empty) := by rw [List.getD_eq_getElem?_getD, List.getElem?_eq_getElem (by rw [dn_len]; exact ha)]; rfl
  have e2 : deedNames[b.place]? = some (deedNames.getD b.place Str.empty) := by rw [List.getD_eq_getElem?_getD, List.getElem?_eq_getElem (by rw [dn_len]; exact hb)]; rfl
  rw [h1] at e1
  have hp := nd_ix dn_nodup e1 e2
  have hn : a.nums = b.nums := by
    by_cases h8 : b.place = 8
    · rw [if_pos (hp.trans h8), if_pos h8] at h2
      injection h2 with h2
      exact dvI_inj h2
    · rw [if_neg (fun e => h8 (hp ▸ e)), if_neg h8] at h2
      exact int_inj h2
  cases a; cases b
  simp only at hp hn
  rw [hp, hn]
theorem dvE_inj {a b : Ev} (ha : a.Ok) (hb : b.Ok) (h : dvE a = dvE b) : a = b := by
  unfold dvE at h
  injection h with h
  injection h with h1 h
  injection h with h2 h
  injection h with h3 h
  injection h with h4 h
  injection h with h5 h
  injection h1 with h1
  have e2 := dvI_inj h2
  have e3 := dvI_inj h3
  have e4 := dvD_inj ha.d.pl hb.d.pl h4
  have e5 := dvI_inj h5
  cases a; cases b
  simp only at h1 e2 e3 e4 e5
  rw [h1, e2, e3, e4, e5]
theorem dvR_inj {a b : Rc} (ha : a.Ok) (hb : b.Ok) (h : dvR a = dvR b) : a = b := by
  unfold dvR at h
  injection h with h
  injection h with h1 h
  injection h with h2 h
  injection h with h3 h
  injection h1 with h1
  injection h2 with h2
  have e3 := dvE_inj ha.e hb.e h3
  cases a; cases b
  simp only at h1 h2 e3
  rw [h1, h2, e3]
theorem recs_inj : ∀ {as bs : List Rc}, (∀ r ∈ as, r.Ok) → (∀ r ∈ bs, r.Ok) → as.map dvR = bs.map dvR → as = bs
  | [], [], _, _, _ => rfl
  | [], _ :: _, _, _, h => by simp at h
  | _ :: _, [], _, _, h => by simp at h
  | a :: as, b :: bs, ha, hb, h => by
    rw [List.map_cons, List.map_cons] at h
    injection h with h1 h2
    rw [dvR_inj (ha a List.mem_cons_self) (hb b List.mem_cons_self) h1, recs_inj (fun r hr => ha r (List.mem_cons_of_mem _ hr)) (fun r hr => hb r (List.mem_cons_of_mem _ hr)) h2]
theorem dvL_inj {a b : Lt} (ha : a.Ok) (hb : b.Ok) (h : dvL a = dvL b) : a = b := by
  unfold dvL at h
  injection h with h
  injection h with h1 h
  injection h with h2 h
  injection h with h3 h
  injection h with h4 h
  injection h with h5 h
  injection h1 with h1
  injection h2 with h2
  injection h3 with h3
  injection h4 with h4
  injection h5 with h5
  have e5 := recs_inj ha.rs hb.rs h5
  cases a; cases b
  simp only at h1 h2 h3 h4 e5
  rw [h1, h2, h3, h4, e5]
/-! ### the integers tell the letter -/
theorem numSeq_inj {as bs r s : List Int} (h : numSeq as ++ r = numSeq bs ++ s) : as = bs ∧ r = s := by
  unfold numSeq at h
  rw [List.cons_append, List.cons_append] at h
  injection h with h1 h2
  exact List.append_inj h2 (by omega)
theorem numD_inj {a b : Dd} {r s : List Int} (ha : a.Ok) (hb : b.Ok) (h : numD a ++ r = numD b ++ s) : a = b ∧ r = s := by
  unfold numD at h
  rw [List.cons_append, List.cons_append] at h
  injection h with h1 h2
  have hp : a.place = b.place := by omega
  have key : a.nums = b.nums ∧ r = s := by
    by_cases h8 : b.place = 8
    · rw [if_pos (hp.trans h8), if_pos h8] at h2
      exact numSeq_inj h2
    · rw [if_neg (fun e => h8 (hp ▸ e)), if_neg h8] at h2
      exact List.append_inj h2 (by rw [ha.ar (fun e => h8 (hp ▸ e)), hb.ar h8, hp])
  refine ⟨?_, key.2⟩
  cases a; cases b
  simp only at hp key
  rw [hp, key.1]
theorem b2n_inj {a b : Bool} (h : b2n a = b2n b) : a = b := by
  cases a <;> cases b <;> first | rfl | (exact absurd h (by decide))
theorem numE_app' (e : Ev) (rest : List Int) : numE e ++ rest = b2n e.asleep :: (numSeq e.shown ++ (numSeq e.after ++ (numD e.deed ++ (numSeq e.knows ++ rest)))) := by
  unfold numE
  simp only [List.append_assoc]
  rfl
theorem numE_inj {a b : Ev} {r s : List Int} (ha : a.Ok) (hb : b.Ok) (h : numE a ++ r = numE b ++ s) : a = b ∧ r = s := by
  rw [numE_app', numE_app'] at h
  injection h with h1 h
  obtain ⟨h2, h⟩ := numSeq_inj h
  obtain ⟨h3, h⟩ := numSeq_inj h
  obtain ⟨h4, h⟩ := numD_inj ha.d hb.d h
  obtain ⟨h5, h⟩ := numSeq_inj h
  have e1 := b2n_inj h1
  refine ⟨?_, h⟩
  cases a; cases b
  simp only at e1 h2 h3 h4 h5
  rw [e1, h2, h3, h4, h5]
theorem numR_inj {a b : Rc} {r s : List Int} (ha : a.Ok) (hb : b.Ok) (h : numR a ++ r = numR b ++ s) : a = b ∧ r = s := by
  have h' : a.dev :: a.num :: (numE a.ev ++ r) = b.dev :: b.num :: (numE b.ev ++ s) := h
  injection h' with h1 h'
  injection h' with h2 h'
  obtain ⟨h3, h⟩ := numE_inj ha.e hb.e h'
  refine ⟨?_, h⟩
  cases a; cases b
  simp only at h1 h2 h3
  rw [h1, h2, h3]
theorem numRs_inj : ∀ {as bs : List Rc}, (∀ r ∈ as, r.Ok) → (∀ r ∈ bs, r.Ok) → as.length = bs.length → as.flatMap numR = bs.flatMap numR → as = bs
  | [], [], _, _, _, _ => rfl
  | [], _ :: _, _, _, h, _ => by simp at h
  | _ :: _, [], _, _, h, _ => by simp at h
  | a :: as, b :: bs, ha, hb, hl, h => by
    rw [List.flatMap_cons, List.flatMap_cons] at h
    obtain ⟨h1, h2⟩ := numR_inj (ha a List.mem_cons_self) (hb b List.mem_cons_self) h
    rw [h1, numRs_inj (fun r hr => ha r (List.mem_cons_of_mem _ hr)) (fun r hr => hb r (List.mem_cons_of_mem _ hr)) (Nat.succ.inj hl) h2]
theorem numL_inj {a b : Lt} (ha : a.Ok) (hb : b.Ok) (h : numL a = numL b) : a = b := by
  have h' : a.s :: a.r :: a.k :: a.n :: (a.recs.length : Int) :: a.recs.flatMap numR = b.s :: b.r :: b.k :: b.n :: (b.recs.length : Int) :: b.recs.flatMap numR := h
  injection h' with h1 h'
  injection h' with h2 h'
  injection h' with h3 h'
  injection h' with h4 h'
  injection h' with h5 h'
  have e6 := numRs_inj ha.rs hb.rs (by omega) h'
  cases a; cases b
  simp only at h1 h2 h3 h4 e6
  rw [h1, h2, h3, h4, e6]
theorem words_inj : ∀ {as bs : List Int}, (∀ n ∈ as, In18 n) → (∀ n ∈ bs, In18 n) → words as = words bs → as = bs
  | [], [], _, _, _ => rfl
  | [], _ :: _, _, _, h => by simp [words] at h
  | _ :: _, [], _, _, h => by simp [words] at h
  | a :: as, b :: bs, ha, hb, h => by
    unfold words at h
    rw [List.map_cons, List.map_cons] at h
    injection h with h1 h2
    have e1 := wd_int (ha a List.mem_cons_self)
    have e2 := wd_int (hb b List.mem_cons_self)
    have h1 : wd a = wd b := h1
    rw [h1, e2] at e1
    rw [Option.some.inj e1, words_inj (fun r hr => ha r (List.mem_cons_of_mem _ hr)) (fun r hr => hb r (List.mem_cons_of_mem _ hr)) h2]
theorem text_inj {hd : Str} {as bs : List Int} (hf : (10 : Nat) ∉ TL.tl hd) (ha : ∀ n ∈ as, In18 n) (hb : ∀ n ∈ bs, In18 n) (na : as ≠ []) (nb : bs ≠ []) (h : textOf hd as = textOf hd bs) : as = bs := by
  have e1 := text_split (ns := as) hf
  have e2 := text_split (ns := bs) hf
  rw [h, e2] at e1
  injection e1 with _ e1
  injection e1 with e1 _
  have w1 := words_split na
  have w2 := words_split nb
  rw [← e1, w2] at w1
  exact (words_inj hb ha w1).symm
theorem letter_text_iff {a b : Lt} (ha : a.Ok) (hb : b.Ok) : decide (V.str (textOf "whensure letter" (numL a)) = V.str (textOf "whensure letter" (numL b))) = sameV (dvL a) (dvL b) := by
  by_cases h : a = b
  · rw [h, sameV_refl, decide_eq_true rfl]
  · have h1 : sameV (dvL a) (dvL b) = false := by
      cases e : sameV (dvL a) (dvL b) with
      | false => rfl
      | true => exact absurd (dvL_inj ha hb (sameV_eq _ _ e)) h
    rw [h1]
    refine decide_eq_false fun e => h ?_
    injection e with e
    exact numL_inj ha hb (text_inj (by decide +kernel) (numL_in ha) (numL_in hb) (by unfold numL; simp) (by unfold numL; simp) e)

theorem ifIntT {a b : Int} {A B : Prop} (h : a = b) (x : A) : if decide (V.int a = V.int b) = true then A else B := by
  rw [decide_eq_true (show V.int a = V.int b by rw [h])]
  exact iteT x
theorem ifIntF {a b : Int} {A B : Prop} (h : a ≠ b) (x : B) : if decide (V.int a = V.int b) = true then A else B := by
  rw [decide_eq_false (show ¬ V.int a = V.int b from fun e => h (by injection e))]
  exact iteF x
theorem depVL_le {n : Nat} : ∀ {xs : List DV}, (∀ x ∈ xs, depV x ≤ n) → depVL xs ≤ n
  | [], _ => by rw [depVL]; exact Nat.zero_le _
  | x :: xs, h => by
    have h1 := h x List.mem_cons_self
    have h2 := depVL_le (xs := xs) fun y hy => h y (List.mem_cons_of_mem _ hy)
    rw [depVL]
    omega
theorem dep_ints (ns : List Int) : depVL (ns.map DV.int) ≤ 1 := depVL_le fun x hx => by
  obtain ⟨n, _, rfl⟩ := List.mem_map.mp hx
  rw [depV]
  omega
theorem dep_I (ns : List Int) : depV (dvI ns) ≤ 2 := by
  have := dep_ints ns
  unfold dvI
  rw [depV]
  omega
theorem dep_D (d : Dd) : depV (dvD d) ≤ 3 := by
  unfold dvD
  rw [depV, depVL, depV]
  split
  · have := dep_I d.nums
    rw [depVL, depVL]
    omega
  · have := dep_ints d.nums
    omega
theorem dep_E (e : Ev) : depV (dvE e) ≤ 4 := by
  have h1 := dep_I e.shown; have h2 := dep_I e.after; have h3 := dep_D e.deed; have h4 := dep_I e.knows
  unfold dvE
  rw [depV, depVL, depVL, depVL, depVL, depVL, depVL, depV]
  omega
theorem dep_R (r : Rc) : depV (dvR r) ≤ 5 := by
  have h1 := dep_E r.ev
  unfold dvR
  rw [depV, depVL, depVL, depVL, depVL, depV, depV]
  omega
theorem dep_L (l : Lt) : depV (dvL l) ≤ 7 := by
  have h1 : depVL (l.recs.map dvR) ≤ 5 := depVL_le fun x hx => by
    obtain ⟨r, _, rfl⟩ := List.mem_map.mp hx
    exact dep_R r
  unfold dvL
  rw [depV, depVL, depVL, depVL, depVL, depVL, depVL, depV, depV, depV, depV, depV]
  omega
theorem kitAll : ∀ t ∈ ["bool", "int", "str", "tuple", "list"], kitB t "bool" = some (t == "bool") ∧ kitB t "int" = some (t == "int" || t == "bool") ∧ kitB t "str" = some (t == "str") ∧ kitB t "tuple" = some (t == "tuple") ∧ kitB t "list" = some (t == "list") := by decide +kernel
theorem tyN_mem (d : DV) : tyN d ∈ ["bool", "int", "str", "tuple", "list"] := by cases d <;> simp [tyN]
theorem kB (d : DV) : kitB (tyN d) "bool" = some (tyN d == "bool") := (kitAll _ (tyN_mem d)).1
theorem kI (d : DV) : kitB (tyN d) "int" = some (tyN d == "int" || tyN d == "bool") := (kitAll _ (tyN_mem d)).2.1
theorem kS (d : DV) : kitB (tyN d) "str" = some (tyN d == "str") := (kitAll _ (tyN_mem d)).2.2.1
theorem kT (d : DV) : kitB (tyN d) "tuple" = some (tyN d == "tuple") := (kitAll _ (tyN_mem d)).2.2.2.1
theorem kL (d : DV) : kitB (tyN d) "list" = some (tyN d == "list") := (kitAll _ (tyN_mem d)).2.2.2.2
theorem Each.take {α : Type} {P : Addr → α → Prop} {as xs} (h : Each P as xs) (n : Nat) : Each P (as.take n) (xs.take n) := by
  refine ⟨by rw [List.length_take, List.length_take, h.1], fun i a x h1 h2 => ?_⟩
  have hi : i < n := by
    have := (List.getElem?_eq_some_iff.mp h1).1
    rw [List.length_take] at this
    omega
  rw [List.getElem?_take_of_lt hi] at h1 h2
  exact h.2 i a x h1 h2
theorem Each.drop {α : Type} {P : Addr → α → Prop} {as xs} (h : Each P as xs) (n : Nat) : Each P (as.drop n) (xs.drop n) := by
  refine ⟨by rw [List.length_drop, List.length_drop, h.1], fun i a x h1 h2 => ?_⟩
  rw [List.getElem?_drop] at h1 h2
  exact h.2 _ a x h1 h2
theorem Each.append {α : Type} {P : Addr → α → Prop} {as xs bs ys} (h : Each P as xs) (h' : Each P bs ys) : Each P (as ++ bs) (xs ++ ys) := by
  refine ⟨by rw [List.length_append, List.length_append, h.1, h'.1], fun i a x h1 h2 => ?_⟩
  by_cases hi : i < as.length
  · rw [List.getElem?_append_left hi] at h1
    rw [List.getElem?_append_left (by rw [← h.1]; exact hi)] at h2
    exact h.2 i a x h1 h2
  · rw [List.getElem?_append_right (by omega)] at h1
    rw [List.getElem?_append_right (by rw [← h.1]; omega), ← h.1] at h2
    exact h'.2 _ a x h1 h2
theorem Each.set {α : Type} {P : Addr → α → Prop} {as xs} (h : Each P as xs) {j : Nat} {a : Addr} {x : α} (p : P a x) : Each P (as.set j a) (xs.set j x) := by
  refine ⟨by rw [List.length_set, List.length_set, h.1], fun i b y h1 h2 => ?_⟩
  by_cases hij : j = i
  · subst hij
    have hj : j < as.length := by
      have := (List.getElem?_eq_some_iff.mp h1).1
      rw [List.length_set] at this
      exact this
    rw [List.getElem?_set_self hj] at h1
    rw [List.getElem?_set_self (by rw [← h.1]; exact hj)] at h2
    cases h1
    cases h2
    exact p
  · rw [List.getElem?_set_ne hij] at h1 h2
    exact h.2 i b y h1 h2

theorem ixn {n j : Nat} (hj : j < n) : ixN n (j : Int) = some j := by
  unfold ixN
  rw [if_pos (by omega), if_pos (by omega)]
  rfl
end Vs

namespace Vs
open PySem PySem.Spec PyProof.Rows L2
/-! ### what a frame holds -/
structure Kd where
  name : Str
  low : Int
  high : Option Int
structure Cl where
  name : Str
  dev : Int
  goes : Bool
  kinds : List Kd
structure Lk where
  name : Str
  s : Int
  r : Int
  kinds : List Kd
structure Sr where
  name : Str
  dev : Int
  kinds : List Kd
structure Fm where
  devices : List Str
  clocks : List Cl
  links : List Lk
  sources : List Sr
  faults : Int
def hiV : Option Int → V
  | some h => .int h
  | none => .non
def KdAt (K : PySem.W.Frag) (H : Hp) (a : Addr) (k : Kd) : Prop := SqT K H a [.str k.name, .int k.low, hiV k.high]
def KsAt (K : PySem.W.Frag) (H : Hp) (a : Addr) (ks : List Kd) : Prop := ∃ as, SqT K H a (as.map V.ref) ∧ Each (KdAt K H) as ks
def ClAt (K : PySem.W.Frag) (H : Hp) (a : Addr) (c : Cl) : Prop := ∃ t, SqT K H a [.str c.name, .int c.dev, .bl c.goes, .ref t] ∧ KsAt K H t c.kinds
def LkAt (K : PySem.W.Frag) (H : Hp) (a : Addr) (c : Lk) : Prop := ∃ t, SqT K H a [.str c.name, .int c.s, .int c.r, .ref t] ∧ KsAt K H t c.kinds
def SrAt (K : PySem.W.Frag) (H : Hp) (a : Addr) (c : Sr) : Prop := ∃ t, SqT K H a [.str c.name, .int c.dev, .ref t] ∧ KsAt K H t c.kinds
structure Kd.Ok (k : Kd) : Prop where
  nm : k.name.length ≤ 12
  lo : In18 k.low
  hi : ∀ h, k.high = some h → In18 h
structure KsOk (ks : List Kd) : Prop where
  len : ks.length ≤ 4
  ok : ∀ k ∈ ks, k.Ok
/-- a number that names one of n devices -/
def DevOk (n : Nat) (d : Int) : Prop := 0 ≤ d ∧ d < (n : Int)
structure Cl.Ok (n : Nat) (c : Cl) : Prop where
  nm : c.name.length ≤ 12
  dv : DevOk n c.dev
  ks : KsOk c.kinds
structure Lk.Ok (n : Nat) (c : Lk) : Prop where
  nm : c.name.length ≤ 12
  ds : DevOk n c.s
  dr : DevOk n c.r
  ks : KsOk c.kinds
structure Sr.Ok (n : Nat) (c : Sr) : Prop where
  nm : c.name.length ≤ 12
  dv : DevOk n c.dev
  ks : KsOk c.kinds
structure Fm.Ok (F : Fm) : Prop where
  dl : F.devices.length ≤ 6
  dn : ∀ z ∈ F.devices, z.length ≤ 12
  cl : F.clocks.length ≤ 9
  ll : F.links.length ≤ 9
  sl : F.sources.length ≤ 9
  c : ∀ c ∈ F.clocks, c.Ok F.devices.length
  l : ∀ c ∈ F.links, c.Ok F.devices.length
  s : ∀ c ∈ F.sources, c.Ok F.devices.length
  f0 : 0 ≤ F.faults
  f2 : F.faults ≤ 2
/-- a frame's five places: the lists, and what they hold -/
structure FmIn (K : PySem.W.Frag) (H : Hp) (d c l s : Addr) (F : Fm) : Prop where
  d : H d = some (.lst (F.devices.map V.str))
  c : ∃ as, H c = some (.lst (as.map V.ref)) ∧ Each (ClAt K H) as F.clocks
  l : ∃ as, H l = some (.lst (as.map V.ref)) ∧ Each (LkAt K H) as F.links
  s : ∃ as, H s = some (.lst (as.map V.ref)) ∧ Each (SrAt K H) as F.sources
def FmAt (K : PySem.W.Frag) (H : Hp) (a : Addr) (F : Fm) : Prop := ∃ d c l s, SqT K H a [.ref d, .ref c, .ref l, .ref s, .int F.faults] ∧ FmIn K H d c l s F
section
variable {K : PySem.W.Frag} {H H' : Hp}
theorem KdAt.keep {a k} (e : Same H H') (h : KdAt K H a k) : KdAt K H' a k := sTup e h
theorem KsAt.keep {a k} (e : Same H H') (h : KsAt K H a k) : KsAt K H' a k := by
  obtain ⟨as, h1, h2⟩ := h
  exact ⟨as, sTup e h1, h2.keep fun _ _ z => z.keep e⟩
theorem ClAt.keep {a k} (e : Same H H') (h : ClAt K H a k) : ClAt K H' a k := by
  obtain ⟨t, h1, h2⟩ := h
  exact ⟨t, sTup e h1, h2.keep e⟩
theorem LkAt.keep {a k} (e : Same H H') (h : LkAt K H a k) : LkAt K H' a k := by
  obtain ⟨t, h1, h2⟩ := h
  exact ⟨t, sTup e h1, h2.keep e⟩
theorem SrAt.keep {a k} (e : Same H H') (h : SrAt K H a k) : SrAt K H' a k := by
  obtain ⟨t, h1, h2⟩ := h
  exact ⟨t, sTup e h1, h2.keep e⟩
variable {o : Addr} {xs : List V}
theorem KdAt.but {a k} (e : But o H H') (ho : H o = some (.lst xs)) (h : KdAt K H a k) : KdAt K H' a k := butTup e ho h
theorem KsAt.but {a k} (e : But o H H') (ho : H o = some (.lst xs)) (h : KsAt K H a k) : KsAt K H' a k := by
  obtain ⟨as, h1, h2⟩ := h
  exact ⟨as, butTup e ho h1, h2.keep fun _ _ z => z.but e ho⟩
theorem ClAt.but {a k} (e : But o H H') (ho : H o = some (.lst xs)) (h : ClAt K H a k) : ClAt K H' a k := by
  obtain ⟨t, h1, h2⟩ := h
  exact ⟨t, butTup e ho h1, h2.but e ho⟩
theorem LkAt.but {a k} (e : But o H H') (ho : H o = some (.lst xs)) (h : LkAt K H a k) : LkAt K H' a k := by
  obtain ⟨t, h1, h2⟩ := h
  exact ⟨t, butTup e ho h1, h2.but e ho⟩
theorem SrAt.but {a k} (e : But o H H') (ho : H o = some (.lst xs)) (h : SrAt K H a k) : SrAt K H' a k := by
  obtain ⟨t, h1, h2⟩ := h
  exact ⟨t, butTup e ho h1, h2.but e ho⟩
theorem FmIn.keep {d c l s F} (e : Same H H') (h : FmIn K H d c l s F) : FmIn K H' d c l s F := by
  obtain ⟨h0, ⟨a1, h1, g1⟩, ⟨a2, h2, g2⟩, ⟨a3, h3, g3⟩⟩ := h
  exact ⟨e _ _ h0, ⟨a1, e _ _ h1, g1.keep fun _ _ z => z.keep e⟩, ⟨a2, e _ _ h2, g2.keep fun _ _ z => z.keep e⟩, ⟨a3, e _ _ h3, g3.keep fun _ _ z => z.keep e⟩⟩
theorem FmAt.keep {a F} (e : Same H H') (h : FmAt K H a F) : FmAt K H' a F := by
  obtain ⟨d, c, l, s, h1, h2⟩ := h
  exact ⟨d, c, l, s, sTup e h1, h2.keep e⟩
end
/-! ### the drawn rows -/
def RowsAt (H : Hp) (r : Addr) : Prop := ∃ ns : List Int, H r = some (.lst (ns.map V.int)) ∧ ns.length = 26
theorem RowsAt.lst {H : Hp} {r : Addr} (h : RowsAt H r) : ∃ xs, H r = some (.lst xs) := by
  obtain ⟨ns, h, _⟩ := h
  exact ⟨_, h⟩
theorem RowsAt.keep {H H' : Hp} {r : Addr} (e : Same H H') (h : RowsAt H r) : RowsAt H' r := by
  obtain ⟨ns, h, h2⟩ := h
  exact ⟨ns, e _ _ h, h2⟩
theorem RowsAt.but {H H' : Hp} {r o : Addr} (e : But o H H') (n : r ≠ o) (h : RowsAt H r) : RowsAt H' r := by
  obtain ⟨ns, h, h2⟩ := h
  exact ⟨ns, e _ _ n h, h2⟩
theorem But.upd {r : Addr} {H H' : Hp} {p : Addr} {o : HO} (b : But r H H') (h : H p = none) : But r H (upd H' p o) := fun c w hc hw => by
  rw [upd_ne (ne_of_none hw h)]
  exact b c w hc hw
theorem But.free {r : Addr} {H H' : Hp} {p : Addr} (b : But r H H') (hr : p ≠ r) (h : H' p = none) : H p = none := by
  cases e : H p with
  | none => rfl
  | some w => rw [b _ _ hr e] at h; cases h
theorem flat_strs : ∀ ss : List Str, (ss.map V.str).all flatV = true
  | [] => rfl
  | s :: r => by
    show (true && (r.map V.str).all flatV) = true
    rw [flat_strs r]
    rfl
theorem str_get {ss : List Str} {i : Nat} {x : V} (h : (ss.map V.str)[i]? = some x) : ∃ hi : i < ss.length, x = V.str ss[i] := by
  have hi := (List.getElem?_eq_some_iff.mp h).1
  rw [List.length_map] at hi
  refine ⟨hi, ?_⟩
  rw [List.getElem?_map, List.getElem?_eq_getElem hi] at h
  exact (Option.some.inj h).symm
theorem str_at {ss : List Str} {j : Int} (h0 : 0 ≤ j) (h1 : j < (ss.length : Int)) : ∃ z ∈ ss, atI (ss.map V.str) j = some (.str z) := by
  have hi : j.toNat < ss.length := by omega
  exact ⟨ss[j.toNat], List.getElem_mem hi, at_of (j := j.toNat) (by omega) (by rw [List.getElem?_map, List.getElem?_eq_getElem hi]; rfl)⟩
theorem sign_at {z : Str} {j : Int} (h0 : 0 ≤ j) (h1 : j < (z.length : Int)) : ∃ c : Nat, atI z.cps.toList j = some c := by
  have hl : z.cps.toList.length = z.length := (TL.len_tl z).symm
  have e : j = ((j.toNat : Nat) : Int) := by omega
  rw [e]
  exact ⟨_, atI_nat (List.getElem?_eq_getElem (by rw [hl]; omega))⟩
theorem cutS_le {z : Str} {n : Nat} : (cutS z none (some (n : Int))).length ≤ n := by
  rw [TL.len_tl]
  unfold cutS
  show (List.take _ (List.drop _ _)).length ≤ n
  rw [List.length_take, HT.sIx_nat]
  omega
theorem menu_int {xs : List Int} {j : Int} (h0 : 0 ≤ j) (h1 : j < (xs.length : Int)) : ∃ z ∈ xs, atI (xs.map V.int) j = some (.int z) := by
  have hi : j.toNat < xs.length := by omega
  exact ⟨xs[j.toNat], List.getElem_mem hi, at_of (j := j.toNat) (by omega) (by rw [List.getElem?_map, List.getElem?_eq_getElem hi]; rfl)⟩
end Vs

namespace Vs
open PySem PySem.Spec PyProof.Rows L2
/-- a text made of parts -/
def tJoin (ts : List TE) : TE := fun σ H Q => tJs ts Str.empty σ H fun out H1 => Q (.str out) H1
theorem pe_joinedD {X : Cx} {v1 v2 : Expr} {rest : List Expr} {ts : List TE} {pos : Pos} (h : PJ X (v1 :: v2 :: rest) ts) : PE X (.JoinedStr (v1 :: v2 :: rest) pos) (tJoin ts) := pe_joined h
/-! ### the lines of a frame -/
def numW : Option Int → Str
  | some h => toString h
  | none => "none"
def kdLine (k : Kd) : Str := "kind " ++ k.name ++ " " ++ numW (some k.low) ++ " " ++ numW k.high
def devAt (ds : List Str) (d : Int) : Str := ds.getD d.toNat ""
def clHead (ds : List Str) (c : Cl) : Str := "clock " ++ c.name ++ " of " ++ devAt ds c.dev ++ (if c.goes = true then Str.ofString " goes on asleep" else Str.ofString "")
def lkHead (ds : List Str) (c : Lk) : Str := "link " ++ c.name ++ " from " ++ devAt ds c.s ++ " to " ++ devAt ds c.r
def srHead (ds : List Str) (c : Sr) : Str := "source " ++ c.name ++ " at " ++ devAt ds c.dev
def clLines (ds : List Str) (c : Cl) : List Str := clHead ds c :: c.kinds.map kdLine
def lkLines (ds : List Str) (c : Lk) : List Str := lkHead ds c :: c.kinds.map kdLine
def srLines (ds : List Str) (c : Sr) : List Str := srHead ds c :: c.kinds.map kdLine
def dvLine (z : Str) : Str := "device " ++ z
def ftLines (n : Int) : List Str := if n = 0 then [] else ["faults " ++ numW (some n)]
def linesF (F : Fm) : List Str := F.devices.map dvLine ++ F.clocks.flatMap (clLines F.devices) ++ F.links.flatMap (lkLines F.devices) ++ F.sources.flatMap (srLines F.devices) ++ ftLines F.faults
/-- the lines, a line feed behind each -/
def textF (ls : List Str) : Str := ls.foldl (fun (t l : Str) => t ++ l ++ "\n") Str.empty
theorem empty_add (x : Str) : Str.empty ++ x = x := by
  show Str.append _ _ = x
  cases x with
  | mk cs => simp [Str.append, Str.empty]
theorem nil_eq : Str.ofString "" = Str.empty := by decide +kernel
theorem add_empty (x : Str) : x ++ (Str.ofString "" : Str) = x := by
  rw [nil_eq]
  show Str.append _ _ = x
  cases x with
  | mk cs => simp [Str.append, Str.empty]
theorem add_assoc (x y z : Str) : x ++ y ++ z = x ++ (y ++ z) := by
  show Str.append (Str.append _ _) _ = Str.append _ (Str.append _ _)
  simp [Str.append, Array.append_assoc]
theorem numW_len {o : Option Int} (h : ∀ i, o = some i → In18 i) : (numW o).length ≤ 19 := by
  cases o with
  | none => exact (by decide +kernel : (Str.ofString "none").length ≤ 19)
  | some i => exact word_len (h i rfl)
theorem lit_len {s : Str} {n : Nat} (h : s.length = n := by decide +kernel) : s.length = n := h
theorem kdLine_len {k : Kd} (h : k.Ok) : (kdLine k).length ≤ 60 := by
  have h1 := h.nm
  have h2 := numW_len (o := some k.low) fun i e => by cases e; exact h.lo
  have h3 := numW_len h.hi
  have l1 : (Str.ofString "kind ").length = 5 := by decide +kernel
  have l2 : (Str.ofString " ").length = 1 := by decide +kernel
  unfold kdLine
  rw [Str.length_append, Str.length_append, Str.length_append, Str.length_append, Str.length_append, l1, l2]
  omega
theorem devAt_eq {ds : List Str} {d : Int} (h : DevOk ds.length d) : atI (ds.map V.str) d = some (.str (devAt ds d)) ∧ devAt ds d ∈ ds := by
  obtain ⟨h0, h1⟩ := h
  have hi : d.toNat < ds.length := by omega
  have e : devAt ds d = ds[d.toNat] := by
    unfold devAt
    rw [List.getD_eq_getElem?_getD, List.getElem?_eq_getElem hi]
    rfl
  rw [e]
  exact ⟨at_of (j := d.toNat) (by omega) (by rw [List.getElem?_map, List.getElem?_eq_getElem hi]; rfl), List.getElem_mem hi⟩
theorem asleep_len : (Str.ofString " goes on asleep").length = 15 := by decide +kernel
theorem clock_len : (Str.ofString "clock ").length = 6 := by decide +kernel
theorem of_len : (Str.ofString " of ").length = 4 := by decide +kernel
theorem link_len : (Str.ofString "link ").length = 5 := by decide +kernel
theorem from_len : (Str.ofString " from ").length = 6 := by decide +kernel
theorem to_len : (Str.ofString " to ").length = 4 := by decide +kernel
theorem source_len : (Str.ofString "source ").length = 7 := by decide +kernel
theorem at_len : (Str.ofString " at ").length = 4 := by decide +kernel
theorem kind_len : (Str.ofString "kind ").length = 5 := by decide +kernel
theorem device_len : (Str.ofString "device ").length = 7 := by decide +kernel
theorem faults_len : (Str.ofString "faults ").length = 7 := by decide +kernel
theorem empty_len : Str.empty.length = 0 := rfl
theorem clHead_len {ds : List Str} {c : Cl} (hd : ∀ z ∈ ds, z.length ≤ 12) (h : c.Ok ds.length) : (clHead ds c).length ≤ 60 := by
  have h1 := h.nm
  have h2 := hd _ (devAt_eq h.dv).2
  have h3 : (if c.goes = true then (Str.ofString " goes on asleep") else (Str.ofString "")).length ≤ 15 := by
    split
    · rw [asleep_len]; exact Nat.le_refl _
    · decide +kernel
  unfold clHead
  rw [Str.length_append, Str.length_append, Str.length_append, Str.length_append, clock_len, of_len]
  omega
theorem lkHead_len {ds : List Str} {c : Lk} (hd : ∀ z ∈ ds, z.length ≤ 12) (h : c.Ok ds.length) : (lkHead ds c).length ≤ 60 := by
  have h1 := h.nm
  have h2 := hd _ (devAt_eq h.ds).2
  have h3 := hd _ (devAt_eq h.dr).2
  unfold lkHead
  rw [Str.length_append, Str.length_append, Str.length_append, Str.length_append, Str.length_append, link_len, from_len, to_len]
  omega
theorem srHead_len {ds : List Str} {c : Sr} (hd : ∀ z ∈ ds, z.length ≤ 12) (h : c.Ok ds.length) : (srHead ds c).length ≤ 60 := by
  have h1 := h.nm
  have h2 := hd _ (devAt_eq h.dv).2
  unfold srHead
  rw [Str.length_append, Str.length_append, Str.length_append, source_len, at_len]
  omega
/-- lines, each short -/
structure LnOk (ls : List Str) (n : Nat) : Prop where
  len : ls.length ≤ n
  ok : ∀ z ∈ ls, z.length ≤ 60
theorem LnOk.app {a b : List Str} {n m : Nat} (h : LnOk a n) (g : LnOk b m) : LnOk (a ++ b) (n + m) :=
  ⟨by rw [List.length_append]; have := h.len; have := g.len; omega, fun z hz => (List.mem_append.mp hz).elim (h.ok z) (g.ok z)⟩
theorem LnOk.mono {a : List Str} {n m : Nat} (h : LnOk a n) (e : n ≤ m) : LnOk a m := ⟨Nat.le_trans h.len e, h.ok⟩
theorem LnOk.flat {α : Type} {f : α → List Str} {k : Nat} : ∀ {xs : List α}, (∀ x ∈ xs, LnOk (f x) k) → LnOk (xs.flatMap f) (xs.length * k)
  | [], _ => ⟨Nat.zero_le _, fun z h => by simp at h⟩
  | x :: r, h => by
    rw [List.flatMap_cons, List.length_cons, Nat.succ_mul, Nat.add_comm]
    exact (h x List.mem_cons_self).app (LnOk.flat fun y hy => h y (List.mem_cons_of_mem _ hy))
theorem kdLines_ok {ks : List Kd} (h : KsOk ks) : LnOk (ks.map kdLine) 4 := ⟨by rw [List.length_map]; exact h.len, fun z hz => by
  obtain ⟨k, hk, rfl⟩ := List.mem_map.mp hz
  exact kdLine_len (h.ok k hk)⟩
theorem cons_ok {z : Str} {ls : List Str} {n : Nat} (hz : z.length ≤ 60) (h : LnOk ls n) : LnOk (z :: ls) (n + 1) := ⟨by rw [List.length_cons]; have := h.len; omega, fun y hy => by
  rcases List.mem_cons.mp hy with e | e
  · rw [e]; exact hz
  · exact h.ok y e⟩
theorem clLines_ok {ds : List Str} {c : Cl} (hd : ∀ z ∈ ds, z.length ≤ 12) (h : c.Ok ds.length) : LnOk (clLines ds c) 5 := cons_ok (clHead_len hd h) (kdLines_ok h.ks)
theorem lkLines_ok {ds : List Str} {c : Lk} (hd : ∀ z ∈ ds, z.length ≤ 12) (h : c.Ok ds.length) : LnOk (lkLines ds c) 5 := cons_ok (lkHead_len hd h) (kdLines_ok h.ks)
theorem srLines_ok {ds : List Str} {c : Sr} (hd : ∀ z ∈ ds, z.length ≤ 12) (h : c.Ok ds.length) : LnOk (srLines ds c) 5 := cons_ok (srHead_len hd h) (kdLines_ok h.ks)
theorem cls_ok {F : Fm} (h : F.Ok) (i : Nat) : LnOk ((F.clocks.take i).flatMap (clLines F.devices)) 45 := (LnOk.flat (k := 5) fun c hc => clLines_ok h.dn (h.c c (List.mem_of_mem_take hc))).mono (by have := h.cl; rw [List.length_take]; omega)
theorem lks_ok {F : Fm} (h : F.Ok) (i : Nat) : LnOk ((F.links.take i).flatMap (lkLines F.devices)) 45 := (LnOk.flat (k := 5) fun c hc => lkLines_ok h.dn (h.l c (List.mem_of_mem_take hc))).mono (by have := h.ll; rw [List.length_take]; omega)
theorem srs_ok {F : Fm} (h : F.Ok) (i : Nat) : LnOk ((F.sources.take i).flatMap (srLines F.devices)) 45 := (LnOk.flat (k := 5) fun c hc => srLines_ok h.dn (h.s c (List.mem_of_mem_take hc))).mono (by have := h.sl; rw [List.length_take]; omega)
theorem dvs_ok {F : Fm} (h : F.Ok) : LnOk (F.devices.map dvLine) 6 := ⟨by rw [List.length_map]; exact h.dl, fun z hz => by
  obtain ⟨k, hk, rfl⟩ := List.mem_map.mp hz
  have := h.dn k hk
  unfold dvLine
  rw [Str.length_append, device_len]
  omega⟩
theorem flt_in {n : Int} (h0 : 0 ≤ n) (h2 : n ≤ 2) : In18 n := by
  have e : n = ((n.toNat : Nat) : Int) := by omega
  rw [e]
  exact In18.small (by omega)
theorem fts_ok {F : Fm} (h : F.Ok) : LnOk (ftLines F.faults) 1 := by
  unfold ftLines
  split
  · exact ⟨Nat.zero_le _, fun z h => by simp at h⟩
  · refine ⟨Nat.le_refl _, fun z hz => ?_⟩
    rw [List.mem_singleton.mp hz, Str.length_append, faults_len]
    have := numW_len (o := some F.faults) fun i e => by cases e; exact flt_in h.f0 h.f2
    omega
theorem linesF_ok {F : Fm} (h : F.Ok) : LnOk (linesF F) 142 := by
  have h1 := cls_ok h F.clocks.length
  have h2 := lks_ok h F.links.length
  have h3 := srs_ok h F.sources.length
  rw [List.take_length] at h1 h2 h3
  exact (((dvs_ok h).app h1).app h2).app h3 |>.app (fts_ok h)
/-! ### the text -/
theorem textF_snoc (ls : List Str) (l : Str) : textF (ls ++ [l]) = textF ls ++ l ++ "\n" := by
  unfold textF
  rw [List.foldl_append]
  rfl
theorem textF_len {ls : List Str} {n : Nat} (h : LnOk ls n) : (textF ls).length ≤ ls.length * 61 := by
  obtain ⟨_, h⟩ := h
  suffices g : ∀ (ls : List Str) (t : Str), (∀ z ∈ ls, z.length ≤ 60) → (ls.foldl (fun (t l : Str) => t ++ l ++ "\n") t).length ≤ t.length + ls.length * 61 by
    have := g ls Str.empty h
    have e : Str.empty.length = 0 := rfl
    unfold textF
    omega
  intro ls
  induction ls with
  | nil => intro t _; simp
  | cons a r ih =>
    intro t hz
    have h1 := ih (t ++ a ++ "\n") fun z hz' => hz z (List.mem_cons_of_mem _ hz')
    rw [Str.length_append, Str.length_append, nl_len] at h1
    have h2 := hz a List.mem_cons_self
    rw [List.foldl_cons, List.length_cons, Nat.succ_mul]
    omega
/-- join of the lines with their line feeds by nothing -/
theorem join_nil_cons (a : Str) (r : List Str) : Str.join (Str.ofString "") (a :: r) = a ++ Str.join (Str.ofString "") r := by
  cases r with
  | nil =>
    show a = a ++ Str.ofString ""
    rw [add_empty]
  | cons b r =>
    show a ++ Str.ofString "" ++ Str.join (Str.ofString "") (b :: r) = _
    rw [add_empty]
theorem joinF (ls : List Str) : Txt.join (Str.ofString "") (ls.map fun l => l ++ "\n") = textF ls := by
  rw [TL.join_eq]
  suffices g : ∀ (ls : List Str) (t : Str), t ++ Str.join (Str.ofString "") (ls.map fun l => l ++ "\n") = ls.foldl (fun (t l : Str) => t ++ l ++ "\n") t by
    have := g ls Str.empty
    rw [empty_add] at this
    exact this
  intro ls
  induction ls with
  | nil => intro t; exact add_empty t
  | cons a r ih =>
    intro t
    rw [List.map_cons, join_nil_cons, List.foldl_cons, ← ih]
    simp only [add_assoc]
theorem fed_sum {ls : List Str} (h : ∀ z ∈ ls, z.length ≤ 60) : ((ls.map fun l => l ++ Str.ofString "\n").map (·.length)).sum ≤ ls.length * 61 := by
  induction ls with
  | nil => simp
  | cons a r ih =>
    have h1 := ih fun z hz => h z (List.mem_cons_of_mem _ hz)
    have h2 := h a List.mem_cons_self
    rw [List.map_cons, List.map_cons, List.sum_cons, List.length_cons, Nat.succ_mul, Str.length_append, nl_len]
    omega
theorem fed_fit {ls : List Str} {n : Nat} (h : LnOk ls n) (hn : n ≤ 1000) : ((ls.map fun l => l ++ Str.ofString "\n").map (·.length)).sum + (ls.map fun l => l ++ Str.ofString "\n").length * (Str.ofString "").length ≤ 16777216 := by
  have h1 := fed_sum h.ok
  have h2 := h.len
  rw [(by decide +kernel : (Str.ofString "").length = 0)]
  omega
/-! ### the data of a frame -/
def hiP : Option Int → PyData
  | some h => .int h
  | none => .none
def kdP (k : Kd) : PyData := .tuple [.str k.name, .int k.low, hiP k.high]
def ksP (ks : List Kd) : PyData := .tuple (ks.map kdP)
def clP (c : Cl) : PyData := .tuple [.str c.name, .int c.dev, .bool c.goes, ksP c.kinds]
def lkP (c : Lk) : PyData := .tuple [.str c.name, .int c.s, .int c.r, ksP c.kinds]
def srP (c : Sr) : PyData := .tuple [.str c.name, .int c.dev, ksP c.kinds]
section
variable {K : PySem.W.Frag} {H : Hp}
theorem hi_dp (o : Option Int) : Dp K H (hiV o) (hiP o) := by
  cases o with
  | none => exact .non
  | some i => exact .int i
theorem kd_dp {a : Addr} {k : Kd} (h : KdAt K H a k) : Dp K H (.ref a) (kdP k) := .tup h (.cons (.str _) (.cons (.int _) (.cons (hi_dp _) .nil)))
theorem all_dp {α : Type} {P : Addr → α → Prop} {f : α → PyData} (hp : ∀ a x, P a x → Dp K H (.ref a) (f x)) : ∀ {as : List Addr} {xs : List α}, Each P as xs → DpAll K H (as.map V.ref) (xs.map f)
  | [], [], _ => .nil
  | [], _ :: _, h => by cases h.1
  | _ :: _, [], h => by cases h.1
  | a :: as, x :: xs, h => .cons (hp a x (h.2 0 a x rfl rfl)) (all_dp hp ⟨Nat.succ.inj h.1, fun i b y e1 e2 => h.2 (i + 1) b y e1 e2⟩)
theorem ks_dp {a : Addr} {ks : List Kd} (h : KsAt K H a ks) : Dp K H (.ref a) (ksP ks) := by
  obtain ⟨as, h1, h2⟩ := h
  exact .tup h1 (all_dp (fun _ _ z => kd_dp z) h2)
theorem cl_dp {a : Addr} {c : Cl} (h : ClAt K H a c) : Dp K H (.ref a) (clP c) := by
  obtain ⟨t, h1, h2⟩ := h
  exact .tup h1 (.cons (.str _) (.cons (.int _) (.cons (.bl _) (.cons (ks_dp h2) .nil))))
theorem lk_dp {a : Addr} {c : Lk} (h : LkAt K H a c) : Dp K H (.ref a) (lkP c) := by
  obtain ⟨t, h1, h2⟩ := h
  exact .tup h1 (.cons (.str _) (.cons (.int _) (.cons (.int _) (.cons (ks_dp h2) .nil))))
theorem sr_dp {a : Addr} {c : Sr} (h : SrAt K H a c) : Dp K H (.ref a) (srP c) := by
  obtain ⟨t, h1, h2⟩ := h
  exact .tup h1 (.cons (.str _) (.cons (.int _) (.cons (ks_dp h2) .nil)))
end
theorem all_plain {α : Type} {f : α → PyData} (h : ∀ x, (f x).plain = true) : ∀ xs : List α, PyData.plainAll (xs.map f) = true
  | [] => rfl
  | x :: r => by
    show ((f x).plain && PyData.plainAll (r.map f)) = true
    rw [h x, all_plain h r]
    rfl
theorem all_depth {α : Type} {f : α → PyData} {n : Nat} (h : ∀ x, (f x).depth ≤ n) : ∀ xs : List α, PyData.depthAll (xs.map f) ≤ n
  | [] => Nat.zero_le _
  | x :: r => by
    show max (f x).depth (PyData.depthAll (r.map f)) ≤ n
    have := h x
    have := all_depth h r
    omega
theorem hi_plain (o : Option Int) : (hiP o).plain = true := by cases o <;> rfl
theorem kd_plain (k : Kd) : (kdP k).plain = true := by
  show (true && (true && ((hiP k.high).plain && true))) = true
  rw [hi_plain]
  rfl
theorem ks_plain (ks : List Kd) : (ksP ks).plain = true := all_plain kd_plain ks
theorem cl_plain (c : Cl) : (clP c).plain = true := by
  show (true && (true && (true && ((ksP c.kinds).plain && true)))) = true
  rw [ks_plain]
  rfl
theorem lk_plain (c : Lk) : (lkP c).plain = true := by
  show (true && (true && (true && ((ksP c.kinds).plain && true)))) = true
  rw [ks_plain]
  rfl
theorem sr_plain (c : Sr) : (srP c).plain = true := by
  show (true && (true && ((ksP c.kinds).plain && true))) = true
  rw [ks_plain]
  rfl
theorem hi_depth (o : Option Int) : (hiP o).depth ≤ 1 := by cases o <;> simp [hiP, PyData.depth]
theorem kd_depth (k : Kd) : (kdP k).depth ≤ 3 := by
  have := hi_depth k.high
  simp only [kdP, PyData.depth, PyData.depthAll]
  omega
theorem ks_depth (ks : List Kd) : (ksP ks).depth ≤ 5 := by
  have := all_depth kd_depth ks
  simp only [ksP, PyData.depth]
  omega
theorem cl_depth (c : Cl) : (clP c).depth ≤ 8 := by
  have := ks_depth c.kinds
  simp only [clP, PyData.depth, PyData.depthAll]
  omega
theorem lk_depth (c : Lk) : (lkP c).depth ≤ 8 := by
  have := ks_depth c.kinds
  simp only [lkP, PyData.depth, PyData.depthAll]
  omega
theorem sr_depth (c : Sr) : (srP c).depth ≤ 8 := by
  have := ks_depth c.kinds
  simp only [srP, PyData.depth, PyData.depthAll]
  omega
theorem list_depth {α : Type} {f : α → PyData} (h : ∀ x, (f x).depth ≤ 8) (xs : List α) : (PyData.list (xs.map f)).depth ≤ 64 := by
  have := all_depth h xs
  simp only [PyData.depth]
  omega
theorem list_eqv {α : Type} {f : α → PyData} (h : ∀ x, (f x).plain = true) (xs : List α) : PyData.eqv (.list (xs.map f)) (.list (xs.map f)) = true := SeqAt.eqv_refl_plain _ (all_plain h xs)
/-! ### blocks of lines -/
def LnAt (H : Hp) (a : Addr) (ls : List Str) : Prop := H a = some (.lst (ls.map V.str))
def BkAt (H : Hp) (l : Addr) (bs : List (List Str)) : Prop := ∃ as, H l = some (.lst (as.map V.ref)) ∧ Each (LnAt H) as bs ∧ l ∉ as
theorem BkAt.keep {H H' : Hp} {l : Addr} {bs : List (List Str)} (e : Same H H') (h : BkAt H l bs) : BkAt H' l bs := by
  obtain ⟨as, h1, h2, h3⟩ := h
  exact ⟨as, e _ _ h1, h2.keep fun _ _ z => e _ _ z, h3⟩
theorem BkAt.add {H : Hp} {l b : Addr} {bs : List (List Str)} {as : List Addr} {ls : List Str} (h1 : H l = some (.lst (as.map V.ref))) (h2 : Each (LnAt H) as bs) (h3 : l ∉ as) (hb : H b = some (.lst (ls.map V.str))) (n : l ≠ b) :
    BkAt (upd H l (.lst (as.map V.ref ++ [V.ref b]))) l (bs ++ [ls]) := by
  refine ⟨as ++ [b], by rw [upd_same, List.map_append]; rfl, Each.snoc ⟨h2.1, fun i a x e1 e2 => ?_⟩ ?_, fun h => ?_⟩
  · show upd _ _ _ _ = _
    rw [upd_ne fun e => h3 (by rw [← e]; exact List.mem_of_getElem? e1)]
    exact h2.2 i a x e1 e2
  · show upd _ _ _ _ = _
    rw [upd_ne n.symm]
    exact hb
  · rcases List.mem_append.mp h with h | h
    · exact h3 h
    · exact n (List.mem_singleton.mp h)
theorem each_app {α : Type} {P : Addr → α → Prop} {as bs : List Addr} {xs ys : List α} (h : Each P as xs) (g : Each P bs ys) : Each P (as ++ bs) (xs ++ ys) := by
  refine ⟨by rw [List.length_append, List.length_append, h.1, g.1], fun i a x h1 h2 => ?_⟩
  by_cases hi : i < as.length
  · rw [List.getElem?_append_left hi] at h1
    rw [List.getElem?_append_left (by rw [← h.1]; exact hi)] at h2
    exact h.2 i a x h1 h2
  · rw [List.getElem?_append_right (by omega)] at h1
    rw [List.getElem?_append_right (by rw [← h.1]; omega)] at h2
    rw [← h.1] at h2
    exact g.2 _ a x h1 h2
theorem flatten_take {bs : List (List Str)} {i : Nat} {x : List Str} (h : bs[i]? = some x) : (bs.take (i + 1)).flatten = (bs.take i).flatten ++ x := by
  rw [List.take_add_one, h, List.flatten_append]
  simp
theorem take_snoc {α β : Type} {f : α → β} {xs : List α} {i : Nat} {x : α} (h : xs[i]? = some x) : (xs.take (i + 1)).map f = (xs.take i).map f ++ [f x] := by
  rw [List.take_add_one, h, List.map_append]
  rfl
/-- all blocks of a frame -/
def blksF (F : Fm) : List (List Str) := F.clocks.map (clLines F.devices) ++ F.links.map (lkLines F.devices) ++ F.sources.map (srLines F.devices)
theorem blks_flat (F : Fm) : F.devices.map dvLine ++ (blksF F).flatten ++ ftLines F.faults = linesF F := by
  unfold blksF linesF
  simp only [List.flatten_append, List.flatMap_def, List.append_assoc]
theorem flatM_take {α : Type} {f : α → List Str} {xs : List α} {i : Nat} {x : α} (h : xs[i]? = some x) : (xs.take (i + 1)).flatMap f = (xs.take i).flatMap f ++ f x := by
  rw [List.take_add_one, h, List.flatMap_append]
  simp
end Vs

namespace Vs
open PySem PySem.Spec PyProof.Rows L2
/-! ### tuples stay where they are -/
def TupK (H H' : Hp) : Prop := (∀ a xs, H a = some (.tup xs) → H' a = some (.tup xs)) ∧ ∀ a o xs, H a = some (.frz o (.tup xs)) → H' a = some (.frz o (.tup xs))
theorem TupK.refl (H : Hp) : TupK H H := ⟨fun _ _ h => h, fun _ _ _ h => h⟩
theorem TupK.trans {H H1 H2 : Hp} (a : TupK H H1) (b : TupK H1 H2) : TupK H H2 := ⟨fun c u h => b.1 c u (a.1 c u h), fun c o u h => b.2 c o u (a.2 c o u h)⟩
theorem TupK.of {H H' : Hp} (e : Same H H') : TupK H H' := ⟨fun _ _ h => e _ _ h, fun _ _ _ h => e _ _ h⟩
theorem TupK.but {H H' : Hp} {o : Addr} {xs : List V} (e : But o H H') (ho : H o = some (.lst xs)) : TupK H H' := ⟨fun _ _ h => e _ _ (ne_of h ho (by intro z; cases z)) h, fun _ _ _ h => e _ _ (ne_of h ho (by intro z; cases z)) h⟩
theorem TupK.new {H : Hp} {p : Addr} {o : HO} (h : H p = none) : TupK H (upd H p o) := TupK.of (same_upd h)
theorem TupK.set {H : Hp} {p : Addr} {xs : List V} {o : HO} (h : H p = some (.lst xs)) : TupK H (upd H p o) := TupK.but But.set h
theorem TupK.sq {K : PySem.W.Frag} {H H' : Hp} {a : Addr} {xs : List V} (e : TupK H H') (h : SqT K H a xs) : SqT K H' a xs := by
  rcases h with (h | ⟨ob, h⟩) | h
  · exact .inl (.inl (e.1 _ _ h))
  · exact .inl (.inr ⟨ob, e.2 _ _ _ h⟩)
  · exact .inr h
theorem fr {H H1 : Hp} {p : Addr} {o : HO} (e : upd H p o = H1) (n : H p = none) : Same H H1 ∧ H1 p = some o := by
  subst e
  exact ⟨same_upd n, upd_same⟩
theorem stt {H H1 : Hp} {p : Addr} {o : HO} (e : upd H p o = H1) : But p H H1 ∧ H1 p = some o := by
  subst e
  exact ⟨But.set, upd_same⟩
/-! ### data made of tuples -/
mutual
def Im (K : PySem.W.Frag) (H : Hp) : PyData → V → Prop
  | .none, v => v = .non
  | .bool b, v => v = .bl b
  | .int i, v => v = .int i
  | .str z, v => v = .str z
  | .tuple ds, v => ∃ a vs, v = .ref a ∧ SqT K H a vs ∧ ImL K H ds vs
  | .list _, _ => False
  | .dict _, _ => False
def ImL (K : PySem.W.Frag) (H : Hp) : List PyData → List V → Prop
  | [], vs => vs = []
  | d :: ds, vs => ∃ v r, vs = v :: r ∧ Im K H d v ∧ ImL K H ds r
end
section
variable {K : PySem.W.Frag} {H H' : Hp}
mutual
theorem Im.mono (e : TupK H H') : ∀ (d : PyData) {v : V}, Im K H d v → Im K H' d v
  | .none, _, h => by rw [Im] at h ⊢; exact h
  | .bool _, _, h => by rw [Im] at h ⊢; exact h
  | .int _, _, h => by rw [Im] at h ⊢; exact h
  | .str _, _, h => by rw [Im] at h ⊢; exact h
  | .tuple ds, _, h => by
    rw [Im] at h ⊢
    obtain ⟨a, vs, h1, h2, h3⟩ := h
    exact ⟨a, vs, h1, e.sq h2, ImL.mono e ds h3⟩
  | .list _, _, h => by rw [Im] at h; exact h.elim
  | .dict _, _, h => by rw [Im] at h; exact h.elim
theorem ImL.mono (e : TupK H H') : ∀ (ds : List PyData) {vs : List V}, ImL K H ds vs → ImL K H' ds vs
  | [], _, h => by rw [ImL] at h ⊢; exact h
  | d :: ds, _, h => by
    rw [ImL] at h ⊢
    obtain ⟨v, r, h1, h2, h3⟩ := h
    exact ⟨v, r, h1, Im.mono e d h2, ImL.mono e ds h3⟩
end
mutual
theorem Im.dp : ∀ (d : PyData) {v : V}, Im K H d v → Dp K H v d
  | .none, _, h => by rw [Im] at h; rw [h]; exact .non
  | .bool _, _, h => by rw [Im] at h; rw [h]; exact .bl _
  | .int _, _, h => by rw [Im] at h; rw [h]; exact .int _
  | .str _, _, h => by rw [Im] at h; rw [h]; exact .str _
  | .tuple ds, _, h => by
    rw [Im] at h
    obtain ⟨a, vs, rfl, h2, h3⟩ := h
    exact .tup h2 (ImL.dp ds h3)
  | .list _, _, h => by rw [Im] at h; exact h.elim
  | .dict _, _, h => by rw [Im] at h; exact h.elim
theorem ImL.dp : ∀ (ds : List PyData) {vs : List V}, ImL K H ds vs → DpAll K H vs ds
  | [], _, h => by rw [ImL] at h; rw [h]; exact .nil
  | d :: ds, _, h => by
    rw [ImL] at h
    obtain ⟨v, r, rfl, h2, h3⟩ := h
    exact .cons (Im.dp d h2) (ImL.dp ds h3)
end
mutual
theorem Im.plain : ∀ (d : PyData) {v : V}, Im K H d v → d.plain = true
  | .none, _, h => rfl
  | .bool _, _, h => rfl
  | .int _, _, h => rfl
  | .str _, _, h => rfl
  | .tuple ds, _, h => by
    rw [Im] at h
    obtain ⟨a, vs, rfl, h2, h3⟩ := h
    exact ImL.plain ds h3
  | .list _, _, h => by rw [Im] at h; exact h.elim
  | .dict _, _, h => by rw [Im] at h; exact h.elim
theorem ImL.plain : ∀ (ds : List PyData) {vs : List V}, ImL K H ds vs → PyData.plainAll ds = true
  | [], _, h => rfl
  | d :: ds, _, h => by
    rw [ImL] at h
    obtain ⟨v, r, rfl, h2, h3⟩ := h
    show (d.plain && PyData.plainAll ds) = true
    rw [Im.plain d h2, ImL.plain ds h3]
    rfl
end
theorem Im.int_ {i : Int} : Im K H (.int i) (.int i) := by rw [Im]
theorem Im.bl_ {b : Bool} : Im K H (.bool b) (.bl b) := by rw [Im]
theorem Im.str_ {z : Str} : Im K H (.str z) (.str z) := by rw [Im]
theorem Im.non_ : Im K H .none .non := by rw [Im]
theorem Im.tup_ {a : Addr} {vs : List V} {ds : List PyData} (h : SqT K H a vs) (e : ImL K H ds vs) : Im K H (.tuple ds) (.ref a) := by rw [Im]; exact ⟨a, vs, rfl, h, e⟩
theorem Im.unt {ds : List PyData} {v : V} (h : Im K H (.tuple ds) v) : ∃ a vs, v = .ref a ∧ SqT K H a vs ∧ ImL K H ds vs := by rw [Im] at h; exact h
theorem Im.uni {i : Int} {v : V} (h : Im K H (.int i) v) : v = .int i := by rw [Im] at h; exact h
theorem Im.unn {v : V} (h : Im K H .none v) : v = .non := by rw [Im] at h; exact h
theorem ImL.nil_ : ImL K H [] [] := by rw [ImL]
theorem ImL.cons_ {d : PyData} {ds : List PyData} {v : V} {vs : List V} (h : Im K H d v) (t : ImL K H ds vs) : ImL K H (d :: ds) (v :: vs) := by rw [ImL]; exact ⟨_, _, rfl, h, t⟩
theorem ImL.unc {d : PyData} {ds : List PyData} {vs : List V} (h : ImL K H (d :: ds) vs) : ∃ v r, vs = v :: r ∧ Im K H d v ∧ ImL K H ds r := by rw [ImL] at h; exact h
theorem ImL.unn {vs : List V} (h : ImL K H [] vs) : vs = [] := by rw [ImL] at h; exact h
theorem ImL.len : ∀ {ds : List PyData} {vs : List V}, ImL K H ds vs → vs.length = ds.length
  | [], _, h => by rw [h.unn]; rfl
  | d :: ds, _, h => by
    obtain ⟨v, r, rfl, _, h2⟩ := h.unc
    rw [List.length_cons, List.length_cons, ImL.len h2]
theorem ImL.get : ∀ {ds : List PyData} {vs : List V} {i : Nat} {d : PyData}, ImL K H ds vs → ds[i]? = some d → ∃ v, vs[i]? = some v ∧ Im K H d v
  | d :: ds, _, 0, _, h, hi => by
    obtain ⟨v, r, rfl, h1, _⟩ := h.unc
    cases hi
    exact ⟨v, rfl, h1⟩
  | d :: ds, _, i + 1, e, h, hi => by
    obtain ⟨v, r, rfl, _, h2⟩ := h.unc
    exact ImL.get (i := i) h2 hi
  | [], _, _, _, _, hi => by simp at hi
theorem ImL.get' : ∀ {ds : List PyData} {vs : List V} {i : Nat} {v : V}, ImL K H ds vs → vs[i]? = some v → ∃ d, ds[i]? = some d ∧ Im K H d v := fun {ds vs i v} h hi => by
  have hl := h.len
  have hi' := (List.getElem?_eq_some_iff.mp hi).1
  have e : ds[i]? = some (ds[i]'(by omega)) := List.getElem?_eq_getElem (by omega)
  obtain ⟨w, h1, h2⟩ := h.get e
  rw [hi] at h1
  cases h1
  exact ⟨_, e, h2⟩
theorem ImL.app : ∀ {ds es : List PyData} {vs ws : List V}, ImL K H ds vs → ImL K H es ws → ImL K H (ds ++ es) (vs ++ ws)
  | [], _, _, _, h, g => by rw [h.unn]; exact g
  | d :: ds, _, _, _, h, g => by
    obtain ⟨v, r, rfl, h1, h2⟩ := h.unc
    exact ImL.cons_ h1 (ImL.app h2 g)
theorem ImL.snoc {ds : List PyData} {d : PyData} {vs : List V} {v : V} (h : ImL K H ds vs) (g : Im K H d v) : ImL K H (ds ++ [d]) (vs ++ [v]) := h.app (ImL.cons_ g ImL.nil_)
theorem ImL.ints : ∀ {ns : List Int}, ImL K H (ns.map PyData.int) (ns.map V.int)
  | [] => ImL.nil_
  | n :: r => ImL.cons_ Im.int_ ImL.ints
theorem ImL.uints : ∀ {ns : List Int} {vs : List V}, ImL K H (ns.map PyData.int) vs → vs = ns.map V.int
  | [], _, h => h.unn
  | n :: r, _, h => by
    obtain ⟨v, r, rfl, h1, h2⟩ := h.unc
    rw [h1.uni, h2.uints]
    rfl
/-- a list of such data, one that may change -/
def LsI (K : PySem.W.Frag) (H : Hp) (a : Addr) (ds : List PyData) : Prop := ∃ vs, H a = some (.lst vs) ∧ ImL K H ds vs
theorem LsI.keep {a ds} (e : Same H H') (h : LsI K H a ds) : LsI K H' a ds := by
  obtain ⟨vs, h1, h2⟩ := h
  exact ⟨vs, e _ _ h1, ImL.mono (.of e) _ h2⟩
theorem LsI.but {a ds} {o : Addr} {xs : List V} (e : But o H H') (ho : H o = some (.lst xs)) (n : a ≠ o) (h : LsI K H a ds) : LsI K H' a ds := by
  obtain ⟨vs, h1, h2⟩ := h
  exact ⟨vs, e _ _ n h1, ImL.mono (.but e ho) _ h2⟩
theorem LsI.lst {a ds} (h : LsI K H a ds) : ∃ xs, H a = some (.lst xs) := by
  obtain ⟨vs, h1, h2⟩ := h
  exact ⟨vs, h1⟩
theorem LsI.dp {a ds} (h : LsI K H a ds) : Dp K H (.ref a) (.list ds) := by
  obtain ⟨vs, h1, h2⟩ := h
  exact .lst (SqL.of h1) h2.dp
theorem LsI.plain {a ds} (h : LsI K H a ds) : (PyData.list ds).plain = true := by
  obtain ⟨vs, h1, h2⟩ := h
  exact h2.plain
theorem LsI.snoc {a ds d v} (h : LsI K H a ds) (g : Im K H d v) : ∃ vs, H a = some (.lst vs) ∧ vs.length = ds.length ∧ LsI K (upd H a (.lst (vs ++ [v]))) a (ds ++ [d]) := by
  obtain ⟨vs, h1, h2⟩ := h
  exact ⟨vs, h1, h2.len, _, upd_same, ImL.mono (.set h1) _ (h2.snoc g)⟩
/-- what == of two equal lists asks -/
theorem LsI.eqP {a b ds} {Q : VK} (h : LsI K H a ds) (g : LsI K H b ds) (hd : (PyData.list ds).depth ≤ 64) (q : Q (.bl true) H) : rEqP K (.ref a) (.ref b) H Q := by
  refine ⟨_, _, h.dp, g.dp, h.plain, g.plain, hd, ?_⟩
  rw [SeqAt.eqv_refl_plain _ h.plain]
  exact q
theorem LsI.neP {a b ds} {Q : VK} (h : LsI K H a ds) (g : LsI K H b ds) (hd : (PyData.list ds).depth ≤ 64) (q : Q (.bl false) H) : rNeP K (.ref a) (.ref b) H Q := by
  refine ⟨_, _, h.dp, g.dp, h.plain, g.plain, hd, ?_⟩
  rw [SeqAt.eqv_refl_plain _ h.plain]
  exact q
end
theorem ldepth {α : Type} {f : α → PyData} {n : Nat} (h : ∀ x, (f x).depth ≤ n) (xs : List α) : (PyData.list (xs.map f)).depth ≤ n + 1 := by
  have := all_depth h xs
  simp only [PyData.depth]
  omega
/-! ### points and bounds -/
structure Pt where
  d : Int
  n : Int
  c : Int
deriving DecidableEq
structure Bd where
  one : Pt
  two : Pt
  amount : Int
  part : Int
deriving DecidableEq
def ptP (p : Pt) : PyData := .tuple [.int p.d, .int p.n, .int p.c]
def bdP (b : Bd) : PyData := .tuple [ptP b.one, ptP b.two, .int b.amount, .int b.part]
theorem pt_depth (p : Pt) : (ptP p).depth ≤ 3 := by simp [ptP, PyData.depth, PyData.depthAll]
theorem bd_depth (b : Bd) : (bdP b).depth ≤ 5 := by
  have h1 := pt_depth b.one
  have h2 := pt_depth b.two
  simp only [bdP, PyData.depth, PyData.depthAll]
  omega
theorem bds_depth (bs : List Bd) : (PyData.list (bs.map bdP)).depth ≤ 64 := Nat.le_trans (ldepth bd_depth bs) (by decide)
theorem pts_depth (bs : List Pt) : (PyData.list (bs.map ptP)).depth ≤ 64 := Nat.le_trans (ldepth pt_depth bs) (by decide)
section
variable {K : PySem.W.Frag} {H : Hp}
theorem Im.unpt {p : Pt} {v : V} (h : Im K H (ptP p) v) : ∃ a, v = .ref a ∧ SqT K H a [.int p.d, .int p.n, .int p.c] := by
  obtain ⟨a, vs, h1, h2, h3⟩ := Im.unt h
  have e := ImL.uints (ns := [p.d, p.n, p.c]) h3
  exact ⟨a, h1, by rw [e] at h2; exact h2⟩
theorem Im.unbd {b : Bd} {v : V} (h : Im K H (bdP b) v) : ∃ a x y, v = .ref a ∧ SqT K H a [x, y, .int b.amount, .int b.part] ∧ Im K H (ptP b.one) x ∧ Im K H (ptP b.two) y := by
  obtain ⟨a, vs, h1, h2, h3⟩ := Im.unt h
  obtain ⟨x, r, rfl, hx, h3⟩ := h3.unc
  obtain ⟨y, r, rfl, hy, h3⟩ := h3.unc
  have e := ImL.uints (ns := [b.amount, b.part]) h3
  exact ⟨a, x, y, h1, by rw [e] at h2; exact h2, hx, hy⟩
theorem ptI {a : Addr} {p : Pt} (h : SqT K H a [.int p.d, .int p.n, .int p.c]) : Im K H (ptP p) (.ref a) := Im.tup_ h (ImL.ints (ns := [p.d, p.n, p.c]))
theorem bdI {a : Addr} {b : Bd} {x y : V} (h : SqT K H a [x, y, .int b.amount, .int b.part]) (hx : Im K H (ptP b.one) x) (hy : Im K H (ptP b.two) y) : Im K H (bdP b) (.ref a) := Im.tup_ h (ImL.cons_ hx (ImL.cons_ hy (ImL.ints (ns := [b.amount, b.part]))))
end
theorem map_get {α : Type} {f : α → PyData} {xs : List α} {i : Nat} {d : PyData} (h : (xs.map f)[i]? = some d) : ∃ x, xs[i]? = some x ∧ d = f x := by
  rw [List.getElem?_map] at h
  cases e : xs[i]? with
  | none => rw [e] at h; cases h
  | some x => rw [e] at h; exact ⟨x, rfl, (Option.some.inj h).symm⟩
/-! ### the drawn rows, n of them -/
def RwAt (H : Hp) (r : Addr) (n : Nat) : Prop := ∃ ns : List Int, H r = some (.lst (ns.map V.int)) ∧ ns.length = n
theorem RwAt.lst {H : Hp} {r : Addr} {n : Nat} (h : RwAt H r n) : ∃ xs, H r = some (.lst xs) := by
  obtain ⟨ns, h, _⟩ := h
  exact ⟨_, h⟩
theorem RwAt.keep {H H' : Hp} {r : Addr} {n : Nat} (e : Same H H') (h : RwAt H r n) : RwAt H' r n := by
  obtain ⟨ns, h, h2⟩ := h
  exact ⟨ns, e _ _ h, h2⟩
theorem RwAt.but {H H' : Hp} {r o : Addr} {n : Nat} (e : But o H H') (ne : r ≠ o) (h : RwAt H r n) : RwAt H' r n := by
  obtain ⟨ns, h, h2⟩ := h
  exact ⟨ns, e _ _ ne h, h2⟩
theorem RwAt.tk {H H' : Hp} {r : Addr} {n : Nat} (h : RwAt H r n) (e : But r H H') : TupK H H' := by
  obtain ⟨xs, h⟩ := h.lst
  exact TupK.but e h
theorem RwAt.ne {H : Hp} {r p : Addr} {n : Nat} (h : RwAt H r n) (e : H p = none) : p ≠ r := by
  obtain ⟨xs, h⟩ := h.lst
  exact (ne_of_none h e).symm
theorem inV_int (p : Int) (ns : List Int) : inV (.int p) (ns.map V.int) = ns.contains p := by
  unfold inV
  induction ns with
  | nil => rfl
  | cons a r ih =>
    rw [List.map_cons, List.any_cons, ih, List.contains_cons]
    show ((a == p) || r.contains p) = _
    rw [Bool.beq_comm]
theorem flat_ints : ∀ ns : List Int, (ns.map V.int).all flatV = true
  | [] => rfl
  | n :: r => by
    show (true && (r.map V.int).all flatV) = true
    rw [flat_ints r]
    rfl
theorem list_at {K : PySem.W.Frag} {H : Hp} {ds : List PyData} {vs : List V} {j : Int} (h : ImL K H ds vs) (h0 : 0 ≤ j) (h1 : j < (ds.length : Int)) : ∃ d v, ds[j.toNat]? = some d ∧ atI vs j = some v ∧ Im K H d v := by
  have hi : j.toNat < ds.length := by omega
  have e : ds[j.toNat]? = some ds[j.toNat] := List.getElem?_eq_getElem hi
  obtain ⟨v, h2, h3⟩ := h.get e
  exact ⟨_, v, e, at_of (j := j.toNat) (by omega) h2, h3⟩
end Vs

namespace Vs
open PySem PySem.Spec PyProof.Rows L2
/-- a property of a class of the text -/
structure Pr (K : PySem.W.Frag) (C : Addr) (x qual : Str) (st : Stmt) (ps : List Str) (f : Addr) (fd : FuncData) : Prop where
  F : Fun K x qual st f fd
  b : Binds K fd ps []
  m : ∃ p, PropOf K C x p f
theorem pe_propE {X : Cx} {CX : CXT} {k : Nat} {C g : Addr} {f : Str} {fd : FuncData} {ps : List Str} {sp : Sp} {dvs : List V} {ds : List Value} {E : XK} {e : Expr} {pos : Pos} {ta : TE}
    (he : PE X e ta) (c : Cls X.K C) (hp : ∃ p, PropOf X.K C f p g) (F : FnOk X.prog X.w X.K X.mg X.base CX k g fd ps sp) (hr : Room (k + 1) X.A) (hb : Binds X.K fd ps ds) (hd : Vals dvs ds) (hx : Passes CX X.nox E)
    (hab : attributeBase e f X.env (eval e X.env) = eval e X.env) : PE X (.Attribute e f pos) (tProp C sp dvs E ta) := by
  obtain ⟨p, hp⟩ := hp
  exact pe_prop he c hp F hr hb hd hx hab
/-- the beginning stands at aB -/
structure Begin (K : PySem.W.Frag) (mg : Str → Option Value) (aB : Addr) : Prop where
  m : mg "BEGINNING" = some (.ref aB)
  sq : ∀ H, SqT K H aB [.int (-1), .int 0]
theorem vne_int {a b : Int} (c : (!decide (V.int a = V.int b)) = true) : a ≠ b := fun e => by
  rw [e, decide_eq_true rfl] at c
  cases c
/-- the clocks of a device among the first n -/
def ckN (cs : List Cl) (j : Int) : Nat → List Int
  | 0 => []
  | n + 1 => ckN cs j n ++ (match cs[n]? with
    | some c => if c.dev = j then [(n : Int)] else []
    | none => [])
theorem ckN_yes {cs : List Cl} {j : Int} {n : Nat} {c : Cl} (h : cs[n]? = some c) (e : c.dev = j) : ckN cs j (n + 1) = ckN cs j n ++ [(n : Int)] := by
  rw [ckN, h]
  show _ ++ (if c.dev = j then _ else _) = _
  rw [if_pos e]
theorem ckN_no {cs : List Cl} {j : Int} {n : Nat} {c : Cl} (h : cs[n]? = some c) (e : c.dev ≠ j) : ckN cs j (n + 1) = ckN cs j n := by
  rw [ckN, h]
  show _ ++ (if c.dev = j then _ else _) = _
  rw [if_neg e, List.append_nil]
theorem ckN_len (cs : List Cl) (j : Int) : ∀ n, (ckN cs j n).length ≤ n
  | 0 => Nat.le_refl _
  | n + 1 => by
    have h := ckN_len cs j n
    rw [ckN, List.length_append]
    have : (match cs[n]? with
      | some c => if c.dev = j then [(n : Int)] else []
      | none => []).length ≤ 1 := by
      split
      · split
        · exact Nat.le_refl _
        · exact Nat.zero_le _
      · exact Nat.zero_le _
    omega
theorem ints_all {K : PySem.W.Frag} {H : Hp} : ∀ ns : List Int, DpAll K H (ns.map V.int) (ns.map PyData.int)
  | [] => .nil
  | s :: r => .cons (.int s) (ints_all r)
theorem ints_dp {K : PySem.W.Frag} {H : Hp} {a : Addr} {ns : List Int} (h : SqL K H a (ns.map V.int)) : Dp K H (.ref a) (.list (ns.map PyData.int)) := .lst h (ints_all ns)
theorem int_plain (i : Int) : (PyData.int i).plain = true := rfl
theorem int_depth (i : Int) : (PyData.int i).depth ≤ 8 := by simp [PyData.depth]
/-- a frame's four lists as data -/
def frP (F : Fm) : PyData := .list [.list (F.devices.map PyData.str), .list (F.clocks.map clP), .list (F.links.map lkP), .list (F.sources.map srP)]
theorem frP_plain (F : Fm) : (frP F).plain = true := by
  show ((PyData.list (F.devices.map PyData.str)).plain && ((PyData.list (F.clocks.map clP)).plain && ((PyData.list (F.links.map lkP)).plain && ((PyData.list (F.sources.map srP)).plain && true)))) = true
  have h2 : (PyData.list (F.clocks.map clP)).plain = true := all_plain cl_plain F.clocks
  have h3 : (PyData.list (F.links.map lkP)).plain = true := all_plain lk_plain F.links
  have h4 : (PyData.list (F.sources.map srP)).plain = true := all_plain sr_plain F.sources
  rw [strl_plain, h2, h3, h4]
  rfl
theorem frP_depth (F : Fm) : (frP F).depth ≤ 64 := by
  have h1 := strs_depth F.devices
  have h2 := all_depth cl_depth F.clocks
  have h3 := all_depth lk_depth F.links
  have h4 := all_depth sr_depth F.sources
  simp only [frP, PyData.depth, PyData.depthAll]
  omega
theorem frP_dp {K : PySem.W.Frag} {H : Hp} {a d c l s : Addr} {F : Fm} (h : SqL K H a [.ref d, .ref c, .ref l, .ref s]) (f : FmIn K H d c l s F) : Dp K H (.ref a) (frP F) := by
  obtain ⟨hd, ⟨ac, hc, h1⟩, ⟨al, hl, h2⟩, ⟨as, hs, h3⟩⟩ := f
  exact .lst h (.cons (strs_dp (SqL.of hd)) (.cons (.lst (SqL.of hc) (all_dp (fun _ _ z => cl_dp z) h1)) (.cons (.lst (SqL.of hl) (all_dp (fun _ _ z => lk_dp z) h2)) (.cons (.lst (SqL.of hs) (all_dp (fun _ _ z => sr_dp z) h3)) .nil))))
theorem FmIn.but {K : PySem.W.Frag} {H H' : Hp} {o d c l s : Addr} {xs : List V} {F : Fm} (e : But o H H') (ho : H o = some (.lst xs)) (nd : d ≠ o) (nc : c ≠ o) (nl : l ≠ o) (ns : s ≠ o) (h : FmIn K H d c l s F) : FmIn K H' d c l s F := by
  obtain ⟨h0, ⟨a1, h1, g1⟩, ⟨a2, h2, g2⟩, ⟨a3, h3, g3⟩⟩ := h
  exact ⟨e _ _ nd h0, ⟨a1, e _ _ nc h1, g1.keep fun _ _ z => z.but e ho⟩, ⟨a2, e _ _ nl h2, g2.keep fun _ _ z => z.but e ho⟩, ⟨a3, e _ _ ns h3, g3.keep fun _ _ z => z.but e ho⟩⟩
end Vs

namespace Vs
open PySem PySem.Spec PyProof.Rows L2
/-! ### events, hands as data -/
structure HdM where
  pt : Option Pt
  shown : Int
  kind : Int
def opP : Option Pt → PyData
  | none => .none
  | some p => ptP p
def hdP (h : HdM) : PyData := .tuple [opP h.pt, .int h.shown, .int h.kind]
def intsP (ns : List Int) : PyData := .tuple (ns.map .int)
def ddP (d : Dd) : PyData := .tuple (.str (deedNames.getD d.place Str.empty) :: (if d.place = 8 then [intsP d.nums] else d.nums.map .int))
def evP (e : Ev) : PyData := .tuple [.bool e.asleep, intsP e.shown, intsP e.after, ddP e.deed, intsP e.knows]
theorem ints_depth (ns : List Int) : (intsP ns).depth ≤ 3 := by
  have := all_depth (f := PyData.int) (n := 1) (fun x => by simp [PyData.depth]) ns
  simp only [intsP, PyData.depth]
  omega
theorem dd_depth (d : Dd) : (ddP d).depth ≤ 6 := by
  have h1 := ints_depth d.nums
  have h2 := all_depth (f := PyData.int) (n := 1) (fun x => by simp [PyData.depth]) d.nums
  unfold ddP
  split
  · simp only [PyData.depth, PyData.depthAll]
    omega
  · simp only [PyData.depth, PyData.depthAll]
    omega
theorem ev_depth (e : Ev) : (evP e).depth ≤ 8 := by
  have h1 := ints_depth e.shown
  have h2 := ints_depth e.after
  have h3 := dd_depth e.deed
  have h4 := ints_depth e.knows
  simp only [evP, PyData.depth, PyData.depthAll]
  omega
theorem op_depth (o : Option Pt) : (opP o).depth ≤ 3 := by
  cases o with
  | none => simp [opP, PyData.depth]
  | some p => exact pt_depth p
theorem hd_depth (h : HdM) : (hdP h).depth ≤ 5 := by
  have := op_depth h.pt
  simp only [hdP, PyData.depth, PyData.depthAll]
  omega
theorem evs_depth (es : List Ev) : (PyData.list (es.map evP)).depth ≤ 64 := Nat.le_trans (ldepth ev_depth es) (by decide)
theorem hds_depth (es : List HdM) : (PyData.list (es.map hdP)).depth ≤ 64 := Nat.le_trans (ldepth hd_depth es) (by decide)
section
variable {K : PySem.W.Frag} {H : Hp}
theorem Im.uns {z : Str} {v : V} (h : Im K H (.str z) v) : v = .str z := by rw [Im] at h; exact h
theorem Im.unb {b : Bool} {v : V} (h : Im K H (.bool b) v) : v = .bl b := by rw [Im] at h; exact h
theorem Im.unints {ns : List Int} {v : V} (h : Im K H (intsP ns) v) : ∃ a, v = .ref a ∧ TupI K H a ns := by
  obtain ⟨a, vs, rfl, h2, h3⟩ := Im.unt h
  rw [h3.uints] at h2
  exact ⟨a, rfl, h2⟩
theorem intsI {ns : List Int} {a : Addr} (h : TupI K H a ns) : Im K H (intsP ns) (.ref a) := Im.tup_ h ImL.ints
theorem Im.unhd {h : HdM} {v : V} (g : Im K H (hdP h) v) : ∃ a x, v = .ref a ∧ SqT K H a [x, .int h.shown, .int h.kind] ∧ Im K H (opP h.pt) x := by
  obtain ⟨a, vs, h1, h2, h3⟩ := Im.unt g
  obtain ⟨x, r, rfl, hx, h3⟩ := h3.unc
  have e := ImL.uints (ns := [h.shown, h.kind]) h3
  exact ⟨a, x, h1, by rw [e] at h2; exact h2, hx⟩
theorem hdI {h : HdM} {a : Addr} {x : V} (g : SqT K H a [x, .int h.shown, .int h.kind]) (i : Im K H (opP h.pt) x) : Im K H (hdP h) (.ref a) := Im.tup_ g (ImL.cons_ i (ImL.ints (ns := [h.shown, h.kind])))
theorem Im.unev {e : Ev} {v : V} (g : Im K H (evP e) v) : ∃ a p q d r, v = .ref a ∧ SqT K H a [.bl e.asleep, p, q, d, r] ∧ Im K H (intsP e.shown) p ∧ Im K H (intsP e.after) q ∧ Im K H (ddP e.deed) d ∧ Im K H (intsP e.knows) r := by
  obtain ⟨a, vs, h1, h2, h3⟩ := Im.unt g
  obtain ⟨x, r, rfl, hx, h3⟩ := h3.unc
  obtain ⟨p, r, rfl, hp, h3⟩ := h3.unc
  obtain ⟨q, r, rfl, hq, h3⟩ := h3.unc
  obtain ⟨d, r, rfl, hd, h3⟩ := h3.unc
  obtain ⟨k, r, rfl, hk, h3⟩ := h3.unc
  have e := h3.unn
  rw [e, hx.unb] at h2
  exact ⟨a, p, q, d, k, h1, h2, hp, hq, hd, hk⟩
theorem evI {e : Ev} {a : Addr} {p q d r : V} (h : SqT K H a [.bl e.asleep, p, q, d, r]) (h1 : Im K H (intsP e.shown) p) (h2 : Im K H (intsP e.after) q) (h3 : Im K H (ddP e.deed) d) (h4 : Im K H (intsP e.knows) r) : Im K H (evP e) (.ref a) :=
  Im.tup_ h (ImL.cons_ Im.bl_ (ImL.cons_ h1 (ImL.cons_ h2 (ImL.cons_ h3 (ImL.cons_ h4 ImL.nil_)))))
theorem dn_getD {p : Nat} (h : p < 9) : deedNames[p]? = some (deedNames.getD p Str.empty) := by
  rw [List.getD_eq_getElem?_getD, List.getElem?_eq_getElem (by rw [dn_len]; exact h)]
  rfl
/-- a deed's tuple: its name, then the rest -/
theorem Im.undd {d : Dd} {v : V} (h8 : d.place < 9) (g : Im K H (ddP d) v) : ∃ a z rest, v = .ref a ∧ deedNames[d.place]? = some z ∧ SqT K H a (.str z :: rest) ∧ ((d.place = 8 ∧ ∃ b, rest = [.ref b] ∧ TupI K H b d.nums) ∨ (d.place ≠ 8 ∧ rest = d.nums.map V.int)) := by
  obtain ⟨a, vs, h1, h2, h3⟩ := Im.unt g
  obtain ⟨x, r, rfl, hx, h3⟩ := h3.unc
  rw [hx.uns] at h2
  refine ⟨a, _, r, h1, dn_getD h8, h2, ?_⟩
  by_cases e : d.place = 8
  · rw [if_pos e] at h3
    obtain ⟨y, s, rfl, hy, h4⟩ := h3.unc
    obtain ⟨b, rfl, hb⟩ := hy.unints
    have e2 := h4.unn
    exact .inl ⟨e, b, by rw [e2], hb⟩
  · rw [if_neg e] at h3
    exact .inr ⟨e, h3.uints⟩
theorem ddI {d : Dd} {a : Addr} {z : Str} (hz : deedNames[d.place]? = some z) (h8 : d.place ≠ 8) (h : SqT K H a (.str z :: d.nums.map V.int)) : Im K H (ddP d) (.ref a) := by
  unfold ddP
  rw [if_neg h8, List.getD_eq_getElem?_getD, hz]
  exact Im.tup_ h (ImL.cons_ Im.str_ ImL.ints)
theorem ddI8 {d : Dd} {a b : Addr} (h8 : d.place = 8) (h : SqT K H a [.str "anew", .ref b]) (g : TupI K H b d.nums) : Im K H (ddP d) (.ref a) := by
  unfold ddP
  rw [if_pos h8, h8]
  exact Im.tup_ h (ImL.cons_ Im.str_ (ImL.cons_ (intsI g) ImL.nil_))
end
theorem dn_is {p q : Nat} {z w : Str} (h : deedNames[p]? = some z) (g : deedNames[q]? = some w) : decide (V.str z = V.str w) = decide (p = q) := by
  by_cases e : p = q
  · subst e
    rw [h] at g
    cases g
    rw [decide_eq_true rfl, decide_eq_true rfl]
  · rw [decide_eq_false e]
    refine decide_eq_false fun x => e ?_
    injection x with x
    subst x
    exact nd_ix dn_nodup h g
/-! ### what bounds an event has -/
def kdOf (ks : List Kd) (j : Int) : Kd := ks.getD j.toNat ⟨Str.empty, 0, some 0⟩
def hiOf (k : Kd) : Int := k.high.getD 0
def ftl (a b : Pt) (lo hi part : Int) : List Bd := [⟨a, b, hi, part⟩, ⟨b, a, -lo, part⟩]
def sinceM (goes : Bool) (e : Ev) (h : HdM) : Option Pt := if (decide (e.deed.place = 8) || (e.asleep && !goes)) = true then none else h.pt
def clockM (C : Cl) (c dev n : Int) (e : Ev) (s : Int) (h : HdM) : List Bd :=
  match sinceM C.goes e h with
  | none => ftl ⟨dev, n, c⟩ ⟨dev, n, -1⟩ 0 (hiOf (kdOf C.kinds h.kind)) c
  | some t => if s - h.shown = 0 then ftl t ⟨dev, n, -1⟩ 0 (hiOf (kdOf C.kinds h.kind)) c else
      ftl t ⟨dev, n, c⟩ ((kdOf C.kinds h.kind).low * (s - h.shown)) (hiOf (kdOf C.kinds h.kind) * (s - h.shown)) c ++ [⟨⟨dev, n, c⟩, t, -0, c⟩] ++ [⟨⟨dev, n, c⟩, ⟨dev, n - 1, -1⟩, -((kdOf C.kinds h.kind).low * (s - h.shown - 1)), c⟩] ++ ftl ⟨dev, n, c⟩ ⟨dev, n, -1⟩ 0 (hiOf (kdOf C.kinds h.kind)) c
def givenM (d : Dd) (c : Int) (i : Nat) : Option Int := if d.place = 8 then d.nums[i]? else if d.place = 1 ∧ d.nums[0]? = some c then d.nums[1]? else none
def handM (C : Cl) (c dev n : Int) (e : Ev) (i : Nat) (h : HdM) : HdM :=
  match givenM e.deed c i with
  | some k => ⟨some ⟨dev, n, -1⟩, e.after.getD i 0, k⟩
  | none => if e.after.getD i 0 ≠ e.shown.getD i 0 then ⟨some ⟨dev, n, -1⟩, e.after.getD i 0, h.kind⟩ else
      if (sinceM C.goes e h).isSome = true ∧ e.shown.getD i 0 = h.shown then h else ⟨some ⟨dev, n, c⟩, e.shown.getD i 0, h.kind⟩
def srOf (F : Fm) (j : Int) : Sr := F.sources.getD j.toNat ⟨Str.empty, 0, []⟩
def lkOf (F : Fm) (j : Int) : Lk := F.links.getD j.toNat ⟨Str.empty, 0, 0, []⟩
def clOf (F : Fm) (j : Int) : Cl := F.clocks.getD j.toNat ⟨Str.empty, 0, false, []⟩
def stP : Pt := ⟨-1, 0, -1⟩
def markM (F : Fm) (here : Pt) (d : Dd) : List Bd :=
  ftl stP here (d.nums.getD 2 0 - (kdOf (srOf F (d.nums.getD 0 0)).kinds (d.nums.getD 1 0)).low) (d.nums.getD 2 0 + hiOf (kdOf (srOf F (d.nums.getD 0 0)).kinds (d.nums.getD 1 0))) ((F.clocks.length : Int) + F.links.length + d.nums.getD 0 0)
def hearM (F : Fm) (here : Pt) (d : Dd) (k : Option Int) : List Bd :=
  let w : Pt := ⟨(lkOf F (d.nums.getD 0 0)).s, d.nums.getD 1 0, -1⟩
  [⟨here, w, -0, -1⟩] ++ match k with
    | none => []
    | some j => [⟨here, w, -(kdOf (lkOf F (d.nums.getD 0 0)).kinds j).low, (F.clocks.length : Int) + d.nums.getD 0 0⟩] ++ match (kdOf (lkOf F (d.nums.getD 0 0)).kinds j).high with
      | none => []
      | some m => [⟨w, here, m, (F.clocks.length : Int) + d.nums.getD 0 0⟩]
def cks (F : Fm) (dev : Int) : List Int := ckN F.clocks dev F.clocks.length
def dfH : HdM := ⟨none, 0, 0⟩
def cB (F : Fm) (dev n : Int) (e : Ev) (hs : List HdM) (i : Nat) : List Bd := clockM (clOf F ((cks F dev).getD i 0)) ((cks F dev).getD i 0) dev n e (e.shown.getD i 0) (hs.getD i dfH)
def cH (F : Fm) (dev n : Int) (e : Ev) (hs : List HdM) (i : Nat) : HdM := handM (clOf F ((cks F dev).getD i 0)) ((cks F dev).getD i 0) dev n e i (hs.getD i dfH)
def restM (F : Fm) (here : Pt) (d : Dd) (k : Option Int) : List Bd := if d.place = 2 then markM F here d else if d.place = 5 then hearM F here d k else []
def evB (F : Fm) (dev n : Int) (e : Ev) (hs : List HdM) (k : Option Int) : List Bd :=
  [⟨⟨dev, n, -1⟩, ⟨dev, n - 1, -1⟩, -0, -1⟩] ++ (List.range (cks F dev).length).flatMap (cB F dev n e hs) ++ restM F ⟨dev, n, -1⟩ e.deed k
def evH (F : Fm) (dev n : Int) (e : Ev) (hs : List HdM) : List HdM := (List.range (cks F dev).length).map (cH F dev n e hs)
/-! ### what is asked of them -/
structure ClK (C : Cl) : Prop where
  len : C.kinds.length ≤ 4
  lo : ∀ k ∈ C.kinds, In18 k.low
  hi : ∀ k ∈ C.kinds, ∃ h, k.high = some h ∧ In18 h
def Six (ks : List Kd) (j : Int) : Prop := 0 ≤ j ∧ j < (ks.length : Int)
/-- a kind of a clock, as its rules need it -/
structure KdC (k : Kd) : Prop where
  lo : In18 k.low
  hi : ∃ h, k.high = some h ∧ In18 h
/-- a device's event that fits the frame and the hands before it -/
structure EvFit (F : Fm) (dev : Int) (e : Ev) (hs : List HdM) (k : Option Int) : Prop where
  pl : e.deed.place < 9
  sh : e.shown.length = (cks F dev).length
  af : e.after.length = (cks F dev).length
  hl : hs.length = (cks F dev).length
  ar : e.deed.place ≠ 8 → e.deed.nums.length = arity e.deed.place
  an : e.deed.place = 8 → e.deed.nums.length = (cks F dev).length
  ma : e.deed.place = 2 → 0 ≤ e.deed.nums.getD 0 0 ∧ e.deed.nums.getD 0 0 < F.sources.length ∧ Six (srOf F (e.deed.nums.getD 0 0)).kinds (e.deed.nums.getD 1 0) ∧ (kdOf (srOf F (e.deed.nums.getD 0 0)).kinds (e.deed.nums.getD 1 0)).high.isSome = true
  hr : e.deed.place = 5 → 0 ≤ e.deed.nums.getD 0 0 ∧ e.deed.nums.getD 0 0 < F.links.length ∧ ∀ j, k = some j → Six (lkOf F (e.deed.nums.getD 0 0)).kinds j
  kc : ∀ i : Nat, i < (cks F dev).length → KdC (kdOf (clOf F ((cks F dev).getD i 0)).kinds (hs.getD i dfH).kind)
  kd : ∀ i : Nat, i < (cks F dev).length → Six (clOf F ((cks F dev).getD i 0)).kinds (hs.getD i dfH).kind
theorem ckN_in {cs : List Cl} {j : Int} : ∀ {n : Nat} {c : Int}, n ≤ cs.length → c ∈ ckN cs j n → 0 ≤ c ∧ c < (n : Int) := by
  intro n
  induction n with
  | zero => intro c _ h; simp [ckN] at h
  | succ n ih =>
    intro c hn h
    have hi : n < cs.length := hn
    by_cases e : cs[n].dev = j
    · rw [ckN_yes (List.getElem?_eq_getElem hi) e] at h
      rcases List.mem_append.mp h with h | h
      · have := ih (by omega) h
        omega
      · rw [List.mem_singleton.mp h]
        omega
    · rw [ckN_no (List.getElem?_eq_getElem hi) e] at h
      have := ih (by omega) h
      omega
theorem cks_in {F : Fm} {dev : Int} {i : Nat} (h : i < (cks F dev).length) : 0 ≤ (cks F dev).getD i 0 ∧ (cks F dev).getD i 0 < (F.clocks.length : Int) := by
  have e : (cks F dev).getD i 0 = (cks F dev)[i] := by rw [List.getD_eq_getElem?_getD, List.getElem?_eq_getElem h]; rfl
  rw [e]
  exact ckN_in (Nat.le_refl _) (List.getElem_mem h)
theorem getD_at {α : Type} {xs : List α} {d : α} {j : Int} (h0 : 0 ≤ j) (h1 : j < (xs.length : Int)) : xs[j.toNat]? = some (xs.getD j.toNat d) := by
  rw [List.getD_eq_getElem?_getD, List.getElem?_eq_getElem (by omega)]
  rfl
theorem getD_ix {α : Type} {xs : List α} {d : α} {i : Nat} (h1 : i < xs.length) : xs[i]? = some (xs.getD i d) := by
  rw [List.getD_eq_getElem?_getD, List.getElem?_eq_getElem h1]
  rfl
/-- a tuple of ints of the module's top -/
structure TupC (K : PySem.W.Frag) (mg : Str → Option Value) (x : Str) (a : Addr) (ns : List Int) : Prop where
  m : mg x = some (.ref a)
  sq : ∀ H, SqT K H a (ns.map V.int)
theorem Same.free {H H' : Hp} {a : Addr} (s : Same H H') (h : H' a = none) : H a = none := by
  cases e : H a with
  | none => rfl
  | some w => rw [s _ _ e] at h; cases h
section
variable {K : PySem.W.Frag} {H : Hp}
theorem Im.unks {ks : List Kd} {v : V} (h : Im K H (ksP ks) v) : ∃ a vs, v = .ref a ∧ SqT K H a vs ∧ ImL K H (ks.map kdP) vs := Im.unt h
theorem Im.unkd {k : Kd} {v : V} (h : Im K H (kdP k) v) : ∃ a, v = .ref a ∧ SqT K H a [.str k.name, .int k.low, hiV k.high] := by
  obtain ⟨a, vs, h1, h2, h3⟩ := Im.unt h
  obtain ⟨x, r, rfl, hx, h4⟩ := h3.unc
  obtain ⟨y, r, rfl, hy, h5⟩ := h4.unc
  obtain ⟨z, r, rfl, hz, h6⟩ := h5.unc
  have e := h6.unn
  have ez : z = hiV k.high := by
    cases eh : k.high with
    | none => rw [eh] at hz; exact Im.unn hz
    | some i => rw [eh] at hz; exact Im.uni hz
  rw [e, hx.uns, hy.uni, ez] at h2
  exact ⟨a, h1, h2⟩
theorem Im.uncl {c : Cl} {v : V} (h : Im K H (clP c) v) : ∃ a t ws, v = .ref a ∧ SqT K H a [.str c.name, .int c.dev, .bl c.goes, .ref t] ∧ SqT K H t ws ∧ ImL K H (c.kinds.map kdP) ws := by
  obtain ⟨a, vs, h1, h2, h3⟩ := Im.unt h
  obtain ⟨x, r, rfl, hx, h4⟩ := h3.unc
  obtain ⟨y, r, rfl, hy, h5⟩ := h4.unc
  obtain ⟨z, r, rfl, hz, h6⟩ := h5.unc
  obtain ⟨u, r, rfl, hu, h7⟩ := h6.unc
  obtain ⟨t, ws, rfl, g1, g2⟩ := Im.unks hu
  have e := h7.unn
  rw [e, hx.uns, hy.uni, hz.unb] at h2
  exact ⟨a, t, ws, h1, h2, g1, g2⟩
theorem Im.unlk {c : Lk} {v : V} (h : Im K H (lkP c) v) : ∃ a t ws, v = .ref a ∧ SqT K H a [.str c.name, .int c.s, .int c.r, .ref t] ∧ SqT K H t ws ∧ ImL K H (c.kinds.map kdP) ws := by
  obtain ⟨a, vs, h1, h2, h3⟩ := Im.unt h
  obtain ⟨x, r, rfl, hx, h4⟩ := h3.unc
  obtain ⟨y, r, rfl, hy, h5⟩ := h4.unc
  obtain ⟨z, r, rfl, hz, h6⟩ := h5.unc
  obtain ⟨u, r, rfl, hu, h7⟩ := h6.unc
  obtain ⟨t, ws, rfl, g1, g2⟩ := Im.unks hu
  have e := h7.unn
  rw [e, hx.uns, hy.uni, hz.uni] at h2
  exact ⟨a, t, ws, h1, h2, g1, g2⟩
theorem Im.unsr {c : Sr} {v : V} (h : Im K H (srP c) v) : ∃ a t ws, v = .ref a ∧ SqT K H a [.str c.name, .int c.dev, .ref t] ∧ SqT K H t ws ∧ ImL K H (c.kinds.map kdP) ws := by
  obtain ⟨a, vs, h1, h2, h3⟩ := Im.unt h
  obtain ⟨x, r, rfl, hx, h4⟩ := h3.unc
  obtain ⟨y, r, rfl, hy, h5⟩ := h4.unc
  obtain ⟨u, r, rfl, hu, h7⟩ := h5.unc
  obtain ⟨t, ws, rfl, g1, g2⟩ := Im.unks hu
  have e := h7.unn
  rw [e, hx.uns, hy.uni] at h2
  exact ⟨a, t, ws, h1, h2, g1, g2⟩
theorem kdI {k : Kd} {a : Addr} (h : SqT K H a [.str k.name, .int k.low, hiV k.high]) : Im K H (kdP k) (.ref a) := by
  refine Im.tup_ h (ImL.cons_ Im.str_ (ImL.cons_ Im.int_ (ImL.cons_ ?_ ImL.nil_)))
  cases k.high with
  | none => exact Im.non_
  | some i => exact Im.int_
theorem clI {c : Cl} {a t : Addr} {ws : List V} (h : SqT K H a [.str c.name, .int c.dev, .bl c.goes, .ref t]) (g : SqT K H t ws) (i : ImL K H (c.kinds.map kdP) ws) : Im K H (clP c) (.ref a) :=
  Im.tup_ h (ImL.cons_ Im.str_ (ImL.cons_ Im.int_ (ImL.cons_ Im.bl_ (ImL.cons_ (Im.tup_ g i) ImL.nil_))))
theorem lkI {c : Lk} {a t : Addr} {ws : List V} (h : SqT K H a [.str c.name, .int c.s, .int c.r, .ref t]) (g : SqT K H t ws) (i : ImL K H (c.kinds.map kdP) ws) : Im K H (lkP c) (.ref a) :=
  Im.tup_ h (ImL.cons_ Im.str_ (ImL.cons_ Im.int_ (ImL.cons_ Im.int_ (ImL.cons_ (Im.tup_ g i) ImL.nil_))))
theorem srI {c : Sr} {a t : Addr} {ws : List V} (h : SqT K H a [.str c.name, .int c.dev, .ref t]) (g : SqT K H t ws) (i : ImL K H (c.kinds.map kdP) ws) : Im K H (srP c) (.ref a) :=
  Im.tup_ h (ImL.cons_ Im.str_ (ImL.cons_ Im.int_ (ImL.cons_ (Im.tup_ g i) ImL.nil_)))
/-- the kind of a number, in its tuple -/
theorem kd_at {ks : List Kd} {ws : List V} {j : Int} (i : ImL K H (ks.map kdP) ws) (h : Six ks j) : ∃ a, atI ws j = some (.ref a) ∧ SqT K H a [.str (kdOf ks j).name, .int (kdOf ks j).low, hiV (kdOf ks j).high] := by
  obtain ⟨d, v, h1, h2, h3⟩ := list_at i h.1 (by rw [List.length_map]; exact h.2)
  obtain ⟨k, hk, rfl⟩ := map_get h1
  have e : k = kdOf ks j := by
    have := getD_at (d := (⟨Str.empty, 0, some 0⟩ : Kd)) h.1 h.2
    rw [hk] at this
    exact Option.some.inj this
  subst e
  obtain ⟨a, rfl, h4⟩ := h3.unkd
  exact ⟨a, h2, h4⟩
theorem kdOf_mem {ks : List Kd} {j : Int} (h : Six ks j) : kdOf ks j ∈ ks := List.mem_of_getElem? (getD_at h.1 h.2)
theorem cl_at {F : Fm} {vs : List V} {c : Int} (hI : ImL K H (F.clocks.map clP) vs) (c0 : 0 ≤ c) (c1 : c < (F.clocks.length : Int)) : ∃ a t ws, atI vs c = some (.ref a) ∧ SqT K H a [.str (clOf F c).name, .int (clOf F c).dev, .bl (clOf F c).goes, .ref t] ∧ SqT K H t ws ∧ ImL K H ((clOf F c).kinds.map kdP) ws := by
  obtain ⟨d2, v2, g1, g2, g3⟩ := list_at hI c0 (by rw [List.length_map]; exact c1)
  obtain ⟨C, hC, rfl⟩ := map_get g1
  have eC : C = clOf F c := by
    have := getD_at (d := (⟨Str.empty, 0, false, []⟩ : Cl)) c0 c1
    rw [hC] at this
    exact Option.some.inj this
  subst eC
  obtain ⟨a, t, ws, rfl, h1, h2, h3⟩ := Im.uncl g3
  exact ⟨a, t, ws, g2, h1, h2, h3⟩
theorem lk_at {F : Fm} {vs : List V} {c : Int} (hI : ImL K H (F.links.map lkP) vs) (c0 : 0 ≤ c) (c1 : c < (F.links.length : Int)) : ∃ a t ws, atI vs c = some (.ref a) ∧ SqT K H a [.str (lkOf F c).name, .int (lkOf F c).s, .int (lkOf F c).r, .ref t] ∧ SqT K H t ws ∧ ImL K H ((lkOf F c).kinds.map kdP) ws := by
  obtain ⟨d2, v2, g1, g2, g3⟩ := list_at hI c0 (by rw [List.length_map]; exact c1)
  obtain ⟨C, hC, rfl⟩ := map_get g1
  have eC : C = lkOf F c := by
    have := getD_at (d := (⟨Str.empty, 0, 0, []⟩ : Lk)) c0 c1
    rw [hC] at this
    exact Option.some.inj this
  subst eC
  obtain ⟨a, t, ws, rfl, h1, h2, h3⟩ := Im.unlk g3
  exact ⟨a, t, ws, g2, h1, h2, h3⟩
theorem sr_at {F : Fm} {vs : List V} {c : Int} (hI : ImL K H (F.sources.map srP) vs) (c0 : 0 ≤ c) (c1 : c < (F.sources.length : Int)) : ∃ a t ws, atI vs c = some (.ref a) ∧ SqT K H a [.str (srOf F c).name, .int (srOf F c).dev, .ref t] ∧ SqT K H t ws ∧ ImL K H ((srOf F c).kinds.map kdP) ws := by
  obtain ⟨d2, v2, g1, g2, g3⟩ := list_at hI c0 (by rw [List.length_map]; exact c1)
  obtain ⟨C, hC, rfl⟩ := map_get g1
  have eC : C = srOf F c := by
    have := getD_at (d := (⟨Str.empty, 0, []⟩ : Sr)) c0 c1
    rw [hC] at this
    exact Option.some.inj this
  subst eC
  obtain ⟨a, t, ws, rfl, h1, h2, h3⟩ := Im.unsr g3
  exact ⟨a, t, ws, g2, h1, h2, h3⟩
theorem int_at {ns : List Int} {i : Nat} (h : i < ns.length) : atI (ns.map V.int) (i : Int) = some (.int (ns.getD i 0)) := at_of (j := i) rfl (by rw [List.getElem?_map, getD_ix (d := 0) h]; rfl)
theorem mul64 {a b : Int} (h : In18 a) : (-(2 ^ 64) < a ∧ a < 2 ^ 64) ∨ (-(2 ^ 64) < b ∧ b < 2 ^ 64) := by
  unfold In18 at h
  exact .inl ⟨by omega, by omega⟩
theorem LsI.app {a b ds es} (h : LsI K H a ds) (g : LsI K H b es) : ∃ vs ws, H a = some (.lst vs) ∧ H b = some (.lst ws) ∧ vs.length = ds.length ∧ ws.length = es.length ∧ LsI K (upd H a (.lst (vs ++ ws))) a (ds ++ es) := by
  obtain ⟨vs, h1, h2⟩ := h
  obtain ⟨ws, g1, g2⟩ := g
  exact ⟨vs, ws, h1, g1, h2.len, g2.len, _, upd_same, ImL.mono (.set h1) _ (h2.app g2)⟩
end
/-- all but two lists stays -/
def Bu2 (a b : Addr) (H H' : Hp) : Prop := ∀ c u, c ≠ a → c ≠ b → H c = some u → H' c = some u
theorem Bu2.of {a b : Addr} {H H' : Hp} (s : Same H H') : Bu2 a b H H' := fun c u _ _ h => s c u h
theorem Bu2.refl {a b : Addr} {H : Hp} : Bu2 a b H H := fun c u _ _ h => h
theorem Bu2.trans {a b : Addr} {H H1 H2 : Hp} (x : Bu2 a b H H1) (y : Bu2 a b H1 H2) : Bu2 a b H H2 := fun c u h1 h2 h => y c u h1 h2 (x c u h1 h2 h)
theorem Bu2.one {a b : Addr} {H H' : Hp} (s : But a H H') : Bu2 a b H H' := fun c u h1 _ h => s c u h1 h
theorem Bu2.two {a b : Addr} {H H' : Hp} (s : But b H H') : Bu2 a b H H' := fun c u _ h2 h => s c u h2 h
theorem Bu2.tk {a b : Addr} {H H' : Hp} {xs ys : List V} (s : Bu2 a b H H') (ha : H a = some (.lst xs)) (hb : H b = some (.lst ys)) : TupK H H' :=
  ⟨fun c x h => s c _ (ne_of h ha (by intro z; cases z)) (ne_of h hb (by intro z; cases z)) h, fun c o x h => s c _ (ne_of h ha (by intro z; cases z)) (ne_of h hb (by intro z; cases z)) h⟩
theorem Bu2.same {a b : Addr} {H0 H H' : Hp} (s : Bu2 a b H H') (e : Same H0 H) (ha : H0 a = none) (hb : H0 b = none) : Same H0 H' := fun c u h => s c u (ne_of_none h ha) (ne_of_none h hb) (e c u h)
theorem ftl_len (a b : Pt) (l h p : Int) : (ftl a b l h p).length = 2 := rfl
theorem clockM_len (C : Cl) (c dev n : Int) (e : Ev) (s : Int) (h : HdM) : (clockM C c dev n e s h).length ≤ 6 := by
  unfold clockM
  split
  · rw [ftl_len]; decide
  · split
    · rw [ftl_len]; decide
    · simp only [List.length_append, ftl_len, List.length_cons, List.length_nil]
      decide
theorem hearM_len (F : Fm) (p : Pt) (d : Dd) (k : Option Int) : (hearM F p d k).length ≤ 3 := by
  unfold hearM
  simp only [List.length_append, List.length_cons, List.length_nil]
  split
  · decide
  · split <;> simp
theorem flatB_len {f : Nat → List Bd} (h : ∀ i, (f i).length ≤ 6) : ∀ n, ((List.range n).flatMap f).length ≤ 6 * n
  | 0 => Nat.le_refl _
  | n + 1 => by
    have := flatB_len h n
    have := h n
    rw [List.range_succ, List.flatMap_append, List.length_append]
    show _ + (f n ++ []).length ≤ _
    rw [List.append_nil]
    omega
theorem rangeB {f : Nat → List Bd} (n : Nat) : (List.range (n + 1)).flatMap f = (List.range n).flatMap f ++ f n := by
  rw [List.range_succ, List.flatMap_append]
  show _ ++ (f n ++ []) = _
  rw [List.append_nil]
theorem rangeH {α : Type} {f : Nat → α} (n : Nat) : (List.range (n + 1)).map f = (List.range n).map f ++ [f n] := by
  rw [List.range_succ, List.map_append]
  rfl
/-! ### views -/
def RwI (K : PySem.W.Frag) (H : Hp) (a : Addr) (es : List Ev) : Prop := LsI K H a (es.map evP)
def VwI (K : PySem.W.Frag) (H : Hp) (v : Addr) (vw : List (List Ev)) : Prop := ∃ rows, H v = some (.lst (rows.map V.ref)) ∧ Each (RwI K H) rows vw
theorem VwI.keep {K : PySem.W.Frag} {H H' : Hp} {v : Addr} {vw : List (List Ev)} (e : Same H H') (h : VwI K H v vw) : VwI K H' v vw := by
  obtain ⟨rows, h1, h2⟩ := h
  exact ⟨rows, e _ _ h1, h2.keep fun _ _ z => LsI.keep e z⟩
def dfE : Ev := ⟨false, [], [], ⟨0, []⟩, []⟩
def wordOf (F : Fm) (vw : List (List Ev)) (d : Dd) : Dd := ((vw.getD (lkOf F (d.nums.getD 0 0)).s.toNat []).getD (d.nums.getD 1 0).toNat dfE).deed
def heardM (F : Fm) (vw : List (List Ev)) (d : Dd) : Option Int := if d.place = 5 then (if (wordOf F vw d).place = 3 then some ((wordOf F vw d).nums.getD 1 0) else none) else none
/-- what is heard can be looked up -/
structure HeFit (F : Fm) (vw : List (List Ev)) (d : Dd) : Prop where
  l0 : 0 ≤ d.nums.getD 0 0
  l1 : d.nums.getD 0 0 < F.links.length
  s0 : 0 ≤ (lkOf F (d.nums.getD 0 0)).s
  s1 : (lkOf F (d.nums.getD 0 0)).s < vw.length
  n0 : 0 ≤ d.nums.getD 1 0
  n1 : d.nums.getD 1 0 < ((vw.getD (lkOf F (d.nums.getD 0 0)).s.toNat []).length : Int)
  pl : (wordOf F vw d).place < 9
  ar : (wordOf F vw d).place = 3 → (wordOf F vw d).nums.length = 2
def devS (F : Fm) (vw : List (List Ev)) (d : Nat) : Nat → List Bd × List HdM
  | 0 => ([], List.replicate (cks F d).length dfH)
  | j + 1 => ((devS F vw d j).1 ++ evB F d ((j : Int) + 1) ((vw.getD d []).getD (j + 1) dfE) (devS F vw d j).2 (heardM F vw ((vw.getD d []).getD (j + 1) dfE).deed), evH F d ((j : Int) + 1) ((vw.getD d []).getD (j + 1) dfE) (devS F vw d j).2)
def vwB (F : Fm) (vw : List (List Ev)) : List Bd := (List.range vw.length).flatMap fun d => (devS F vw d ((vw.getD d []).length - 1)).1
structure VwFit (F : Fm) (vw : List (List Ev)) : Prop where
  cl : F.clocks.length ≤ 10
  vl : vw.length ≤ 6
  el : ∀ d, (vw.getD d []).length ≤ 40
  pl : ∀ d j, d < vw.length → j + 1 < (vw.getD d []).length → ((vw.getD d []).getD (j + 1) dfE).deed.place < 9
  fit : ∀ d j, d < vw.length → j + 1 < (vw.getD d []).length → EvFit F d ((vw.getD d []).getD (j + 1) dfE) (devS F vw d j).2 (heardM F vw ((vw.getD d []).getD (j + 1) dfE).deed)
  he : ∀ d j, d < vw.length → j + 1 < (vw.getD d []).length → ((vw.getD d []).getD (j + 1) dfE).deed.place = 5 → HeFit F vw ((vw.getD d []).getD (j + 1) dfE).deed
theorem evB_len {F : Fm} (h : F.clocks.length ≤ 10) (dev n : Int) (e : Ev) (hs : List HdM) (k : Option Int) : (evB F dev n e hs k).length ≤ 64 := by
  have h1 := flatB_len (f := cB F dev n e hs) (fun i => clockM_len _ _ _ _ _ _ _) (cks F dev).length
  have h2 : (cks F dev).length ≤ 10 := Nat.le_trans (ckN_len _ _ _) h
  have h3 : (restM F ⟨dev, n, -1⟩ e.deed k).length ≤ 3 := by
    unfold restM
    split
    · show 2 ≤ 3
      decide
    · split
      · exact hearM_len _ _ _ _
      · exact Nat.zero_le _
  unfold evB
  rw [List.length_append, List.length_append, List.length_cons, List.length_nil]
  omega
theorem devS_len {F : Fm} (h : F.clocks.length ≤ 10) (vw : List (List Ev)) (d : Nat) : ∀ j, (devS F vw d j).1.length ≤ 64 * j
  | 0 => Nat.zero_le _
  | j + 1 => by
    have h1 := devS_len h vw d j
    have h2 := evB_len h d ((j : Int) + 1) ((vw.getD d []).getD (j + 1) dfE) (devS F vw d j).2 (heardM F vw ((vw.getD d []).getD (j + 1) dfE).deed)
    rw [devS, List.length_append]
    omega
theorem vwN_len {F : Fm} {vw : List (List Ev)} (h : VwFit F vw) : ∀ n, ((List.range n).flatMap fun d => (devS F vw d ((vw.getD d []).length - 1)).1).length ≤ 2560 * n
  | 0 => Nat.le_refl _
  | n + 1 => by
    have h1 := vwN_len h n
    have h2 := devS_len h.cl vw n ((vw.getD n []).length - 1)
    have h3 := h.el n
    rw [rangeB, List.length_append]
    omega
end Vs

namespace Vs
open PySem PySem.Spec PyProof.Rows L2
/-! ### the drawn rows, and lists of data beside them, each at a place of its own -/
structure Wd (K : PySem.W.Frag) (H : Hp) (r : Addr) (n : Nat) (ls : List (Addr × List PyData)) (is : List (Addr × HO)) : Prop where
  rows : RwAt H r n
  la : ∀ p ∈ ls, LsI K H p.1 p.2
  ia : ∀ p ∈ is, H p.1 = some p.2
  nd : (r :: (ls.map (·.1) ++ is.map (·.1))).Nodup
section
variable {K : PySem.W.Frag} {H H' : Hp} {r : Addr} {n : Nat} {ls : List (Addr × List PyData)} {is : List (Addr × HO)}
theorem Wd.one (h : RwAt H r n) : Wd K H r n [] [] := ⟨h, fun p hp => by simp at hp, fun p hp => by simp at hp, by simp⟩
theorem Wd.keep (w : Wd K H r n ls is) (s : Same H H') : Wd K H' r n ls is := ⟨w.rows.keep s, fun p hp => (w.la p hp).keep s, fun p hp => s _ _ (w.ia p hp), w.nd⟩
theorem Wd.nr (w : Wd K H r n ls is) {p : Addr × List PyData} (hp : p ∈ ls) : p.1 ≠ r := fun e => (List.nodup_cons.mp w.nd).1 (by rw [← e]; exact List.mem_append.mpr (.inl (List.mem_map.mpr ⟨p, hp, rfl⟩)))
theorem Wd.nri (w : Wd K H r n ls is) {p : Addr × HO} (hp : p ∈ is) : p.1 ≠ r := fun e => (List.nodup_cons.mp w.nd).1 (by rw [← e]; exact List.mem_append.mpr (.inr (List.mem_map.mpr ⟨p, hp, rfl⟩)))
theorem Wd.take (w : Wd K H r n ls is) (b : But r H H') (h : RwAt H' r n) : Wd K H' r n ls is := by
  obtain ⟨xs, hx⟩ := w.rows.lst
  exact ⟨h, fun p hp => (w.la p hp).but b hx (w.nr hp), fun p hp => b _ _ (w.nri hp) (w.ia p hp), w.nd⟩
theorem Wd.free (w : Wd K H r n ls is) {a : Addr} (h : H a = none) : a ∉ (r :: (ls.map (·.1) ++ is.map (·.1))) := fun m => by
  rcases List.mem_cons.mp m with e | m
  · exact w.rows.ne h e
  · rcases List.mem_append.mp m with m | m
    · obtain ⟨p, hp, rfl⟩ := List.mem_map.mp m
      obtain ⟨xs, hx⟩ := (w.la p hp).lst
      rw [hx] at h
      cases h
    · obtain ⟨p, hp, rfl⟩ := List.mem_map.mp m
      rw [w.ia p hp] at h
      cases h
theorem Wd.new (w : Wd K H r n ls is) (s : Same H H') {a : Addr} {ds : List PyData} (h : H a = none) (l : LsI K H' a ds) : Wd K H' r n ((a, ds) :: ls) is := by
  have w' := w.keep s
  have f := w.free h
  refine ⟨w'.rows, fun p hp => ?_, w'.ia, ?_⟩
  · rcases List.mem_cons.mp hp with e | hp
    · rw [e]; exact l
    · exact w'.la p hp
  · have nd := w.nd
    rw [List.nodup_cons] at nd ⊢
    refine ⟨fun m => ?_, ?_⟩
    · rcases List.mem_cons.mp m with e | m
      · exact f (List.mem_cons.mpr (.inl e.symm))
      · exact nd.1 m
    · show (a :: (ls.map (·.1) ++ is.map (·.1))).Nodup
      rw [List.nodup_cons]
      exact ⟨fun m => f (List.mem_cons.mpr (.inr m)), nd.2⟩
theorem Wd.newI (w : Wd K H r n ls is) (s : Same H H') {a : Addr} {o : HO} (h : H a = none) (l : H' a = some o) : Wd K H' r n ls ((a, o) :: is) := by
  have w' := w.keep s
  have f := w.free h
  refine ⟨w'.rows, w'.la, fun p hp => ?_, ?_⟩
  · rcases List.mem_cons.mp hp with e | hp
    · rw [e]; exact l
    · exact w'.ia p hp
  · have nd := w.nd
    have e : (r :: (ls.map (·.1) ++ ((a, o) :: is).map (·.1))).Perm (a :: (r :: (ls.map (·.1) ++ is.map (·.1)))) := by
      show (r :: (ls.map (·.1) ++ (a :: is.map (·.1)))).Perm _
      exact (List.Perm.cons r List.perm_middle).trans (List.Perm.swap a r _)
    rw [e.nodup_iff, List.nodup_cons]
    exact ⟨f, nd⟩
theorem set_fst (i : Nat) (a : Addr) (ds ds' : List PyData) (hi : ls[i]? = some (a, ds)) : (ls.set i (a, ds')).map (·.1) = ls.map (·.1) := by
  have hl := (List.getElem?_eq_some_iff.mp hi).1
  rw [List.map_set]
  apply List.ext_getElem?
  intro j
  by_cases e : i = j
  · subst e
    rw [List.getElem?_set_self (by rw [List.length_map]; exact hl), List.getElem?_map, hi]
    rfl
  · rw [List.getElem?_set_ne e]
theorem Wd.put (w : Wd K H r n ls is) {i : Nat} {a : Addr} {ds ds' : List PyData} {ws : List V} (hi : ls[i]? = some (a, ds)) (hI : ImL K H ds' ws) : Wd K (upd H a (.lst ws)) r n (ls.set i (a, ds')) is := by
  have hm : (a, ds) ∈ ls := List.mem_of_getElem? hi
  obtain ⟨xs, hx⟩ := (w.la _ hm).lst
  have hx : H a = some (.lst xs) := hx
  have tk : TupK H (upd H a (.lst ws)) := .set hx
  have nd2 := (List.nodup_cons.mp w.nd).2
  refine ⟨w.rows.but But.set (w.nr hm).symm, fun p hp => ?_, fun p hp => ?_, by rw [set_fst i a ds ds' hi]; exact w.nd⟩
  · obtain ⟨j, hj⟩ := List.getElem?_of_mem hp
    by_cases e : i = j
    · subst e
      rw [List.getElem?_set_self (List.getElem?_eq_some_iff.mp hi).1] at hj
      cases hj
      exact ⟨ws, upd_same, ImL.mono tk _ hI⟩
    · rw [List.getElem?_set_ne e] at hj
      have ne : p.1 ≠ a := fun ea => e (by
        have nl := (List.nodup_append.mp nd2).1
        have h1 : (ls.map (·.1))[i]? = some a := by rw [List.getElem?_map, hi]; rfl
        have h2 : (ls.map (·.1))[j]? = some a := by rw [List.getElem?_map, hj, ← ea]; rfl
        exact nd_ix nl h1 h2)
      exact (w.la p (List.mem_of_getElem? hj)).but But.set hx ne
  · have ne : p.1 ≠ a := fun ea => (List.nodup_append.mp nd2).2.2 a (List.mem_map.mpr ⟨_, hm, rfl⟩) p.1 (List.mem_map.mpr ⟨p, hp, rfl⟩) ea.symm
    rw [upd_ne ne]
    exact w.ia p hp
theorem Wd.snoc (w : Wd K H r n ls is) (i : Nat) {a : Addr} {ds : List PyData} {d : PyData} {v : V} (hi : ls[i]? = some (a, ds)) (g : Im K H d v) : ∃ vs, H a = some (.lst vs) ∧ vs.length = ds.length ∧ Wd K (upd H a (.lst (vs ++ [v]))) r n (ls.set i (a, ds ++ [d])) is := by
  obtain ⟨vs, h1, h2⟩ := w.la _ (List.mem_of_getElem? hi)
  exact ⟨vs, h1, h2.len, w.put hi (h2.snoc g)⟩
theorem Wd.app (w : Wd K H r n ls is) (i : Nat) {a b : Addr} {ds es : List PyData} (hi : ls[i]? = some (a, ds)) (g : LsI K H b es) : ∃ vs ws, H a = some (.lst vs) ∧ H b = some (.lst ws) ∧ vs.length = ds.length ∧ ws.length = es.length ∧ Wd K (upd H a (.lst (vs ++ ws))) r n (ls.set i (a, ds ++ es)) is := by
  obtain ⟨vs, h1, h2⟩ := w.la _ (List.mem_of_getElem? hi)
  obtain ⟨ws, g1, g2⟩ := g
  exact ⟨vs, ws, h1, g1, h2.len, g2.len, w.put hi (h2.app g2)⟩
theorem Wd.at (w : Wd K H r n ls is) (i : Nat) {a : Addr} {ds : List PyData} (hi : ls[i]? = some (a, ds)) : LsI K H a ds := w.la _ (List.mem_of_getElem? hi)
theorem Wd.ati (w : Wd K H r n ls is) (i : Nat) {a : Addr} {o : HO} (hi : is[i]? = some (a, o)) : H a = some o := w.ia _ (List.mem_of_getElem? hi)
theorem Wd.tk (w : Wd K H r n ls is) (b : But r H H') : TupK H H' := w.rows.tk b
theorem Wd.mk1 (h : RwAt H r n) {a : Addr} {ds : List PyData} (l : LsI K H a ds) (ne : a ≠ r) : Wd K H r n [(a, ds)] [] :=
  ⟨h, fun p hp => by rw [List.mem_singleton.mp hp]; exact l, fun p hp => by simp at hp, by simp [ne.symm]⟩
theorem Wd.news (w : Wd K H r n ls is) (s : Same H H') {ls2 : List (Addr × List PyData)} {is2 : List (Addr × HO)} (h1 : ∀ p ∈ ls2, LsI K H' p.1 p.2 ∧ H p.1 = none) (h2 : ∀ p ∈ is2, H' p.1 = some p.2 ∧ H p.1 = none) (nd : (ls2.map (·.1) ++ is2.map (·.1)).Nodup) : Wd K H' r n (ls2 ++ ls) (is2 ++ is) := by
  have w' := w.keep s
  refine ⟨w'.rows, fun p hp => ?_, fun p hp => ?_, ?_⟩
  · rcases List.mem_append.mp hp with hp | hp
    · exact (h1 p hp).1
    · exact w'.la p hp
  · rcases List.mem_append.mp hp with hp | hp
    · exact (h2 p hp).1
    · exact w'.ia p hp
  · have pm : (r :: ((ls2 ++ ls).map (·.1) ++ (is2 ++ is).map (·.1))).Perm ((ls2.map (·.1) ++ is2.map (·.1)) ++ (r :: (ls.map (·.1) ++ is.map (·.1)))) := by
      rw [List.perm_iff_count]
      intro a
      simp only [List.map_append, List.count_append, List.count_cons]
      omega
    rw [pm.nodup_iff, List.nodup_append]
    refine ⟨nd, w.nd, fun a ha b hb e => ?_⟩
    subst e
    rcases List.mem_append.mp ha with ha | ha
    · obtain ⟨p, hp, rfl⟩ := List.mem_map.mp ha
      exact w.free (h1 p hp).2 hb
    · obtain ⟨p, hp, rfl⟩ := List.mem_map.mp ha
      exact w.free (h2 p hp).2 hb
/-- taken out of the bundle -/
theorem Wd.drop (w : Wd K H r n ls is) (m : Nat) : Wd K H r n (ls.drop m) is := ⟨w.rows, fun p hp => w.la p (List.mem_of_mem_drop hp), w.ia, by
  refine List.Nodup.sublist ?_ w.nd
  refine List.Sublist.cons₂ _ (List.Sublist.append ?_ (List.Sublist.refl _))
  exact List.Sublist.map _ (List.drop_sublist m ls)⟩
end
/-- a number's text is short -/
theorem numT {i : Nat} (h : i ≤ 1000) : In18 ((0 : Int) + (i : Int)) := by
  rw [Int.zero_add]
  exact In18.small h
theorem devS2_len (F : Fm) (vw : List (List Ev)) (d : Nat) : ∀ j, (devS F vw d j).2.length = (cks F d).length
  | 0 => List.length_replicate
  | j + 1 => by
    show (evH F d _ _ _).length = _
    unfold evH
    rw [List.length_map, List.length_range]
theorem cks_none {F : Fm} (h : F.clocks = []) (d : Int) : cks F d = [] := by
  unfold cks
  rw [h]
  rfl
theorem one_getD {α : Type} (x : α) (d : Nat) (z : α) : ([x] : List α).getD d z = if d = 0 then x else z := by
  cases d with
  | zero => rfl
  | succ d => rfl
theorem flatM_congr {f g : Nat → List Bd} : ∀ {n : Nat}, (∀ i, i < n → f i = g i) → (List.range n).flatMap f = (List.range n).flatMap g
  | 0, _ => rfl
  | n + 1, h => by
    rw [rangeB, rangeB, flatM_congr fun i hi => h i (by omega), h n (by omega)]
theorem snoc_getD {α : Type} {xs : List α} {x z : α} {i : Nat} (h : i < xs.length) : (xs ++ [x]).getD i z = xs.getD i z := by
  rw [List.getD_eq_getElem?_getD, List.getD_eq_getElem?_getD, List.getElem?_append_left h]
theorem snoc_getD' {α : Type} {xs : List α} {x z : α} : (xs ++ [x]).getD xs.length z = x := by
  rw [List.getD_eq_getElem?_getD, List.getElem?_append_right (Nat.le_refl _), Nat.sub_self]
  rfl
end Vs

namespace Vs
open PySem PySem.Spec PyProof.Rows L2
theorem pe_fldK {X : Cx} {e : Expr} {f : Str} {pos : Pos} {ta : TE} (K : PySem.W.Frag) (hK : X.K = K) (he : PE X e ta) (hb : attributeBase e f X.env (eval e X.env) = eval e X.env) : PE X (.Attribute e f pos) (tFld K ta f) := by
  subst hK
  exact pe_fld he hb
/-! ### a law's own hands: a list of lists -/
def HdL (K : PySem.W.Frag) (H : Hp) (a : Addr) (h : HdM) : Prop := ∃ x, H a = some (.lst [x, .int h.shown, .int h.kind]) ∧ Im K H (opP h.pt) x
structure HLi (K : PySem.W.Frag) (H : Hp) (hl : Addr) (rs : List Addr) (hs : List HdM) : Prop where
  l : H hl = some (.lst (rs.map V.ref))
  e : Each (HdL K H) rs hs
  n : hl ∉ rs
section
variable {K : PySem.W.Frag} {H H' : Hp} {hl : Addr} {rs : List Addr} {hs : List HdM}
theorem HdL.keep {a h} (e : Same H H') (g : HdL K H a h) : HdL K H' a h := by
  obtain ⟨x, h1, h2⟩ := g
  exact ⟨x, e _ _ h1, Im.mono (.of e) _ h2⟩
theorem HdL.but {o a : Addr} {xs : List V} {h : HdM} (e : But o H H') (ho : H o = some (.lst xs)) (n : a ≠ o) (g : HdL K H a h) : HdL K H' a h := by
  obtain ⟨x, h1, h2⟩ := g
  exact ⟨x, e _ _ n h1, Im.mono (.but e ho) _ h2⟩
theorem HLi.keep (e : Same H H') (g : HLi K H hl rs hs) : HLi K H' hl rs hs := ⟨e _ _ g.l, g.e.keep fun _ _ z => z.keep e, g.n⟩
theorem Each.imp {α : Type} {P P' : Addr → α → Prop} {as xs} (h : Each P as xs) (f : ∀ a x, a ∈ as → P a x → P' a x) : Each P' as xs := ⟨h.1, fun i a x h1 h2 => f a x (List.mem_of_getElem? h1) (h.2 i a x h1 h2)⟩
theorem HLi.but {o : Addr} {xs : List V} (e : But o H H') (ho : H o = some (.lst xs)) (n : o ∉ hl :: rs) (g : HLi K H hl rs hs) : HLi K H' hl rs hs := by
  rw [List.mem_cons, not_or] at n
  exact ⟨e _ _ (Ne.symm n.1) g.l, g.e.imp fun a _ ha z => z.but e ho fun x => n.2 (x ▸ ha), g.n⟩
theorem HLi.free {a : Addr} (g : HLi K H hl rs hs) (h : H a = none) : a ∉ hl :: rs := fun m => by
  rcases List.mem_cons.mp m with e | m
  · rw [e, g.l] at h; cases h
  · obtain ⟨i, hi⟩ := List.getElem?_of_mem m
    obtain ⟨x, _, y, h1, _⟩ := g.e.get hi
    rw [h1] at h
    cases h
/-- one hand is put in another's place -/
theorem HLi.set (g : HLi K H hl rs hs) {a : Addr} {h : HdM} (na : a ≠ hl) (ha : HdL K H a h) (i : Nat) : HLi K (upd H hl (.lst ((rs.set i a).map V.ref))) hl (rs.set i a) (hs.set i h) := by
  have b : But hl H (upd H hl (.lst ((rs.set i a).map V.ref))) := But.set
  refine ⟨upd_same, (g.e.set ha).imp fun c z hc q => q.but b g.l ?_, fun m => ?_⟩
  · intro e
    rcases List.mem_or_eq_of_mem_set hc with m | m
    · exact g.n (e ▸ m)
    · exact na (m.symm.trans e)
  · rcases List.mem_or_eq_of_mem_set m with m | m
    · exact g.n m
    · exact na m.symm
variable {r : Addr} {n : Nat} {ls : List (Addr × List PyData)} {is : List (Addr × HO)}
def adrs (r : Addr) (ls : List (Addr × List PyData)) (is : List (Addr × HO)) : List Addr := r :: (ls.map (·.1) ++ is.map (·.1))
theorem Wd.but (w : Wd K H r n ls is) {o : Addr} {xs : List V} (e : But o H H') (ho : H o = some (.lst xs)) (no : o ∉ adrs r ls is) : Wd K H' r n ls is := by
  unfold adrs at no
  rw [List.mem_cons, List.mem_append, not_or, not_or] at no
  refine ⟨w.rows.but e (Ne.symm no.1), fun p hp => (w.la p hp).but e ho fun x => no.2.1 (x ▸ List.mem_map.mpr ⟨p, hp, rfl⟩), fun p hp => e _ _ (fun x => no.2.2 (x ▸ List.mem_map.mpr ⟨p, hp, rfl⟩)) (w.ia p hp), w.nd⟩
/-- the bundle, and hands beside it -/
structure Hw (K : PySem.W.Frag) (H : Hp) (r : Addr) (n : Nat) (ls : List (Addr × List PyData)) (is : List (Addr × HO)) (hl : Addr) (rs : List Addr) (hs : List HdM) : Prop where
  w : Wd K H r n ls is
  h : HLi K H hl rs hs
  d : ∀ a ∈ hl :: rs, a ∉ adrs r ls is
theorem Hw.keep (g : Hw K H r n ls is hl rs hs) (e : Same H H') : Hw K H' r n ls is hl rs hs := ⟨g.w.keep e, g.h.keep e, g.d⟩
theorem Hw.take (g : Hw K H r n ls is hl rs hs) (b : But r H H') (h : RwAt H' r n) : Hw K H' r n ls is hl rs hs := by
  obtain ⟨xs, hx⟩ := g.w.rows.lst
  exact ⟨g.w.take b h, g.h.but b hx fun m => g.d r m (List.mem_cons_self), g.d⟩
theorem Hw.new (g : Hw K H r n ls is hl rs hs) (s : Same H H') {a : Addr} {ds : List PyData} (h : H a = none) (l : LsI K H' a ds) : Hw K H' r n ((a, ds) :: ls) is hl rs hs := by
  refine ⟨g.w.new s h l, g.h.keep s, fun b hb m => ?_⟩
  unfold adrs at m
  rcases List.mem_cons.mp m with e | m
  · exact g.d b hb (e ▸ List.mem_cons_self)
  · rcases List.mem_append.mp m with m | m
    · rcases List.mem_cons.mp m with e | m
      · have e : b = a := e
        rw [e] at hb
        exact g.h.free h hb
      · exact g.d b hb (List.mem_cons.mpr (.inr (List.mem_append.mpr (.inl m))))
    · exact g.d b hb (List.mem_cons.mpr (.inr (List.mem_append.mpr (.inr m))))
theorem Hw.put (g : Hw K H r n ls is hl rs hs) {i : Nat} {a : Addr} {ds ds' : List PyData} {ws : List V} (hi : ls[i]? = some (a, ds)) (hI : ImL K H ds' ws) : Hw K (upd H a (.lst ws)) r n (ls.set i (a, ds')) is hl rs hs := by
  have hm : (a, ds) ∈ ls := List.mem_of_getElem? hi
  obtain ⟨xs, hx⟩ := (g.w.la _ hm).lst
  have hx : H a = some (.lst xs) := hx
  have ha : a ∈ adrs r ls is := List.mem_cons.mpr (.inr (List.mem_append.mpr (.inl (List.mem_map.mpr ⟨_, hm, rfl⟩))))
  refine ⟨g.w.put hi hI, g.h.but But.set hx fun m => g.d a m ha, fun b hb m => g.d b hb ?_⟩
  unfold adrs at m ⊢
  rw [set_fst i a ds ds' hi] at m
  exact m
theorem Hw.snoc (g : Hw K H r n ls is hl rs hs) (i : Nat) {a : Addr} {ds : List PyData} {d : PyData} {v : V} (hi : ls[i]? = some (a, ds)) (q : Im K H d v) : ∃ vs, H a = some (.lst vs) ∧ vs.length = ds.length ∧ Hw K (upd H a (.lst (vs ++ [v]))) r n (ls.set i (a, ds ++ [d])) is hl rs hs := by
  obtain ⟨vs, h1, h2⟩ := g.w.la _ (List.mem_of_getElem? hi)
  exact ⟨vs, h1, h2.len, g.put hi (h2.snoc q)⟩
theorem Hw.drop (g : Hw K H r n ls is hl rs hs) (m : Nat) : Hw K H r n (ls.drop m) is hl rs hs := ⟨g.w.drop m, g.h, fun b hb z => g.d b hb (by
  unfold adrs at z ⊢
  rcases List.mem_cons.mp z with e | z
  · exact List.mem_cons.mpr (.inl e)
  · rcases List.mem_append.mp z with z | z
    · obtain ⟨p, hp, rfl⟩ := List.mem_map.mp z
      exact List.mem_cons.mpr (.inr (List.mem_append.mpr (.inl (List.mem_map.mpr ⟨p, List.mem_of_mem_drop hp, rfl⟩))))
    · exact List.mem_cons.mpr (.inr (List.mem_append.mpr (.inr z))))⟩
/-- the hands are other ones -/
theorem Hw.hands (g : Hw K H r n ls is hl rs hs) {rs' : List Addr} {hs' : List HdM} (b : But hl H H') (h : HLi K H' hl rs' hs') (fp : ∀ a ∈ rs', a ∈ rs ∨ H a = none) : Hw K H' r n ls is hl rs' hs' := by
  refine ⟨g.w.but b g.h.l (g.d hl List.mem_cons_self), h, fun a ha m => ?_⟩
  rcases List.mem_cons.mp ha with e | ha
  · exact g.d hl List.mem_cons_self (e ▸ m)
  · rcases fp a ha with q | q
    · exact g.d a (List.mem_cons.mpr (.inr q)) m
    · exact g.w.free q m
end
theorem Wd.sub {K : PySem.W.Frag} {H : Hp} {r : Addr} {n : Nat} {ls ls' : List (Addr × List PyData)} {is : List (Addr × HO)} (w : Wd K H r n ls is) (s : List.Sublist ls' ls) : Wd K H r n ls' is := ⟨w.rows, fun p hp => w.la p (s.subset hp), w.ia, List.Nodup.sublist (List.Sublist.cons₂ _ (List.Sublist.append (List.Sublist.map _ s) (List.Sublist.refl _))) w.nd⟩
theorem adrs_sub {r : Addr} {ls ls' : List (Addr × List PyData)} {is : List (Addr × HO)} (s : List.Sublist ls' ls) {a : Addr} (h : a ∈ adrs r ls' is) : a ∈ adrs r ls is := (List.Sublist.cons₂ _ (List.Sublist.append (List.Sublist.map _ s) (List.Sublist.refl _))).subset h
section
variable {K : PySem.W.Frag} {H H' : Hp} {hl : Addr} {rs : List Addr} {hs : List HdM} {r : Addr} {n : Nat} {ls : List (Addr × List PyData)} {is : List (Addr × HO)}
theorem Hw.sub {ls' : List (Addr × List PyData)} (g : Hw K H r n ls is hl rs hs) (s : List.Sublist ls' ls) : Hw K H r n ls' is hl rs hs := ⟨g.w.sub s, g.h, fun a ha m => g.d a ha (adrs_sub s m)⟩
theorem Wd.add (w : Wd K H r n ls is) {a : Addr} {ds : List PyData} (f : a ∉ adrs r ls is) (l : LsI K H a ds) : Wd K H r n ((a, ds) :: ls) is := by
  unfold adrs at f
  refine ⟨w.rows, fun p hp => ?_, w.ia, ?_⟩
  · rcases List.mem_cons.mp hp with e | hp
    · rw [e]; exact l
    · exact w.la p hp
  · have nd := w.nd
    rw [List.nodup_cons] at nd ⊢
    refine ⟨fun m => ?_, ?_⟩
    · rcases List.mem_cons.mp m with e | m
      · exact f (List.mem_cons.mpr (.inl e.symm))
      · exact nd.1 m
    · show (a :: (ls.map (·.1) ++ is.map (·.1))).Nodup
      rw [List.nodup_cons]
      exact ⟨fun m => f (List.mem_cons.mpr (.inr m)), nd.2⟩
theorem Hw.add (g : Hw K H r n ls is hl rs hs) {a : Addr} {ds : List PyData} (f : a ∉ adrs r ls is) (f2 : a ∉ hl :: rs) (l : LsI K H a ds) : Hw K H r n ((a, ds) :: ls) is hl rs hs := by
  refine ⟨g.w.add f l, g.h, fun b hb m => ?_⟩
  unfold adrs at m
  rcases List.mem_cons.mp m with e | m
  · exact g.d b hb (e ▸ List.mem_cons_self)
  · rcases List.mem_append.mp m with m | m
    · rcases List.mem_cons.mp m with e | m
      · have e : b = a := e
        rw [e] at hb
        exact f2 hb
      · exact g.d b hb (List.mem_cons.mpr (.inr (List.mem_append.mpr (.inl m))))
    · exact g.d b hb (List.mem_cons.mpr (.inr (List.mem_append.mpr (.inr m))))
/-- rows drawn while a new list was made -/
theorem Hw.taken (g : Hw K H r n ls is hl rs hs) (b : But r H H') (h : RwAt H' r n) {a : Addr} {ds : List PyData} (na : H a = none) (l : LsI K H' a ds) : Hw K H' r n ((a, ds) :: ls) is hl rs hs := (g.take b h).add (g.w.free na) (g.h.free na) l
end
theorem ints_map (ns : List Int) : ns.map PyData.int = ns.map PyData.int := rfl
theorem LsI.ofInts {K : PySem.W.Frag} {H : Hp} {a : Addr} {ns : List Int} (h : H a = some (.lst (ns.map V.int))) : LsI K H a (ns.map PyData.int) := ⟨_, h, ImL.ints⟩
theorem LsI.toInts {K : PySem.W.Frag} {H : Hp} {a : Addr} {ns : List Int} (h : LsI K H a (ns.map PyData.int)) : H a = some (.lst (ns.map V.int)) := by
  obtain ⟨vs, h1, h2⟩ := h
  rw [h2.uints] at h1
  exact h1
/-! ### all clocks of one device -/
theorem ckN_all {cs : List Cl} {j : Int} (h : ∀ c ∈ cs, c.dev = j) : ∀ n, n ≤ cs.length → ckN cs j n = (List.range n).map fun (i : Nat) => (i : Int)
  | 0, _ => rfl
  | n + 1, hn => by
    have hi : n < cs.length := hn
    rw [ckN_yes (List.getElem?_eq_getElem hi) (h _ (List.getElem_mem hi)), ckN_all h n (by omega), rangeH]
theorem range_getD {n i : Nat} (h : i < n) : ((List.range n).map fun (i : Nat) => (i : Int)).getD i 0 = (i : Int) := by
  rw [List.getD_eq_getElem?_getD, List.getElem?_map, List.getElem?_range h]
  rfl
theorem set_mid {α : Type} {A B : List α} {x b : α} {i : Nat} (h : A.length = i) : (A ++ b :: B).set i x = A ++ x :: B := by
  subst h
  rw [List.set_append_right _ _ (Nat.le_refl _), Nat.sub_self]
  rfl
end Vs

namespace Vs
open PySem PySem.Spec PyProof.Rows L2
/-! ### a clock that runs (law 24): what it shows, its kind, how old its unit is and how long, what was drawn -/
structure Cs where
  v : Int
  k : Int
  e : Int
  l : Int
  m : Int
def Cs.ns (c : Cs) : List Int := [c.v, c.k, 0, c.e, c.l, c.m]
def loK (ks : List Kd) (k : Int) : Int := (kdOf ks k).low
def hiK (ks : List Kd) (k : Int) : Int := hiOf (kdOf ks k)
structure CsOk (ks : List Kd) (c : Cs) : Prop where
  e0 : 0 ≤ c.e
  el : c.e < c.l
  ll : loK ks c.k ≤ c.l
  lh : c.l ≤ hiK ks c.k
  k6 : Six ks c.k
  m0 : 0 ≤ c.m
structure Ran (ks : List Kd) (c d : Cs) (a : Int) : Prop where
  k : d.k = c.k
  ok : CsOk ks d
  u : c.v ≤ d.v
  z : d.v = c.v → d.e = c.e + a ∧ d.l = c.l
  p : c.v < d.v → ∃ S, a = (c.l - c.e) + S + d.e ∧ loK ks c.k * (d.v - c.v - 1) ≤ S ∧ S ≤ hiK ks c.k * (d.v - c.v - 1)
theorem Ran.refl {ks : List Kd} {c : Cs} (h : CsOk ks c) : Ran ks c c 0 := ⟨rfl, h, Int.le_refl _, fun _ => ⟨by omega, rfl⟩, fun h => by omega⟩
theorem Ran.one {ks : List Kd} {c d : Cs} {a : Int} (h : Ran ks c d a) (g : d.e + 1 < d.l) : Ran ks c ⟨d.v, d.k, d.e + 1, d.l, d.m⟩ (a + 1) := by
  have o := h.ok
  refine ⟨h.k, ⟨by have := o.e0; show 0 ≤ d.e + 1; omega, g, o.ll, o.lh, o.k6, o.m0⟩, h.u, fun z => ?_, fun z => ?_⟩
  · obtain ⟨z1, z2⟩ := h.z z
    exact ⟨by show d.e + 1 = c.e + (a + 1); omega, z2⟩
  · obtain ⟨S, s1, s2, s3⟩ := h.p z
    exact ⟨S, by show a + 1 = (c.l - c.e) + S + (d.e + 1); omega, s2, s3⟩
theorem Ran.next {ks : List Kd} {c d : Cs} {a l : Int} (h : Ran ks c d a) (g : ¬ d.e + 1 < d.l) (l1 : loK ks c.k ≤ l) (l2 : l ≤ hiK ks c.k) (l0 : 0 < l) : Ran ks c ⟨d.v + 1, d.k, 0, l, d.m + 1⟩ (a + 1) := by
  have o := h.ok
  have ek := h.k
  have eu := h.u
  have el := o.el
  have ll := o.ll
  have lh := o.lh
  rw [ek] at ll lh
  refine ⟨h.k, ⟨Int.le_refl _, l0, by rw [ek]; exact l1, by rw [ek]; exact l2, o.k6, by have := o.m0; show 0 ≤ d.m + 1; omega⟩, by show c.v ≤ d.v + 1; omega, fun z => ?_, fun z => ?_⟩
  · have z : d.v + 1 = c.v := z
    omega
  · by_cases e : d.v = c.v
    · obtain ⟨z1, z2⟩ := h.z e
      refine ⟨0, by show a + 1 = (c.l - c.e) + 0 + 0; omega, ?_, ?_⟩
      · show loK ks c.k * (d.v + 1 - c.v - 1) ≤ 0
        rw [show d.v + 1 - c.v - 1 = 0 from by omega, Int.mul_zero]
        exact Int.le_refl _
      · show 0 ≤ hiK ks c.k * (d.v + 1 - c.v - 1)
        rw [show d.v + 1 - c.v - 1 = 0 from by omega, Int.mul_zero]
        exact Int.le_refl _
    · obtain ⟨S, s1, s2, s3⟩ := h.p (by omega)
      refine ⟨S + d.l, by show a + 1 = (c.l - c.e) + (S + d.l) + 0; omega, ?_, ?_⟩
      · show loK ks c.k * (d.v + 1 - c.v - 1) ≤ S + d.l
        rw [show d.v + 1 - c.v - 1 = (d.v - c.v - 1) + 1 from by omega, Int.mul_add, Int.mul_one]
        omega
      · show S + d.l ≤ hiK ks c.k * (d.v + 1 - c.v - 1)
        rw [show d.v + 1 - c.v - 1 = (d.v - c.v - 1) + 1 from by omega, Int.mul_add, Int.mul_one]
        omega
/-- a bound is met by the times of its points -/
def Met (t : Pt → Option Int) (b : Bd) : Prop := ∃ x y, t b.one = some x ∧ t b.two = some y ∧ y ≤ x + b.amount
theorem Met.mono {t t' : Pt → Option Int} (h : ∀ p x, t p = some x → t' p = some x) {b : Bd} (m : Met t b) : Met t' b := by
  obtain ⟨x, y, h1, h2, h3⟩ := m
  exact ⟨x, y, h _ _ h1, h _ _ h2, h3⟩
structure HdT (t : Pt → Option Int) (T : Int) (c : Cs) (h : HdM) : Prop where
  k : h.kind = c.k
  p : ∀ q, h.pt = some q → t q = some (T - c.e) ∧ h.shown = c.v
theorem ftl_met {t : Pt → Option Int} {a b : Pt} {lo hi part x y : Int} (ha : t a = some x) (hb : t b = some y) (h1 : lo ≤ y - x) (h2 : y - x ≤ hi) : ∀ z ∈ ftl a b lo hi part, Met t z := by
  intro z hz
  unfold ftl at hz
  rcases List.mem_cons.mp hz with e | hz
  · rw [e]
    exact ⟨x, y, ha, hb, by show y ≤ x + hi; omega⟩
  · rw [List.mem_singleton.mp hz]
    exact ⟨y, x, hb, ha, by show x ≤ y + -lo; omega⟩
/-- what the law's clock does before a look -/
def Went (ks : List Kd) (goes asleep : Bool) (c d : Cs) (a : Int) : Prop := if (goes || !asleep) = true then Ran ks c d a else d = c
/-- what its device does to it then -/
inductive Done (ks : List Kd) (d : Cs) : Cs → Dd → Prop
  | note : Done ks d d ⟨0, []⟩
  | set (v l m : Int) : v ≠ d.v → CsOk ks ⟨v, d.k, 0, l, m⟩ → Done ks d ⟨v, d.k, 0, l, m⟩ ⟨0, []⟩
  | kind (k l m : Int) : CsOk ks ⟨d.v, k, 0, l, m⟩ → Done ks d ⟨d.v, k, 0, l, m⟩ ⟨1, [0, k]⟩
theorem clock24 {C : Cl} {t : Pt → Option Int} {T T' n : Int} {c d : Cs} {e : Ev} {h : HdM} (hp : e.deed.place ≠ 8) (hlo : 0 ≤ loK C.kinds c.k) (w : Went C.kinds C.goes e.asleep c d (T' - T)) (ok : CsOk C.kinds c) (hh : HdT t T c h) (h0 : t ⟨0, n - 1, -1⟩ = some T) (h1 : t ⟨0, n, -1⟩ = some T') (h2 : t ⟨0, n, 0⟩ = some (T' - d.e)) : ∀ b ∈ clockM C 0 0 n e d.v h, Met t b := by
  have dok : CsOk C.kinds d ∧ d.k = c.k := by
    unfold Went at w
    split at w
    · exact ⟨w.ok, w.k⟩
    · rw [w]; exact ⟨ok, rfl⟩
  obtain ⟨dok, dk⟩ := dok
  have e0 := dok.e0
  have el := dok.el
  have lh := dok.lh
  have c0 := ok.e0
  have cl := ok.el
  have c1 := ok.ll
  have c2 := ok.lh
  rw [dk] at lh
  have hk : h.kind = c.k := hh.k
  have last : ∀ b ∈ ftl ⟨0, n, 0⟩ ⟨0, n, -1⟩ 0 (hiOf (kdOf C.kinds h.kind)) 0, Met t b := ftl_met h2 h1 (by omega) (by rw [hk]; show _ ≤ hiK C.kinds c.k; omega)
  unfold clockM
  cases hs : sinceM C.goes e h with
  | none => exact last
  | some q =>
    have hrun : (C.goes || !e.asleep) = true ∧ h.pt = some q := by
      unfold sinceM at hs
      rw [decide_eq_false hp, Bool.false_or] at hs
      cases hg : C.goes <;> cases ha : e.asleep <;> rw [hg, ha] at hs <;> simp at hs ⊢ <;> exact hs
    obtain ⟨hrun, hq⟩ := hrun
    unfold Went at w
    rw [if_pos hrun] at w
    obtain ⟨tq, hv⟩ := hh.p q hq
    dsimp only
    by_cases z : d.v - h.shown = 0
    · rw [if_pos z]
      obtain ⟨z1, z2⟩ := w.z (by omega)
      exact ftl_met tq h1 (by omega) (by rw [hk]; show _ ≤ hiK C.kinds c.k; omega)
    · rw [if_neg z]
      have u := w.u
      obtain ⟨S, s1, s2, s3⟩ := w.p (by omega)
      rw [hv, hk]
      have m1 : loK C.kinds c.k * (d.v - c.v) = loK C.kinds c.k * (d.v - c.v - 1) + loK C.kinds c.k := by
        rw [show d.v - c.v = (d.v - c.v - 1) + 1 from by omega, Int.mul_add, Int.mul_one, Int.add_sub_cancel]
      have m2 : hiK C.kinds c.k * (d.v - c.v) = hiK C.kinds c.k * (d.v - c.v - 1) + hiK C.kinds c.k := by
        rw [show d.v - c.v = (d.v - c.v - 1) + 1 from by omega, Int.mul_add, Int.mul_one, Int.add_sub_cancel]
      have m3 : 0 ≤ loK C.kinds c.k * (d.v - c.v - 1) := Int.mul_nonneg hlo (by omega)
      intro b hb
      rcases List.mem_append.mp hb with hb | hb
      · rcases List.mem_append.mp hb with hb | hb
        · rcases List.mem_append.mp hb with hb | hb
          · exact ftl_met tq h2 (by show loK C.kinds c.k * (d.v - c.v) ≤ _; omega) (by show _ ≤ hiK C.kinds c.k * (d.v - c.v); omega) b hb
          · rw [List.mem_singleton.mp hb]
            exact ⟨_, _, h2, tq, by show T - c.e ≤ T' - d.e + -0; omega⟩
        · rw [List.mem_singleton.mp hb]
          exact ⟨_, _, h2, h0, by show T ≤ T' - d.e + -(loK C.kinds c.k * (d.v - c.v - 1)); omega⟩
      · rw [hk] at last
        exact last b hb
theorem hand24 {C : Cl} {t : Pt → Option Int} {T T' n : Int} {c d f : Cs} {e : Ev} {h : HdM} (w : Went C.kinds C.goes e.asleep c d (T' - T)) (dn : Done C.kinds d f e.deed) (hsh : e.shown = [d.v]) (haf : e.after = [f.v]) (hh : HdT t T c h) (h1 : t ⟨0, n, -1⟩ = some T') (h2 : t ⟨0, n, 0⟩ = some (T' - d.e)) : HdT t T' f (handM C 0 0 n e 0 h) := by
  have dk : d.k = c.k := by
    unfold Went at w
    split at w
    · exact w.k
    · rw [w]
  have hk : h.kind = c.k := hh.k
  unfold handM
  rw [hsh, haf]
  generalize hd : e.deed = D at *
  cases dn with
  | kind k l m o =>
    have hg : givenM ⟨1, [0, k]⟩ 0 0 = some k := rfl
    rw [hg]
    exact ⟨rfl, fun q hq => by cases hq; exact ⟨by rw [h1]; show some T' = some (T' - 0); rw [Int.sub_zero], rfl⟩⟩
  | set v l m ne o =>
    have hg : givenM ⟨0, []⟩ 0 0 = none := rfl
    rw [hg]
    dsimp only
    rw [if_pos (show ([v] : List Int).getD 0 0 ≠ [d.v].getD 0 0 from ne)]
    exact ⟨by show h.kind = d.k; omega, fun q hq => by cases hq; exact ⟨by rw [h1]; show some T' = some (T' - 0); rw [Int.sub_zero], rfl⟩⟩
  | note =>
    have hg : givenM ⟨0, []⟩ 0 0 = none := rfl
    rw [hg]
    dsimp only
    rw [if_neg (show ¬ ([d.v].getD 0 0 ≠ [d.v].getD 0 0) from fun z => z rfl)]
    split
    · rename_i g
      obtain ⟨g1, g2⟩ := g
      have hrun : (C.goes || !e.asleep) = true ∧ (sinceM C.goes e h) = h.pt := by
        unfold sinceM at g1 ⊢
        rw [hd] at g1 ⊢
        have e8 : decide ((⟨0, []⟩ : Dd).place = 8) = false := rfl
        rw [e8, Bool.false_or] at g1 ⊢
        cases hg : C.goes <;> cases ha : e.asleep <;> rw [hg, ha] at g1 <;> simp at g1 ⊢
      obtain ⟨hrun, hq⟩ := hrun
      unfold Went at w
      rw [if_pos hrun] at w
      rw [hq] at g1
      refine ⟨by omega, fun q hq2 => ?_⟩
      obtain ⟨tq, hv⟩ := hh.p q hq2
      have g2 : d.v = h.shown := g2
      obtain ⟨z1, z2⟩ := w.z (by omega)
      exact ⟨by rw [tq]; congr 1; omega, by omega⟩
    · exact ⟨by show h.kind = d.k; omega, fun q hq => by cases hq; exact ⟨h2, rfl⟩⟩
/-! ### a display whose keys are tuples -/
def mergeT (kvs : List (List Key × V)) (more : List (List Key × Addr × V)) : List (List Key × V) := more.foldl (fun acc z => putK acc z.1 z.2.2) kvs
def tDispT (trs : List (TE × TE)) : TE := fun σ H Q => ∀ p, H p = none → tPairs trs σ (upd H p (.dT [])) fun ps H2 => H2 p = some (.dT []) ∧ ∃ kvs : List (List Key × Addr × V), ps = kvs.map (fun z => (V.ref z.2.1, z.2.2)) ∧ (∀ z ∈ kvs, H2 z.2.1 = some (.tup (z.1.map kV))) ∧ kvs.length ≤ 15 ∧ Q (.ref p) (upd H2 p (.dT (mergeT [] kvs)))
theorem carriesT {P : Program} {w : World} {H : Hp} {h : Heap} (ok : HOk P w H h) : ∀ {kvs : List (List Key × Addr × V)} {ws : List (Value × Value)}, VV (kvs.map fun z => (V.ref z.2.1, z.2.2)) ws → (∀ z ∈ kvs, H z.2.1 = some (.tup (z.1.map kV))) → ∃ rs : List (List Key × Addr × Value), CarriesH (tupleKind (mixKind P w)) h ws rs ∧ ∀ (acc : List (List Key × V)) (bcc : List (List Key × Addr × Value)), KT H acc bcc → KT H (mergeT acc kvs) (storedAllH bcc rs)
  | [], _, r, _ => by rw [List.map_nil] at r; cases r; exact ⟨[], True.intro, fun _ _ q => q⟩
  | p :: kvs, _, r, hk => by
    rw [List.map_cons] at r
    cases r with
    | @cons a b as bs h1 t =>
      obtain ⟨rs, c, q⟩ := carriesT ok t fun z hz => hk z (List.mem_cons.mpr (.inr hz))
      obtain ⟨b1, b2⟩ := b
      obtain ⟨r1, r2⟩ := h1
      have e1 : b1 = Value.ref p.2.1 := r1
      have hp := hk p (List.mem_cons.mpr (.inl rfl))
      exact ⟨(p.1, p.2.1, b2) :: rs, ⟨e1, rfl, key_of ok hp, c⟩, fun acc bcc g => q _ _ (g.put p.1 hp r2)⟩
theorem length_mergeT : ∀ (more : List (List Key × Addr × V)) (kvs : List (List Key × V)), (mergeT kvs more).length ≤ kvs.length + more.length
  | [], kvs => by show kvs.length ≤ kvs.length + 0; omega
  | p :: r, kvs => by
    have h1 := length_mergeT r (putK kvs p.1 p.2.2)
    have h2 := length_putK kvs p.1 p.2.2
    show (mergeT (putK kvs p.1 p.2.2) r).length ≤ _
    rw [List.length_cons]; omega
theorem pe_dispT {X : Cx} {pos : Pos} {keys : List (Option Expr)} {values : List Expr} {trs : List (TE × TE)} (hu : X.A.units + 1 < cLine) (h : PPs X pos keys values trs) (hall : keys.all (·.isSome) = true) (hl : keys.length = values.length) (h0 : keys ≠ [])
    (h15 : keys.length ≤ 15) : PE X (.Dict keys values pos) (tDispT trs) := by
  refine ⟨fun pins s σ H Q I q => ?_⟩
  have hn := I.hok.fresh (Nat.le_refl s.heap.objs.size)
  have I1 := I.laid (a := s.heap.objs.size) (o := .dT []) (h' := s.heap.push { cls := .type "dict", data := .dict #[] }) (t' := s.toks) (fun _ _ q => Heap.get?_push_of_some _ q) (Nat.le_refl _) (dt_empty s.heap I.big)
  have hnl := pairTrees_length keys values X.env pos hall hl
  have hne : pairTrees keys values X.env pos ≠ [] := fun he => by
    rw [he] at hnl
    exact h0 (List.length_eq_zero_iff.mp hnl.symm)
  rw [arm_eval_Dict, zip_pairTrees keys values X.env pos hall hl, dictDisplay_pairs _ hne (by omega)]
  have hr : (tupleKind (mixKind X.prog X.w)).room X.A := by
    first | exact hu | (show _ < _; omega)
  refine wpAny_bind (wpAny_standAt (wpAny_bind (wpAny_subDictH (knd := tupleKind (mixKind X.prog X.w)) (Q := fun d s' => wpAny (model X.prog X.w) X.A (pure (Value.ref d)) _ X.xe s') hr (by omega) (thn (h.run pins _ σ _ _ I1 (q _ hn)) fun ws s2 ⟨ps, H2, I2, rel, e, kvs, ep, hk, lk, q2⟩ => ?_))))
  subst ep
  obtain ⟨rs, c, g⟩ := carriesT I2.hok rel hk
  obtain ⟨z, hd, xs, r0, dd⟩ := dt_of I2.hok e
  cases r0
  refine ⟨rs, c, dd, fun h' tk dd' hs => wpAny_pure ⟨.ref s.heap.objs.size, _, ?_, rfl, q2⟩⟩
  have hz : (mergeT [] kvs).length ≤ sizeLine := by
    have h1 := length_mergeT kvs []
    rw [List.length_nil] at h1
    rw [sizeLine_eq]; omega
  obtain ⟨o, es, ep, ho, h2, h3, h4, _, h5⟩ := dd'
  refine d_write I2 (by rw [e]; exact True.intro) hs ⟨_, ho⟩ ⟨hz, hd, _, (g [] [] .nil).keeps fun c ys ec => ?_, o, es, ep, ho, h2, h3, h4, h5⟩
  rw [upd_ne (ne_of ec e (fun z => nomatch z))]
  exact ec
end Vs

namespace Vs
open PySem PySem.Spec PyProof.Rows L2
/-! ### a store: things that change, each with a role -/
inductive Cell
  | ob (o : HO)
  | ls (ds : List PyData)
  | rw (n : Nat)
def mov : HO → Bool
  | .lst _ => true
  | .ins _ _ _ => true
  | .dK _ => true
  | .dT _ => true
  | _ => false
def CellAt (K : PySem.W.Frag) (H : Hp) (a : Addr) : Cell → Prop
  | .ob o => H a = some o ∧ mov o = true
  | .ls ds => LsI K H a ds
  | .rw n => RwAt H a n
theorem TupK.butM {H H' : Hp} {o : Addr} {u : HO} (e : But o H H') (ho : H o = some u) (hm : mov u = true) : TupK H H' :=
  ⟨fun _ _ h => e _ _ (ne_of h ho (by intro z; subst z; cases hm)) h, fun _ _ _ h => e _ _ (ne_of h ho (by intro z; subst z; cases hm)) h⟩
section
variable {K : PySem.W.Frag} {H H' : Hp} {a o : Addr} {c : Cell}
theorem CellAt.mv (h : CellAt K H a c) : ∃ u, H a = some u ∧ mov u = true := by
  cases c with
  | ob u => exact ⟨u, h.1, h.2⟩
  | ls ds => obtain ⟨vs, h1, _⟩ := h; exact ⟨_, h1, rfl⟩
  | rw n => obtain ⟨ns, h1, _⟩ := h; exact ⟨_, h1, rfl⟩
theorem CellAt.ne (h : CellAt K H a c) (n : H o = none) : a ≠ o := fun e => by
  obtain ⟨u, hu, _⟩ := h.mv
  rw [e, n] at hu
  cases hu
theorem CellAt.tk (h : CellAt K H a c) (e : But a H H') : TupK H H' := by
  obtain ⟨u, hu, hm⟩ := h.mv
  exact TupK.butM e hu hm
theorem CellAt.move (e : ∀ u, H a = some u → H' a = some u) (t : TupK H H') (h : CellAt K H a c) : CellAt K H' a c := by
  cases c with
  | ob u => exact ⟨e _ h.1, h.2⟩
  | ls ds => obtain ⟨vs, h1, h2⟩ := h; exact ⟨vs, e _ h1, ImL.mono t _ h2⟩
  | rw n => obtain ⟨ns, h1, h2⟩ := h; exact ⟨ns, e _ h1, h2⟩
end
def fu {R α : Type} [DecidableEq R] (f : R → α) (r : R) (x : α) : R → α := fun s => if s = r then x else f s
theorem fu_same {R α : Type} [DecidableEq R] {f : R → α} {r : R} {x : α} : fu f r x r = x := if_pos rfl
theorem fu_ne {R α : Type} [DecidableEq R] {f : R → α} {r s : R} {x : α} (h : s ≠ r) : fu f r x s = f s := if_neg h
structure Sto {R : Type} (K : PySem.W.Frag) (H : Hp) (pl : R → Addr) (ct : R → Option Cell) : Prop where
  at_ : ∀ r c, ct r = some c → CellAt K H (pl r) c
  inj : ∀ r s c d, ct r = some c → ct s = some d → pl r = pl s → r = s
section
variable {R : Type} {K : PySem.W.Frag} {H H' : Hp} {pl : R → Addr} {ct : R → Option Cell}
theorem Sto.keep (S : Sto K H pl ct) (e : Same H H') : Sto K H' pl ct := ⟨fun r c h => (S.at_ r c h).move (fun u hu => e _ _ hu) (.of e), S.inj⟩
theorem Sto.ne (S : Sto K H pl ct) {r : R} {c : Cell} (h : ct r = some c) {a : Addr} (n : H a = none) : pl r ≠ a := (S.at_ r c h).ne n
theorem Sto.tk (S : Sto K H pl ct) {r : R} {c : Cell} (h : ct r = some c) (b : But (pl r) H H') : TupK H H' := (S.at_ r c h).tk b
theorem Sto.sub (S : Sto K H pl ct) {ct' : R → Option Cell} (h : ∀ r c, ct' r = some c → ct r = some c) : Sto K H pl ct' := ⟨fun r c e => S.at_ r c (h r c e), fun r s c d e1 e2 => S.inj r s c d (h _ _ e1) (h _ _ e2)⟩
theorem Sto.ob (S : Sto K H pl ct) {r : R} {o : HO} (h : ct r = some (.ob o)) : H (pl r) = some o := (S.at_ r _ h).1
theorem Sto.ls (S : Sto K H pl ct) {r : R} {ds : List PyData} (h : ct r = some (.ls ds)) : LsI K H (pl r) ds := S.at_ r _ h
theorem Sto.rw (S : Sto K H pl ct) {r : R} {n : Nat} (h : ct r = some (.rw n)) : RwAt H (pl r) n := S.at_ r _ h
theorem Sto.cast (S : Sto K H pl ct) {ct' : R → Option Cell} (h : ct = ct') : Sto K H pl ct' := h ▸ S
variable [DecidableEq R]
theorem Sto.set (S : Sto K H pl ct) {r : R} {c c' : Cell} (h : ct r = some c) (b : But (pl r) H H') (g : CellAt K H' (pl r) c') : Sto K H' pl (fu ct r (some c')) := by
  have t := S.tk h b
  refine ⟨fun s d e => ?_, fun s q d1 d2 e1 e2 => ?_⟩
  · by_cases z : s = r
    · subst z
      rw [fu_same] at e
      cases e
      exact g
    · rw [fu_ne z] at e
      exact (S.at_ s d e).move (fun u hu => b _ _ (fun w => z (S.inj _ _ _ _ e h w)) hu) t
  · have f : ∀ s d, fu ct r (some c') s = some d → ∃ d', ct s = some d' := fun s d e => by
      by_cases z : s = r
      · subst z; exact ⟨_, h⟩
      · rw [fu_ne z] at e; exact ⟨_, e⟩
    obtain ⟨_, f1⟩ := f _ _ e1
    obtain ⟨_, f2⟩ := f _ _ e2
    exact S.inj _ _ _ _ f1 f2
/-- the same thing again after a change in its place that keeps what is told of it -/
theorem Sto.same (S : Sto K H pl ct) {r : R} {c : Cell} (h : ct r = some c) (b : But (pl r) H H') (g : CellAt K H' (pl r) c) : Sto K H' pl ct := by
  have e : fu ct r (some c) = ct := funext fun s => by
    by_cases z : s = r
    · subst z; rw [fu_same, h]
    · rw [fu_ne z]
  rw [← e]
  exact S.set h b g
theorem Sto.new (S : Sto K H pl ct) (r : R) {a : Addr} {c : Cell} (e : Same H H') (n : H a = none) (g : CellAt K H' a c) : Sto K H' (fu pl r a) (fu ct r (some c)) := by
  refine ⟨fun s d h => ?_, fun s q d1 d2 h1 h2 w => ?_⟩
  · by_cases z : s = r
    · subst z
      rw [fu_same] at h ⊢
      cases h
      exact g
    · rw [fu_ne z] at h ⊢
      exact (S.keep e).at_ s d h
  · by_cases z1 : s = r
    · by_cases z2 : q = r
      · rw [z1, z2]
      · subst z1
        rw [fu_same, fu_ne z2] at w
        rw [fu_ne z2] at h2
        exact absurd w.symm (S.ne h2 n)
    · by_cases z2 : q = r
      · subst z2
        rw [fu_same, fu_ne z1] at w
        rw [fu_ne z1] at h1
        exact absurd w (S.ne h1 n)
      · rw [fu_ne z1, fu_ne z2] at w
        rw [fu_ne z1] at h1
        rw [fu_ne z2] at h2
        exact S.inj _ _ _ _ h1 h2 w
end
/-! ### min with a default, max of a tuple -/
theorem hu64 {k : Nat} {A : Around} (h : Room k A) : A.units + 64 < cLine := by
  have := h.un
  omega
theorem reads_ints {h : Heap} : ∀ (ns : List Int) (vs : List Value), Vals (ns.map V.int) vs → ReadsAll h vs (ns.map PyData.int) []
  | [], vs, e => by
    cases e
    exact .nil
  | n :: r, vs, e => by
    cases e with
    | cons h1 h2 =>
      obtain ⟨t, rfl⟩ := h1
      have := reads_ints (h := h) r _ h2
      exact ReadsAll.cons (as := []) (bs := []) (.int n t) this
theorem ints_depthAll : ∀ ns : List Int, PyData.depthAll (ns.map PyData.int) ≤ 1
  | [] => by simp [PyData.depthAll]
  | n :: r => by
    have := ints_depthAll r
    simp only [List.map_cons, PyData.depthAll, PyData.depth]
    omega
theorem ints_alike (ns : List Int) : PySem.W.AlikeAll (ns.map PyData.int) := by
  refine ⟨fun x hx y hy => ?_, fun x hx => ?_⟩
  · obtain ⟨i, _, rfl⟩ := List.mem_map.mp hx
    obtain ⟨j, _, rfl⟩ := List.mem_map.mp hy
    rfl
  · obtain ⟨i, _, rfl⟩ := List.mem_map.mp hx
    intro z
    cases z
theorem reads_int {h : Heap} {v : Value} {m : Int} {bs : List Addr} (g : Reads h v (.int m) bs) : RelV (.int m) v := by
  cases g with
  | int i t => exact ⟨t, rfl⟩
def rMinDf (K : PySem.W.Frag) (xs zs : List V) (H : Hp) (Q : VK) : Prop := ∃ (a : Addr) (n : Int) (ns : List Int) (d : V), xs = [.ref a] ∧ zs = [d] ∧ SqL K H a ((n :: ns).map V.int) ∧ Q (.int (ns.foldl min n)) H
theorem cr_minDf {X : Cx} (hc : X.calm = true) (hu : X.A.units + 64 < cLine) : CallRK X (.builtin "min") ["default"] (rMinDf X.K) := by
  intro pins s σ H xs zs us ws Q I rx rz h
  obtain ⟨a, n, ns, d, rfl, rfl, hl, q⟩ := h
  obtain ⟨u, rfl, ru⟩ := rx.one
  obtain rfl : u = Value.ref a := ru
  obtain ⟨z, rfl, rz⟩ := rz.one
  obtain ⟨its, r2, ⟨o, k, e1, e2, _, e4⟩, _⟩ := I.list hl
  have hd := ints_depthAll (n :: ns)
  refine PySem.W.min_list_default (vs := its.toArray) (xs := (n :: ns).map PyData.int) (as := []) (I.ok.hd hc) ⟨o, e1, e2, k, e4⟩ (reads_ints _ _ r2) (ints_alike (n :: ns)) (by omega) (fun e => by cases e) ?_
  intro y ys i v h' tk bs e hv hr hk
  cases e
  rw [PySem.W.minD_ints] at hr
  exact ⟨_, _, I.kept hk, reads_int hr, q⟩
def rMaxT (K : PySem.W.Frag) (xs : List V) (H : Hp) (Q : VK) : Prop := ∃ (a : Addr) (n : Int) (ns : List Int), xs = [.ref a] ∧ SqT K H a ((n :: ns).map V.int) ∧ Q (.int (ns.foldl max n)) H
theorem cr_maxT {X : Cx} (hc : X.calm = true) (hu : X.A.units + 64 < cLine) : CallR X (.builtin "max") (rMaxT X.K) := by
  intro pins s σ H xs us Q I rx h
  obtain ⟨a, n, ns, rfl, hl, q⟩ := h
  obtain ⟨u, rfl, ru⟩ := rx.one
  obtain rfl : u = Value.ref a := ru
  obtain ⟨its, r2, ⟨o, e1, e2, k, e4⟩, _⟩ := I.tuple hl
  have hd := ints_depthAll (n :: ns)
  refine PySem.W.max_tuple_data (vs := its.toArray) (x := PyData.int n) (xs := ns.map PyData.int) (as := []) (I.ok.hd hc) ⟨o, e1, e2, k, e4⟩ (reads_ints _ _ r2) (ints_alike (n :: ns)) (by show X.A.units + 1 + PyData.depthAll ((n :: ns).map PyData.int) < cLine; omega) ?_
  intro i v h' tk bs hv hr hk
  rw [PySem.W.maxD_ints] at hr
  exact ⟨_, _, I.kept hk, reads_int hr, q⟩
end Vs

namespace Vs
open PySem PySem.Spec PyProof.Rows L2
/-! ### dict comprehensions whose keys are tuples -/
section
variable {X : Cx} {pins : List (Addr × Obj)} {σ : L2.St} {H : Hp} {s : Shared}
theorem key_ofT {b : Addr} {k : List Key} (I : Inv X pins σ H s) (e : H b = some (.tup (k.map kV))) : (tupleKind (mixKind X.prog X.w)).is s.heap k b := by
  obtain ⟨its, r, pl, hz⟩ := I.tuple (SqT.of e)
  obtain ⟨o, h1, h2, n, h3⟩ := pl
  exact ⟨o, its.toArray, n, h1, h2, h3, by simpa using items_are r⟩
theorem d_dictSetT {E : Value → Shared → Prop} {D b : Addr} {kvs : List (List Key × V)} {k : List Key} {v : V} {r : Value} {Q : Unit → Shared → Prop} (hu : X.A.units + 1 < cLine) (I : Inv X pins σ H s) (hD : H D = some (.dT kvs)) (hz : kvs.length < sizeLine) (hk : H b = some (.tup (k.map kV))) (rv : RelV v r)
    (q : ∀ s', Inv X pins σ (upd H D (.dT (putK kvs k v))) s' → Q () s') : wpAny (model X.prog X.w) X.A (dictSet D (.ref b) r) Q E s := by
  obtain ⟨z, hd, xs, rel, dd⟩ := dt_of I.hok hD
  have hl := rel.length
  have hr : (tupleKind (mixKind X.prog X.w)).room X.A := by
    first | exact hu | (show _ < _; omega)
  refine wpAny_dictSet_heap (knd := tupleKind (mixKind X.prog X.w)) hr (key_ofT I hk) dd (fun h' dd' hs => q _ ?_) (by omega)
  obtain ⟨o, es, ep, ho, h2, h3, h4, _, h5⟩ := dd'
  have hz2 : (putK kvs k v).length ≤ sizeLine := by
    have := length_putK kvs k v
    omega
  refine d_write I (by rw [hD]; exact True.intro) hs ⟨_, ho⟩ ⟨hz2, hd, _, (rel.put k hk rv).keeps fun c ys ec => ?_, o, es, ep, ho, h2, h3, h4, h5⟩
  rw [upd_ne (ne_of ec hD (fun z => nomatch z))]
  exact ec
end
def tDcT (wi : TI) (g : TG) (tt : TT) (tk tv : TE) (vs : List Nat) : TE := fun σ H Q => wi σ H fun J H1 => ∀ D, H1 D = none → ∃ W : Nat → Nat → Hp → Prop, (∃ m, W 0 m (upd H1 D (.dT []))) ∧ ∀ i m H, W i m H → (J.stop i H ∧ Q (.ref D) H) ∨ (J.go i H ∧ ∃ Nx : Hp → Prop, (∀ H', Nx H' → ∃ m', m' < m ∧ W (i + 1) m' H') ∧ ∀ x H', J.yld i H x H' → g x (wipe σ vs) H' fun σ2 H2 => wipe σ2 vs = wipe σ vs ∧ tt σ2 H2 fun b H3 => if b = true then tk σ2 H3 fun y H4 => tv σ2 H4 fun z H5 => ∃ kvs k b, y = .ref b ∧ H5 b = some (.tup (k.map kV)) ∧ H5 D = some (.dT kvs) ∧ kvs.length < sizeLine ∧ Nx (upd H5 D (.dT (putK kvs k z))) else Nx H3)
theorem lookup_mem {β : Type} : ∀ {l : List (Str × β)} {x : Str} {c : β}, l.lookup x = some c → (x, c) ∈ l
  | [], _, _, h => by cases h
  | (a, b) :: r, x, c, h => by
    simp only [List.lookup] at h
    split at h
    · rename_i e
      cases h
      rw [eq_of_beq e]
      exact List.mem_cons_self
    · exact List.mem_cons_of_mem _ (lookup_mem h)
theorem dcT_loop {X : Cx} {kx vx tg iter : Expr} {ifs : List Expr} {scope : Scope} {pos : Pos} {g : TG} {tt : TT} {tk tv : TE} {J : It} {fp : List Addr} {it D : Addr} {tn : Nat → Heap → Prop} {vs : List Nat} {σ : L2.St} {H : Hp} {s : Shared} {W : Nat → Nat → Hp → Prop} {m0 : Nat} {Qd : Hp → Prop} {R : Result → Shared → Prop} (hu : X.A.units + 1 < cLine) (hc : X.calm = true) (hxe : X.xe = fun _ _ => False) (T : Turn X.prog X.w X.K tg J fp it tn) (hg : PG X tg g) (ht : PTs X ifs tt) (hk : PE X kx tk) (he : PE X vx tv)
    (hW : ∀ i m H, W i m H → (J.stop i H ∧ Qd H) ∨ (J.go i H ∧ ∃ Nx : Hp → Prop, (∀ H', Nx H' → ∃ m', m' < m ∧ W (i + 1) m' H') ∧ ∀ x H', J.yld i H x H' → g x (wipe σ vs) H' fun σ2 H2 => wipe σ2 vs = wipe σ vs ∧ tt σ2 H2 fun b H3 => if b = true then tk σ2 H3 fun y H4 => tv σ2 H4 fun z H5 => ∃ kvs k b, y = .ref b ∧ H5 b = some (.tup (k.map kV)) ∧ H5 D = some (.dT kvs) ∧ kvs.length < sizeLine ∧ Nx (upd H5 D (.dT (putK kvs k z))) else Nx H3))
    (I : Inv X [] (wipe σ vs) H s) (t0 : tn 0 s.heap) (f0 : ∀ b ∈ fp, FpOk X [] H b) (w0 : W 0 m0 H) (hR : ∀ s' H', Inv X [] (wipe σ vs) H' s' → Qd H' → R (.ok .next) s') :
    codeAny (model X.prog X.w) X.A (.compLoop (.DictComp kx vx [⟨tg, iter, ifs, 0⟩] scope pos) 0 (.ref it) (.ref D) X.env) R s := by
  refine compLoop_anyD (fun n s => ∃ i H', Inv X [] (wipe σ vs) H' s ∧ tn i s.heap ∧ W i n H' ∧ ∀ b ∈ fp, FpOk X [] H' b) ?_ m0 ⟨0, H, I, t0, w0, f0⟩
  rintro n s ⟨i, H5, I5, t5, w5, f5⟩
  rcases hW i n H5 w5 with ⟨st, q⟩ | ⟨go, Nx, hNx, step⟩
  · refine thn (T.done X rfl rfl rfl hc i [] s _ H5 _ I5 f5 t5 st) fun r s6 ⟨hr, I6⟩ => ?_
    subst hr
    exact hR _ _ I6 q
  refine thn (T.item X rfl rfl rfl hc i [] s _ H5 _ I5 f5 t5 go) fun r s6 ⟨u, hr, h6⟩ => ?_
  subst hr
  refine thn h6 fun _ s7 ⟨x, H7, I7, r7, y7, t7, n7⟩ => ?_
  have I7p := I7.pinned (fun b hb => ⟨n7 b hb, (f5 b hb).2⟩) (T.obj (i + 1) _ t7)
  have back : ∀ (σ8 : L2.St) (H8 : Hp) (s8 : Shared), Inv X ([] ++ pinsAt fp s7.heap) σ8 H8 s8 → wipe σ8 vs = wipe σ vs → Nx H8 → ∃ m, m < n ∧ ∃ i H', Inv X [] (wipe σ vs) H' s8 ∧ tn i s8.heap ∧ W i m H' ∧ ∀ b ∈ fp, FpOk X [] H' b := by
    intro σ8 H8 s8 I8 hw nx
    obtain ⟨m, hm, w8⟩ := hNx H8 nx
    have I9 : Inv X [] (wipe σ vs) H8 s8 := by
      rw [← hw]
      exact (I8.unpinned).weak (wipe_length _ _) fun i v h => (wipe_some h).1
    have pn : ∀ b ∈ fp, ∀ o, s7.heap.get? b = some o → s8.heap.get? b = some o ∧ H8 b = none := fun b hb o ho => by
      have := I8.pin (b, o) (List.mem_append.mpr (.inr (mem_pinsAt hb ho)))
      exact ⟨this.1, this.2.1⟩
    refine ⟨m, hm, i + 1, H8, I9, T.keep _ _ _ t7 fun b hb o ho => (pn b hb o ho).1, w8, fun b hb => ?_⟩
    obtain ⟨o, ho, _⟩ := T.obj _ _ t7 b hb
    exact ⟨(pn b hb o ho).2, (f5 b hb).2⟩
  have nx : ∀ {α : Type} {t : Sem α} {Q Q' : α → Shared → Prop} {E : Value → Shared → Prop} {s : Shared}, wpAny (model X.prog X.w) X.A t Q X.xe s → (∀ a s, Q a s → Q' a s) → wpAny (model X.prog X.w) X.A t Q' E s := fun h k => thnF (by rw [hxe] at h; exact h) k
  refine nx (hg.run _ s7 _ H7 x u _ I7p r7 (step x H7 y7)) fun _ s8 ⟨σ8, H8, I8, hw8, q8⟩ => ?_
  refine nx (ht.run _ s8 σ8 H8 _ I8 q8) fun b s9 ⟨H9, I9, q9⟩ => ?_
  cases b with
  | false => exact back _ _ _ I9 hw8 q9
  | true =>
    refine nx (hk.run _ s9 σ8 H9 _ I9 q9) fun kv s10 ⟨y, H10, I10, ry, q10⟩ => ?_
    refine nx (he.run _ s10 σ8 H10 _ I10 q10) fun vv s11 ⟨z, H11, I11, rz, kvs, k, b, ey, hb, hD, hz, nxt⟩ => ?_
    subst ey
    obtain rfl : kv = Value.ref b := ry
    exact d_dictSetT hu I11 hD hz hb rz fun s' I' => back _ _ _ I' hw8 nxt
theorem pe_dcT {X : Cx} {kx vx tg iter : Expr} {ifs : List Expr} {scope : Scope} {own : List (Str × Nat)} {pos : Pos} {wi : TI} {g : TG} {tt : TT} {tk tv : TE} (hu : X.A.units + 1 < cLine) (hc : X.calm = true) (hN : X.N.Nodup) (hi : PI X tg iter wi) (ok : BlkOk X.N X.env.scope scope own)
    (hg : ∀ (s : Shared) (H : Hp) (C : Addr) (cl : List (Str × Addr)) (fp : List Addr), PG (X.blk s H scope (compEnvC scope cl C X.env) fp) tg g)
    (ht : ∀ (s : Shared) (H : Hp) (C : Addr) (cl : List (Str × Addr)) (fp : List Addr), PTs (X.blk s H scope (compEnvC scope cl C X.env) fp) ifs tt)
    (hk : ∀ (s : Shared) (H : Hp) (C : Addr) (cl : List (Str × Addr)) (fp : List Addr), PE (X.blk s H scope (compEnvC scope cl C X.env) fp) kx tk)
    (he : ∀ (s : Shared) (H : Hp) (C : Addr) (cl : List (Str × Addr)) (fp : List Addr), PE (X.blk s H scope (compEnvC scope cl C X.env) fp) vx tv)
    (hs : ∀ x : Value, foldedSetIterable iter X.env x = pure x := by intro _; rfl) : PE X (.DictComp kx vx [⟨tg, iter, ifs, 0⟩] scope pos) (tDcT wi g tt tk tv (own.map (·.2))) := by
  refine ⟨fun pins s σ H Q I h => ?_⟩
  rw [arm_eval_DictComp]
  refine wpAny_comprehension_free (gs := []) rfl hs (closure_ok fun y hy hf => I.ok.has _ (ok.free y hy hf)) ok.kind (fun x hx hl => by rw [ok.uniq x hx, hl]) ?_
  refine thn (hi.run pins s σ H _ I h) fun v s1 h1 => thn h1 fun u s2 ⟨it, fp, tn, J, H1, eu, I1, T, t0, hfp, r⟩ => ?_
  subst eu
  have nD : H1 s2.heap.objs.size = none := I1.hok.fresh (Nat.le_refl _)
  obtain ⟨W, ⟨m0, w0⟩, hW⟩ := r s2.heap.objs.size nD
  refine wpAny_newObj_type ?_
  have I2 := I1.laid (a := s2.heap.objs.size) (o := .dT []) (h' := s2.heap.push { cls := .type "dict", data := .dict #[] }) (t' := s2.toks) (fun _ _ q => Heap.get?_push_of_some _ q) (Nat.le_refl _) (dt_empty s2.heap I1.big)
  have hfp2 : ∀ b ∈ fp, FpOk X pins (upd H1 s2.heap.objs.size (.dT [])) b ∧ b < (s2.heap.push { cls := Value.type "dict", data := Data.dict #[] }).objs.size := by
    intro b hb
    obtain ⟨o, ho, _⟩ := T.obj 0 _ t0 b hb
    have lt : b < s2.heap.objs.size := by
      refine Nat.lt_of_not_le fun z => ?_
      rw [Heap.get?_none_of_le z] at ho
      cases ho
    refine ⟨⟨by rw [upd_ne (Nat.ne_of_lt lt)]; exact (hfp b hb).1, (hfp b hb).2⟩, ?_⟩
    show b < (s2.heap.objs.push _).size
    rw [Array.size_push]
    exact Nat.lt_succ_of_lt lt
  have t02 : tn 0 (s2.heap.push { cls := Value.type "dict", data := Data.dict #[] }) := T.keep 0 _ _ t0 fun b hb o ho => Heap.get?_push_of_some _ ho
  have I3 : Inv X pins σ (upd H1 s2.heap.objs.size (.dT [])) { heap := s2.heap.push { cls := Value.type "dict", data := Data.dict #[] }, gens := s2.gens, drawn := s2.drawn, toks := s2.toks, os := s2.os } := I2
  clear I2
  clear t0
  obtain ⟨s3, e3⟩ : ∃ x : Shared, x = { heap := s2.heap.push { cls := Value.type "dict", data := Data.dict #[] }, gens := s2.gens, drawn := s2.drawn, toks := s2.toks, os := s2.os } := ⟨_, rfl⟩
  have hh : s2.heap.push { cls := Value.type "dict", data := Data.dict #[] } = s3.heap := by rw [e3]
  rw [hh] at hfp2 t02
  rw [← e3] at I3 ⊢
  refine newEnv_comp ?_
  have Ib := block_start I3 ok hN hfp2
  have szC : s3.heap.objs.size ≤ s3.heap.objs.size := Nat.le_refl _
  have tn0 : tn 0 (pushCells (s3.heap.push { cls := Value.type "dict", data := Data.dict #[] }) scope.names) := T.keep 0 _ _ t02 fun b hb o ho => pushCells_keeps _ _ _ _ (Heap.get?_push_of_some _ ho)
  suffices main : codeAny (model X.prog X.w) X.A (.compLoop (.DictComp kx vx [⟨tg, iter, ifs, 0⟩] scope pos) 0 (.ref it) (.ref s2.heap.objs.size) (compEnvC scope (cellsFrom (s3.heap.objs.size + 1) scope.names (cloFrom X.env.cells scope.names [])) s3.heap.objs.size X.env)) (compPost (model X.prog X.w) X.A X.xe none (EP X pins σ Q) (Value.ref s2.heap.objs.size) s3.heap.objs.size) { heap := pushCells (s3.heap.push { cls := Value.type "dict", data := Data.dict #[] }) scope.names, gens := s3.gens, drawn := s3.drawn, toks := s3.toks, os := s3.os } from
    codeAny_compStart_dict main (T.self _ 0 _ _ _ tn0 main)
  · refine dcT_loop (X := X.blk s3 (upd H1 s2.heap.objs.size (.dT [])) scope (compEnvC scope (cellsFrom (s3.heap.objs.size + 1) scope.names (cloFrom X.env.cells scope.names [])) s3.heap.objs.size X.env) fp) hu hc rfl T (hg _ _ _ _ _) (ht _ _ _ _ _) (hk _ _ _ _ _) (he _ _ _ _ _) hW Ib ?_ ?_ w0 ?_
    · exact tn0
    · intro b hb
      obtain ⟨⟨g1, g2, g3, g4, g5, g6⟩, lt⟩ := hfp2 b hb
      refine ⟨g1, Nat.ne_of_lt lt, fun m => ?_, .inl hb, fun x c hl e => ?_, fun p hp => by cases hp⟩
      · rcases List.mem_cons.mp (I3.stkSub b m) with z | z
        · exact g2 z
        · exact g3 z
      · have hm := lookup_mem hl
        have hm2 : (x, c) ∈ cellsFrom (s3.heap.push { cls := Value.type "dict", data := Data.dict #[] }).objs.size scope.names (cloFrom X.env.cells scope.names []) := by
          rw [show (s3.heap.push { cls := Value.type "dict", data := Data.dict #[] }).objs.size = s3.heap.objs.size + 1 from Array.size_push ..]
          exact hm
        rcases cells_mem hm2 with z | ⟨_, z, _⟩
        · rcases cloFrom_mem z with z | ⟨z1, z2⟩
          · cases z
          · obtain ⟨c', hc'⟩ := I.ok.has _ (ok.free _ z1 rfl)
            rw [hc'] at z2
            exact g5 x c' hc' (z2.symm.trans e)
        · rw [show (s3.heap.push { cls := Value.type "dict", data := Data.dict #[] }).objs.size = s3.heap.objs.size + 1 from Array.size_push ..] at z
          rw [e] at z
          exact absurd lt (Nat.not_lt_of_le (Nat.le_of_succ_le z))
    · intro s' H' I' q
      have I4 : Inv X pins σ H' s' := I3.call' I'.os I'.base I'.hok I'.bare fun b hb => by
        obtain ⟨⟨g1, g2, g3, g4, g5, g6⟩, lt⟩ := hfp2 b hb
        exact ⟨g4, g2, g5, g6⟩
      obtain ⟨m, hm, _⟩ := I'.loc
      have hC : FpOk X pins H' s3.heap.objs.size := I3.fpOk (Nat.le_refl _) I'.free
      refine ⟨m, hm, fun h' sb => ⟨.ref s2.heap.objs.size, H', ?_, rfl, q⟩⟩
      obtain ⟨g1, g2, g3, g4, g5, g6⟩ := hC
      exact I4.turned (fun b o ne ho => by rw [sb.2 b ne]; exact ho) g1 g2 g4 g5 g6
theorem dc_it {J : It} {n : Nat} {G : Hp → Prop} {Y : Nat → Hp → V → Hp → Prop} (w : Walk J n G Y) {g : TG} {tt : TT} {tk tv : TE} {vs : List Nat} {σ : L2.St} {H1 : Hp} {D : Addr} {Qd : Hp → Prop} (Pv : Nat → Hp → Prop) (h0 : Pv 0 (upd H1 D (.dT []))) (hG : ∀ i H, i ≤ n → Pv i H → G H)
    (hs : ∀ i x H H', i < n → Pv i H → Y i H x H' → g x (wipe σ vs) H' fun σ2 H2 => wipe σ2 vs = wipe σ vs ∧ tt σ2 H2 fun b H3 => if b = true then tk σ2 H3 fun y H4 => tv σ2 H4 fun z H5 => ∃ kvs k b, y = .ref b ∧ H5 b = some (.tup (k.map kV)) ∧ H5 D = some (.dT kvs) ∧ kvs.length < sizeLine ∧ Pv (i + 1) (upd H5 D (.dT (putK kvs k z))) else Pv (i + 1) H3)
    (hd : ∀ H, Pv n H → Qd H) :
    ∃ W : Nat → Nat → Hp → Prop, (∃ m, W 0 m (upd H1 D (.dT []))) ∧ ∀ i m H, W i m H → (J.stop i H ∧ Qd H) ∨ (J.go i H ∧ ∃ Nx : Hp → Prop, (∀ H', Nx H' → ∃ m', m' < m ∧ W (i + 1) m' H') ∧ ∀ x H', J.yld i H x H' → g x (wipe σ vs) H' fun σ2 H2 => wipe σ2 vs = wipe σ vs ∧ tt σ2 H2 fun b H3 => if b = true then tk σ2 H3 fun y H4 => tv σ2 H4 fun z H5 => ∃ kvs k b, y = .ref b ∧ H5 b = some (.tup (k.map kV)) ∧ H5 D = some (.dT kvs) ∧ kvs.length < sizeLine ∧ Nx (upd H5 D (.dT (putK kvs k z))) else Nx H3) := by
  refine ⟨fun i m H => i + m = n ∧ Pv i H, ⟨n, by omega, h0⟩, ?_⟩
  rintro i m H ⟨e, p⟩
  by_cases hi : i < n
  · refine .inr ⟨w.goes i H hi (hG i H (by omega) p), Pv (i + 1), fun H' p' => ⟨m - 1, by omega, by omega, p'⟩, fun x H' y => ?_⟩
    exact hs i x H H' hi p (w.yields i H x H' hi (hG i H (by omega) p) y)
  · have ei : i = n := by omega
    subst ei
    exact .inl ⟨w.stops H (hG _ H (Nat.le_refl _) p), hd H p⟩
end Vs

namespace Vs
open PySem PySem.Spec PyProof.Rows L2
/-! ### a tuple in a set of tuples -/
theorem nth_dm {m : Nat} : ∀ (c : Nat) {p : SetTable.Probe}, p.dummy = none → (nth m p c).dummy = none
  | 0, _, h => h
  | c + 1, p, h => by
    rw [nth_succ]
    have := nth_dm (m := m) c h
    unfold adv
    split <;> exact this
theorem search_no {P : Program} {w : World} {A : Around} {E : Value → Shared → Prop} {s : Shared} {a : Addr} {L : List (Addr × List Int)} {es : Array (Int × Value)} {ep : Nat} {t : SetTable} (T : SetTR P w s.heap a L es ep t) {x : Addr} {k : List Int} (hx : IsT P w s.heap k x) (hA : (TK P w).room A) {K : Nat} (hK : K < 10 * SetTable.turns t.mask) (hKf : way t.mask (thash P w k) K ∉ t.place.toList)
    (hKb : ∀ c, c < K → way t.mask (thash P w k) c ∈ t.place.toList) {Q : SetFound → Shared → Prop} (q1 : ∀ i, k ∈ L.map (·.2) → Q (.there (some i)) s) (q2 : ∀ j, k ∉ L.map (·.2) → Q (.free j false) s) :
    ∀ (f c : Nat) (stand : Option SetTable.Probe), stand.getD (t.probeStart (thash P w k)) = nth t.mask (runAt t.mask (SetTable.bits (thash P w k) % (t.mask + 1)) (SetTable.bits (thash P w k))) c → c ≤ K → K - c < f →
      (∀ (i : Nat) (p : Addr × List Int), L[i]? = some p → p.2 = k → ∃ c', c ≤ c' ∧ c' < K ∧ t.place.toList[i]? = some (way t.mask (thash P w k) c')) →
      wpAny (model P w) A (setSearchFrom a (.ref x) (thash P w k) false f stand) Q E s := by
  intro f
  induction f with
  | zero => intro c stand _ _ h; omega
  | succ f ih =>
    intro c stand hst hc hf hin
    obtain ⟨o, ho, hex, hda⟩ := T.ob
    rw [setSearchFrom_succ]
    refine wpAny_bind (wpAny_setState_of ho hda T.fits ?_)
    dsimp only
    rw [if_neg T.gw]
    have hes : ∀ {i : Nat} {p : Addr × List Int}, L[i]? = some p → (fun i => (Option.map (fun x => x.1) es[i]?).getD 0) i = thash P w p.2 := fun {i p} hp => by
      show (Option.map (fun x => x.1) es[i]?).getD 0 = _
      rw [T.entry hp]
      rfl
    have hplace : ∀ {i j : Nat}, t.place.toList[i]? = some j → ∃ p, L[i]? = some p := fun {i j} h => by
      have h1 := (List.getElem?_eq_some_iff.mp h).1
      have h2 := T.tab.sz
      rw [List.length_map] at h2
      rw [Array.length_toList] at h1
      exact ⟨L[i], List.getElem?_eq_getElem (by omega)⟩
    rw [hst]
    have hy : ∀ y ∈ List.map (fun x => x.2) (Array.filter (fun x => x.1 == thash P w k) es).toList, ∃ k' c, y = Value.ref c ∧ IsT P w s.heap k' c := by
      intro y hy
      obtain ⟨e, he, rfl⟩ := List.mem_map.mp hy
      rw [Array.toList_filter] at he
      have he2 := (List.mem_filter.mp he).1
      rw [T.rows] at he2
      obtain ⟨p, hp, rfl⟩ := List.mem_map.mp he2
      exact ⟨p.2, p.1, rfl, T.tup p hp⟩
    have spec := go_spec t T.tab.ris T.tab.dm (fun i => (Option.map (fun x => x.1) es[i]?).getD 0) (thash P w k) (10 * SetTable.turns t.mask) (K - c) (nth t.mask (runAt t.mask (SetTable.bits (thash P w k) % (t.mask + 1)) (SetTable.bits (thash P w k))) c) (nth_dm c rfl) (by omega)
      (fun d hd => by rw [← nth_add]; exact hKb (c + d) (by omega)) (by rw [← nth_add, show c + (K - c) = K from by omega]; exact hKf)
    have probe_eq : ∀ hashAt p, SetTable.probe t hashAt (thash P w k) p = SetTable.probe.go t hashAt (thash P w k) (10 * SetTable.turns t.mask) p := fun _ _ => rfl
    rw [probe_eq]
    rcases spec with ⟨d, i, hd, hpl, hh, hbef, hgo⟩ | ⟨hbef, hgo⟩
    · rw [hgo]
      dsimp only
      obtain ⟨p, hp⟩ := hplace hpl
      have rest : wpAny (model P w) A (searchRest a (.ref x) (thash P w k) false f es t (nth t.mask (nth t.mask (runAt t.mask (SetTable.bits (thash P w k) % (t.mask + 1)) (SetTable.bits (thash P w k))) c) d).j i (nth t.mask (nth t.mask (runAt t.mask (SetTable.bits (thash P w k) % (t.mask + 1)) (SetTable.bits (thash P w k))) c) (d + 1))) Q E s := by
        unfold searchRest
        rw [T.entry hp]
        dsimp only
        refine wpAny_bind (wpAny_holding ((TK P w).eqBool hA (T.tup p (List.mem_of_getElem? hp)) hx ?_))
        refine wpAny_bind (wpAny_setState_of ho hda T.fits ?_)
        dsimp only
        rw [Bool.false_and, if_neg Bool.false_ne_true, sameMem]
        dsimp only
        rw [if_pos rfl, slot_live T.tab.ris hpl]
        dsimp only
        rw [T.entry hp]
        dsimp only
        refine wpAny_bind (wpAny_isSame_ref_self ?_)
        rw [if_pos rfl]
        refine wpAny_bind (wpAny_pure ?_)
        dsimp only
        by_cases e : p.2 = k
        · rw [decide_eq_true e, if_pos rfl]
          exact wpAny_pure (q1 i (List.mem_map.mpr ⟨p, List.mem_of_getElem? hp, e⟩))
        · rw [decide_eq_false e, if_neg Bool.false_ne_true]
          refine ih (c + (d + 1)) _ (by show nth _ _ _ = _; exact (nth_add _ _ _ _).symm) (by omega) (by omega) fun i' p' hp' ek => ?_
          obtain ⟨c', h1, h2, h3⟩ := hin i' p' hp' ek
          refine ⟨c', ?_, h2, h3⟩
          refine Nat.le_of_not_lt fun z => ?_
          have h3' : t.place.toList[i']? = some (nth t.mask (nth t.mask (runAt t.mask (SetTable.bits (thash P w k) % (t.mask + 1)) (SetTable.bits (thash P w k))) c) (c' - c)).j := by
            rw [← nth_add, show c + (c' - c) = c' from by omega]
            exact h3
          by_cases z2 : c' - c < d
          · exact hbef _ _ z2 h3' ((hes hp').trans (by rw [ek]))
          · have e2 : c' - c = d := by omega
            rw [e2] at h3'
            have s1 := slot_live T.tab.ris hpl
            have s2 := slot_live T.tab.ris h3'
            rw [s1] at s2
            injection s2 with s2
            subst s2
            rw [hp] at hp'
            cases hp'
            exact e ek
      by_cases hl : t.led = true
      · rw [hl]
        rw [if_neg (by decide)]
        exact rest
      · have hl2 : t.led = false := by simpa using hl
        rw [hl2, if_pos (show (!false) = true from rfl)]
        refine wpAny_bind (seen_tup hx hy ?_)
        rw [if_neg Bool.false_ne_true]
        exact rest
    · rw [hgo]
      dsimp only
      refine wpAny_pure (q2 _ fun m => ?_)
      obtain ⟨p, hp, ek⟩ := List.mem_map.mp m
      obtain ⟨i, hi⟩ := List.getElem?_of_mem hp
      obtain ⟨c', h1, h2, h3⟩ := hin i p hi ek
      refine hbef (c' - c) i (by omega) ?_ ((hes hi).trans (by rw [ek]))
      rw [← nth_add, show c + (c' - c) = c' from by omega]
      exact h3
theorem setFind_tup {P : Program} {w : World} {A : Around} {E : Value → Shared → Prop} {s : Shared} {a : Addr} {L : List (Addr × List Int)} (T0 : SetT0 P w s.heap a L) (ht : ∀ p ∈ L, IsT P w s.heap p.2 p.1) {x : Addr} {k : List Int} (hx : IsT P w s.heap k x) (hA : (TK P w).room A) {Q : Option Nat → Shared → Prop} (q : ∀ r : Option Nat, r.isSome = decide (k ∈ L.map (·.2)) → Q r s) : wpAny (model P w) A (setFind a (.ref x) (thash P w k)) Q E s := by
  obtain ⟨es, ep, t, T⟩ := T0.full ht
  obtain ⟨o, ho, hex, hda⟩ := T.ob
  unfold setFind
  rw [setFindIn.eq_def]
  dsimp only
  refine wpAny_bind (wpAny_setState_of ho hda T.fits ?_)
  dsimp only
  rw [if_neg (show ¬ byScan (Value.ref x) es = true from by unfold byScan; intro z; cases z)]
  obtain ⟨K, hK, hKf, hKb⟩ := T.tab.first (by
    have := T.room
    rw [List.length_map]
    omega) (thash P w k)
  unfold setSearch
  refine wpAny_bind (search_no T hx hA hK hKf hKb (fun i m => ?_) (fun j m => ?_) 100000 0 none (by show t.probeStart _ = _; exact start_run t _) (Nat.zero_le _) ?_ fun i p hp ek => ?_)
  · exact wpAny_pure (q _ (decide_eq_true m).symm)
  · exact wpAny_pure (q _ (decide_eq_false m).symm)
  · have m := T.tab.mok
    rw [Nat.sub_zero]
    refine Nat.lt_of_lt_of_le hK ?_
    rcases m with e | e | e <;> rw [e] <;> decide
  · have hi : i < L.length := (List.getElem?_eq_some_iff.mp hp).1
    have h2 := T.tab.sz
    rw [List.length_map] at h2
    have hj : t.place.toList[i]? = some (t.place.toList[i]'(by rw [Array.length_toList]; omega)) := List.getElem?_eq_getElem _
    obtain ⟨c', h1, h3⟩ := T.tab.before hKf (show (L.map fun p => thash P w p.2)[i]? = some (thash P w k) from by rw [List.getElem?_map, hp, ← ek]; rfl) hj
    exact ⟨c', Nat.zero_le _, h1, by rw [h3]; exact hj⟩
theorem meets_inTup {P : Program} {w : World} (a x : Addr) (k : List Int) (L : List (Addr × List Int)) : MeetsIn P w (Builtin.«frozenset.__contains__» { pos := [.ref a, .ref x] }) (fun A R s => A.units + 1 < cLine ∧ SetT0 P w s.heap a L ∧ (∀ p ∈ L, IsT P w s.heap p.2 p.1) ∧ IsT P w s.heap k x ∧ ∀ t : Nat, R (.ok (.ret (.bool (decide (k ∈ L.map (·.2)))))) { s with toks := t }) := by
  refine MeetsIn.of_wp fun A R s h => ?_
  obtain ⟨hA, hT, ht, hx, q⟩ := h
  have hr : (TK P w).room A.in1 := tupleKind_room_in1 hA
  unfold Builtin.«frozenset.__contains__» Builtin.Frozenset.oneOther
  refine wpAny_bind ?_
  show wpAny _ _ (Builtin.Frozenset.addrOf (Value.ref a) >>= fun s => pure (s, Value.ref x)) _ _ _
  refine wpAny_bind ?_
  show wpAny _ _ (pure a) _ _ _
  refine wpAny_pure (wpAny_pure ?_)
  dsimp only
  refine wpAny_bind ?_
  unfold Builtin.Frozenset.withSetAsKey
  refine wpAny_tryCatch ?_
  unfold setContains
  refine wpAny_holding (wpAny_bind ((TK P w).pyHash hr hx ?_))
  refine wpAny_bind ?_
  refine setFind_tup (s := { heap := s.heap, gens := s.gens, drawn := s.drawn, toks := s.toks + (TK P w).draws k, os := s.os }) hT ht hx hr fun r hr2 => ?_
  refine wpAny_pure ?_
  rw [hr2]
  exact wpAny_pure ⟨_, rfl, q _⟩
def rInTO (K : PySem.W.Frag) (P : Program) (w : World) (x y : V) (H : Hp) (Q : VK) : Prop := ∃ (a b : Addr) (L : List (Addr × List Int)) (k : List Int), x = .ref b ∧ y = .ref a ∧ H a = some (SetTO P w a L) ∧ (∀ p ∈ L, SqT K H p.1 (p.2.map V.int)) ∧ SqT K H b (k.map V.int) ∧ Q (.bl (decide (k ∈ L.map (·.2)))) H
theorem op_inTO {X : Cx} (hu : X.A.units + 64 < cLine) : OpR X (compareOp .In) (rInTO X.K X.prog X.w) := by
  intro pins s σ H x y v u Q I rx ry h
  obtain ⟨a, b, L, k, rfl, rfl, hH, hL, hb, q⟩ := h
  obtain rfl : v = Value.ref b := rx
  obtain rfl : u = Value.ref a := ry
  have hT : SetT0 X.prog X.w s.heap a L := (I.hok a _ hH).1
  obtain ⟨es, ep, t, ⟨o, ho, hex, hda⟩, _⟩ := hT.ex
  refine In_slot (T := "set") ⟨o, ho, hex.1⟩ PySem.F.slot_set_contains ?_
  refine call_meetsIn PySem.F.slot_set_contains ⟨o, ho, hex.1⟩ PySem.entry_set_contains (PySem.F.args_set_contains_2 _ _) (meets_inTup a b k L) ⟨by omega, hT, fun p hp => I.isT (hL p hp), I.isT hb, fun t => ?_⟩
  show wpAny (model X.prog X.w) X.A (truthy (Value.bool (decide (k ∈ L.map (·.2))))) _ X.xe _
  have r : RelV (V.bl (decide (k ∈ L.map fun p => p.2))) (Value.bool (decide (k ∈ L.map fun p => p.2))) := rfl
  first
    | exact wpAny_truthy_bool ⟨_, H, I.tok _, r, q⟩
    | exact wpAny_pure ⟨_, H, I.tok _, r, q⟩
    | (unfold truthy; exact wpAny_pure ⟨_, H, I.tok _, r, q⟩)
/-! ### d[k] where k is a tuple wherever it stands -/
section
variable {X : Cx} {pins : List (Addr × Obj)} {σ : L2.St} {H : Hp} {s : Shared} {a b : Addr} {kvs : List (List Key × V)} {k : List Key}
theorem key_ofR (I : Inv X pins σ H s) (e : SqT X.K H b (k.map kV)) : (tupleKind (mixKind X.prog X.w)).is s.heap k b := by
  obtain ⟨its, r, pl, hz⟩ := I.tuple e
  obtain ⟨o, h1, h2, n, h3⟩ := pl
  exact ⟨o, its.toArray, n, h1, h2, h3, by simpa using items_are r⟩
/-- a dict with tuples for keys, to be read: as it is or locked -/
def DTat (H : Hp) (a : Addr) (kvs : List (List Key × V)) : Prop := H a = some (.dT kvs) ∨ ∃ o, H a = some (.frz o (.dT kvs))
def tDGetR (K : PySem.W.Frag) (td ty : TE) : TE := fun σ H Q => td σ H fun x H1 => ty σ H1 fun y H2 => ∃ a kvs k b v, x = .ref a ∧ H2 a = some (.dT kvs) ∧ y = .ref b ∧ SqT K H2 b (k.map kV) ∧ valV kvs k = some v ∧ Q v H2
theorem pe_dgetR {o i : Expr} {pos : Pos} {td ty : TE} (K : PySem.W.Frag) (hK : X.K = K) (hu : X.A.units + 1 < cLine) (ho : PE X o td) (hi : PE X i ty) (hs : NoSl i) : PE X (.Subscript o i pos) (tDGetR K td ty) := by
  subst hK
  refine ⟨fun pins s σ H Q I h => ?_⟩
  refine subD_of PySem.F.slot_dict_getitem.lookup hs (thn (ho.run pins s σ H _ I h) fun u s1 ⟨x, H1, I1, rx, q1⟩ => thn (hi.run pins s1 σ H1 _ I1 q1) fun iv s2 ⟨y, H2, I2, ry, a, kvs, k, b, v, ex, e, ey, eb, l, q2⟩ => ?_)
  subst ex ey
  obtain rfl : u = Value.ref a := rx
  cases (show iv = Value.ref b from ry)
  obtain ⟨z, hd, xs, rel, dd⟩ := dt_of I2.hok e
  refine ⟨dd.typeIs, ?_⟩
  obtain ⟨w', hw, rw'⟩ := RelO.some_of (v := v) (o := (atKey xs k).map (·.2)) (by rw [← l]; exact rel.val k)
  obtain ⟨p, hp, hp2⟩ := Option.map_eq_some_iff.mp hw
  refine wpAny_getItem_heap (tupleKind_room_in1 hu) (key_ofR I2 eb) dd hp ?_
  rw [hp2]
  exact ⟨v, H2, I2.tok _, rw', q2⟩
end
end Vs

namespace Vs
open PySem PySem.Spec PyProof.Rows L2
/-! ### tables of distances as data -/
def ptK (p : Pt) : List Key := [.inl p.d, .inl p.n, .inl p.c]
theorem ptK_inj {p q : Pt} (h : ptK p = ptK q) : p = q := by
  unfold ptK at h
  injection h with h1 h
  injection h with h2 h
  injection h with h3 _
  injection h1 with h1
  injection h2 with h2
  injection h3 with h3
  cases p; cases q
  simp only at h1 h2 h3
  rw [h1, h2, h3]
theorem ptK_map (p : Pt) : (ptK p).map kV = [.int p.d, .int p.n, .int p.c] := rfl
def plK (ps : List Pt) : List (List Key × V) := ps.zipIdx.map fun z => (ptK z.1, V.int (z.2 : Int))
theorem plK_len (ps : List Pt) : (plK ps).length = ps.length := by
  unfold plK
  rw [List.length_map, List.length_zipIdx]
theorem plK_get {ps : List Pt} {i : Nat} {p : Pt} (h : ps[i]? = some p) : (plK ps)[i]? = some (ptK p, .int (i : Int)) := by
  unfold plK
  rw [List.getElem?_map, List.getElem?_zipIdx, h]
  simp
theorem plK_get' {ps : List Pt} {i : Nat} {k : List Key} {v : V} (h : (plK ps)[i]? = some (k, v)) : ∃ p, ps[i]? = some p ∧ k = ptK p ∧ v = .int (i : Int) := by
  have hi := (List.getElem?_eq_some_iff.mp h).1
  rw [plK_len] at hi
  have e : ps[i]? = some ps[i] := List.getElem?_eq_getElem hi
  have := plK_get e
  rw [this] at h
  injection h with h
  injection h with h1 h2
  exact ⟨_, e, h1.symm, h2.symm⟩
theorem plK_snoc (ps : List Pt) (p : Pt) : plK (ps ++ [p]) = plK ps ++ [(ptK p, .int (ps.length : Int))] := by
  apply List.ext_getElem?
  intro i
  by_cases h : i < ps.length
  · rw [List.getElem?_append_left (by rw [plK_len]; exact h)]
    have e : ps[i]? = some ps[i] := List.getElem?_eq_getElem h
    rw [plK_get e, plK_get (show (ps ++ [p])[i]? = some ps[i] from by rw [List.getElem?_append_left h]; exact e)]
  · by_cases h2 : i = ps.length
    · subst h2
      rw [List.getElem?_append_right (by rw [plK_len]; exact Nat.le_refl _), plK_len, Nat.sub_self]
      rw [plK_get (p := p) (by rw [List.getElem?_append_right (Nat.le_refl _), Nat.sub_self]; rfl)]
      rfl
    · rw [List.getElem?_eq_none (by rw [plK_len, List.length_append, List.length_singleton]; omega), List.getElem?_eq_none (by rw [List.length_append, plK_len, List.length_singleton]; omega)]
theorem valV_ix {kvs : List (List Key × V)} {i : Nat} {k : List Key} {v : V} (nd : (kvs.map (·.1)).Nodup) (h : kvs[i]? = some (k, v)) : valV kvs k = some v := by
  unfold valV
  have hm : (k, v) ∈ kvs := List.mem_of_getElem? h
  induction kvs generalizing i with
  | nil => cases hm
  | cons a r ih =>
    rw [List.map_cons, List.nodup_cons] at nd
    rw [List.find?_cons]
    by_cases e : a.1 = k
    · rw [decide_eq_true e]
      show some a.2 = some v
      rcases List.mem_cons.mp hm with z | z
      · rw [← z]
      · exact absurd (List.mem_map.mpr ⟨_, z, rfl⟩) (e ▸ nd.1)
    · rw [decide_eq_false e]
      rcases List.mem_cons.mp hm with z | z
      · rw [← z] at e; exact absurd rfl e
      · obtain ⟨j, hj⟩ := List.getElem?_of_mem z
        exact ih nd.2 hj z
theorem plK_keys (ps : List Pt) : (plK ps).map (·.1) = ps.map ptK := by
  unfold plK
  rw [List.map_map]
  apply List.ext_getElem?
  intro i
  rw [List.getElem?_map, List.getElem?_zipIdx, List.getElem?_map]
  cases ps[i]? <;> rfl
theorem plK_nodup {ps : List Pt} (h : ps.Nodup) : ((plK ps).map (·.1)).Nodup := by
  rw [plK_keys]
  exact List.Pairwise.map _ (fun a b e g => e (ptK_inj g)) h
theorem plK_val {ps : List Pt} (nd : ps.Nodup) {i : Nat} {p : Pt} (h : ps[i]? = some p) : valV (plK ps) (ptK p) = some (.int (i : Int)) := valV_ix (plK_nodup nd) (plK_get h)
theorem idx_get {ps : List Pt} {p : Pt} (h : p ∈ ps) : ps[ps.idxOf p]? = some p := by
  have hl := List.idxOf_lt_length_iff.mpr h
  rw [List.getElem?_eq_getElem hl, List.getElem_idxOf hl]
theorem putK_new {kvs : List (List Key × V)} {k : List Key} {v : V} (h : k ∉ kvs.map (·.1)) : putK kvs k v = kvs ++ [(k, v)] := by
  unfold putK
  rw [if_neg]
  intro z
  obtain ⟨a, ha, e⟩ := List.any_eq_true.mp z
  exact h (List.mem_map.mpr ⟨a, ha, of_decide_eq_true e⟩)
theorem plK_put {ps : List Pt} {p : Pt} (h : p ∉ ps) : putK (plK ps) (ptK p) (.int (ps.length : Int)) = plK (ps ++ [p]) := by
  rw [putK_new, plK_snoc]
  rw [plK_keys]
  intro m
  obtain ⟨q, hq, e⟩ := List.mem_map.mp m
  exact h (ptK_inj e ▸ hq)
abbrev Row := List (Option Int)
structure TbM where
  pts : List Pt
  d : List Row
  ok : Bool
def rowO (r : Row) : HO := .lst (r.map hiV)
def nearB (a : Int) (o : Option Int) : Bool := match o with
  | none => true
  | some b => decide (a < b)
def cellM (d : List Row) (i j : Nat) : Option Int := (d.getD i []).getD j none
def onw1 (re reach : Row) (w : Int) (i : Nat) : Option (Nat × Int) := match re.getD i none with
  | none => none
  | some r => if nearB (w + r) (reach.getD i none) = true then some (i, w + r) else none
def onwN (re reach : Row) (w : Int) (n : Nat) : List (Nat × Int) := (List.range n).filterMap (onw1 re reach w)
def negB (o : Option Int) (w : Int) : Bool := match o with
  | none => false
  | some b => decide (b + w < 0)
def rowM1 (a : Int) (r : Row) (x : Nat × Int) : Row := if nearB (a + x.2) (r.getD x.1 none) = true then r.set x.1 (some (a + x.2)) else r
def rowM (s e : Nat) (w : Int) (on : List (Nat × Int)) (r : Row) : Row := match r.getD s none with
  | none => r
  | some a => if nearB (a + w) (r.getD e none) = true then on.foldl (rowM1 a) r else r
def shortM (d : List Row) (s e : Nat) (w : Int) : List Row := d.map (rowM s e w (onwN (d.getD e []) (d.getD s []) w (d.getD e []).length))
def putM (T : TbM) (s e : Nat) (w : Int) : TbM :=
  if negB (cellM T.d e s) w = true then ⟨T.pts, T.d, false⟩ else if nearB w (cellM T.d s e) = true then ⟨T.pts, shortM T.d s e w, T.ok⟩ else T
def addM (T : TbM) (p : Pt) : TbM := ⟨T.pts ++ [p], T.d.map (· ++ [none]) ++ [List.replicate T.pts.length none ++ [some 0]], T.ok⟩
def keptM (T : TbM) (ns : List Pt) : List Pt := T.pts.filter fun p => decide (p ∈ ns)
def keepM (T : TbM) (ns : List Pt) : TbM := ⟨keptM T ns, (keptM T ns).map fun p => (keptM T ns).map fun q => cellM T.d (T.pts.idxOf p) (T.pts.idxOf q), T.ok⟩
def distM (T : TbM) (p q : Pt) : Option Int := cellM T.d (T.pts.idxOf p) (T.pts.idxOf q)
structure TbOk (T : TbM) : Prop where
  nd : T.pts.Nodup
  few : T.pts.length ≤ 40
  dl : T.d.length = T.pts.length
  rl : ∀ r ∈ T.d, r.length = T.pts.length
theorem rowM1_len (a : Int) (r : Row) (x : Nat × Int) : (rowM1 a r x).length = r.length := by
  unfold rowM1
  split
  · rw [List.length_set]
  · rfl
theorem fold1_len (a : Int) : ∀ (on : List (Nat × Int)) (r : Row), (on.foldl (rowM1 a) r).length = r.length
  | [], _ => rfl
  | x :: on, r => by rw [List.foldl_cons, fold1_len a on, rowM1_len]
theorem rowM_len (s e : Nat) (w : Int) (on : List (Nat × Int)) (r : Row) : (rowM s e w on r).length = r.length := by
  unfold rowM
  split
  · rfl
  · split
    · exact fold1_len _ _ _
    · rfl
theorem TbOk.put {T : TbM} (h : TbOk T) (s e : Nat) (w : Int) : TbOk (putM T s e w) := by
  unfold putM
  split
  · exact ⟨h.nd, h.few, h.dl, h.rl⟩
  · split
    · refine ⟨h.nd, h.few, by show (shortM _ _ _ _).length = _; unfold shortM; rw [List.length_map]; exact h.dl, fun r hr => ?_⟩
      obtain ⟨r', hr', rfl⟩ := List.mem_map.mp hr
      rw [rowM_len]
      exact h.rl r' hr'
    · exact h
theorem TbOk.add {T : TbM} (h : TbOk T) {p : Pt} (hp : p ∉ T.pts) (hl : T.pts.length < 40) : TbOk (addM T p) := by
  refine ⟨?_, ?_, ?_, fun r hr => ?_⟩
  · show (T.pts ++ [p]).Nodup
    rw [List.nodup_append]
    exact ⟨h.nd, by simp, fun a ha b hb e => hp (by rw [List.mem_singleton.mp hb] at e; exact e ▸ ha)⟩
  · show (T.pts ++ [p]).length ≤ 40
    rw [List.length_append, List.length_singleton]; omega
  · show (T.d.map _ ++ [_]).length = (T.pts ++ [p]).length
    rw [List.length_append, List.length_map, List.length_append, h.dl]
    rfl
  · show r.length = (T.pts ++ [p]).length
    rw [List.length_append, List.length_singleton]
    rcases List.mem_append.mp hr with m | m
    · obtain ⟨r', hr', rfl⟩ := List.mem_map.mp m
      rw [List.length_append, h.rl r' hr']
      rfl
    · rw [List.mem_singleton.mp m, List.length_append, List.length_replicate]
      rfl
theorem TbOk.keep {T : TbM} (h : TbOk T) (ns : List Pt) : TbOk (keepM T ns) := by
  refine ⟨h.nd.filter _, Nat.le_trans (List.length_filter_le _ _) h.few, by show (List.map _ _).length = (keptM T ns).length; rw [List.length_map], fun r hr => ?_⟩
  obtain ⟨p, _, rfl⟩ := List.mem_map.mp hr
  rw [List.length_map]
  rfl
theorem paired_at {α β : Type} {R : α → β → Prop} : ∀ {xs : List α} {ys : List β} (h : Paired R xs ys) {i : Nat} {x : α}, xs[i]? = some x → ∃ y, ys[i]? = some y ∧ R x y
  | _, _, .nil, _, _, e => by simp at e
  | _, _, .cons h t, 0, _, e => by
    cases e
    exact ⟨_, rfl, h⟩
  | _, _, .cons h t, i + 1, _, e => paired_at t (i := i) e
theorem onwN_succ (re reach : Row) (w : Int) (n : Nat) : onwN re reach w (n + 1) = onwN re reach w n ++ (onw1 re reach w n).toList := by
  unfold onwN
  rw [List.range_succ, List.filterMap_append]
  congr 1
theorem onw1_fst {re reach : Row} {w : Int} {i : Nat} {x : Nat × Int} (h : onw1 re reach w i = some x) : x.1 = i := by
  unfold onw1 at h
  split at h
  · cases h
  · split at h
    · cases h; rfl
    · cases h
theorem onwN_lt (re reach : Row) (w : Int) (n : Nat) : ∀ x ∈ onwN re reach w n, x.1 < n := by
  intro x hx
  unfold onwN at hx
  obtain ⟨i, hi, e⟩ := List.mem_filterMap.mp hx
  rw [onw1_fst e]
  exact List.mem_range.mp hi
theorem onwN_len (re reach : Row) (w : Int) (n : Nat) : (onwN re reach w n).length ≤ n := by
  unfold onwN
  have := List.length_filterMap_le (onw1 re reach w) (List.range n)
  rw [List.length_range] at this
  exact this
theorem onw1_of_none {re reach : Row} {w : Int} {i : Nat} (h : re.getD i none = none) : onw1 re reach w i = none := by
  unfold onw1
  rw [h]
theorem onw1_of_some {re reach : Row} {w r : Int} {i : Nat} (h : re.getD i none = some r) : onw1 re reach w i = if nearB (w + r) (reach.getD i none) = true then some (i, w + r) else none := by
  unfold onw1
  rw [h]
theorem rowM_none {s e : Nat} {w : Int} {on : List (Nat × Int)} {r : Row} (h : r.getD s none = none) : rowM s e w on r = r := by
  unfold rowM
  rw [h]
theorem rowM_some {s e : Nat} {w a : Int} {on : List (Nat × Int)} {r : Row} (h : r.getD s none = some a) : rowM s e w on r = if nearB (a + w) (r.getD e none) = true then on.foldl (rowM1 a) r else r := by
  unfold rowM
  rw [h]
theorem set_self {α : Type} {d : List α} {i : Nat} {r : α} (h : d[i]? = some r) : d.set i r = d := by
  apply List.ext_getElem?
  intro j
  by_cases e : i = j
  · subst e
    rw [List.getElem?_set_self (List.getElem?_eq_some_iff.mp h).1, h]
  · rw [List.getElem?_set_ne e]
theorem mid_get {f : Row → Row} {d : List Row} {i : Nat} {r : Row} (h : d[i]? = some r) : ((d.take i).map f ++ d.drop i)[i]? = some r := by
  have hi := (List.getElem?_eq_some_iff.mp h).1
  have hl : ((d.take i).map f).length = i := by rw [List.length_map, List.length_take]; omega
  rw [List.getElem?_append_right (by omega), hl, Nat.sub_self, List.getElem?_drop, Nat.add_zero, h]
theorem mid_set {f : Row → Row} {d : List Row} {i : Nat} {r : Row} (h : d[i]? = some r) : (d.take (i + 1)).map f ++ d.drop (i + 1) = ((d.take i).map f ++ d.drop i).set i (f r) := by
  have hi := (List.getElem?_eq_some_iff.mp h).1
  have hl : ((d.take i).map f).length = i := by rw [List.length_map, List.length_take]; omega
  have e : d.drop i = r :: d.drop (i + 1) := by
    rw [List.drop_eq_getElem_cons hi]
    congr 1
    exact Option.some.inj ((List.getElem?_eq_getElem hi).symm.trans h)
  rw [List.take_add_one, h, List.map_append, e, List.set_append_right _ _ (by omega), hl, Nat.sub_self, List.append_assoc]
  rfl
theorem TbOk.short {T : TbM} (h : TbOk T) (s e : Nat) (w : Int) : TbOk ⟨T.pts, shortM T.d s e w, T.ok⟩ := by
  refine ⟨h.nd, h.few, by show (shortM _ _ _ _).length = _; unfold shortM; rw [List.length_map]; exact h.dl, fun r hr => ?_⟩
  obtain ⟨r', hr', rfl⟩ := List.mem_map.mp hr
  rw [rowM_len]
  exact h.rl r' hr'
theorem mk_sameT {H : Hp} {x dx C : Addr} (nx : H x = none) (ndx : H dx = none) : Same H (upd (upd H dx (.own x)) x (.ins C dx [])) := fun c w hc => by
  rw [upd_ne (ne_of_none hc nx), upd_ne (ne_of_none hc ndx)]
  exact hc
theorem takeS {α : Type} {xs : List α} {i : Nat} {x : α} (h : xs[i]? = some x) : xs.take (i + 1) = xs.take i ++ [x] := by rw [List.take_add_one, h]; rfl
end Vs

namespace Vs
open PySem PySem.Spec PyProof.Rows L2
/-! ### the distances of a table are least: never negative around, and no way round is shorter -/
def DLe (o : Option Int) (x : Int) : Prop := ∃ c, o = some c ∧ c ≤ x
theorem DLe.mono {o : Option Int} {x y : Int} (h : DLe o x) (l : x ≤ y) : DLe o y := by
  obtain ⟨c, h1, h2⟩ := h
  exact ⟨c, h1, by omega⟩
theorem near_no {x : Int} {o : Option Int} (h : ¬ nearB x o = true) : DLe o x := by
  cases o with
  | none => exact absurd rfl h
  | some b =>
    have h2 : ¬ x < b := fun z => h (decide_eq_true z)
    exact ⟨b, rfl, by omega⟩
theorem near_lt {x b : Int} {o : Option Int} (h : nearB x o = true) (e : o = some b) : x < b := by
  rw [e] at h
  exact of_decide_eq_true h
structure TbGd (T : TbM) : Prop where
  ok : TbOk T
  dg : ∀ i, i < T.pts.length → cellM T.d i i = some 0
  tr : ∀ i j k, i < T.pts.length → j < T.pts.length → k < T.pts.length → ∀ a b, cellM T.d i j = some a → cellM T.d j k = some b → DLe (cellM T.d i k) (a + b)
def newC (o : Option (Nat × Int)) (a : Int) (old : Option Int) : Option Int := match o with
  | none => old
  | some x => if nearB (a + x.2) old = true then some (a + x.2) else old
theorem getD_set {r : Row} {i j : Nat} {v : Option Int} (h : i < r.length) : (r.set i v).getD j none = if i = j then v else r.getD j none := by
  rw [List.getD_eq_getElem?_getD, List.getD_eq_getElem?_getD, List.getElem?_set]
  by_cases e : i = j
  · subst e
    rw [if_pos rfl, if_pos rfl, if_pos h]
    rfl
  · rw [if_neg e, if_neg e]
theorem fold_at (re reach : Row) (w a : Int) (r : Row) : ∀ (n : Nat), n ≤ r.length → ∀ j, ((onwN re reach w n).foldl (rowM1 a) r).getD j none = if j < n then newC (onw1 re reach w j) a (r.getD j none) else r.getD j none
  | 0, _, j => by
    rw [if_neg (by omega)]
    rfl
  | n + 1, h, j => by
    have ih := fold_at re reach w a r n (by omega)
    rw [onwN_succ, List.foldl_append]
    cases e : onw1 re reach w n with
    | none =>
      show ((onwN re reach w n).foldl (rowM1 a) r).getD j none = _
      rw [ih j]
      by_cases c : j = n
      · rw [c, if_neg (by omega), if_pos (by omega), e]
        rfl
      · by_cases c2 : j < n
        · rw [if_pos c2, if_pos (by omega)]
        · rw [if_neg c2, if_neg (by omega)]
    | some x =>
      have hx := onw1_fst e
      have hl : ((onwN re reach w n).foldl (rowM1 a) r).length = r.length := fold1_len _ _ _
      have hn := ih n
      rw [if_neg (by omega)] at hn
      show (rowM1 a ((onwN re reach w n).foldl (rowM1 a) r) x).getD j none = _
      generalize (onwN re reach w n).foldl (rowM1 a) r = F at *
      unfold rowM1
      rw [hx, hn]
      by_cases c : j = n
      · subst c
        rw [if_pos (Nat.lt_succ_self j), e]
        show (if nearB (a + x.2) (r.getD j none) = true then F.set j (some (a + x.2)) else F).getD j none = if nearB (a + x.2) (r.getD j none) = true then some (a + x.2) else r.getD j none
        by_cases nb : nearB (a + x.2) (r.getD j none) = true
        · rw [if_pos nb, if_pos nb, getD_set (by omega), if_pos rfl]
        · rw [if_neg nb, if_neg nb]
          exact hn
      · have rest : (if j < n then newC (onw1 re reach w j) a (r.getD j none) else r.getD j none) = (if j < n + 1 then newC (onw1 re reach w j) a (r.getD j none) else r.getD j none) := by
          by_cases c2 : j < n
          · rw [if_pos c2, if_pos (by omega)]
          · rw [if_neg c2, if_neg (by omega)]
        by_cases nb : nearB (a + x.2) (r.getD n none) = true
        · rw [if_pos nb, getD_set (by omega), if_neg (fun z => c z.symm), ih j, rest]
        · rw [if_neg nb, ih j, rest]
/-- what a bound makes of a distance -/
def putC (T : TbM) (s e : Nat) (w : Int) (i j : Nat) : Option Int := match cellM T.d i s with
  | none => cellM T.d i j
  | some a => if nearB (a + w) (cellM T.d i e) = true then newC (match cellM T.d e j with | none => none | some r => if nearB (w + r) (cellM T.d s j) = true then some (j, w + r) else none) a (cellM T.d i j) else cellM T.d i j
theorem getD_map {α β : Type} {f : α → β} {xs : List α} {i : Nat} {a : α} {b : β} (h : i < xs.length) : (xs.map f).getD i b = f (xs.getD i a) := by
  rw [List.getD_eq_getElem?_getD, List.getD_eq_getElem?_getD, List.getElem?_map, List.getElem?_eq_getElem h]
  rfl
theorem short_cell {T : TbM} (ok : TbOk T) {s e i j : Nat} {w : Int} (hi : i < T.pts.length) (hj : j < T.pts.length) (he : e < T.pts.length) : cellM (shortM T.d s e w) i j = putC T s e w i j := by
  have li : i < T.d.length := by rw [ok.dl]; exact hi
  have rl : ∀ k, k < T.pts.length → (T.d.getD k []).length = T.pts.length := fun k hk => by
    refine ok.rl _ (List.mem_of_getElem? (i := k) ?_)
    have lk : k < T.d.length := by rw [ok.dl]; exact hk
    rw [List.getD_eq_getElem?_getD, List.getElem?_eq_getElem lk]
    rfl
  show ((shortM T.d s e w).getD i []).getD j none = _
  unfold shortM
  rw [getD_map (a := []) li]
  unfold rowM putC
  show (match (T.d.getD i []).getD s none with | none => T.d.getD i [] | some a => _).getD j none = (match (T.d.getD i []).getD s none with | none => _ | some a => _)
  cases (T.d.getD i []).getD s none with
  | none => rfl
  | some a =>
    show (if nearB (a + w) ((T.d.getD i []).getD e none) = true then (onwN (T.d.getD e []) (T.d.getD s []) w (T.d.getD e []).length).foldl (rowM1 a) (T.d.getD i []) else T.d.getD i []).getD j none = (if nearB (a + w) ((T.d.getD i []).getD e none) = true then _ else _)
    split
    · rw [fold_at _ _ _ _ _ _ (by rw [rl e he, rl i hi]; exact Nat.le_refl _) j, if_pos (by rw [rl e he]; exact hj)]
      rfl
    · rfl
section
variable {T : TbM} {s e i j k : Nat} {w : Int}
theorem putC_le (T : TbM) (s e : Nat) (w : Int) (i j : Nat) {x : Int} (h : DLe (cellM T.d i j) x) : DLe (putC T s e w i j) x := by
  have hn : ∀ {o a}, DLe (newC o a (cellM T.d i j)) x := by
    intro o a
    unfold newC
    split
    · exact h
    · split
      · rename_i y c
        obtain ⟨b, h1, h2⟩ := h
        exact ⟨_, rfl, by have := near_lt c h1; omega⟩
      · exact h
  unfold putC
  split
  · exact h
  · split
    · exact hn
    · exact h
theorem putC_src {c : Int} (h : putC T s e w i j = some c) : cellM T.d i j = some c ∨ ∃ a b, cellM T.d i s = some a ∧ cellM T.d e j = some b ∧ c = a + w + b := by
  unfold putC at h
  split at h
  · exact .inl h
  · rename_i a ha
    split at h
    · unfold newC at h
      split at h
      · exact .inl h
      · rename_i y hy
        split at h
        · right
          split at hy
          · cases hy
          · rename_i r hr
            split at hy
            · cases hy
              cases h
              exact ⟨a, r, ha, hr, by show a + (w + r) = _; omega⟩
            · cases hy
        · exact .inl h
    · exact .inl h
theorem putC_new (g : TbGd T) (hi : i < T.pts.length) (hj : j < T.pts.length) (hs : s < T.pts.length) (he : e < T.pts.length) {a b : Int} (h1 : cellM T.d i s = some a) (h2 : cellM T.d e j = some b) : DLe (putC T s e w i j) (a + w + b) := by
  unfold putC
  rw [h1]
  show DLe (if nearB (a + w) (cellM T.d i e) = true then newC (match cellM T.d e j with | none => none | some r => if nearB (w + r) (cellM T.d s j) = true then some (j, w + r) else none) a (cellM T.d i j) else cellM T.d i j) _
  split
  · rw [h2]
    show DLe (newC (if nearB (w + b) (cellM T.d s j) = true then some (j, w + b) else none) a (cellM T.d i j)) _
    split
    · show DLe (if nearB (a + (w + b)) (cellM T.d i j) = true then some (a + (w + b)) else cellM T.d i j) _
      split
      · exact ⟨_, rfl, by omega⟩
      · rename_i c
        exact (near_no c).mono (by omega)
    · rename_i c
      obtain ⟨y, h3, h4⟩ := near_no c
      exact (g.tr i s j hi hs hj a y h1 h3).mono (by omega)
  · rename_i c
    obtain ⟨y, h3, h4⟩ := near_no c
    exact (g.tr i e j hi he hj y b h3 h2).mono (by omega)
end
theorem neg_no {o : Option Int} {w b : Int} (h : ¬ negB o w = true) (e : o = some b) : 0 ≤ b + w := by
  rw [e] at h
  have h2 : ¬ b + w < 0 := fun z => h (decide_eq_true z)
  omega
theorem put_cell {T : TbM} (g : TbGd T) {s e : Nat} {w : Int} (hs : s < T.pts.length) (he : e < T.pts.length) (nn : ¬ negB (cellM T.d e s) w = true) : TbGd (putM T s e w) ∧ (putM T s e w).ok = T.ok ∧ DLe (cellM (putM T s e w).d s e) w ∧ ∀ i j, i < T.pts.length → j < T.pts.length → ∀ x, DLe (cellM T.d i j) x → DLe (cellM (putM T s e w).d i j) x := by
  have okp := g.ok.put s e w
  unfold putM at okp ⊢
  rw [if_neg nn] at okp ⊢
  by_cases c : nearB w (cellM T.d s e) = true
  · rw [if_pos c] at okp ⊢
    have sc : ∀ {i j : Nat}, i < T.pts.length → j < T.pts.length → cellM (shortM T.d s e w) i j = putC T s e w i j := fun {i j} hi hj => short_cell g.ok hi hj he
    have up : ∀ i j : Nat, i < T.pts.length → j < T.pts.length → ∀ x, DLe (cellM T.d i j) x → DLe (cellM (shortM T.d s e w) i j) x := fun i j hi hj x h => by
      rw [sc hi hj]
      exact putC_le T s e w i j h
    have way : ∀ {i j : Nat}, i < T.pts.length → j < T.pts.length → ∀ {a b : Int}, cellM T.d i s = some a → cellM T.d e j = some b → DLe (cellM (shortM T.d s e w) i j) (a + w + b) := fun {i j} hi hj {a b} h1 h2 => by
      rw [sc hi hj]
      exact putC_new g hi hj hs he h1 h2
    refine ⟨⟨okp, fun i hi => ?_, fun i j k hi hj hk a b h1 h2 => ?_⟩, rfl, ?_, up⟩
    · have hi : i < T.pts.length := hi
      show cellM (shortM T.d s e w) i i = some 0
      obtain ⟨c, h1, h2⟩ := up i i hi hi 0 ⟨0, g.dg i hi, Int.le_refl _⟩
      rw [h1]
      rw [sc hi hi] at h1
      rcases putC_src h1 with h3 | ⟨a, b, h3, h4, h5⟩
      · rw [g.dg i hi] at h3
        exact h3.symm
      · obtain ⟨y, h6, h7⟩ := g.tr e i s he hi hs b a h4 h3
        have := neg_no nn h6
        have : c = 0 := by omega
        rw [this]
    · have hi : i < T.pts.length := hi
      have hj : j < T.pts.length := hj
      have hk : k < T.pts.length := hk
      have h1 : cellM (shortM T.d s e w) i j = some a := h1
      have h2 : cellM (shortM T.d s e w) j k = some b := h2
      show DLe (cellM (shortM T.d s e w) i k) (a + b)
      rw [sc hi hj] at h1
      rw [sc hj hk] at h2
      rcases putC_src h1 with h3 | ⟨a1, b1, h3, h4, h5⟩
      · rcases putC_src h2 with h6 | ⟨a2, b2, h6, h7, h8⟩
        · exact up i k hi hk _ (g.tr i j k hi hj hk a b h3 h6)
        · obtain ⟨y, h9, h10⟩ := g.tr i j s hi hj hs a a2 h3 h6
          exact (way hi hk h9 h7).mono (by omega)
      · rcases putC_src h2 with h6 | ⟨a2, b2, h6, h7, h8⟩
        · obtain ⟨y, h9, h10⟩ := g.tr e j k he hj hk b1 b h4 h6
          exact (way hi hk h3 h9).mono (by omega)
        · obtain ⟨y, h9, h10⟩ := g.tr e j s he hj hs b1 a2 h4 h6
          have := neg_no nn h9
          exact (way hi hk h3 h7).mono (by omega)
    · show DLe (cellM (shortM T.d s e w) s e) w
      exact (way hs he (g.dg s hs) (g.dg e he)).mono (by omega)
  · rw [if_neg c] at okp ⊢
    exact ⟨g, rfl, near_no c, fun i j _ _ x h => h⟩
theorem addM_cell {T : TbM} (ok : TbOk T) {p : Pt} {i j : Nat} (hi : i < T.pts.length + 1) (hj : j < T.pts.length + 1) : cellM (addM T p).d i j = if i < T.pts.length then (if j < T.pts.length then cellM T.d i j else none) else if j < T.pts.length then none else some 0 := by
  show ((T.d.map (· ++ [none]) ++ [List.replicate T.pts.length none ++ [some 0]]).getD i []).getD j none = _
  by_cases c : i < T.pts.length
  · rw [if_pos c]
    have li : i < T.d.length := by rw [ok.dl]; exact c
    have e : (T.d.map (· ++ [none]) ++ [List.replicate T.pts.length none ++ [some 0]]).getD i [] = T.d.getD i [] ++ [none] := by
      rw [List.getD_eq_getElem?_getD, List.getElem?_append_left (by rw [List.length_map]; exact li), List.getElem?_map, List.getD_eq_getElem?_getD, List.getElem?_eq_getElem li]
      rfl
    have rl : (T.d.getD i []).length = T.pts.length := by
      refine ok.rl _ (List.mem_of_getElem? (i := i) ?_)
      rw [List.getD_eq_getElem?_getD, List.getElem?_eq_getElem li]
      rfl
    rw [e]
    by_cases c2 : j < T.pts.length
    · rw [if_pos c2, List.getD_eq_getElem?_getD, List.getElem?_append_left (by rw [rl]; exact c2)]
      show _ = (T.d.getD i []).getD j none
      rw [List.getD_eq_getElem?_getD (l := T.d.getD i [])]
    · rw [if_neg c2, List.getD_eq_getElem?_getD, List.getElem?_append_right (by rw [rl]; omega), rl, show j - T.pts.length = 0 by omega]
      rfl
  · rw [if_neg c]
    have e : (T.d.map (· ++ [none]) ++ [List.replicate T.pts.length none ++ [some 0]]).getD i [] = List.replicate T.pts.length none ++ [some 0] := by
      rw [List.getD_eq_getElem?_getD, List.getElem?_append_right (by rw [List.length_map, ok.dl]; omega), List.length_map, ok.dl, show i - T.pts.length = 0 by omega]
      rfl
    rw [e]
    by_cases c2 : j < T.pts.length
    · rw [if_pos c2, List.getD_eq_getElem?_getD, List.getElem?_append_left (by rw [List.length_replicate]; exact c2), List.getElem?_replicate, if_pos c2]
      rfl
    · rw [if_neg c2, List.getD_eq_getElem?_getD, List.getElem?_append_right (by rw [List.length_replicate]; omega), List.length_replicate, show j - T.pts.length = 0 by omega]
      rfl
theorem TbGd.add {T : TbM} (g : TbGd T) {p : Pt} (np : p ∉ T.pts) (few : T.pts.length < 40) : TbGd (addM T p) := by
  have len : (addM T p).pts.length = T.pts.length + 1 := by show (T.pts ++ [p]).length = _; rw [List.length_append, List.length_singleton]
  refine ⟨g.ok.add np few, fun i hi => ?_, fun i j k hi hj hk a b h1 h2 => ?_⟩
  · rw [len] at hi
    rw [addM_cell g.ok hi hi]
    by_cases c : i < T.pts.length
    · rw [if_pos c, if_pos c]; exact g.dg i c
    · rw [if_neg c, if_neg c]
  · rw [len] at hi hj hk
    rw [addM_cell g.ok hi hj] at h1
    rw [addM_cell g.ok hj hk] at h2
    rw [addM_cell g.ok hi hk]
    by_cases ci : i < T.pts.length <;> by_cases cj : j < T.pts.length <;> by_cases ck : k < T.pts.length <;> simp only [ci, cj, ck, if_true, if_false] at h1 h2 ⊢ <;> first | exact g.tr i j k ci cj ck a b h1 h2 | (cases h1; done) | (cases h2; done) | skip
    cases h1
    cases h2
    exact ⟨0, rfl, by omega⟩
theorem idx_lt {ps : List Pt} {p : Pt} (h : p ∈ ps) : ps.idxOf p < ps.length := List.idxOf_lt_length_iff.mpr h
theorem keep_cell {T : TbM} {ns : List Pt} {i j : Nat} (hi : i < (keptM T ns).length) (hj : j < (keptM T ns).length) : cellM (keepM T ns).d i j = cellM T.d (T.pts.idxOf (keptM T ns)[i]) (T.pts.idxOf (keptM T ns)[j]) := by
  show (((keptM T ns).map fun p => (keptM T ns).map fun q => cellM T.d (T.pts.idxOf p) (T.pts.idxOf q)).getD i []).getD j none = _
  rw [List.getD_eq_getElem?_getD, List.getD_eq_getElem?_getD, List.getElem?_map, List.getElem?_eq_getElem hi]
  show (((keptM T ns).map fun q => cellM T.d (T.pts.idxOf (keptM T ns)[i]) (T.pts.idxOf q))[j]?).getD none = _
  rw [List.getElem?_map, List.getElem?_eq_getElem hj]
  rfl
theorem kept_in {T : TbM} {ns : List Pt} {p : Pt} (h : p ∈ keptM T ns) : p ∈ T.pts := (List.mem_filter.mp h).1
theorem TbGd.keep {T : TbM} (g : TbGd T) (ns : List Pt) : TbGd (keepM T ns) := by
  have lt : ∀ {i} (hi : i < (keptM T ns).length), T.pts.idxOf (keptM T ns)[i] < T.pts.length := fun hi => idx_lt (kept_in (List.getElem_mem hi))
  refine ⟨g.ok.keep ns, fun i hi => ?_, fun i j k hi hj hk a b h1 h2 => ?_⟩
  · have hi : i < (keptM T ns).length := hi
    rw [keep_cell hi hi]
    exact g.dg _ (lt hi)
  · have hi : i < (keptM T ns).length := hi
    have hj : j < (keptM T ns).length := hj
    have hk : k < (keptM T ns).length := hk
    rw [keep_cell hi hj] at h1
    rw [keep_cell hj hk] at h2
    rw [keep_cell hi hk]
    exact g.tr _ _ _ (lt hi) (lt hj) (lt hk) a b h1 h2
theorem keep_dist {T : TbM} {ns : List Pt} {p q : Pt} (hp : p ∈ keptM T ns) (hq : q ∈ keptM T ns) : distM (keepM T ns) p q = distM T p q := by
  show cellM (keepM T ns).d ((keptM T ns).idxOf p) ((keptM T ns).idxOf q) = _
  rw [keep_cell (idx_lt hp) (idx_lt hq), List.getElem_idxOf, List.getElem_idxOf]
  rfl
theorem put_dist {T : TbM} {s e : Nat} {w : Int} {p q : Pt} : distM (putM T s e w) p q = cellM (putM T s e w).d (T.pts.idxOf p) (T.pts.idxOf q) := by
  unfold distM
  have h : (putM T s e w).pts = T.pts := by
    unfold putM
    split
    · rfl
    · split <;> rfl
  rw [h]
theorem TbGd.self {T : TbM} (g : TbGd T) {p : Pt} (h : p ∈ T.pts) : distM T p p = some 0 := g.dg _ (idx_lt h)
theorem TbGd.way {T : TbM} (g : TbGd T) {p q r : Pt} (hp : p ∈ T.pts) (hq : q ∈ T.pts) (hr : r ∈ T.pts) {a b : Int} (h1 : distM T p q = some a) (h2 : distM T q r = some b) : DLe (distM T p r) (a + b) := g.tr _ _ _ (idx_lt hp) (idx_lt hq) (idx_lt hr) a b h1 h2
theorem TbGd.nil : TbGd ⟨[], [], true⟩ := ⟨⟨List.nodup_nil, by decide, rfl, fun r h => by cases h⟩, fun i h => absurd h (Nat.not_lt_zero i), fun i j k h => absurd h (Nat.not_lt_zero i)⟩
/-- the time of a point -/
def IsTm (T : TbM) (p : Pt) (m : Int) : Prop := (∃ q ∈ T.pts, distM T q p = some m) ∧ ∀ q ∈ T.pts, ∀ c, distM T q p = some c → m ≤ c
theorem IsTm.one {T : TbM} {p : Pt} {m n : Int} (h : IsTm T p m) (g : IsTm T p n) : m = n := by
  obtain ⟨⟨q, hq, e⟩, h2⟩ := h
  obtain ⟨⟨q', hq', e'⟩, g2⟩ := g
  have := h2 _ hq' _ e'
  have := g2 _ hq _ e
  omega
theorem IsTm.met {T : TbM} (gd : TbGd T) {p q : Pt} (hp : p ∈ T.pts) (hq : q ∈ T.pts) {m n w : Int} (h : IsTm T p m) (g : IsTm T q n) (d : DLe (distM T p q) w) : n ≤ m + w := by
  obtain ⟨⟨k, hk, e⟩, _⟩ := h
  obtain ⟨c, hc, lc⟩ := d
  obtain ⟨x, hx, lx⟩ := gd.way hk hp hq e hc
  have := g.2 _ hk _ hx
  omega
theorem erase_kept {T : TbM} (nd : T.pts.Nodup) (k : Nat) : keptM T (T.pts.eraseIdx k) = T.pts.eraseIdx k := by
  unfold keptM
  generalize T.pts = ps at *
  induction ps generalizing k with
  | nil => rfl
  | cons p r ih =>
    have n1 := (List.nodup_cons.mp nd).1
    have n2 := (List.nodup_cons.mp nd).2
    cases k with
    | zero =>
      show List.filter (fun q => decide (q ∈ r)) (p :: r) = r
      rw [List.filter_cons, if_neg (by rw [decide_eq_true_iff]; exact n1)]
      exact List.filter_eq_self.mpr fun q hq => decide_eq_true hq
    | succ k =>
      show List.filter (fun q => decide (q ∈ p :: r.eraseIdx k)) (p :: r) = p :: r.eraseIdx k
      rw [List.filter_cons, if_pos (decide_eq_true List.mem_cons_self)]
      congr 1
      refine Eq.trans (List.filter_congr fun q hq => ?_) (ih k n2)
      apply decide_eq_decide.mpr
      exact ⟨fun m => (List.mem_cons.mp m).resolve_left fun e => n1 (e ▸ hq), fun m => List.mem_cons_of_mem _ m⟩
end Vs

namespace Vs
open PySem PySem.Spec PyProof.Rows L2
/-! ### chains of bounds, and how the law finds their least sums -/
structure Ar where
  u : Nat
  v : Nat
  w : Int
inductive Wk (arcs : List Ar) : Nat → Nat → Int → Prop where
  | nil (i : Nat) : Wk arcs i i 0
  | snoc {i j : Nat} {a : Int} (h : Wk arcs i j a) {z : Ar} (m : z ∈ arcs) (e : z.u = j) : Wk arcs i z.v (a + z.w)
theorem Wk.trans {arcs : List Ar} {i j k : Nat} {a b : Int} (h : Wk arcs i j a) (g : Wk arcs j k b) : Wk arcs i k (a + b) := by
  induction g with
  | nil => rw [Int.add_zero]; exact h
  | snoc _ m e ih => rw [← Int.add_assoc]; exact .snoc ih m e
theorem Wk.mono {arcs brcs : List Ar} (s : arcs ⊆ brcs) {i j : Nat} {a : Int} (h : Wk arcs i j a) : Wk brcs i j a := by
  induction h with
  | nil => exact .nil _
  | snoc _ m e ih => exact .snoc ih (s m) e
structure ClD (D : Nat → Nat → Option Int) (n : Nat) (arcs : List Ar) : Prop where
  dg : ∀ i, i < n → D i i = some 0
  tr : ∀ i j k, i < n → j < n → k < n → ∀ a b, D i j = some a → D j k = some b → DLe (D i k) (a + b)
  ar : ∀ z ∈ arcs, z.u < n ∧ z.v < n ∧ DLe (D z.u z.v) z.w
  at' : ∀ i j, i < n → j < n → ∀ c, D i j = some c → Wk arcs i j c
def relax (best : Row) (z : Ar) : Row := match best.getD z.u none with
  | none => best
  | some a => if nearB (a + z.w) (best.getD z.v none) = true then best.set z.v (some (a + z.w)) else best
theorem relax_len (best : Row) (z : Ar) : (relax best z).length = best.length := by
  unfold relax
  split
  · rfl
  · split
    · rw [List.length_set]
    · rfl
theorem relax_le {best : Row} {z : Ar} {v : Nat} {x : Int} (hv : z.v < best.length) (h : DLe (best.getD v none) x) : DLe ((relax best z).getD v none) x := by
  unfold relax
  split
  · exact h
  · split
    · rename_i a _ c
      rw [getD_set hv]
      split
      · rename_i e
        rw [e] at c
        obtain ⟨b, h1, h2⟩ := h
        exact ⟨_, rfl, by have := near_lt c h1; omega⟩
      · exact h
    · exact h
theorem relax_own {best : Row} {z : Ar} {a : Int} (hv : z.v < best.length) (h : DLe (best.getD z.u none) a) : DLe ((relax best z).getD z.v none) (a + z.w) := by
  obtain ⟨b, h1, h2⟩ := h
  unfold relax
  rw [h1]
  show DLe ((if nearB (b + z.w) (best.getD z.v none) = true then best.set z.v (some (b + z.w)) else best).getD z.v none) _
  split
  · rw [getD_set hv, if_pos rfl]
    exact ⟨_, rfl, by omega⟩
  · rename_i c
    exact (near_no c).mono (by omega)
section
variable {D : Nat → Nat → Option Int} {n s : Nat} {arcs : List Ar}
/-- sound: never less than the distance -/
structure Snd (D : Nat → Nat → Option Int) (n s : Nat) (best : Row) : Prop where
  len : best.length = n
  ge : ∀ v, v < n → ∀ x, best.getD v none = some x → DLe (D s v) x
  own : DLe (best.getD s none) 0
theorem Snd.relax (c : ClD D n arcs) (hs : s < n) {best : Row} (h : Snd D n s best) {z : Ar} (m : z ∈ arcs) : Snd D n s (relax best z) := by
  obtain ⟨h1, h2, d, hd, ld⟩ := c.ar z m
  refine ⟨by rw [relax_len, h.len], fun v hv x hx => ?_, relax_le (by rw [h.len]; exact h2) h.own⟩
  unfold Vs.relax at hx
  split at hx
  · exact h.ge v hv x hx
  · rename_i a ha
    split at hx
    · rw [getD_set (by rw [h.len]; exact h2)] at hx
      split at hx
      · rename_i e
        cases hx
        obtain ⟨y, hy, ly⟩ := h.ge _ h1 _ ha
        rw [← e]
        exact (c.tr _ _ _ hs h1 h2 _ _ hy hd).mono (by omega)
      · exact h.ge v hv x hx
    · exact h.ge v hv x hx
theorem Snd.fold (c : ClD D n arcs) (hs : s < n) : ∀ (l : List Ar) (best : Row), l ⊆ arcs → Snd D n s best → Snd D n s (l.foldl Vs.relax best)
  | [], _, _, h => h
  | z :: l, best, sub, h => Snd.fold c hs l _ (fun y hy => sub (List.mem_cons_of_mem _ hy)) (h.relax c hs (sub List.mem_cons_self))
theorem fold_le (c : ClD D n arcs) {v : Nat} {x : Int} : ∀ (l : List Ar) (best : Row), l ⊆ arcs → best.length = n → DLe (best.getD v none) x → DLe ((l.foldl relax best).getD v none) x
  | [], _, _, _, h => h
  | z :: l, best, sub, hl, h => fold_le c l _ (fun y hy => sub (List.mem_cons_of_mem _ hy)) (by rw [relax_len, hl]) (relax_le (by rw [hl]; exact (c.ar z (sub List.mem_cons_self)).2.1) h)
theorem fold_own (c : ClD D n arcs) {z : Ar} {a : Int} : ∀ (l : List Ar) (best : Row), l ⊆ arcs → best.length = n → z ∈ l → DLe (best.getD z.u none) a → DLe ((l.foldl relax best).getD z.v none) (a + z.w)
  | [], _, _, _, m, _ => by cases m
  | y :: l, best, sub, hl, m, h => by
    have sub' : l ⊆ arcs := fun y hy => sub (List.mem_cons_of_mem _ hy)
    have hy := (c.ar y (sub List.mem_cons_self)).2.1
    rcases List.mem_cons.mp m with e | m
    · subst e
      exact fold_le c l _ sub' (by rw [relax_len, hl]) (relax_own (by rw [hl]; exact hy) h)
    · exact fold_own c l _ sub' (by rw [relax_len, hl]) m (relax_le (by rw [hl]; exact hy) h)
def setB (D : Nat → Nat → Option Int) (s : Nat) (best : Row) (v : Nat) : Bool := match D s v with
  | none => true
  | some c => !nearB c (best.getD v none)
theorem setB_iff {best : Row} {v : Nat} : setB D s best v = true ↔ ∀ c, D s v = some c → DLe (best.getD v none) c := by
  unfold setB
  cases h : D s v with
  | none =>
    constructor
    · intro _ c hc
      cases hc
    · intro _
      rfl
  | some c =>
    show (!nearB c (best.getD v none)) = true ↔ _
    constructor
    · intro g d hd
      cases hd
      exact near_no (by rw [Bool.not_eq_true'] at g; rw [g]; decide)
    · intro g
      obtain ⟨b, h1, h2⟩ := g c rfl
      rw [Bool.not_eq_true']
      cases e : nearB c (best.getD v none) with
      | false => rfl
      | true => have := near_lt e h1; omega
theorem find_arc (c : ClD D n arcs) (hs : s < n) {best : Row} (own : setB D s best s = true) {i : Nat} {v : Nat} {x : Int} (h : Wk arcs i v x) (ei : i = s) (hv : v < n) (hd : D s v = some x) (un : ¬ setB D s best v = true) :
    ∃ z ∈ arcs, ∃ a, D s z.u = some a ∧ D s z.v = some (a + z.w) ∧ setB D s best z.u = true ∧ ¬ setB D s best z.v = true := by
  induction h with
  | nil => rw [ei] at un; exact absurd own un
  | @snoc j a h z m e ih =>
    obtain ⟨h1, h2, d, hd2, ld⟩ := c.ar z m
    have wk_ge : ∀ {j y}, Wk arcs i j y → j < n → DLe (D s j) y := fun {j y} g => by
      induction g with
      | nil => intro _; rw [ei, c.dg s hs]; exact ⟨0, rfl, Int.le_refl _⟩
      | @snoc j' a' _ z' m' e' ih' =>
        intro _
        obtain ⟨g1, g2, d', hd', ld'⟩ := c.ar z' m'
        obtain ⟨y', hy', ly'⟩ := ih' (by rw [← e']; exact g1)
        exact (c.tr s z'.u z'.v hs g1 g2 y' d' (by rw [e']; exact hy') hd').mono (by omega)
    obtain ⟨y, hy, ly⟩ := wk_ge h (by rw [← e]; exact h1)
    have hyu : D s z.u = some y := by rw [e]; exact hy
    obtain ⟨q, hq, lq⟩ := c.tr s z.u z.v hs h1 h2 y d hyu hd2
    rw [hd] at hq
    cases hq
    have ya : y = a := by omega
    subst ya
    by_cases st : setB D s best z.u = true
    · exact ⟨z, m, y, hyu, hd, st, un⟩
    · exact ih (by rw [← e]; exact h1) hy (by rw [← e]; exact st)
theorem filt_lt {p q : Nat → Bool} : ∀ (l : List Nat), (∀ x ∈ l, p x = true → q x = true) → (∃ x ∈ l, q x = true ∧ ¬ p x = true) → (l.filter p).length < (l.filter q).length
  | [], _, ⟨x, m, _⟩ => by cases m
  | a :: l, h, ⟨x, m, h1, h2⟩ => by
    have le : (l.filter p).length ≤ (l.filter q).length := filt_le l fun x hx => h x (List.mem_cons_of_mem _ hx)
    rcases List.mem_cons.mp m with e | m
    · rw [e] at h1 h2
      rw [List.filter_cons, if_neg h2, List.filter_cons, if_pos h1, List.length_cons]
      omega
    · have ih := filt_lt l (fun x hx => h x (List.mem_cons_of_mem _ hx)) ⟨x, m, h1, h2⟩
      have ha := h a List.mem_cons_self
      rw [List.filter_cons, List.filter_cons]
      by_cases pa : p a = true
      · rw [if_pos pa, if_pos (ha pa), List.length_cons, List.length_cons]; omega
      · rw [if_neg pa]
        split
        · rw [List.length_cons]; omega
        · exact ih
where
  filt_le {p q : Nat → Bool} : ∀ (l : List Nat), (∀ x ∈ l, p x = true → q x = true) → (l.filter p).length ≤ (l.filter q).length
  | [], _ => Nat.le_refl _
  | a :: l, h => by
    have ih := filt_le l fun x hx => h x (List.mem_cons_of_mem _ hx)
    have ha := h a List.mem_cons_self
    rw [List.filter_cons, List.filter_cons]
    by_cases pa : p a = true
    · rw [if_pos pa, if_pos (ha pa), List.length_cons, List.length_cons]; omega
    · rw [if_neg pa]
      split
      · rw [List.length_cons]; omega
      · exact ih
def unS (D : Nat → Nat → Option Int) (n s : Nat) (best : Row) : Nat := ((List.range n).filter fun v => !setB D s best v).length
theorem round_set (c : ClD D n arcs) {best : Row} (hl : best.length = n) {v : Nat} (h : setB D s best v = true) : setB D s (arcs.foldl relax best) v = true :=
  setB_iff.mpr fun x hx => fold_le c arcs best (fun _ h => h) hl (setB_iff.mp h x hx)
theorem round_un (c : ClD D n arcs) (hs : s < n) {best : Row} (h : Snd D n s best) : unS D n s (arcs.foldl relax best) ≤ unS D n s best - 1 := by
  have sub : ∀ x ∈ List.range n, (!setB D s (arcs.foldl relax best) x) = true → (!setB D s best x) = true := fun x _ hx => by
    cases e : setB D s best x with
    | false => rfl
    | true => rw [round_set c h.len e] at hx; cases hx
  by_cases z : unS D n s best = 0
  · have := filt_lt.filt_le (p := fun x => !setB D s (arcs.foldl relax best) x) (q := fun x => !setB D s best x) (List.range n) sub
    unfold unS at *
    omega
  · have : ∃ v, v < n ∧ ¬ setB D s best v = true := by
      unfold unS at z
      obtain ⟨v, hv⟩ := List.exists_mem_of_length_pos (Nat.pos_of_ne_zero z)
      obtain ⟨m, hm⟩ := List.mem_filter.mp hv
      exact ⟨v, List.mem_range.mp m, fun e => by rw [e] at hm; cases hm⟩
    obtain ⟨v, hv, un⟩ := this
    have own : setB D s best s = true := setB_iff.mpr fun x hx => by
      rw [c.dg s hs] at hx
      cases hx
      exact h.own
    cases hd : D s v with
    | none => exact absurd (setB_iff.mpr fun x hx => by rw [hd] at hx; cases hx) un
    | some x =>
      obtain ⟨a, m, y, h1, h2, h3, h4⟩ := find_arc c hs own (c.at' s v hs hv x hd) rfl hv hd un
      have done : setB D s (arcs.foldl relax best) a.v = true := setB_iff.mpr fun x hx => by
        rw [h2] at hx
        cases hx
        exact fold_own c arcs best (fun _ h => h) h.len m (setB_iff.mp h3 y h1)
      have := filt_lt (p := fun x => !setB D s (arcs.foldl relax best) x) (q := fun x => !setB D s best x) (List.range n) sub ⟨a.v, List.mem_range.mpr (c.ar a m).2.1, by
        cases e : setB D s best a.v with
        | false => rfl
        | true => exact absurd e h4, by rw [done]; decide⟩
      unfold unS at *
      omega
def iterR (arcs : List Ar) : Nat → Row → Row
  | 0, b => b
  | k + 1, b => arcs.foldl relax (iterR arcs k b)
theorem iter_ok (c : ClD D n arcs) (hs : s < n) {best : Row} (h : Snd D n s best) : ∀ k, Snd D n s (iterR arcs k best) ∧ unS D n s (iterR arcs k best) ≤ n - k
  | 0 => by
    refine ⟨h, ?_⟩
    have := List.length_filter_le (fun v => !setB D s best v) (List.range n)
    rw [List.length_range] at this
    unfold unS iterR
    omega
  | k + 1 => by
    obtain ⟨h1, h2⟩ := iter_ok c hs h k
    refine ⟨Snd.fold c hs arcs _ (fun _ h => h) h1, ?_⟩
    have := round_un c hs h1
    show unS D n s (arcs.foldl relax (iterR arcs k best)) ≤ _
    omega
theorem least_is (c : ClD D n arcs) (hs : s < n) : iterR arcs n ((List.replicate n none).set s (some 0)) = (List.range n).map (D s) := by
  have h0 : Snd D n s ((List.replicate n none).set s (some 0)) := by
    refine ⟨by rw [List.length_set, List.length_replicate], fun v hv x hx => ?_, ?_⟩
    · rw [getD_set (by rw [List.length_replicate]; exact hs)] at hx
      split at hx
      · rename_i e
        cases hx
        rw [← e, c.dg s hs]
        exact ⟨0, rfl, Int.le_refl _⟩
      · rw [List.getD_eq_getElem?_getD, List.getElem?_replicate] at hx
        split at hx <;> cases hx
    · rw [getD_set (by rw [List.length_replicate]; exact hs), if_pos rfl]
      exact ⟨0, rfl, Int.le_refl _⟩
  obtain ⟨h1, h2⟩ := iter_ok c hs h0 n
  generalize iterR arcs n ((List.replicate n none).set s (some 0)) = best at *
  have zero : unS D n s best = 0 := by omega
  have all : ∀ v, v < n → setB D s best v = true := fun v hv => by
    cases e : setB D s best v with
    | true => rfl
    | false =>
      have m : v ∈ (List.range n).filter fun v => !setB D s best v := List.mem_filter.mpr ⟨List.mem_range.mpr hv, by rw [e]; rfl⟩
      unfold unS at zero
      rw [List.length_eq_zero_iff.mp zero] at m
      cases m
  apply List.ext_getElem
  · rw [h1.len, List.length_map, List.length_range]
  · intro v g1 g2
    have hv : v < n := by rw [← h1.len]; exact g1
    rw [List.getElem_map, List.getElem_range]
    have e : best.getD v none = best[v] := by rw [List.getD_eq_getElem?_getD, List.getElem?_eq_getElem g1]; rfl
    rw [← e]
    have st := setB_iff.mp (all v hv)
    have ge := h1.ge v hv
    cases hd : D s v with
    | none =>
      cases hb : best.getD v none with
      | none => rfl
      | some x => obtain ⟨y, hy, _⟩ := ge x hb; rw [hd] at hy; cases hy
    | some x =>
      obtain ⟨y, hy, ly⟩ := st x hd
      obtain ⟨z, hz, lz⟩ := ge y hy
      rw [hd] at hz
      cases hz
      rw [hy, show y = x by omega]
end
/-! ### a table and its bounds -/
theorem put_iff {T : TbM} (g : TbGd T) {s e : Nat} {w : Int} (hs : s < T.pts.length) (he : e < T.pts.length) (nn : ¬ negB (cellM T.d e s) w = true) {i j : Nat} (hi : i < T.pts.length) (hj : j < T.pts.length) {c : Int} (h : cellM (putM T s e w).d i j = some c) :
    cellM T.d i j = some c ∨ ∃ a b, cellM T.d i s = some a ∧ cellM T.d e j = some b ∧ c = a + w + b := by
  unfold putM at h
  rw [if_neg nn] at h
  split at h
  · have h : cellM (shortM T.d s e w) i j = some c := h
    rw [short_cell g.ok hi hj he] at h
    exact putC_src h
  · exact .inl h
theorem ClD.put {T : TbM} (g : TbGd T) {arcs : List Ar} (c : ClD (cellM T.d) T.pts.length arcs) {s e : Nat} {w : Int} (hs : s < T.pts.length) (he : e < T.pts.length) (nn : ¬ negB (cellM T.d e s) w = true) : ClD (cellM (putM T s e w).d) T.pts.length (arcs ++ [⟨s, e, w⟩]) := by
  obtain ⟨g2, _, own, old⟩ := put_cell g hs he nn
  have len : (putM T s e w).pts.length = T.pts.length := by
    have h : (putM T s e w).pts = T.pts := by
      unfold putM
      split
      · rfl
      · split <;> rfl
    rw [h]
  have sub : arcs ⊆ arcs ++ [⟨s, e, w⟩] := fun x hx => List.mem_append_left _ hx
  refine ⟨fun i hi => g2.dg i (by rw [len]; exact hi), fun i j k hi hj hk => g2.tr i j k (by rw [len]; exact hi) (by rw [len]; exact hj) (by rw [len]; exact hk), fun z hz => ?_, fun i j hi hj x hx => ?_⟩
  · rcases List.mem_append.mp hz with m | m
    · obtain ⟨h1, h2, h3⟩ := c.ar z m
      exact ⟨h1, h2, old _ _ h1 h2 _ h3⟩
    · rw [List.mem_singleton.mp m]
      exact ⟨hs, he, own⟩
  · rcases put_iff g hs he nn hi hj hx with h | ⟨a, b, h1, h2, h3⟩
    · exact (c.at' i j hi hj x h).mono sub
    · have w1 := (c.at' i s hi hs a h1).mono sub
      have w2 := (c.at' e j he hj b h2).mono sub
      rw [h3]
      exact (Wk.snoc w1 (z := ⟨s, e, w⟩) (List.mem_append_right _ (List.mem_singleton.mpr rfl)) rfl).trans w2
end Vs

namespace Vs
open PySem PySem.Spec PyProof.Rows L2
/-! ### a table beside one that keeps all points that ever were -/
theorem DLe_ext {o1 o2 : Option Int} (h : ∀ x, DLe o1 x ↔ DLe o2 x) : o1 = o2 := by
  cases h1 : o1 with
  | none =>
    cases h2 : o2 with
    | none => rfl
    | some b =>
      obtain ⟨c, hc, _⟩ := (h b).mpr ⟨b, h2, Int.le_refl _⟩
      rw [h1] at hc
      cases hc
  | some a =>
    cases h2 : o2 with
    | none =>
      obtain ⟨c, hc, _⟩ := (h a).mp ⟨a, h1, Int.le_refl _⟩
      rw [h2] at hc
      cases hc
    | some b =>
      obtain ⟨c, hc, l1⟩ := (h a).mp ⟨a, h1, Int.le_refl _⟩
      rw [h2] at hc
      cases hc
      obtain ⟨d, hd, l2⟩ := (h b).mpr ⟨b, h2, Int.le_refl _⟩
      rw [h1] at hd
      cases hd
      rw [show a = b by omega]
theorem put_DLe {T : TbM} (g : TbGd T) {s e : Nat} {w : Int} (hs : s < T.pts.length) (he : e < T.pts.length) (nn : ¬ negB (cellM T.d e s) w = true) {i j : Nat} (hi : i < T.pts.length) (hj : j < T.pts.length) (x : Int) :
    DLe (cellM (putM T s e w).d i j) x ↔ DLe (cellM T.d i j) x ∨ ∃ a b, cellM T.d i s = some a ∧ cellM T.d e j = some b ∧ a + w + b ≤ x := by
  obtain ⟨g2, hok, own, old⟩ := put_cell g hs he nn
  have len : (putM T s e w).pts.length = T.pts.length := by
    have h : (putM T s e w).pts = T.pts := by
      unfold putM
      split
      · rfl
      · split <;> rfl
    rw [h]
  constructor
  · rintro ⟨c, hc, lc⟩
    rcases put_iff g hs he nn hi hj hc with h | ⟨a, b, h1, h2, h3⟩
    · exact .inl ⟨c, h, lc⟩
    · exact .inr ⟨a, b, h1, h2, by omega⟩
  · rintro (h | ⟨a, b, h1, h2, h3⟩)
    · exact old i j hi hj x h
    · obtain ⟨y, hy, ly⟩ := old i s hi hs a ⟨a, h1, Int.le_refl _⟩
      obtain ⟨z, hz, lz⟩ := old e j he hj b ⟨b, h2, Int.le_refl _⟩
      obtain ⟨v, hv, lv⟩ := own
      obtain ⟨u, hu, lu⟩ := g2.tr i s e (by rw [len]; exact hi) (by rw [len]; exact hs) (by rw [len]; exact he) y v hy hv
      exact (g2.tr i e j (by rw [len]; exact hi) (by rw [len]; exact he) (by rw [len]; exact hj) u z hu hz).mono (by omega)
/-- the table's points have numbers in the one that keeps all -/
structure Gho (T G : TbM) (ms : List Nat) : Prop where
  gt : TbGd T
  gg : TbGd G
  len : ms.length = T.pts.length
  lt : ∀ m ∈ ms, m < G.pts.length
  nd : ms.Nodup
  ce : ∀ i j m n, ms[i]? = some m → ms[j]? = some n → cellM T.d i j = cellM G.d m n
theorem Gho.nil : Gho ⟨[], [], true⟩ ⟨[], [], true⟩ [] := ⟨TbGd.nil, TbGd.nil, rfl, fun m h => (by cases h), List.nodup_nil, fun i j m n h => (by simp at h)⟩
theorem Gho.at {T G : TbM} {ms : List Nat} (h : Gho T G ms) {i : Nat} (hi : i < T.pts.length) : ∃ m, ms[i]? = some m ∧ m < G.pts.length := by
  have hl := h.len
  have e : ms[i]? = some (ms[i]'(by omega)) := List.getElem?_eq_getElem _
  exact ⟨_, e, h.lt _ (List.mem_of_getElem? e)⟩
theorem Gho.neg {T G : TbM} {ms : List Nat} (h : Gho T G ms) {s e m n : Nat} (hs : ms[s]? = some m) (he : ms[e]? = some n) (w : Int) : negB (cellM T.d e s) w = negB (cellM G.d n m) w := by rw [h.ce e s n m he hs]
theorem Gho.put {T G : TbM} {ms : List Nat} (h : Gho T G ms) {s e m n : Nat} {w : Int} (hs : ms[s]? = some m) (he : ms[e]? = some n) (nn : ¬ negB (cellM T.d e s) w = true) : Gho (putM T s e w) (putM G m n w) ms := by
  have pT : (putM T s e w).pts = T.pts := by
    unfold putM
    split
    · rfl
    · split <;> rfl
  have pG : (putM G m n w).pts = G.pts := by
    unfold putM
    split
    · rfl
    · split <;> rfl
  have hl := h.len
  have ls : s < T.pts.length := by have := (List.getElem?_eq_some_iff.mp hs).1; omega
  have le : e < T.pts.length := by have := (List.getElem?_eq_some_iff.mp he).1; omega
  have lm := h.lt m (List.mem_of_getElem? hs)
  have ln := h.lt n (List.mem_of_getElem? he)
  have ng : ¬ negB (cellM G.d n m) w = true := by rw [← h.neg hs he]; exact nn
  refine ⟨(put_cell h.gt ls le nn).1, (put_cell h.gg lm ln ng).1, by rw [pT]; exact h.len, by rw [pG]; exact h.lt, h.nd, fun i j p q hp hq => DLe_ext fun x => ?_⟩
  have li : i < T.pts.length := by have := (List.getElem?_eq_some_iff.mp hp).1; omega
  have lj : j < T.pts.length := by have := (List.getElem?_eq_some_iff.mp hq).1; omega
  rw [put_DLe h.gt ls le nn li lj, put_DLe h.gg lm ln ng (h.lt p (List.mem_of_getElem? hp)) (h.lt q (List.mem_of_getElem? hq)), h.ce i j p q hp hq, h.ce i s p m hp hs, h.ce e j n q he hq]
theorem Gho.add {T G : TbM} {ms : List Nat} (h : Gho T G ms) {p q : Pt} (np : p ∉ T.pts) (fp : T.pts.length < 40) (nq : q ∉ G.pts) (fq : G.pts.length < 40) : Gho (addM T p) (addM G q) (ms ++ [G.pts.length]) := by
  have lT : (addM T p).pts.length = T.pts.length + 1 := by show (T.pts ++ [p]).length = _; rw [List.length_append, List.length_singleton]
  have lG : (addM G q).pts.length = G.pts.length + 1 := by show (G.pts ++ [q]).length = _; rw [List.length_append, List.length_singleton]
  have hl := h.len
  refine ⟨h.gt.add np fp, h.gg.add nq fq, by rw [List.length_append, lT, hl]; rfl, fun m hm => ?_, ?_, fun i j m n hm hn => ?_⟩
  · rw [lG]
    rcases List.mem_append.mp hm with z | z
    · have := h.lt m z; omega
    · rw [List.mem_singleton.mp z]; omega
  · rw [List.nodup_append]
    refine ⟨h.nd, by simp, fun a ha b hb e => ?_⟩
    have := h.lt a ha
    rw [e, List.mem_singleton.mp hb] at this
    omega
  · have key : ∀ {i m}, (ms ++ [G.pts.length])[i]? = some m → (i < T.pts.length ∧ ms[i]? = some m ∧ m < G.pts.length) ∨ (i = T.pts.length ∧ m = G.pts.length) := fun {i m} z => by
      by_cases c : i < ms.length
      · rw [List.getElem?_append_left c] at z
        exact .inl ⟨by omega, z, h.lt m (List.mem_of_getElem? z)⟩
      · rw [List.getElem?_append_right (by omega)] at z
        have k := (List.getElem?_eq_some_iff.mp z).1
        rw [List.length_singleton] at k
        rw [show i - ms.length = 0 by omega] at z
        cases z
        exact .inr ⟨by omega, rfl⟩
    rcases key hm with ⟨a1, a2, a3⟩ | ⟨a1, a2⟩ <;> rcases key hn with ⟨b1, b2, b3⟩ | ⟨b1, b2⟩
    · rw [addM_cell h.gt.ok (by omega) (by omega), addM_cell h.gg.ok (by omega) (by omega), if_pos a1, if_pos b1, if_pos a3, if_pos b3]
      exact h.ce i j m n a2 b2
    · rw [addM_cell h.gt.ok (by omega) (by omega), addM_cell h.gg.ok (by omega) (by omega), if_pos a1, if_neg (by omega), if_pos a3, if_neg (by omega)]
    · rw [addM_cell h.gt.ok (by omega) (by omega), addM_cell h.gg.ok (by omega) (by omega), if_neg (by omega), if_pos b1, if_neg (by omega), if_pos b3]
    · rw [addM_cell h.gt.ok (by omega) (by omega), addM_cell h.gg.ok (by omega) (by omega), if_neg (by omega), if_neg (by omega), if_neg (by omega), if_neg (by omega)]
/-- the numbers of the points that are kept -/
def keptN (T : TbM) (ns : List Pt) (ms : List Nat) : List Nat := (keptM T ns).map fun p => ms.getD (T.pts.idxOf p) 0
theorem Gho.keep {T G : TbM} {ms : List Nat} (h : Gho T G ms) (ns : List Pt) : Gho (keepM T ns) G (keptN T ns ms) := by
  have hl := h.len
  have at' : ∀ {p}, p ∈ keptM T ns → ms[T.pts.idxOf p]? = some (ms.getD (T.pts.idxOf p) 0) := fun {p} hp => by
    have := idx_lt (kept_in hp)
    rw [List.getD_eq_getElem?_getD, List.getElem?_eq_getElem (by omega)]
    rfl
  refine ⟨h.gt.keep ns, h.gg, by unfold keptN; rw [List.length_map]; rfl, fun m hm => ?_, ?_, fun i j m n hm hn => ?_⟩
  · obtain ⟨p, hp, rfl⟩ := List.mem_map.mp hm
    exact h.lt _ (List.mem_of_getElem? (at' hp))
  · unfold keptN
    rw [List.nodup_iff_pairwise_ne, List.pairwise_map]
    have nd : (keptM T ns).Nodup := h.gt.ok.nd.filter _
    refine List.Pairwise.imp_of_mem (fun {p q} hp hq ne e => ?_) nd
    have e1 := at' hp
    have e2 := at' hq
    rw [e] at e1
    have ei := nd_ix h.nd e1 e2
    have i1 := idx_get (kept_in hp)
    have i2 := idx_get (kept_in hq)
    rw [ei, i2] at i1
    exact ne (Option.some.inj i1).symm
  · unfold keptN at hm hn
    rw [List.getElem?_map] at hm hn
    cases hi : (keptM T ns)[i]? with
    | none => rw [hi] at hm; cases hm
    | some p =>
      cases hj : (keptM T ns)[j]? with
      | none => rw [hj] at hn; cases hn
      | some q =>
        rw [hi] at hm
        rw [hj] at hn
        cases hm
        cases hn
        obtain ⟨li, ei⟩ := List.getElem?_eq_some_iff.mp hi
        obtain ⟨lj, ej⟩ := List.getElem?_eq_some_iff.mp hj
        rw [keep_cell li lj, ei, ej]
        exact h.ce _ _ _ _ (at' (List.mem_of_getElem? hi)) (at' (List.mem_of_getElem? hj))
end Vs

namespace Vs
open PySem PySem.Spec PyProof.Rows L2
/-! ### rings below 0, as the law finds them -/
section
variable {D : Nat → Nat → Option Int} {n : Nat} {arcs : List Ar}
/-- the least distance to a point from any point -/
def IsL (D : Nat → Nat → Option Int) (n : Nat) (v : Nat) (x : Int) : Prop := (∃ s, s < n ∧ D s v = some x) ∧ ∀ t, t < n → ∀ y, D t v = some y → x ≤ y
theorem ex_min (f : Nat → Option Int) : ∀ n, (∃ s, s < n ∧ ∃ x, f s = some x) → ∃ x, (∃ s, s < n ∧ f s = some x) ∧ ∀ t, t < n → ∀ y, f t = some y → x ≤ y
  | 0, ⟨s, h, _⟩ => absurd h (Nat.not_lt_zero s)
  | n + 1, ⟨s, hs, x, hx⟩ => by
    by_cases c : ∃ s, s < n ∧ ∃ x, f s = some x
    · obtain ⟨m, ⟨s', h1, h2⟩, h3⟩ := ex_min f n c
      cases hn : f n with
      | none =>
        refine ⟨m, ⟨s', by omega, h2⟩, fun t ht y hy => ?_⟩
        by_cases e : t = n
        · rw [e, hn] at hy; cases hy
        · exact h3 t (by omega) y hy
      | some z =>
        by_cases le : m ≤ z
        · refine ⟨m, ⟨s', by omega, h2⟩, fun t ht y hy => ?_⟩
          by_cases e : t = n
          · rw [e, hn] at hy; cases hy; exact le
          · exact h3 t (by omega) y hy
        · refine ⟨z, ⟨n, by omega, hn⟩, fun t ht y hy => ?_⟩
          by_cases e : t = n
          · rw [e, hn] at hy; cases hy; exact Int.le_refl _
          · have := h3 t (by omega) y hy; omega
    · have e : s = n := by
        rcases (by omega : s < n ∨ s = n) with h | h
        · exact absurd ⟨s, h, x, hx⟩ c
        · exact h
      subst e
      refine ⟨x, ⟨s, by omega, hx⟩, fun t ht y hy => ?_⟩
      by_cases e : t = s
      · rw [e, hx] at hy; cases hy; exact Int.le_refl _
      · exact absurd ⟨t, by omega, y, hy⟩ c
theorem ex_L (c : ClD D n arcs) {v : Nat} (hv : v < n) : ∃ x, IsL D n v x := ex_min (fun s => D s v) n ⟨v, hv, 0, c.dg v hv⟩
theorem IsL.le0 (c : ClD D n arcs) {v : Nat} (hv : v < n) {x : Int} (h : IsL D n v x) : x ≤ 0 := h.2 v hv 0 (c.dg v hv)
theorem IsL.one {v : Nat} {x y : Int} (h : IsL D n v x) (g : IsL D n v y) : x = y := by
  obtain ⟨⟨s, h1, h2⟩, h3⟩ := h
  obtain ⟨⟨t, g1, g2⟩, g3⟩ := g
  have := h3 t g1 y g2
  have := g3 s h1 x h2
  omega
theorem IsL.step (c : ClD D n arcs) {z : Ar} (m : z ∈ arcs) {x y : Int} (h : IsL D n z.u x) (g : IsL D n z.v y) : y ≤ x + z.w := by
  obtain ⟨h1, h2, d, hd, ld⟩ := c.ar z m
  obtain ⟨s, hs, e⟩ := h.1
  obtain ⟨q, hq, lq⟩ := c.tr s z.u z.v hs h1 h2 x d e hd
  have := g.2 s hs q hq
  omega
/-- never less than the least -/
structure SndL (D : Nat → Nat → Option Int) (n : Nat) (best : Row) : Prop where
  len : best.length = n
  all : ∀ v, v < n → ∃ b, best.getD v none = some b ∧ b ≤ 0
  ge : ∀ v, v < n → ∀ x, IsL D n v x → ∀ b, best.getD v none = some b → x ≤ b
theorem SndL.relax (c : ClD D n arcs) {best : Row} (h : SndL D n best) {z : Ar} (m : z ∈ arcs) : SndL D n (relax best z) := by
  obtain ⟨h1, h2, _⟩ := c.ar z m
  refine ⟨by rw [relax_len, h.len], fun v hv => ?_, fun v hv x hx b hb => ?_⟩
  · obtain ⟨b, e, l⟩ := h.all v hv
    obtain ⟨b', e', l'⟩ := relax_le (z := z) (by rw [h.len]; exact h2) (⟨b, e, Int.le_refl _⟩ : DLe (best.getD v none) b)
    exact ⟨b', e', by omega⟩
  · unfold Vs.relax at hb
    split at hb
    · exact h.ge v hv x hx b hb
    · rename_i a ha
      split at hb
      · rw [getD_set (by rw [h.len]; exact h2)] at hb
        split at hb
        · rename_i e
          cases hb
          obtain ⟨y, hy⟩ := ex_L c h1
          have l1 := h.ge _ h1 y hy a ha
          rw [← e] at hx
          have l2 := hy.step c m hx
          omega
        · exact h.ge v hv x hx b hb
      · exact h.ge v hv x hx b hb
theorem SndL.fold (c : ClD D n arcs) : ∀ (l : List Ar) (best : Row), l ⊆ arcs → SndL D n best → SndL D n (l.foldl Vs.relax best)
  | [], _, _, h => h
  | z :: l, best, sub, h => SndL.fold c l _ (fun y hy => sub (List.mem_cons_of_mem _ hy)) (h.relax c (sub List.mem_cons_self))
/-- settled: it is the least -/
noncomputable def setL (D : Nat → Nat → Option Int) (n : Nat) (best : Row) (v : Nat) : Bool := by
  classical
  exact decide (∀ x, IsL D n v x → DLe (best.getD v none) x)
theorem setL_iff {best : Row} {v : Nat} : setL D n best v = true ↔ ∀ x, IsL D n v x → DLe (best.getD v none) x := by
  classical
  unfold setL
  exact decide_eq_true_iff
theorem find_arcL (c : ClD D n arcs) {best : Row} (h : SndL D n best) {s : Nat} (hs : s < n) {i v : Nat} {x : Int} (g : Wk arcs i v x) (ei : i = s) (hv : v < n) (hd : D s v = some x) (hL : IsL D n v x) (un : ¬ setL D n best v = true) :
    ∃ z ∈ arcs, ∃ a, IsL D n z.u a ∧ IsL D n z.v (a + z.w) ∧ setL D n best z.u = true ∧ ¬ setL D n best z.v = true := by
  induction g with
  | nil =>
    exfalso
    apply un
    refine setL_iff.mpr fun y hy => ?_
    obtain ⟨b, hb, lb⟩ := h.all i hv
    have := hy.one hL
    exact ⟨b, hb, by omega⟩
  | @snoc j a g z m e ih =>
    obtain ⟨h1, h2, d, hd2, ld⟩ := c.ar z m
    have wk_ge : ∀ {j y}, Wk arcs i j y → j < n → DLe (D s j) y := fun {j y} g => by
      induction g with
      | nil => intro _; rw [ei, c.dg s hs]; exact ⟨0, rfl, Int.le_refl _⟩
      | @snoc j' a' _ z' m' e' ih' =>
        intro _
        obtain ⟨g1, g2, d', hd', ld'⟩ := c.ar z' m'
        obtain ⟨y', hy', ly'⟩ := ih' (by rw [← e']; exact g1)
        exact (c.tr s z'.u z'.v hs g1 g2 y' d' (by rw [e']; exact hy') hd').mono (by omega)
    obtain ⟨y, hy, ly⟩ := wk_ge g (by rw [← e]; exact h1)
    have hyu : D s z.u = some y := by rw [e]; exact hy
    obtain ⟨q, hq, lq⟩ := c.tr s z.u z.v hs h1 h2 y d hyu hd2
    rw [hd] at hq
    cases hq
    have ya : y = a := by omega
    subst ya
    have Lu : IsL D n z.u y := by
      refine ⟨⟨s, hs, hyu⟩, fun t ht p hp => ?_⟩
      obtain ⟨q, hq, lq⟩ := c.tr t z.u z.v ht h1 h2 p d hp hd2
      have := hL.2 t ht q hq
      omega
    by_cases st : setL D n best z.u = true
    · exact ⟨z, m, y, Lu, hL, st, un⟩
    · exact ih (by rw [← e]; exact h1) hy (by rw [← e]; exact Lu) (by rw [← e]; exact st)
noncomputable def unL (D : Nat → Nat → Option Int) (n : Nat) (best : Row) : Nat := ((List.range n).filter fun v => !setL D n best v).length
theorem round_setL (c : ClD D n arcs) {best : Row} (hl : best.length = n) {v : Nat} (h : setL D n best v = true) : setL D n (arcs.foldl relax best) v = true :=
  setL_iff.mpr fun x hx => fold_le c arcs best (fun _ h => h) hl (setL_iff.mp h x hx)
theorem round_unL (c : ClD D n arcs) {best : Row} (h : SndL D n best) : unL D n (arcs.foldl relax best) ≤ unL D n best - 1 := by
  have sub : ∀ x ∈ List.range n, (!setL D n (arcs.foldl relax best) x) = true → (!setL D n best x) = true := fun x _ hx => by
    cases e : setL D n best x with
    | false => rfl
    | true => rw [round_setL c h.len e] at hx; cases hx
  by_cases z : unL D n best = 0
  · have := filt_lt.filt_le (p := fun x => !setL D n (arcs.foldl relax best) x) (q := fun x => !setL D n best x) (List.range n) sub
    unfold unL at *
    omega
  · have : ∃ v, v < n ∧ ¬ setL D n best v = true := by
      unfold unL at z
      obtain ⟨v, hv⟩ := List.exists_mem_of_length_pos (Nat.pos_of_ne_zero z)
      obtain ⟨m, hm⟩ := List.mem_filter.mp hv
      exact ⟨v, List.mem_range.mp m, fun e => by rw [e] at hm; cases hm⟩
    obtain ⟨v, hv, un⟩ := this
    obtain ⟨x, hx⟩ := ex_L c hv
    obtain ⟨s, hs, e⟩ := hx.1
    obtain ⟨a, m, y, h1, h2, h3, h4⟩ := find_arcL c h hs (c.at' s v hs hv x e) rfl hv e hx un
    have done : setL D n (arcs.foldl relax best) a.v = true := setL_iff.mpr fun x hx => by
      rw [hx.one h2]
      exact fold_own c arcs best (fun _ h => h) h.len m (setL_iff.mp h3 y h1)
    have := filt_lt (p := fun x => !setL D n (arcs.foldl relax best) x) (q := fun x => !setL D n best x) (List.range n) sub ⟨a.v, List.mem_range.mpr (c.ar a m).2.1, by
      cases e : setL D n best a.v with
      | false => rfl
      | true => exact absurd e h4, by rw [done]; decide⟩
    unfold unL at *
    omega
theorem ring_rows (c : ClD D n arcs) : ∀ k, SndL D n (iterR arcs k (List.replicate n (some 0))) ∧ unL D n (iterR arcs k (List.replicate n (some 0))) ≤ n - k
  | 0 => by
    have g : ∀ v, v < n → (List.replicate n (some (0 : Int))).getD v none = some 0 := fun v hv => by
      rw [List.getD_eq_getElem?_getD, List.getElem?_replicate, if_pos hv]
      rfl
    refine ⟨⟨List.length_replicate, fun v hv => ⟨0, g v hv, Int.le_refl _⟩, fun v hv x hx b hb => ?_⟩, ?_⟩
    · rw [show (iterR arcs 0 (List.replicate n (some 0))) = List.replicate n (some 0) from rfl, g v hv] at hb
      cases hb
      exact hx.le0 c hv
    · have := List.length_filter_le (fun v => !setL D n (List.replicate n (some 0)) v) (List.range n)
      rw [List.length_range] at this
      unfold unL iterR
      omega
  | k + 1 => by
    obtain ⟨h1, h2⟩ := ring_rows c k
    refine ⟨SndL.fold c arcs _ (fun _ h => h) h1, ?_⟩
    have := round_unL c h1
    show unL D n (arcs.foldl relax (iterR arcs k (List.replicate n (some 0)))) ≤ _
    omega
def lowB (best : Row) (z : Ar) : Bool := match best.getD z.u none, best.getD z.v none with
  | some a, some b => decide (a + z.w < b)
  | _, _ => false
/-- without a ring below 0 the last round lowers nothing -/
theorem still (c : ClD D n arcs) {z : Ar} (m : z ∈ arcs) : ∀ {k}, n ≤ k → lowB (iterR arcs k (List.replicate n (some 0))) z = false
  | k, hk => by
    obtain ⟨h1, h2⟩ := ring_rows c k
    generalize iterR arcs k (List.replicate n (some 0)) = best at *
    have zero : unL D n best = 0 := by omega
    have all : ∀ v, v < n → setL D n best v = true := fun v hv => by
      cases e : setL D n best v with
      | true => rfl
      | false =>
        have m : v ∈ (List.range n).filter fun v => !setL D n best v := List.mem_filter.mpr ⟨List.mem_range.mpr hv, by rw [e]; rfl⟩
        unfold unL at zero
        rw [List.length_eq_zero_iff.mp zero] at m
        cases m
    obtain ⟨z1, z2, _⟩ := c.ar z m
    obtain ⟨a, ea, _⟩ := h1.all z.u z1
    obtain ⟨b, eb, _⟩ := h1.all z.v z2
    obtain ⟨x, hx⟩ := ex_L c z1
    obtain ⟨y, hy⟩ := ex_L c z2
    obtain ⟨b', e', l'⟩ := setL_iff.mp (all z.v z2) y hy
    rw [eb] at e'
    cases e'
    have := h1.ge z.u z1 x hx a ea
    have := hx.step c m hy
    unfold lowB
    rw [ea, eb]
    exact decide_eq_false (by omega)
/-- with one each round lowers something -/
theorem never_still {best : Row} {brcs : List Ar} {e s : Nat} {y w : Int} (g : Wk arcs e s y) (neg : y + w < 0) (m : (⟨s, e, w⟩ : Ar) ∈ brcs) (sub : arcs ⊆ brcs) (all : ∀ z ∈ brcs, ∃ a b, best.getD z.u none = some a ∧ best.getD z.v none = some b ∧ ¬ a + z.w < b) : False := by
  obtain ⟨a, b, h1, h2, h3⟩ := all _ m
  have h1 : best.getD s none = some a := h1
  have h2 : best.getD e none = some b := h2
  have h3 : ¬ a + w < b := h3
  have walk : ∀ {j y}, Wk arcs e j y → ∃ x, best.getD j none = some x ∧ x ≤ b + y := fun {j y} g => by
    induction g with
    | nil => exact ⟨b, h2, by omega⟩
    | @snoc j a' _ z mz ez ih =>
      obtain ⟨x, hx, lx⟩ := ih
      obtain ⟨p, q, g1, g2, g3⟩ := all z (sub mz)
      rw [ez, hx] at g1
      cases g1
      exact ⟨q, g2, by omega⟩
  obtain ⟨x, hx, lx⟩ := walk g
  rw [h1] at hx
  cases hx
  omega
end
end Vs

namespace Vs
open PySem PySem.Spec PyProof.Rows L2
/-! ### name = {key: value for ..} on one line, the name a local -/
theorem dcT_core {X : Cx} {pins : List (Addr × Obj)} {s : Shared} {σ : L2.St} {H : Hp} {Q : VK} {kx vx tg iter : Expr} {ifs : List Expr} {scope : Scope} {own : List (Str × Nat)} {pos pos' : Pos} {wi : TI} {g : TG} {tt : TT} {tk tv : TE} {use : Option (Value → Sem Unit)} {Qf : Value → Shared → Prop} (hu : X.A.units + 1 < cLine) (hc : X.calm = true) (hN : X.N.Nodup) (hi : PI X tg iter wi) (ok : BlkOk X.N X.env.scope scope own)
    (hg : ∀ (s : Shared) (H : Hp) (C : Addr) (cl : List (Str × Addr)) (fp : List Addr), PG (X.blk s H scope (compEnvC scope cl C X.env) fp) tg g)
    (ht : ∀ (s : Shared) (H : Hp) (C : Addr) (cl : List (Str × Addr)) (fp : List Addr), PTs (X.blk s H scope (compEnvC scope cl C X.env) fp) ifs tt)
    (hk : ∀ (s : Shared) (H : Hp) (C : Addr) (cl : List (Str × Addr)) (fp : List Addr), PE (X.blk s H scope (compEnvC scope cl C X.env) fp) kx tk)
    (he : ∀ (s : Shared) (H : Hp) (C : Addr) (cl : List (Str × Addr)) (fp : List Addr), PE (X.blk s H scope (compEnvC scope cl C X.env) fp) vx tv)
    (hs : ∀ x : Value, foldedSetIterable iter X.env x = pure x) (I : Inv X pins σ H s) (h : tDcT wi g tt tk tv (own.map (·.2)) σ H Q)
    (hRR : ∀ D C s' m H', Inv X pins σ H' s' → Q (.ref D) H' → s'.heap.Ns C m → FpOk X pins H' C → compPost (model X.prog X.w) X.A X.xe use Qf (.ref D) C (.ok .next) s') :
    wpAny (model X.prog X.w) X.A (comprehension (.DictComp kx vx [⟨tg, iter, ifs, 0⟩] scope pos) scope X.env pos' newDict false (eval iter X.env) use) Qf X.xe s := by
  refine wpAny_comprehension_free (use := use) (gs := []) rfl hs (closure_ok fun y hy hf => I.ok.has _ (ok.free y hy hf)) ok.kind (fun x hx hl => by rw [ok.uniq x hx, hl]) ?_
  refine thn (hi.run pins s σ H _ I h) fun v s1 h1 => thn h1 fun u s2 ⟨it, fp, tn, J, H1, eu, I1, T, t0, hfp, r⟩ => ?_
  subst eu
  have nD : H1 s2.heap.objs.size = none := I1.hok.fresh (Nat.le_refl _)
  obtain ⟨W, ⟨m0, w0⟩, hW⟩ := r s2.heap.objs.size nD
  refine wpAny_newObj_type ?_
  have I2 := I1.laid (a := s2.heap.objs.size) (o := .dT []) (h' := s2.heap.push { cls := .type "dict", data := .dict #[] }) (t' := s2.toks) (fun _ _ q => Heap.get?_push_of_some _ q) (Nat.le_refl _) (dt_empty s2.heap I1.big)
  have hfp2 : ∀ b ∈ fp, FpOk X pins (upd H1 s2.heap.objs.size (.dT [])) b ∧ b < (s2.heap.push { cls := Value.type "dict", data := Data.dict #[] }).objs.size := by
    intro b hb
    obtain ⟨o, ho, _⟩ := T.obj 0 _ t0 b hb
    have lt : b < s2.heap.objs.size := by
      refine Nat.lt_of_not_le fun z => ?_
      rw [Heap.get?_none_of_le z] at ho
      cases ho
    refine ⟨⟨by rw [upd_ne (Nat.ne_of_lt lt)]; exact (hfp b hb).1, (hfp b hb).2⟩, ?_⟩
    show b < (s2.heap.objs.push _).size
    rw [Array.size_push]
    exact Nat.lt_succ_of_lt lt
  have t02 : tn 0 (s2.heap.push { cls := Value.type "dict", data := Data.dict #[] }) := T.keep 0 _ _ t0 fun b hb o ho => Heap.get?_push_of_some _ ho
  have I3 : Inv X pins σ (upd H1 s2.heap.objs.size (.dT [])) { heap := s2.heap.push { cls := Value.type "dict", data := Data.dict #[] }, gens := s2.gens, drawn := s2.drawn, toks := s2.toks, os := s2.os } := I2
  clear I2
  clear t0
  obtain ⟨s3, e3⟩ : ∃ x : Shared, x = { heap := s2.heap.push { cls := Value.type "dict", data := Data.dict #[] }, gens := s2.gens, drawn := s2.drawn, toks := s2.toks, os := s2.os } := ⟨_, rfl⟩
  have hh : s2.heap.push { cls := Value.type "dict", data := Data.dict #[] } = s3.heap := by rw [e3]
  rw [hh] at hfp2 t02
  rw [← e3] at I3 ⊢
  refine newEnv_comp ?_
  have Ib := block_start I3 ok hN hfp2
  have szC : s3.heap.objs.size ≤ s3.heap.objs.size := Nat.le_refl _
  have tn0 : tn 0 (pushCells (s3.heap.push { cls := Value.type "dict", data := Data.dict #[] }) scope.names) := T.keep 0 _ _ t02 fun b hb o ho => pushCells_keeps _ _ _ _ (Heap.get?_push_of_some _ ho)
  suffices main : codeAny (model X.prog X.w) X.A (.compLoop (.DictComp kx vx [⟨tg, iter, ifs, 0⟩] scope pos) 0 (.ref it) (.ref s2.heap.objs.size) (compEnvC scope (cellsFrom (s3.heap.objs.size + 1) scope.names (cloFrom X.env.cells scope.names [])) s3.heap.objs.size X.env)) (compPost (model X.prog X.w) X.A X.xe use Qf (Value.ref s2.heap.objs.size) s3.heap.objs.size) { heap := pushCells (s3.heap.push { cls := Value.type "dict", data := Data.dict #[] }) scope.names, gens := s3.gens, drawn := s3.drawn, toks := s3.toks, os := s3.os } from
    codeAny_compStart_dict main (T.self _ 0 _ _ _ tn0 main)
  · refine dcT_loop (X := X.blk s3 (upd H1 s2.heap.objs.size (.dT [])) scope (compEnvC scope (cellsFrom (s3.heap.objs.size + 1) scope.names (cloFrom X.env.cells scope.names [])) s3.heap.objs.size X.env) fp) hu hc rfl T (hg _ _ _ _ _) (ht _ _ _ _ _) (hk _ _ _ _ _) (he _ _ _ _ _) hW Ib ?_ ?_ w0 ?_
    · exact tn0
    · intro b hb
      obtain ⟨⟨g1, g2, g3, g4, g5, g6⟩, lt⟩ := hfp2 b hb
      refine ⟨g1, Nat.ne_of_lt lt, fun m => ?_, .inl hb, fun x c hl e => ?_, fun p hp => by cases hp⟩
      · rcases List.mem_cons.mp (I3.stkSub b m) with z | z
        · exact g2 z
        · exact g3 z
      · have hm := lookup_mem hl
        have hm2 : (x, c) ∈ cellsFrom (s3.heap.push { cls := Value.type "dict", data := Data.dict #[] }).objs.size scope.names (cloFrom X.env.cells scope.names []) := by
          rw [show (s3.heap.push { cls := Value.type "dict", data := Data.dict #[] }).objs.size = s3.heap.objs.size + 1 from Array.size_push ..]
          exact hm
        rcases cells_mem hm2 with z | ⟨_, z, _⟩
        · rcases cloFrom_mem z with z | ⟨z1, z2⟩
          · cases z
          · obtain ⟨c', hc'⟩ := I.ok.has _ (ok.free _ z1 rfl)
            rw [hc'] at z2
            exact g5 x c' hc' (z2.symm.trans e)
        · rw [show (s3.heap.push { cls := Value.type "dict", data := Data.dict #[] }).objs.size = s3.heap.objs.size + 1 from Array.size_push ..] at z
          rw [e] at z
          exact absurd lt (Nat.not_lt_of_le (Nat.le_of_succ_le z))
    · intro s' H' I' q
      have I4 : Inv X pins σ H' s' := I3.call' I'.os I'.base I'.hok I'.bare fun b hb => by
        obtain ⟨⟨g1, g2, g3, g4, g5, g6⟩, lt⟩ := hfp2 b hb
        exact ⟨g4, g2, g5, g6⟩
      obtain ⟨m, hm, _⟩ := I'.loc
      have hC : FpOk X pins H' s3.heap.objs.size := I3.fpOk (Nat.le_refl _) I'.free
      exact hRR s2.heap.objs.size s3.heap.objs.size s' m H' I4 q hm hC

theorem sw_trueD {kx vx : Expr} {gs : List Comprehension} {scope : Scope} {pos py : Pos} {y : Str} {l : Nat} {env : Env} (hk : env.scope.kind = .function) (hy : env.scope.names.lookup y = some .local) (hl : (py.line == pos.line) = true)
    (ha : (scope.names.any fun (n, k) => n == y && (k == .local || k == .cell)) = false) : swapsWith (.DictComp kx vx gs scope pos) (some (.Name y py)) l env = pure true := by
  have ky : env.kindOf y = some .local := hy
  have hb : env.blockKind = .function := by unfold Env.blockKind; rw [hk]; rfl
  unfold swapsWith
  simp only [hb, ky, ha, Expr.pos, hl]
  rfl
theorem ps_setDcT {X : Cx} {i : Nat} {y : Str} {py : Pos} {kx vx tg iter : Expr} {ifs : List Expr} {scope : Scope} {own : List (Str × Nat)} {pos spos : Pos} {wi : TI} {g : TG} {tt : TT} {tk tv : TE} (hyl : X.env.scope.names.lookup y = some .local) (hy : X.N[i]? = some y)
    (hsw : swapsWith (.DictComp kx vx [⟨tg, iter, ifs, 0⟩] scope pos) (some (.Name y py)) spos.line X.env = pure true) (hu : X.A.units + 1 < cLine) (hc : X.calm = true) (hN : X.N.Nodup) (hi : PI X tg iter wi) (ok : BlkOk X.N X.env.scope scope own)
    (hg : ∀ (s : Shared) (H : Hp) (C : Addr) (cl : List (Str × Addr)) (fp : List Addr), PG (X.blk s H scope (compEnvC scope cl C X.env) fp) tg g)
    (ht : ∀ (s : Shared) (H : Hp) (C : Addr) (cl : List (Str × Addr)) (fp : List Addr), PTs (X.blk s H scope (compEnvC scope cl C X.env) fp) ifs tt)
    (hk : ∀ (s : Shared) (H : Hp) (C : Addr) (cl : List (Str × Addr)) (fp : List Addr), PE (X.blk s H scope (compEnvC scope cl C X.env) fp) kx tk)
    (he : ∀ (s : Shared) (H : Hp) (C : Addr) (cl : List (Str × Addr)) (fp : List Addr), PE (X.blk s H scope (compEnvC scope cl C X.env) fp) vx tv)
    (hs : ∀ x : Value, foldedSetIterable iter X.env x = pure x := by intro _; rfl) :
    PS X (.Assign [.Name y py] (.DictComp kx vx [⟨tg, iter, ifs, 0⟩] scope pos) spos) (tAsg (tDcT wi g tt tk tv (own.map (·.2))) (gName i)) := by
  refine ⟨fun pins s σ H D I h => ?_⟩
  rw [exec_Assign_Name_used _ _ _ _ hsw]
  refine wpAny_bind (wpAny_standAt (wpAny_bind ?_))
  show wpAny _ X.A (do let _ ← comprehension (.DictComp kx vx [⟨tg, iter, ifs, 0⟩] scope pos) scope X.env (firstIterPos [⟨tg, iter, ifs, 0⟩] pos) newDict false (eval iter X.env) (some (assign (.Name y py) X.env))) _ _ s
  have h : tDcT wi g tt tk tv (own.map (·.2)) σ H (fun x H1 => gName i x σ H1 D.nx) := h
  refine wpAny_bind (thn (dcT_core (Qf := fun _ s' => SP X pins D .next s') hu hc hN hi ok hg ht hk he hs I h fun L C s' m H' I' q hn f => ?_) fun _ s' hq => wpAny_pure (wpAny_pure hq))
  show wpAny _ _ (assign (.Name y py) X.env (.ref L)) _ _ _
  refine wpAny_assign_Name (store_ok2 (v := V.ref L) I' hN hy (.inl hyl) rfl (fun s2 I2 ⟨a, sb, ha⟩ => ?_) (.inr hyl))
  obtain ⟨f0, f1, f2, f3, f4, f5⟩ := f
  have haC : C ≠ a := by
    rcases ha with z | z
    · rw [z]; exact f1
    · exact fun e => f4 y a z e.symm
  refine ⟨m, hn.sameBut sb haC, fun h3 sb3 => ?_⟩
  exact ⟨_, H', I2.turned (t' := s2.toks) (fun b o hb e => (sb3.2 b hb).trans e) f0 f1 f3 f4 f5, q⟩
end Vs

namespace Vs
open PySem PySem.Spec PyProof.Rows L2

/-! ### sorted(xs, key=f): f a def of the program that gives a new pair of ints -/
abbrev XNone : CXT := fun _ _ _ _ _ _ => False
/-- the key that belongs to an item -/
abbrev KeyIs (k : V → Int × Int) (H : Hp) (κ x : V) : Prop := ∃ t, κ = V.ref t ∧ H t = some (.tup [.int (k x).1, .int (k x).2])
theorem paired_snoc {α β : Type} {R : α → β → Prop} {x : α} {y : β} : ∀ {l : List α} {m : List β}, Paired R l m → R x y → Paired R (l ++ [x]) (m ++ [y])
  | _, _, .nil, r => .cons r .nil
  | _, _, .cons a t, r => .cons a (paired_snoc t r)
theorem prd_at {α β : Type} {R : α → β → Prop} : ∀ {l : List α} {m : List β}, Paired R l m → ∀ p ∈ l.zip m, R p.1 p.2
  | _, _, .nil, _, h => absurd h (by simp)
  | _, _, .cons r t, p, h => by
    rw [List.zip_cons_cons] at h
    rcases List.mem_cons.mp h with e | h
    · rw [e]; exact r
    · exact prd_at t p h
theorem paired_len {α β : Type} {R : α → β → Prop} : ∀ {l : List α} {m : List β}, Paired R l m → l.length = m.length
  | _, _, .nil => rfl
  | _, _, .cons r t => by rw [List.length_cons, List.length_cons, paired_len t]

section
variable {X : Cx} {pins : List (Addr × Obj)} {σ : L2.St} {a f kS : Addr} {xs : List V} {k : V → Int × Int} {n c : Nat} {fd : FuncData} {ps : List Str} {sp : Sp} {R : PySem.Fin → Shared → Prop} {E : Value → Shared → Prop}

/-- what each of the pairs (key, item) holds -/
abbrev KI (k : V → Int × Int) (h : Heap) (p : Keyed) : Prop := Srt.IsPair h p.1 (k (backV p.2)).1 (k (backV p.2)).2 ∧ ∃ t, p.2 = Value.ref t
abbrev ltK (k : V → Int × Int) (p q : Keyed) : Bool := ltP k (backV p.2) (backV q.2)
theorem ltK_swo (k : V → Int × Int) : SrtO.Swo (ltK k) := ⟨fun x y => (ltP_swo k).asym _ _, fun x y z => (ltP_swo k).tr _ _ _⟩
/-- which pair of ints an address holds -/
noncomputable def pairV (h : Heap) (v : Value) : Int × Int := by
  classical
  exact if e : ∃ q : Int × Int, Srt.IsPair h v q.1 q.2 then e.choose else (0, 0)
theorem isPair_uniq {h : Heap} {v : Value} {x y x' y' : Int} (p : Srt.IsPair h v x y) (q : Srt.IsPair h v x' y') : x = x' ∧ y = y' := by
  obtain ⟨a, o, t, u, n, rfl, h1, _, h2⟩ := p
  obtain ⟨a', o', t', u', n', e, h1', _, h2'⟩ := q
  cases e
  rw [h1] at h1'
  cases h1'
  rw [h2] at h2'
  cases h2'
  exact ⟨rfl, rfl⟩
theorem pairV_is {h : Heap} {v : Value} {q : Int × Int} (p : Srt.IsPair h v q.1 q.2) : pairV h v = q := by
  unfold pairV
  have ex : ∃ q : Int × Int, Srt.IsPair h v q.1 q.2 := ⟨q, p⟩
  rw [dif_pos ex]
  have z := isPair_uniq ex.choose_spec p
  exact Prod.ext z.1 z.2
theorem ki_cmp {prog : Program} {w : World} {A : Around} {s : Shared} {ps : List Keyed} {l : Addr} (h2 : 2 ≤ ps.length) (hl : ∀ o, s.heap.get? l = some o → o.cls ≠ .type "tuple") (hp : ∀ p ∈ ps, KI k s.heap p) :
    ∃ κ, (∀ (Q : SortKind → Shared → Prop) (E : Value → Shared → Prop), Q κ s → wpAny (model prog w) A (keyKind' (ps.map (·.1)).toArray) Q E s) ∧ SrtO.Cmp prog w A s κ (fun p => p ∈ ps) (ltK k) := by
  have hv : ∀ v ∈ ps.map (·.1), Srt.IsPair s.heap v (pairV s.heap v).1 (pairV s.heap v).2 := fun v hv => by
    obtain ⟨p, hm, rfl⟩ := List.mem_map.mp hv
    have q := (hp p hm).1
    rw [pairV_is (q := k (backV p.2)) q]
    exact q
  obtain ⟨κ, h1, hc⟩ := SrtO.pairs_sortableO (prog := prog) (w := w) (A := A) (s := s) (a := l) (vs := ps.map (·.1)) (k := pairV s.heap) (by rw [List.length_map]; omega) hv hl s.heap fun _ _ _ e => e
  refine ⟨κ, h1, fun p q hm hm' => ?_⟩
  have z := hc p q (List.mem_map.mpr ⟨p, hm, rfl⟩) (List.mem_map.mpr ⟨q, hm', rfl⟩)
  have e1 := pairV_is (q := k (backV p.2)) (hp p hm).1
  have e2 := pairV_is (q := k (backV q.2)) (hp q hm').1
  show wpAny (model prog w) A (keyLt' κ p.1 q.1) (fun r s' => s' = s ∧ r = SrtO.lexB (k (backV p.2)) (k (backV q.2))) _ s
  rw [← e1, ← e2]
  exact z

theorem zip_arr (x y : List Value) : (x.toArray.zip y.toArray).toList = x.zip y := by simp
theorem zip_fst : ∀ (x y : List Value), x.length = y.length → (x.zip y).map (·.1) = x
  | [], _, _ => by simp
  | a :: x, [], h => absurd h (by simp)
  | a :: x, b :: y, h => by
    rw [List.zip_cons_cons, List.map_cons, zip_fst x y (by simpa using h)]
theorem zip_snd : ∀ (x y : List Value), x.length = y.length → (x.zip y).map (·.2) = y
  | [], [], _ => by simp
  | [], b :: y, h => absurd h (by simp)
  | a :: x, [], h => absurd h (by simp)
  | a :: x, b :: y, h => by
    rw [List.zip_cons_cons, List.map_cons, zip_snd x y (by simpa using h)]

/-- the sort itself and what is behind it -/
theorem ksT_end {s : Shared} {H : Hp} {ks : List V} {kits its : List Value} (I : Inv X pins σ H s) (hA : H a = some (.frz (seqObj "list" #[] c) (.lst []))) (hS : H kS = some (.lst ks)) (hn : ∀ o' u', X.H_0 a ≠ some (.frz o' u'))
    (hks : Vals ks kits) (rv : Vals xs its) (hz : xs.length ≤ sizeLine) (er : ∀ u ∈ its, ∃ t, u = Value.ref t) (eb : xs = its.map backV) (hp : Paired (KeyIs k H) ks xs)
    (h : ∀ s' H2 ys, Inv X pins σ H2 s' → (∀ b o, b ≠ a → b ≠ kS → H b = some o → H2 b = some o) → H2 a = some (.lst ys) → SrtO.Srtd (ltP k) ys → SrtO.Stb (ltP k) ys xs → R (.done (.ret .none)) s') :
    wpAny (model X.prog X.w) X.A.in1.in1 (ksk_end a false its.toArray c (.ref kS) kits.toArray) R E s := by
  have hak : a ≠ kS := fun e => by rw [e, hS] at hA; cases hA
  have hl1 := hks.length
  have hl2 := rv.length
  have hl3 := paired_len hp
  have hlz : kits.length = its.length := by omega
  have hsz : its.toArray.size = its.length := by simp
  -- the pairs
  have hKI : ∀ p ∈ kits.zip its, KI k s.heap p := by
    intro p hm
    have e1 : (p.2 ∈ its) := (List.of_mem_zip hm).2
    obtain ⟨i, hi, hpi⟩ := List.mem_iff_getElem.mp hm
    rw [List.length_zip] at hi
    have hik : i < kits.length := by omega
    have hii : i < its.length := by omega
    have hix : i < xs.length := by omega
    have hikk : i < ks.length := by omega
    have e2 : p = (kits[i], its[i]) := by rw [← hpi, List.getElem_zip]
    have e3 : xs[i] = backV its[i] := by
      subst eb
      rw [List.getElem_map]
    have e4 := prd_at hp (ks[i], xs[i]) (List.mem_iff_getElem.mpr ⟨i, by rw [List.length_zip]; omega, by rw [List.getElem_zip]⟩)
    obtain ⟨t, et, ht⟩ := e4
    have et' : ks[i] = V.ref t := et
    obtain ⟨u, eu, ru⟩ := hks.get (i := i) (x := ks[i]) (List.getElem?_eq_getElem hikk)
    rw [List.getElem?_eq_getElem hik] at eu
    have eu' : kits[i] = u := Option.some.inj eu
    rw [et'] at ru
    have ru' : u = Value.ref t := ru
    obtain ⟨_, its2, r2, o, ho, hc, m, hd⟩ := I.hok _ _ ht
    obtain ⟨u1, u2, rfl, ri, rj⟩ := vals2 r2
    obtain ⟨t1, rfl⟩ := ri
    obtain ⟨t2, rfl⟩ := rj
    rw [e2]
    refine ⟨?_, er _ (List.getElem_mem hii)⟩
    show Srt.IsPair s.heap kits[i] (k (backV its[i])).1 (k (backV its[i])).2
    rw [← e3, eu', ru']
    exact ⟨t, o, t1, t2, m, rfl, ho, hc, hd⟩
  -- the end
  have tail : ∀ st : SortSt, SrtO.Srtd (ltK k) (arrOf st).toList → SrtO.Stb (ltK k) (arrOf st).toList (kits.zip its) → failedOf st = none → wpAny (model X.prog X.w) X.A.in1.in1 (ksk_tail a false c (.ref kS) st) R E s := by
    intro st h1 h2 h3
    have hm : ∀ p ∈ (arrOf st).toList, p.2 ∈ its := fun p hp' => (List.of_mem_zip (h2.perm.mem_iff.mp hp')).2
    have ee : ((arrOf st).toList.map (·.2)).map backV = (arrOf st).toList.map fun p => backV p.2 := by rw [List.map_map] <;> rfl
    have ls : (arrOf st).toList.length = xs.length := by rw [h2.len, List.length_zip]; omega
    have hb2 : SrtO.Stb (ltP k) ((arrOf st).toList.map fun p => backV p.2) xs := by
      have q := SrtO.Stb.map (ltP_swo k) (fun p : Keyed => backV p.2) h2
      have e5 : (kits.zip its).map (fun p : Keyed => backV p.2) = xs := by
        rw [eb, ← zip_snd kits its hlz, List.map_map]
        rw [zip_snd kits its hlz]
        rfl
      rw [e5] at q
      exact q
    have hs2 : SrtO.Srtd (ltP k) ((arrOf st).toList.map fun p => backV p.2) := SrtO.srtd_map h1
    obtain ⟨hzk, kit2, ep, rk, _, hok⟩ := I.lstM hS
    unfold ksk_tail
    try dsimp only
    refine wpAny_bind (listUpdate_at hok rfl ?_ (by rw [List.size_toArray, ← rk.length]; exact hzk) (Nat.zero_le _))
    refine wpAny_bind (wpAny_letGo ?_)
    have I1 := I.lset (f := fun _ => #[]) (its' := []) (ys := []) (t' := s.toks) hS hok rfl .nil (Nat.zero_le _)
    have hA1 : upd H kS (.lst []) a = some (.frz (seqObj "list" #[] c) (.lst [])) := by rw [upd_ne hak]; exact hA
    have ho1 := (I1.hok a _ hA1).1
    refine wpAny_bind (seqEpoch_at ho1 rfl ?_)
    have I2 := I1.unlock hA1 hn
    have hvs : Vals ((arrOf st).toList.map fun p => backV p.2) ((arrOf st).toList.map (·.2)) := by
      rw [← ee]
      exact vals_back fun u hu => by
        obtain ⟨p, hp', rfl⟩ := List.mem_map.mp hu
        exact er _ (hm p hp')
    have I3 := I2.lset (l := a) (xs := []) (its := []) (its' := (arrOf st).toList.map (·.2)) (ys := (arrOf st).toList.map fun p => backV p.2) (f := fun _ => (arrOf st).map (·.2)) (t' := s.toks) upd_same ho1
      (by rw [← Array.toList_map, Array.toArray_toList]) hvs (by rw [List.length_map, ls]; exact hz)
    refine wpAny_bind (listUpdate_at ho1 rfl ?_ (Nat.zero_le _) ?_)
    · rw [h3]
      simp only [bne_self_eq_false, Bool.false_eq_true, if_false]
      refine wpAny_pure (h _ _ _ I3 (fun b o hb hb2 e => ?_) upd_same hs2 hb2)
      rw [upd_ne hb, upd_ne hb, upd_ne hb2]
      exact e
    · simp only [Bool.false_eq_true, if_false]
      rw [Array.size_map, ← Array.length_toList, ls]
      omega
  have step : ∀ t : Sem PySem.Fin, wpAny (model X.prog X.w) X.A.in1.in1 t R E s → wpAny (model X.prog X.w) X.A.in1.in1 (if false = true then (do let _ ← rule "list.sort.reverse"; t) else t) R E s := by
    intro t ht
    exact ht
  unfold ksk_end
  try dsimp only
  refine step _ ?_
  simp only [Bool.false_eq_true, if_false]
  by_cases h2 : its.toArray.size < 2
  · rw [if_pos h2, if_pos h2]
    refine wpAny_bind (wpAny_pure ?_)
    rw [StateT.run_pure]
    refine wpAny_bind (wpAny_pure ?_)
    try dsimp only
    refine tail (SortSt.mk' general' (kits.toArray.zip its.toArray) #[] 7 none) ?_ (SrtO.Stb.of_eq (zip_arr _ _)) rfl
    show SrtO.Srtd (ltK k) (kits.toArray.zip its.toArray).toList
    rw [zip_arr]
    have hlt : (kits.zip its).length < 2 := by rw [List.length_zip]; omega
    generalize kits.zip its = l at hlt
    match l, hlt with
    | [], _ => exact List.Pairwise.nil
    | [v], _ => exact List.pairwise_singleton _ _
    | _ :: _ :: l, h => exact absurd h (by rw [List.length_cons, List.length_cons]; omega)
  · rw [if_neg h2, if_neg h2]
    have ho1 := (I.hok a _ hA).1
    obtain ⟨κ, hkind, hT⟩ := ki_cmp (k := k) (prog := X.prog) (w := X.w) (A := X.A.in1.in1) (s := s) (ps := kits.zip its) (l := a) (by rw [List.length_zip]; omega) (fun o e => by
      rw [ho1] at e
      cases e
      exact fun z => absurd (Value.type.inj z) (by decide)) hKI
    rw [zip_fst kits its hlz] at hkind
    refine wpAny_bind (hkind _ _ ?_)
    refine wpAny_bind (wpAny_mono (SrtO.wpS_sortO (st0 := SortSt.mk' κ (kits.toArray.zip its.toArray) #[] 7 none)
      (Q := fun _ st' => SrtO.Srtd (ltK k) (arrOf st').toList ∧ SrtO.Stb (ltK k) (arrOf st').toList (kits.zip its) ∧ failedOf st' = none) (ltK_swo k) hT rfl (fun p hm => by
        have hm' : p ∈ (kits.toArray.zip its.toArray).toList := hm
        rw [zip_arr] at hm'
        exact hm') rfl rfl fun st' a1 a2 a3 => ⟨a1, by
          have a2' : SrtO.Stb (ltK k) (arrOf st').toList (kits.toArray.zip its.toArray).toList := a2
          rw [zip_arr] at a2'
          exact a2', a3⟩) ?_ fun _ _ e => e)
    rintro ⟨⟨⟩, st'⟩ s' ⟨rfl, hp1, hp2, hf⟩
    try dsimp only
    exact tail st' hp1 hp2 hf
end
end Vs
namespace Vs
open PySem PySem.Spec PyProof.Rows L2
section
variable {X : Cx} {pins : List (Addr × Obj)} {σ : L2.St} {a f kS : Addr} {xs : List V} {k : V → Int × Int} {n c : Nat} {fd : FuncData} {ps : List Str} {sp : Sp} {R : PySem.Fin → Shared → Prop} {E : Value → Shared → Prop}
theorem ksT_rest {s : Shared} {H : Hp} {its : List Value} (I : Inv X pins σ H s) (hA : H a = some (.frz (seqObj "list" #[] c) (.lst []))) (hS : H kS = some (.lst [])) (hn : ∀ o' u', X.H_0 a ≠ some (.frz o' u'))
    (rv : Vals xs its) (hz : xs.length ≤ sizeLine) (er : ∀ u ∈ its, ∃ t, u = Value.ref t) (eb : xs = its.map backV)
    (F : FnOk X.prog X.w X.K X.mg X.base XNone n f fd ps sp) (hr : Room (n + 2) X.A) (hb : Binds X.K fd ps [])
    (hk : ∀ x ∈ xs, ∀ (H1 : Hp) (Q : VK), (∀ b o, b ≠ kS → H b = some o → H1 b = some o) → (∀ t H2, Same H1 H2 → H2 t = some (.tup [.int (k x).1, .int (k x).2]) → Q (.ref t) H2) → sp [x] H1 Q (fun _ _ _ => False))
    (h : ∀ s' H2 ys, Inv X pins σ H2 s' → (∀ b o, b ≠ a → b ≠ kS → H b = some o → H2 b = some o) → H2 a = some (.lst ys) → SrtO.Srtd (ltP k) ys → SrtO.Stb (ltP k) ys xs → R (.done (.ret .none)) s') :
    wpAny (model X.prog X.w) X.A.in1.in1 (ksk_rest a (.ref f) false its.toArray c (.ref kS)) R E s := by
  have hak : a ≠ kS := fun e => by rw [e, hS] at hA; cases hA
  unfold ksk_rest
  refine wpAny_bind (wpAny_rule ?_)
  first
    | rw [List.forIn_toArray]
    | (rw [← Array.forIn_toList]; simp only [List.toList_toArray])
    | rw [← Array.forIn_toList]
  refine wpAny_bind (ksk_fold (fun i s' => ∃ Hi ks, Inv X pins σ Hi s' ∧ (∀ b o, b ≠ kS → H b = some o → Hi b = some o) ∧ Hi kS = some (.lst ks) ∧ Paired (KeyIs k Hi) ks (xs.take i)) its 0 s
    ⟨H, [], I, fun _ _ _ e => e, hS, by rw [List.take_zero]; exact .nil⟩ ?step ?done)
  case step =>
    rintro j u s' hx ⟨Hi, ks, I1, b1, hk1, hp1⟩
    simp only [Nat.zero_add] at hp1 ⊢
    have hj : j < its.length := (List.getElem?_eq_some_iff.mp hx).1
    have hjx : j < xs.length := by rw [rv.length]; exact hj
    have exj : xs[j]? = some xs[j] := List.getElem?_eq_getElem hjx
    obtain ⟨u', eu, ru⟩ := rv.get exj
    rw [hx] at eu
    cases eu
    have sp1 := hk xs[j] (List.getElem_mem hjx) Hi (fun v H2 => ∃ t, v = V.ref t ∧ Same Hi H2 ∧ H2 t = some (.tup [.int (k xs[j]).1, .int (k xs[j]).2])) b1 (fun t H2 e1 e2 => ⟨t, rfl, e1, e2⟩)
    have hlp : ([u] ++ ([] : List Value)).length = ps.length := by
      have q := F.len _ _ _ _ sp1
      exact q
    refine wpAny_bind (wpAny_attempt (wpAny_call (codeAny_mono (F.run X.A.in1.in1 X.stack s' Hi ⟨[u], []⟩ ([u] ++ []) [xs[j]] _ _ (hr.in1.in1) I1.env0.in1.in1 (hb s' [u] I1.kIn hlp) (.cons ru .nil) sp1) fun r s'' hq => ?_)))
    cases r with
    | error e => exact False.elim hq
    | ok fl =>
      cases fl with
      | next => exact False.elim hq
      | brk => exact False.elim hq
      | cont => exact False.elim hq
      | ret w1 =>
        obtain ⟨v, H2, I2, rv2, t, rfl, sm, ht⟩ := I1.after hq
        have ew : w1 = Value.ref t := rv2
        subst ew
        have hk2 : H2 kS = some (.lst ks) := sm _ _ hk1
        obtain ⟨hzk, kit2, ep, rk, hkl, hok⟩ := I2.lstM hk2
        have hlk : ks.length = j := by
          rw [paired_len hp1, List.length_take]
          omega
        have hl2 : (ks ++ [V.ref t]).length ≤ sizeLine := by
          rw [List.length_append, hlk, List.length_singleton]
          omega
        have I3 := I2.lset (l := kS) (f := (·.push (Value.ref t))) (its' := kit2 ++ [Value.ref t]) (ys := ks ++ [V.ref t]) (t' := s''.toks) hk2 hok (by simp) (rk.append (.cons rfl .nil)) hl2
        show wpAny (model X.prog X.w) X.A.in1.in1 (Builtin.List.listUpdate (.ref kS) (·.push (Value.ref t)) >>= _) _ _ _
        refine wpAny_bind (listUpdate_at hok rfl ?_ (by rw [List.size_toArray, ← hkl]; omega) (by rw [Array.size_push, List.size_toArray, ← hkl]; omega))
        refine wpAny_pure ⟨rfl, _, _, I3, fun b o hb e => by rw [upd_ne hb]; exact sm _ _ (b1 b o hb e), upd_same, ?_⟩
        have ek : xs.take (j + 1) = xs.take j ++ [xs[j]] := by rw [List.take_add_one, exj]; simp
        have nt : ∀ t' ys, H2 t' = some (.tup ys) → t' ≠ kS := fun t' ys e z => by rw [z, hk2] at e; cases e
        rw [ek]
        refine paired_snoc (Paired.mapP hp1 fun κ x ⟨t', e1, e2⟩ => ⟨t', e1, ?_⟩) ⟨t, rfl, ?_⟩
        · have e3 := sm _ _ e2
          rw [upd_ne (nt _ _ e3)]
          exact e3
        · rw [upd_ne (nt _ _ ht)]
          exact ht
  case done =>
    rintro s' ⟨Hi, ks, I1, b1, hk1, hp1⟩
    have e0 : xs.take (0 + its.length) = xs := List.take_of_length_le (by rw [rv.length]; omega)
    rw [e0] at hp1
    obtain ⟨hzk, kit2, ep, rk, hkl, hok⟩ := I1.lstM hk1
    refine wpAny_bind (listItems_at hok rfl ?_)
    refine ksT_end I1 (b1 _ _ hak hA) hk1 hn rk rv hz er eb hp1 fun s2 H2 ys I2 b2 e2 h1 h2 => h s2 H2 ys I2 (fun b o hb hb2 e => b2 b o hb hb2 (b1 b o hb2 e)) e2 h1 h2

theorem ksT_tree {s : Shared} {H : Hp} (I : Inv X pins σ H s) (ha : H a = some (.lst xs)) (hx : ∀ x ∈ xs, ∃ t, x = V.ref t)
    (F : FnOk X.prog X.w X.K X.mg X.base XNone n f fd ps sp) (hr : Room (n + 2) X.A) (hb : Binds X.K fd ps [])
    (hk : ∀ x ∈ xs, ∀ (H1 : Hp) (Q : VK), (∀ b o, b ≠ a → H b = some o → H1 b = some o) → (∀ t H2, Same H1 H2 → H2 t = some (.tup [.int (k x).1, .int (k x).2]) → Q (.ref t) H2) → sp [x] H1 Q (fun _ _ _ => False))
    (h : ∀ s' H2 ys, Inv X pins σ H2 s' → (∀ b o, b ≠ a → H b = some o → H2 b = some o) → H2 a = some (.lst ys) → SrtO.Srtd (ltP k) ys → SrtO.Stb (ltP k) ys xs → R (.done (.ret .none)) s') :
    wpAny (model X.prog X.w) X.A.in1.in1 (ksk_tree a (.ref f) false) R E s := by
  obtain ⟨hz, its, e0, rv, hlen, ho⟩ := I.lstM ha
  obtain ⟨eb, er⟩ := refs_back rv hx
  unfold ksk_tree
  refine wpAny_bind (listItems_at ho rfl ?_)
  refine wpAny_bind (listUpdate_at ho rfl ?_ (by rw [List.size_toArray]; omega) (Nat.zero_le _))
  obtain ⟨c, hc⟩ : ∃ c, (s.heap.update a (Obj.mapSeq fun _ => #[])).get? a = some (seqObj "list" #[] c) := ⟨_, get?_update_seq ho (fun _ => #[])⟩
  have I1 := I.lset (f := fun _ => #[]) (its' := []) (ys := []) (t' := s.toks) ha ho rfl .nil (Nat.zero_le _)
  have hnf := I1.nofrz (d := a) (u := .lst []) upd_same trivial
  obtain ⟨od, I2⟩ := I1.lock (d := a) (u := .lst []) upd_same trivial
  have e1 := (I2.hok a _ upd_same).1
  have eo : od = seqObj "list" #[] c := Option.some.inj (e1.symm.trans hc)
  subst eo
  refine wpAny_bind (seqEpoch_at hc rfl ?_)
  refine wpAny_bind (wpAny_newTuple ?_ (by show its.length ≤ _; omega))
  have I3 := I2.kept (h' := (s.heap.update a (Obj.mapSeq fun _ => #[])).push (seqObj "tuple" its.toArray 0)) (t' := s.toks) fun _ _ q => Heap.get?_push_of_some _ q
  refine wpAny_bind (wpAny_newList ?_ (Nat.zero_le _))
  have fr := I3.fresh
  have I4 := I3.lnew (its := []) (ys := []) (t' := s.toks) .nil (Nat.zero_le _)
  refine wpAny_holding ?_
  have hA3 : ∀ b o, b ≠ a → H b = some o → upd (upd H a (.lst [])) a (.frz (seqObj "list" #[] c) (.lst [])) b = some o := fun b o hb e => by rw [upd_ne hb, upd_ne hb]; exact e
  have hak : a ≠ ((s.heap.update a (Obj.mapSeq fun _ => #[])).push (seqObj "tuple" its.toArray 0)).objs.size := fun z => by
    have fr' : upd (upd H a (.lst [])) a (.frz (seqObj "list" #[] c) (.lst [])) ((s.heap.update a (Obj.mapSeq fun _ => #[])).push (seqObj "tuple" its.toArray 0)).objs.size = none := fr
    rw [← z, upd_same] at fr'
    cases fr'
  have hA4 : ∀ b o, b ≠ a → H b = some o → b ≠ ((s.heap.update a (Obj.mapSeq fun _ => #[])).push (seqObj "tuple" its.toArray 0)).objs.size := fun b o hb e z => by
    have q := hA3 b o hb e
    have fr' : upd (upd H a (.lst [])) a (.frz (seqObj "list" #[] c) (.lst [])) ((s.heap.update a (Obj.mapSeq fun _ => #[])).push (seqObj "tuple" its.toArray 0)).objs.size = none := fr
    rw [← z, q] at fr'
    cases fr'
  refine ksT_rest (kS := ((s.heap.update a (Obj.mapSeq fun _ => #[])).push (seqObj "tuple" its.toArray 0)).objs.size) (c := c) I4 ?_ upd_same hnf rv hz er eb F hr hb (fun x hm H1 Q b q => hk x hm H1 Q (fun b' o hb' e => ?_) q) fun s' H2 ys I5 b5 e5 h1 h2 => h s' H2 ys I5 (fun b o hb e => ?_) e5 h1 h2
  · show upd _ _ _ a = _
    rw [upd_ne hak, upd_same]
  · refine b b' o (hA4 b' o hb' e) ?_
    show upd _ _ _ b' = _
    rw [upd_ne (hA4 b' o hb' e)]
    exact hA3 b' o hb' e
  · refine b5 b o hb (hA4 b o hb e) ?_
    show upd _ _ _ b = _
    rw [upd_ne (hA4 b o hb e)]
    exact hA3 b o hb e

/-- sorted(xs, key=f): a new list, by the keys, equal ones in their order -/
def rSortKT (K : PySem.W.Frag) (f : Addr) (sp : Sp) : List V → List V → Hp → VK → Prop := fun vs zs H Q => ∃ (a : Addr) (xs : List V) (k : V → Int × Int), vs = [V.ref a] ∧ zs = [V.ref f] ∧ SqL K H a xs ∧ (∀ x ∈ xs, ∃ t, x = V.ref t) ∧
  (∀ x ∈ xs, ∀ (H1 : Hp) (Q : VK), Same H H1 → (∀ t H2, Same H1 H2 → H2 t = some (.tup [.int (k x).1, .int (k x).2]) → Q (.ref t) H2) → sp [x] H1 Q (fun _ _ _ => False)) ∧
  ∀ ys p H2, Same H H2 → H p = none → H2 p = some (.lst ys) → SrtO.Srtd (ltP k) ys → SrtO.Stb (ltP k) ys xs → Q (.ref p) H2
theorem cr_sortKT (F : FnOk X.prog X.w X.K X.mg X.base XNone n f fd ps sp) (hr : Room (n + 2) X.A) (hb : Binds X.K fd ps []) : CallRK X (.builtin "sorted") [Str.ofString "key"] (rSortKT X.K f sp) := by
  intro pins s σ H vs zs us ws Q I r rz h
  obtain ⟨l, xs, k, rfl, rfl, hs, hx, hk, q⟩ := h
  obtain rfl := Vals.ref1 r
  obtain ⟨w1, rfl, ew⟩ := vals1 rz
  obtain rfl : w1 = Value.ref f := ew
  obtain ⟨its, rv, hl, hz⟩ := I.list hs
  have hz' : its.length ≤ sizeLine := by rw [← rv.length]; exact hz
  show wpAny (model X.prog X.w) X.A (call (.builtin "sorted") [.ref l] [(Str.ofString "key", .ref f)]) _ _ _
  refine call_function_entry_kw kind_sorted plain_sorted entry_sorted (ksk_s1 _ _) ?_
  unfold Builtin.«sorted»
  refine wpAny_bind (m := checkCount "sorted" 1 1 _) (wpAny_pure ?_)
  refine wpAny_bind (collect_list hl.isList ?_ hz')
  refine wpAny_bind (wpAny_newList ?_ hz')
  have keep : ∀ b o, s.heap.get? b = some o → ((s.heap.push (seqObj "list" #[] 0)).update s.heap.objs.size (Obj.mapSeq (· ++ its.toArray))).get? b = some o := fun b o q => by
    have hlt : b < s.heap.objs.size := Heap.lt_size q
    rw [Heap.get?_update_ne _ _ _ _ (Nat.ne_of_lt hlt)]
    exact Heap.get?_push_of_some _ q
  have I1 := I.kept (h' := (s.heap.push (seqObj "list" #[] 0)).update s.heap.objs.size (Obj.mapSeq (· ++ its.toArray))) (t' := s.toks) keep
  have fr := I1.fresh
  have I2 := I1.lnew (its := its) (ys := xs) (t' := s.toks) rv hz
  have hoL : (((s.heap.push (seqObj "list" #[] 0)).update s.heap.objs.size (Obj.mapSeq (· ++ its.toArray))).push (seqObj "list" its.toArray 0)).get? ((s.heap.push (seqObj "list" #[] 0)).update s.heap.objs.size (Obj.mapSeq (· ++ its.toArray))).objs.size = some (seqObj "list" its.toArray 0) := Heap.get?_push_size _ rfl
  have hD : ∀ b o, H b = some o → b ≠ ((s.heap.push (seqObj "list" #[] 0)).update s.heap.objs.size (Obj.mapSeq (· ++ its.toArray))).objs.size := fun b o e z => by
    have fr' : H ((s.heap.push (seqObj "list" #[] 0)).update s.heap.objs.size (Obj.mapSeq (· ++ its.toArray))).objs.size = none := fr
    rw [← z, e] at fr'
    cases fr'
  refine wpAny_bind (wpAny_holding (wpAny_call_entry_kw slot_list_sort ⟨_, hoL, rfl⟩ entry_list_sort ?_ (ksk_l1 _ _)))
  rw [ksk_t1]
  refine ksT_tree I2 upd_same hx F hr hb (fun x hm H1 Q' b q' => hk x hm H1 Q' (fun b' o e => ?_) q') fun s' H2 ys I3 b3 e3 h1 h2 => ⟨_, rfl, ?_⟩
  · refine b b' o (hD b' o e) ?_
    show upd _ _ _ b' = _
    rw [upd_ne (hD b' o e)]
    exact e
  · refine wpAny_pure ⟨_, rfl, .ref _, H2, I3, rfl, q ys _ H2 (fun b o e => ?_) fr e3 h1 h2⟩
    refine b3 b o (hD b o e) ?_
    show upd _ _ _ b = _
    rw [upd_ne (hD b o e)]
    exact e
end
end Vs

namespace Vs
open PySem PySem.Spec PyProof.Rows L2
/-! ### stretches as data -/
structure Stc where
  lo : Option Int
  hi : Option Int
def endP : Option Int → PyData
  | none => .none
  | some b => .int b
def stcP (s : Stc) : PyData := .tuple [endP s.lo, endP s.hi]
abbrev stcO (s : Stc) : HO := .tup [hiV s.lo, hiV s.hi]
theorem stc_depth (s : Stc) : (stcP s).depth ≤ 3 := by
  obtain ⟨a, b⟩ := s
  cases a <;> cases b <;> simp [stcP, endP, PyData.depth, PyData.depthAll]
theorem stcs_depth (ss : List Stc) : (PyData.list (ss.map stcP)).depth ≤ 64 := Nat.le_trans (ldepth stc_depth ss) (by decide)
/-- a list of stretches, each a tuple made in the run -/
structure StcL (H : Hp) (l : Addr) (bs : List Addr) (ss : List Stc) : Prop where
  l : H l = some (.lst (bs.map V.ref))
  e : Each (fun b s => H b = some (stcO s)) bs ss
theorem StcL.keep {H H' : Hp} {l bs ss} (h : StcL H l bs ss) (e : Same H H') : StcL H' l bs ss := ⟨e _ _ h.l, h.e.1, fun i b s h1 h2 => e _ _ (h.e.2 i b s h1 h2)⟩
theorem endI {K : PySem.W.Frag} {H : Hp} (o : Option Int) : Im K H (endP o) (hiV o) := by
  cases o with
  | none => exact Im.non_
  | some b => exact Im.int_
theorem stcI {K : PySem.W.Frag} {H : Hp} {a : Addr} {s : Stc} (h : H a = some (stcO s)) : Im K H (stcP s) (.ref a) := Im.tup_ (SqT.of h) (ImL.cons_ (endI _) (ImL.cons_ (endI _) ImL.nil_))
theorem StcL.im {K : PySem.W.Frag} {H : Hp} : ∀ {bs : List Addr} {ss : List Stc}, Each (fun b s => H b = some (stcO s)) bs ss → ImL K H (ss.map stcP) (bs.map V.ref)
  | [], [], _ => ImL.nil_
  | [], s :: ss, h => absurd h.1 (by simp)
  | b :: bs, [], h => absurd h.1 (by simp)
  | b :: bs, s :: ss, h => ImL.cons_ (stcI (h.2 0 b s rfl rfl)) (StcL.im ⟨by have := h.1; simpa using this, fun i b' s' h1 h2 => h.2 (i + 1) b' s' h1 h2⟩)
theorem StcL.ls {K : PySem.W.Frag} {H : Hp} {l bs ss} (h : StcL H l bs ss) : LsI K H l (ss.map stcP) := ⟨_, h.l, StcL.im h.e⟩
theorem StcL.len {H : Hp} {l bs ss} (h : StcL H l bs ss) : bs.length = ss.length := h.e.1

/-! ### what joins them -/
def keyS (s : Stc) : Int × Int := match s.lo with
  | none => (0, 0)
  | some l => (1, l)
abbrev ltS (s t : Stc) : Bool := SrtO.lexB (keyS s) (keyS t)
theorem ltS_swo : SrtO.Swo ltS := by
  refine ⟨fun x y h => ?_, fun x y z h1 h2 => ?_⟩
  · have a := SrtO.lexB_iff.mp h
    refine SrtO.lexB_no.mpr ?_
    omega
  · have a := SrtO.lexB_no.mp h1
    have b := SrtO.lexB_no.mp h2
    refine SrtO.lexB_no.mpr ?_
    omega
/-- a number is beyond an end by more than one -/
def beyB : Option Int → Option Int → Bool
  | some a, some b => decide (a > b + 1)
  | _, _ => false
def gEnd : Option Int → Option Int → Option Int
  | some a, some b => some (if b > a then b else a)
  | _, _ => none
def joinStep (J : List Stc) (s : Stc) : List Stc := match J.getLast? with
  | none => J ++ [s]
  | some t => if beyB s.lo t.hi = true then J ++ [s] else J.dropLast ++ [⟨t.lo, gEnd t.hi s.hi⟩]
/-- one begins no later than the other -/
def befB (s t : Stc) : Bool := match s.lo, t.lo with
  | none, _ => true
  | some _, none => false
  | some a, some b => decide (a ≤ b)
theorem befB_lt (s t : Stc) : befB s t = !ltS t s := by
  obtain ⟨a, x⟩ := s
  obtain ⟨b, y⟩ := t
  unfold befB ltS keyS SrtO.lexB
  cases a with
  | none => cases b <;> simp
  | some a =>
    cases b with
    | none => simp
    | some b =>
      by_cases h : a ≤ b
      · have h2 : ¬ b < a := by omega
        simp [h, h2]
      · have h2 : b < a := by omega
        simp [h, h2]
/-- the place of the first one of those that begin first -/
def firstB (l : List Stc) : Nat → Nat
  | 0 => 0
  | n + 1 => match l[firstB l n]?, l[n]? with
    | some s, some t => if befB s t = true then firstB l n else n
    | _, _ => firstB l n
theorem firstB_lt {l : List Stc} (hl : 0 < l.length) : ∀ n, n ≤ l.length → firstB l n < l.length
  | 0, _ => hl
  | n + 1, h => by
    have ih := firstB_lt hl n (by omega)
    unfold firstB
    rw [List.getElem?_eq_getElem ih, List.getElem?_eq_getElem (show n < l.length by omega)]
    show (if _ then _ else _) < _
    split
    · exact ih
    · omega
theorem firstB_is {l : List Stc} (hl : 0 < l.length) : ∀ n, n ≤ l.length → ∀ s, l[firstB l n]? = some s → (∀ k t, k < n → l[k]? = some t → ltS t s = false) ∧ ∀ k t, k < firstB l n → l[k]? = some t → ltS s t = true
  | 0, _, s, h => ⟨fun k t hk _ => absurd hk (by omega), fun k t hk _ => absurd hk (by show ¬ k < 0; omega)⟩
  | n + 1, h, s, hs => by
    have lt := firstB_lt hl n (by omega)
    have hn : n < l.length := by omega
    have e1 : l[firstB l n]? = some l[firstB l n] := List.getElem?_eq_getElem lt
    have e2 : l[n]? = some l[n] := List.getElem?_eq_getElem hn
    obtain ⟨i1, i2⟩ := firstB_is hl n (by omega) _ e1
    have ef : firstB l (n + 1) = if befB l[firstB l n] l[n] = true then firstB l n else n := by
      rw [firstB, e1, e2]
    rw [ef] at hs ⊢
    have O := ltS_swo
    by_cases c : befB l[firstB l n] l[n] = true
    · rw [if_pos c] at hs ⊢
      have es : s = l[firstB l n] := by rw [e1] at hs; exact (Option.some.inj hs).symm
      rw [es]
      have c2 : ltS l[n] l[firstB l n] = false := by
        rw [befB_lt] at c
        simpa using c
      refine ⟨fun k t hk ht => ?_, i2⟩
      rcases (by omega : k < n ∨ k = n) with hk | hk
      · exact i1 k t hk ht
      · subst hk
        rw [e2] at ht
        cases ht
        exact c2
    · rw [if_neg c] at hs ⊢
      have es : s = l[n] := by rw [e2] at hs; exact (Option.some.inj hs).symm
      rw [es]
      have c2 : ltS l[n] l[firstB l n] = true := by
        rw [befB_lt] at c
        simpa using c
      have lo : ∀ k t, k < n → l[k]? = some t → ltS l[n] t = true := fun k t hk ht => O.ltle c2 (i1 k t hk ht)
      refine ⟨fun k t hk ht => ?_, lo⟩
      rcases (by omega : k < n ∨ k = n) with hk | hk
      · exact O.asym _ _ (lo k t hk ht)
      · subst hk
        rw [e2] at ht
        cases ht
        exact O.refl _
/-- the stretches by their begins -/
def selS : Nat → List Stc → List Stc
  | 0, _ => []
  | n + 1, l => match l[firstB l l.length]? with
    | none => []
    | some s => s :: selS n (l.eraseIdx (firstB l l.length))
theorem selS_is : ∀ (n : Nat) (l : List Stc), l.length = n → SrtO.Srtd ltS (selS n l) ∧ SrtO.Stb ltS (selS n l) l
  | 0, l, h => by
    have e : l = [] := List.eq_nil_of_length_eq_zero h
    subst e
    exact ⟨List.Pairwise.nil, SrtO.Stb.refl _⟩
  | n + 1, l, h => by
    have hl : 0 < l.length := by omega
    have lt := firstB_lt hl l.length (Nat.le_refl _)
    obtain ⟨i1, i2⟩ := firstB_is hl l.length (Nat.le_refl _) _ (List.getElem?_eq_getElem lt)
    unfold selS
    rw [List.getElem?_eq_getElem lt]
    generalize hf : firstB l l.length = f at *
    have hr : (l.eraseIdx f).length = n := by rw [List.length_eraseIdx, if_pos lt]; omega
    obtain ⟨j1, j2⟩ := selS_is n (l.eraseIdx f) hr
    have el : l = l.take f ++ [l[f]] ++ l.drop (f + 1) := by simp
    have ee : l.eraseIdx f = l.take f ++ l.drop (f + 1) := List.eraseIdx_eq_take_drop_succ l f
    show SrtO.Srtd ltS (l[f] :: selS n (l.eraseIdx f)) ∧ SrtO.Stb ltS (l[f] :: selS n (l.eraseIdx f)) l
    refine ⟨List.pairwise_cons.mpr ⟨fun y hy => ?_, j1⟩, ?_⟩
    · have hm := j2.perm.mem_iff.mp hy
      obtain ⟨k, hk⟩ := List.getElem?_of_mem (List.mem_of_mem_eraseIdx hm)
      exact i1 k y (List.getElem?_eq_some_iff.mp hk).1 hk
    · have sw : SrtO.Stb ltS ([l[f]] ++ l.take f) (l.take f ++ [l[f]]) := SrtO.Stb.swap ltS_swo fun a ha b hb => by
        rw [List.mem_singleton.mp ha]
        obtain ⟨k, hk⟩ := List.getElem?_of_mem hb
        have hkf : k < f := by
          have q := (List.getElem?_eq_some_iff.mp hk).1
          rw [List.length_take] at q
          omega
        rw [List.getElem?_take_of_lt hkf] at hk
        exact i2 k b hkf hk
      have q1 : SrtO.Stb ltS ([l[f]] ++ selS n (l.eraseIdx f)) ([l[f]] ++ (l.take f ++ l.drop (f + 1))) := by
        rw [← ee]
        exact (SrtO.Stb.refl _).app j2
      have q2 : SrtO.Stb ltS ([l[f]] ++ l.take f ++ l.drop (f + 1)) (l.take f ++ [l[f]] ++ l.drop (f + 1)) := sw.app (SrtO.Stb.refl _)
      rw [List.append_assoc] at q2
      have q3 := q1.trans q2
      rw [← el] at q3
      exact q3
theorem stb_flip {α : Type} {lt : α → α → Bool} {l m n : List α} (a : SrtO.Stb lt l n) (b : SrtO.Stb lt m n) : SrtO.Stb lt l m := ⟨a.perm.trans b.perm.symm, fun x => (a.cls x).trans (b.cls x).symm⟩
theorem sorted_sel {l m : List Stc} (h1 : SrtO.Srtd ltS m) (h2 : SrtO.Stb ltS m l) : m = selS l.length l :=
  SrtO.stb_uniq ltS_swo h1 (selS_is _ l rfl).1 (stb_flip h2 (selS_is _ l rfl).2)
theorem selS_sorted {l : List Stc} (h : SrtO.Srtd ltS l) : selS l.length l = l := (sorted_sel h (SrtO.Stb.refl _)).symm
def joinS (l : List Stc) : List Stc := (selS l.length l).foldl joinStep []

/-! ### the numbers of stretches -/
def isIn (s : Stc) (x : Int) : Bool := (match s.lo with | none => true | some a => decide (a ≤ x)) && (match s.hi with | none => true | some b => decide (x ≤ b))
theorem isIn_iff {s : Stc} {x : Int} : isIn s x = true ↔ (∀ a, s.lo = some a → a ≤ x) ∧ ∀ b, s.hi = some b → x ≤ b := by
  obtain ⟨a, b⟩ := s
  unfold isIn
  cases a <;> cases b <;> simp
def inS (l : List Stc) (x : Int) : Bool := l.any fun s => isIn s x
theorem inS_iff {l : List Stc} {x : Int} : inS l x = true ↔ ∃ s ∈ l, isIn s x = true := by
  unfold inS
  rw [List.any_eq_true]
/-- no later than -/
def leO (a b : Option Int) : Prop := ∀ y, a = some y → ∃ z, b = some z ∧ y ≤ z
theorem leO_of {s t : Stc} (h : ltS t s = false) : leO s.lo t.lo := by
  intro y hy
  have q := SrtO.lexB_no.mp h
  unfold keyS at q
  rw [hy] at q
  cases ht : t.lo with
  | none =>
    rw [ht] at q
    simp at q
  | some z =>
    rw [ht] at q
    simp at q
    exact ⟨z, rfl, by omega⟩
theorem of_leO {s t : Stc} (h : leO s.lo t.lo) : ltS t s = false := by
  refine SrtO.lexB_no.mpr ?_
  unfold keyS
  cases hs : s.lo with
  | none => cases ht : t.lo <;> simp
  | some y =>
    obtain ⟨z, hz, le⟩ := h y hs
    rw [hz]
    simp
    omega
theorem leO_trans {a b c : Option Int} (h1 : leO a b) (h2 : leO b c) : leO a c := fun y hy => by
  obtain ⟨z, hz, l1⟩ := h1 y hy
  obtain ⟨u, hu, l2⟩ := h2 z hz
  exact ⟨u, hu, by omega⟩
theorem leO_refl (a : Option Int) : leO a a := fun y hy => ⟨y, hy, Int.le_refl _⟩
/-- what is joined so far: ascending, each beyond the one before; the last begins before what comes -/
structure Jd (J : List Stc) : Prop where
  srt : SrtO.Srtd ltS J
  gap : ∀ (i : Nat) s t, J[i]? = some s → J[i + 1]? = some t → beyB t.lo s.hi = true
theorem snoc_or {α : Type} (J : List α) : J = [] ∨ ∃ I t, J = I ++ [t] := by
  cases J with
  | nil => exact .inl rfl
  | cons x l => exact .inr (SrtO.snoc_of (by simp))
theorem joinStep_nil (s : Stc) : joinStep [] s = [s] := rfl
theorem joinStep_app (I : List Stc) (t s : Stc) : joinStep (I ++ [t]) s = if beyB s.lo t.hi = true then I ++ [t] ++ [s] else I ++ [⟨t.lo, gEnd t.hi s.hi⟩] := by
  have e1 : (I ++ [t]).getLast? = some t := by simp
  have e2 : (I ++ [t]).dropLast = I := by simp
  unfold joinStep
  rw [e1, e2]
theorem Jd.step {J : List Stc} {s : Stc} (h : Jd J) (hs : ∀ t ∈ J, leO t.lo s.lo) : Jd (joinStep J s) ∧ (∀ t ∈ joinStep J s, leO t.lo s.lo) ∧ ∀ x, inS (joinStep J s) x = (inS J x || isIn s x) := by
  rcases snoc_or J with e | ⟨I, t, e⟩
  · subst e
    rw [joinStep_nil]
    refine ⟨⟨List.pairwise_singleton _ _, fun i a b h1 h2 => ?_⟩, fun t ht => ?_, fun x => ?_⟩
    · have q := (List.getElem?_eq_some_iff.mp h2).1
      simp at q
    · rw [List.mem_singleton.mp ht]
      exact leO_refl _
    · simp [inS]
  · subst e
    rw [joinStep_app]
    have ht : leO t.lo s.lo := hs t (by simp)
    by_cases c : beyB s.lo t.hi = true
    · rw [if_pos c]
      refine ⟨⟨SrtO.srtd_snoc h.srt fun y hy => of_leO (hs y hy), fun i a b h1 h2 => ?_⟩, fun y hy => ?_, fun x => ?_⟩
      · by_cases hi : i + 1 < (I ++ [t]).length
        · rw [List.getElem?_append_left (by omega)] at h1
          rw [List.getElem?_append_left hi] at h2
          exact h.gap i a b h1 h2
        · have hlt := (List.getElem?_eq_some_iff.mp h2).1
          simp at hlt hi
          have ei : i = I.length := by omega
          subst ei
          have e1 : a = t := by
            rw [List.getElem?_append_left (by simp)] at h1
            simpa using h1.symm
          have e2 : b = s := by
            rw [List.getElem?_append_right (by simp)] at h2
            simpa using h2.symm
          rw [e1, e2]
          exact c
      · rcases List.mem_append.mp hy with m | m
        · exact hs y m
        · rw [List.mem_singleton.mp m]
          exact leO_refl _
      · simp [inS, Bool.or_assoc]
    · rw [if_neg c]
      have srtI : SrtO.Srtd ltS I := (SrtO.srtd_app.mp h.srt).1
      have lastI : ∀ y ∈ I, ltS t y = false := fun y hy => (SrtO.srtd_app.mp h.srt).2.2 y hy t (by simp)
      refine ⟨⟨SrtO.srtd_snoc srtI fun y hy => lastI y hy, fun i a b h1 h2 => ?_⟩, fun y hy => ?_, fun x => ?_⟩
      · by_cases hi : i + 1 < I.length
        · rw [List.getElem?_append_left (by omega)] at h1
          rw [List.getElem?_append_left hi] at h2
          exact h.gap i a b (by rw [List.getElem?_append_left (by omega)]; exact h1) (by rw [List.getElem?_append_left hi]; exact h2)
        · have hlt := (List.getElem?_eq_some_iff.mp h2).1
          simp at hlt
          have ei : i + 1 = I.length := by omega
          have h1' := h1
          rw [List.getElem?_append_left (by omega)] at h1'
          have e2 : b = ⟨t.lo, gEnd t.hi s.hi⟩ := by
            rw [List.getElem?_append_right (by omega), ei] at h2
            simpa using h2.symm
          rw [e2]
          exact h.gap i a t (by rw [List.getElem?_append_left (by omega)]; exact h1') (by rw [List.getElem?_append_right (by omega), ei]; simp)
      · rcases List.mem_append.mp hy with m | m
        · exact hs y (List.mem_append_left _ m)
        · rw [List.mem_singleton.mp m]
          exact ht
      · have core : isIn ⟨t.lo, gEnd t.hi s.hi⟩ x = (isIn t x || isIn s x) := by
          rw [Bool.eq_iff_iff, Bool.or_eq_true, isIn_iff, isIn_iff, isIn_iff]
          obtain ⟨tl, th⟩ := t
          obtain ⟨sl, sh⟩ := s
          simp only at ht c ⊢
          constructor
          · rintro ⟨h1, h2⟩
            cases th with
            | none => exact .inl ⟨h1, fun b hb => by cases hb⟩
            | some b =>
              by_cases xb : x ≤ b
              · exact .inl ⟨h1, fun b' hb => by cases hb; exact xb⟩
              · refine .inr ⟨fun a ha => ?_, fun b' hb => ?_⟩
                · subst ha
                  simp [beyB] at c
                  omega
                · subst hb
                  have := h2 (if b' > b then b' else b) rfl
                  split at this <;> omega
          · rintro (⟨h1, h2⟩ | ⟨h1, h2⟩)
            · refine ⟨h1, fun b hb => ?_⟩
              cases th with
              | none => simp [gEnd] at hb
              | some b1 =>
                cases sh with
                | none => simp [gEnd] at hb
                | some b2 =>
                  have q := h2 b1 rfl
                  simp only [gEnd, Option.some.injEq] at hb
                  split at hb <;> omega
            · refine ⟨fun a ha => ?_, fun b hb => ?_⟩
              · obtain ⟨z, hz, le⟩ := ht a ha
                have := h1 z hz
                omega
              · cases th with
                | none => simp [gEnd] at hb
                | some b1 =>
                  cases sh with
                  | none => simp [gEnd] at hb
                  | some b2 =>
                    have q := h2 b2 rfl
                    simp only [gEnd, Option.some.injEq] at hb
                    split at hb <;> omega
        unfold inS
        rw [List.any_append, List.any_append]
        simp only [List.any_cons, List.any_nil, Bool.or_false]
        rw [core, Bool.or_assoc]
theorem Jd.fold : ∀ {l : List Stc} {J : List Stc}, SrtO.Srtd ltS l → Jd J → (∀ t ∈ J, ∀ s ∈ l, leO t.lo s.lo) → Jd (l.foldl joinStep J) ∧ ∀ x, inS (l.foldl joinStep J) x = (inS J x || inS l x)
  | [], J, _, h, _ => ⟨h, fun x => by simp [inS]⟩
  | s :: l, J, hl, h, ho => by
    obtain ⟨a1, a2, a3⟩ := h.step fun t ht => ho t ht s (by simp)
    have hsl := List.pairwise_cons.mp hl
    obtain ⟨b1, b2⟩ := Jd.fold hsl.2 a1 fun t ht u hu => leO_trans (a2 t ht) (leO_of (hsl.1 u hu))
    refine ⟨b1, fun x => ?_⟩
    show inS (l.foldl joinStep (joinStep J s)) x = _
    rw [b2, a3]
    show _ = (inS J x || inS (s :: l) x)
    simp only [inS, List.any_cons, Bool.or_assoc]
theorem Jd.nil : Jd [] := ⟨List.Pairwise.nil, fun i s t h => by simp at h⟩
theorem joinS_jd (l : List Stc) : Jd (joinS l) := (Jd.fold (selS_is _ l rfl).1 Jd.nil fun t ht => by simp at ht).1
theorem any_perm {l m : List Stc} (h : l.Perm m) (x : Int) : inS l x = inS m x := by
  rw [Bool.eq_iff_iff, inS_iff, inS_iff]
  exact ⟨fun ⟨s, a, b⟩ => ⟨s, h.mem_iff.mp a, b⟩, fun ⟨s, a, b⟩ => ⟨s, h.mem_iff.mpr a, b⟩⟩
theorem joinS_in (l : List Stc) (x : Int) : inS (joinS l) x = inS l x := by
  have q := (Jd.fold (selS_is _ l rfl).1 Jd.nil fun t ht => by simp at ht).2 x
  unfold joinS
  rw [q]
  show (false || _) = _
  rw [Bool.false_or]
  exact any_perm (selS_is _ l rfl).2.perm x
theorem fold_jd : ∀ {l : List Stc} {J : List Stc}, Jd (J ++ l) → l.foldl joinStep J = J ++ l
  | [], J, _ => by simp
  | s :: l, J, h => by
    have e : joinStep J s = J ++ [s] := by
      rcases snoc_or J with e | ⟨I, t, e⟩
      · subst e
        exact joinStep_nil s
      · subst e
        rw [joinStep_app, if_pos (h.gap I.length t s (by simp) (by simp))]
    show l.foldl joinStep (joinStep J s) = _
    rw [e, fold_jd (J := J ++ [s]) (by rw [List.append_assoc]; exact h), List.append_assoc]
    rfl
theorem joinS_twice (l : List Stc) : joinS (joinS l) = joinS l := by
  have j := joinS_jd l
  generalize joinS l = J at *
  unfold joinS
  rw [selS_sorted j.srt]
  exact fold_jd (J := []) j
theorem joinStep_len (J : List Stc) (s : Stc) : (joinStep J s).length ≤ J.length + 1 := by
  rcases snoc_or J with e | ⟨I, t, e⟩
  · subst e
    rw [joinStep_nil]
    simp
  · subst e
    rw [joinStep_app]
    split <;> simp
theorem joinFold_len : ∀ (l J : List Stc), (l.foldl joinStep J).length ≤ J.length + l.length
  | [], J => by simp
  | s :: l, J => by
    have := joinFold_len l (joinStep J s)
    have := joinStep_len J s
    show (l.foldl joinStep (joinStep J s)).length ≤ _
    rw [List.length_cons]
    omega
theorem selS_len (l : List Stc) : (selS l.length l).length = l.length := (selS_is _ l rfl).2.len
theorem joinS_len (l : List Stc) : (joinS l).length ≤ l.length := by
  have := joinFold_len (selS l.length l) []
  rw [selS_len] at this
  simpa [joinS] using this
end Vs
namespace Vs
open PySem PySem.Spec PyProof.Rows L2
theorem hvN {o : Option Int} : decide (hiV o = V.non) = o.isNone := by
  cases o with
  | none => exact decide_eq_true rfl
  | some b => exact decide_eq_false (by intro z; cases z)
theorem hvNn {o : Option Int} : (!decide (hiV o = V.non)) = o.isSome := by
  rw [hvN]
  cases o <;> rfl
theorem refAt {bs : List Addr} {i : Nat} {v : V} (h : (bs.map V.ref)[i]? = some v) : ∃ b, bs[i]? = some b ∧ v = .ref b := by
  rw [List.getElem?_map] at h
  cases e : bs[i]? with
  | none => rw [e] at h; cases h
  | some b => rw [e] at h; exact ⟨b, rfl, (Option.some.inj h).symm⟩
theorem isIn_no {a x : Int} {h : Option Int} (c : ¬ a ≤ x) : isIn ⟨some a, h⟩ x = false := by
  show (decide (a ≤ x) && _) = false
  rw [decide_eq_false c]
  rfl
theorem isIn_yes {a x : Int} {h : Option Int} (c : a ≤ x) : isIn ⟨some a, h⟩ x = isIn ⟨none, h⟩ x := by
  show (decide (a ≤ x) && _) = _
  rw [decide_eq_true c]
  rfl
theorem any_bools {f : Stc → Bool} : ∀ ss : List Stc, ((ss.map f).any fun b => b) = ss.any f
  | [] => rfl
  | s :: ss => by
    rw [List.map_cons, List.any_cons, List.any_cons, any_bools ss]
end Vs
namespace Vs
open PySem PySem.Spec PyProof.Rows L2
/-- the stretch that a value is -/
def endV : V → Option Int
  | .int i => some i
  | _ => none
def stcOf (H : Hp) : V → Stc
  | .ref a => match H a with
    | some (.tup [x, y]) => ⟨endV x, endV y⟩
    | _ => ⟨none, none⟩
  | _ => ⟨none, none⟩
theorem endV_hiV (o : Option Int) : endV (hiV o) = o := by cases o <;> rfl
theorem stcOf_is {H : Hp} {b : Addr} {s : Stc} (h : H b = some (stcO s)) : stcOf H (.ref b) = s := by
  have e : stcOf H (.ref b) = ⟨endV (hiV s.lo), endV (hiV s.hi)⟩ := by
    show (match H b with
      | some (.tup [x, y]) => (⟨endV x, endV y⟩ : Stc)
      | _ => ⟨none, none⟩) = _
    rw [h]
  rw [e]
  rw [endV_hiV, endV_hiV]
theorem stcOf_all {H : Hp} {bs : List Addr} {ss : List Stc} (h : Each (fun b s => H b = some (stcO s)) bs ss) : (bs.map V.ref).map (stcOf H) = ss := by
  refine List.ext_getElem (by rw [List.length_map, List.length_map]; exact h.1) fun i h1 h2 => ?_
  rw [List.getElem_map, List.getElem_map]
  refine stcOf_is (h.2 i _ _ (List.getElem?_eq_getElem ?_) (List.getElem?_eq_getElem h2))
  rw [List.length_map, List.length_map] at h1
  exact h1
/-- one more, or the last one changed -/
theorem StcL.snoc {H : Hp} {l b : Addr} {bs : List Addr} {ss : List Stc} {s : Stc} (h : StcL H l bs ss) (hb : H b = some (stcO s)) : StcL (upd H l (.lst (bs.map V.ref ++ [V.ref b]))) l (bs ++ [b]) (ss ++ [s]) := by
  have ne : ∀ c t, H c = some (stcO t) → c ≠ l := fun c t e z => by rw [z, h.l] at e; cases e
  refine ⟨by rw [upd_same, List.map_append]; rfl, by rw [List.length_append, List.length_append, h.e.1]; rfl, fun i c t h1 h2 => ?_⟩
  by_cases hi : i < bs.length
  · rw [List.getElem?_append_left hi] at h1
    rw [List.getElem?_append_left (by rw [← h.e.1]; exact hi)] at h2
    have q := h.e.2 i c t h1 h2
    show upd H l _ c = _
    rw [upd_ne (ne _ _ q)]
    exact q
  · have hlt := (List.getElem?_eq_some_iff.mp h1).1
    rw [List.length_append, List.length_singleton] at hlt
    have ei : i = bs.length := by omega
    subst ei
    rw [List.getElem?_append_right (Nat.le_refl _)] at h1
    rw [List.getElem?_append_right (by rw [← h.e.1]; exact Nat.le_refl _), h.e.1] at h2
    simp at h1 h2
    subst h1
    subst h2
    show upd H l _ b = _
    rw [upd_ne (ne _ _ hb)]
    exact hb
theorem StcL.last {H : Hp} {l b : Addr} {bs : List Addr} {ss : List Stc} {s t : Stc} (h : StcL H l bs (ss ++ [t])) (hb : H b = some (stcO s)) : StcL (upd H l (.lst ((bs.map V.ref).set ss.length (V.ref b)))) l (bs.set ss.length b) (ss ++ [s]) := by
  have ne : ∀ c t, H c = some (stcO t) → c ≠ l := fun c t e z => by rw [z, h.l] at e; cases e
  have hlen : bs.length = ss.length + 1 := by rw [h.e.1]; simp
  refine ⟨by rw [upd_same, List.map_set], by rw [List.length_set, hlen]; simp, fun i c u h1 h2 => ?_⟩
  by_cases hi : i = ss.length
  · subst hi
    rw [List.getElem?_set_self (by omega)] at h1
    rw [List.getElem?_append_right (Nat.le_refl _)] at h2
    simp at h1 h2
    subst h1
    subst h2
    show upd H l _ b = _
    rw [upd_ne (ne _ _ hb)]
    exact hb
  · rw [List.getElem?_set_ne (Ne.symm hi)] at h1
    have hlt := (List.getElem?_eq_some_iff.mp h2).1
    simp at hlt
    rw [List.getElem?_append_left (by omega)] at h2
    have q := h.e.2 i c u h1 (by rw [List.getElem?_append_left (by omega)]; exact h2)
    show upd H l _ c = _
    rw [upd_ne (ne _ _ q)]
    exact q
end Vs
namespace Vs
open PySem PySem.Spec PyProof.Rows L2
theorem ixLast {n m : Nat} (h : n = m + 1) : ixN n (-1) = some m := by
  subst h
  unfold ixN
  rw [if_neg (by omega), if_pos (by omega)]
  congr 1
  omega
theorem StcL.lastAt {H : Hp} {l : Addr} {bs : List Addr} {I : List Stc} {t : Stc} (h : StcL H l bs (I ++ [t])) : ∃ c, atI (bs.map V.ref) (-1) = some (.ref c) ∧ H c = some (stcO t) ∧ bs.length = I.length + 1 := by
  have hlen : bs.length = I.length + 1 := by rw [h.e.1]; simp
  have hi : I.length < bs.length := by omega
  refine ⟨bs[I.length], ?_, h.e.2 I.length _ _ (List.getElem?_eq_getElem hi) (by simp), hlen⟩
  unfold atI
  rw [ixLast (m := I.length) (by rw [List.length_map]; exact hlen)]
  show (bs.map V.ref)[I.length]? = _
  rw [List.getElem?_map, List.getElem?_eq_getElem hi]
  rfl
theorem StcL.ne {H : Hp} {l b : Addr} {bs : List Addr} {ss : List Stc} {xs : List V} (h : StcL H l bs ss) (e : H b = some (.tup xs)) : b ≠ l := fun z => by rw [z, h.l] at e; cases e
end Vs
namespace Vs
open PySem PySem.Spec PyProof.Rows L2
theorem StcL.but {H H' : Hp} {l o : Addr} {bs : List Addr} {ss : List Stc} {xs : List V} (h : StcL H l bs ss) (e : But o H H') (ho : H o = some (.lst xs)) (n : l ≠ o) : StcL H' l bs ss :=
  ⟨e _ _ n h.l, h.e.1, fun i b s h1 h2 => e _ _ (fun z => by have q := h.e.2 i b s h1 h2; rw [z, ho] at q; cases q) (h.e.2 i b s h1 h2)⟩
theorem StcL.pop {H H' : Hp} {l : Addr} {bs : List Addr} {ss : List Stc} {j : Nat} (h : StcL H l bs ss) (e : But l H H') (e2 : H' l = some (.lst ((bs.map V.ref).eraseIdx j))) : StcL H' l (bs.eraseIdx j) (ss.eraseIdx j) := by
  refine ⟨by rw [e2, List.eraseIdx_eq_take_drop_succ, List.eraseIdx_eq_take_drop_succ, List.map_append, List.map_take, List.map_drop], by rw [List.length_eraseIdx, List.length_eraseIdx, h.e.1], fun i b s h1 h2 => ?_⟩
  rw [List.getElem?_eraseIdx] at h1 h2
  have go : ∀ m, bs[m]? = some b → ss[m]? = some s → H' b = some (stcO s) := fun m q1 q2 => by
    have q := h.e.2 m b s q1 q2
    exact e _ _ (h.ne q) q
  split at h1
  · rename_i c
    rw [if_pos c] at h2
    exact go _ h1 h2
  · rename_i c
    rw [if_neg c] at h2
    exact go _ h1 h2
theorem seqIx {j n : Nat} (h : j < n) : seqIndex? (j : Int) n = some j := by
  unfold seqIndex?
  have h1 : ¬ ((j : Int) < 0) := by omega
  have h2 : decide ((0 : Int) ≤ (j : Int)) = true := decide_eq_true (by omega)
  have h3 : decide ((j : Int) < (n : Int)) = true := decide_eq_true (by omega)
  simp only [h1, if_false, h2, h3, Bool.and_self, if_true]
  rfl
theorem selS_cons {L : List Stc} {s : Stc} {m : Nat} (hl : L.length = m + 1) (hs : L[firstB L L.length]? = some s) : selS L.length L = s :: selS m (L.eraseIdx (firstB L L.length)) := by
  have e : selS (m + 1) L = match L[firstB L L.length]? with
    | none => []
    | some s => s :: selS m (L.eraseIdx (firstB L L.length)) := rfl
  rw [hs] at e
  exact (congrArg (fun z => selS z L) hl).trans e
theorem firstB_step {l : List Stc} {n : Nat} {s t : Stc} (hs : l[firstB l n]? = some s) (ht : l[n]? = some t) : firstB l (n + 1) = if befB s t = true then firstB l n else n := by
  rw [firstB, hs, ht]
theorem eq0_no {n : Nat} (h : n ≠ 0) : ¬ decide (V.int (n : Int) = V.int 0) = true := by
  intro c
  have q := of_decide_eq_true c
  injection q with q
  omega
theorem iteNo {c : Bool} {P Q : Prop} (h : c = false) (q : Q) : if c = true then P else Q := by subst h; exact q
theorem iteYs {c : Bool} {P Q : Prop} (h : c = true) (q : P) : if c = true then P else Q := by subst h; exact q
end Vs

set_option maxHeartbeats 1000000
namespace Cb
open PySem PySem.Spec PyProof.Rows
/-! ### facts of the type itertools.combinations -/
theorem own_ : Manifest.owners.lookup (String.ofList ['s', 'n', 'o', 'i', 't', 'a', 'n', 'i', 'b', 'm', 'o', 'c', '.', 's', 'l', 'o', 'o', 't', 'r', 'e', 't', 'i'].reverse) = some Manifest.sig_itertools_combinations := by kernel_rfl
theorem sl_next : Slot "itertools.combinations" "__next__" "itertools.combinations.__next__" :=
  .of (owner := "itertools.combinations") (n := "__next__") (by rw [typeLookup_type, builtinLookup_eq_fast]; kernel_rfl) (by decide +kernel) (by decide +kernel) (by decide +kernel)
    (by first | exact .inl (by decide +kernel) | exact .inr (by decide +kernel)) (by rw [isSubtype_type]; kernel_rfl)
theorem en_next : entryFor table "itertools.combinations.__next__" = some Builtin.«itertools.combinations.__next__» := entryFor_of_tree (by kernel_rfl)
theorem ar_next (a : Value) : argsOk "itertools.combinations.__next__" ⟨[a], []⟩ := by
  unfold argsOk
  rw [signature?_of (id := "itertools.combinations.__next__") (n := ['_', '_', 't', 'x', 'e', 'n', '_', '_']) (o := ['s', 'n', 'o', 'i', 't', 'a', 'n', 'i', 'b', 'm', 'o', 'c', '.', 's', 'l', 'o', 'o', 't', 'r', 'e', 't', 'i']) (by kernel_rfl) own_]
  kernel_rfl
theorem sl_iter : Slot "itertools.combinations" "__iter__" "itertools.combinations.__iter__" :=
  .of (owner := "itertools.combinations") (n := "__iter__") (by rw [typeLookup_type, builtinLookup_eq_fast]; kernel_rfl) (by decide +kernel) (by decide +kernel) (by decide +kernel)
    (by first | exact .inl (by decide +kernel) | exact .inr (by decide +kernel)) (by rw [isSubtype_type]; kernel_rfl)
theorem ar_iter (a : Value) : argsOk "itertools.combinations.__iter__" ⟨[a], []⟩ := by
  unfold argsOk
  rw [signature?_of (id := "itertools.combinations.__iter__") (n := ['_', '_', 'r', 'e', 't', 'i', '_', '_']) (o := ['s', 'n', 'o', 'i', 't', 'a', 'n', 'i', 'b', 'm', 'o', 'c', '.', 's', 'l', 'o', 'o', 't', 'r', 'e', 't', 'i']) (by kernel_rfl) own_]
  kernel_rfl
theorem en_iter : entryFor table "itertools.combinations.__iter__" = some Builtin.«dict_keyiterator.__iter__» :=
  entryFor_alias (id' := "dict_keyiterator.__iter__") (by kernel_rfl) (by first | rfl | decide +kernel | (unfold String.splitOn; simp +decide [String.splitOnAux])) (by decide +kernel) (by kernel_rfl)
theorem sl_init : Slot "itertools.combinations" "__init__" "object.__init__" :=
  .of (owner := "object") (n := "__init__") (by rw [typeLookup_type, builtinLookup_eq_fast]; kernel_rfl) (by decide +kernel) (by decide +kernel) (by decide +kernel)
    (by first | exact .inl (by decide +kernel) | exact .inr (by decide +kernel)) (by rw [isSubtype_type]; kernel_rfl)
theorem mro_ : mroOf (.type "itertools.combinations") = pure [.type "itertools.combinations", .type "object"] := by rw [mroOf_type]; kernel_rfl
theorem new_ : typeLookup (.type "itertools.combinations") "__new__" = pure (some (.builtin "itertools.combinations.__new__")) := by rw [typeLookup_type, builtinLookup_eq_fast]; kernel_rfl
theorem sub_ : isSubtype (.type "itertools.combinations") (.type "itertools.combinations") = pure true := by rw [isSubtype_type]; kernel_rfl
theorem called_ : TypeCalled "itertools.combinations" "itertools.combinations.__new__" "object.__init__" :=
  ⟨by decide +kernel, by decide +kernel, ⟨_, _, mro_⟩, madeBy_type mro_ new_ (by decide +kernel), by decide +kernel, sub_, sl_init⟩
theorem tc_ (a b : Value) : checkTypeCall "itertools.combinations" ⟨[a, b], []⟩ = pure () := by kernel_rfl
theorem nc_ (a b : Value) : checkBuiltinCall "itertools.combinations.__new__" ⟨[.type "itertools.combinations", a, b], []⟩ = pure () := by kernel_rfl
theorem en_new : entryFor table "itertools.combinations.__new__" = some Builtin.«itertools.combinations.__new__» := entryFor_of_tree (by kernel_rfl)
theorem nolen_ : typeLookup (.type "itertools.combinations") "__len__" = pure none := by rw [typeLookup_type, builtinLookup_eq_fast]; kernel_rfl
theorem nohint_ : typeLookup (.type "itertools.combinations") "__length_hint__" = pure none := by rw [typeLookup_type, builtinLookup_eq_fast]; kernel_rfl
theorem cls_ (x y : Value) : Builtin.Itertools.itClassAndRest "combinations" ⟨[.type "itertools.combinations", x, y], []⟩ = pure (.type "itertools.combinations", [x, y]) := by
  have e : ("itertools." ++ "combinations" : String) = "itertools.combinations" := by decide
  unfold Builtin.Itertools.itClassAndRest
  simp only [e, isType, sub_, pure_bind, Bool.not_true, Bool.false_eq_true, if_false]
theorem bind_ (x y : Value) : Builtin.Itertools.itBindNamed "combinations" ["iterable", "r"] 2 2 [x, y] [] = pure [some x, some y] := by
  first | rfl | kernel_rfl
theorem hasno_ : typeHasDict (.type "itertools.combinations") = false := by first | decide +kernel | kernel_rfl
end Cb

namespace Cb
open PySem PySem.Spec PyProof.Rows L2 Vs
/-- which choice comes next: the last place that can go on goes on, those behind it follow it -/
def cGo (n : Nat) (l : List Nat) : Option (List Nat) := ((List.range l.length).reverse.find? fun i => l.getD i 0 != i + n - l.length).map fun i => l.take i ++ (List.range (l.length - i)).map fun j => l.getD i 0 + 1 + j
/-- the object: its pool, what is under way, the last one handed out, the places -/
abbrev cObj (T : Addr) (st : Int) (lv : Value) (idx : List Nat) : Obj := { cls := .type "itertools.combinations", dict := none, data := .fields ([Value.ref T, .int st 0, lv] ++ idx.map fun (i : Nat) => Value.int (i : Int) 0).toArray, slots := #[] }
section
variable {prog : Program} {w : World} {A : Around} {E : Value → Shared → Prop} {s : Shared}
theorem numbers_at {m T : Addr} {st : Int} {lv : Value} {idx : List Nat} {Q : List Nat → Shared → Prop} (hm : s.heap.get? m = some (cObj T st lv idx)) (h : Q idx s) : wpAny (model prog w) A (Builtin.Itertools.itNumbersFrom (.ref m) 3) Q E s := by
  unfold Builtin.Itertools.itNumbersFrom
  refine wpAny_bind (wpAny_load hm ?_)
  have key : ∀ r, r = idx → Q r s := fun r e => e ▸ h
  refine wpAny_pure (key _ ?_)
  rw [List.toList_toArray]
  show (List.map _ (idx.map fun (i : Nat) => Value.int (i : Int) 0)) = idx
  rw [List.map_map]
  conv => rhs; rw [← List.map_id idx]
  refine List.map_congr_left fun i _ => ?_
  show ((i : Int)).toNat = i
  omega
theorem intf_at {m T : Addr} {st : Int} {lv : Value} {idx : List Nat} {Q : Int → Shared → Prop} (hm : s.heap.get? m = some (cObj T st lv idx)) (h : Q st s) : wpAny (model prog w) A (Builtin.Itertools.itIntField (.ref m) 1) Q E s := by
  unfold Builtin.Itertools.itIntField
  refine wpAny_bind (wpAny_field hm rfl (x := .int st 0) rfl ?_)
  exact wpAny_pure h
/-- what is handed out: a new tuple of the pool's items at the places -/
abbrev cTup (its : List Value) (idx : List Nat) : Obj := { cls := .type "tuple", data := .seq (idx.map fun i => its.toArray.getD i .none).toArray }
theorem hand_at {m T : Addr} {lv : Value} {idx : List Nat} {its : List Value} {k : Nat} {Q : Value → Shared → Prop} (hm : s.heap.get? m = some (cObj T 1 lv idx)) {oT : Obj} (hT : s.heap.get? T = some oT) (hcl : oT.cls = .type "tuple") (hd : oT.data = .seq its.toArray k) (hz : idx.length ≤ sizeLine)
    (h : ∀ h', h'.get? m = some (cObj T 1 (.ref s.heap.objs.size) idx) → h'.get? s.heap.objs.size = some (cTup its idx) → (∀ b o, b ≠ m → s.heap.get? b = some o → h'.get? b = some o) → Q (.ref s.heap.objs.size) { s with heap := h' }) :
    wpAny (model prog w) A (do
      let result ← (do let items ← Builtin.Itertools.itPoolItems (.ref T); newTuple (idx.map fun i => items.getD i .none))
      let before ← field (.ref m) 2
      setField (.ref m) 2 result
      letGo [before] [result]
      ret result) (fun fin s' => ∃ v, fin = .done (.ret v) ∧ Q v s') E s := by
  refine wpAny_bind (wpAny_bind ?_)
  unfold Builtin.Itertools.itPoolItems
  refine wpAny_bind (wpAny_seqItems hT hd ?_)
  refine wpAny_pure ?_
  refine wpAny_newTuple ?_ (by show (idx.map _).length ≤ _; rw [List.length_map]; exact hz)
  have hne : m ≠ s.heap.objs.size := Nat.ne_of_lt (Heap.lt_size hm)
  have hm1 : (s.heap.push (cTup its idx)).get? m = some (cObj T 1 lv idx) := Heap.get?_push_of_some _ hm
  have hp1 : (s.heap.push (cTup its idx)).get? s.heap.objs.size = some (cTup its idx) := Heap.get?_push_size _ rfl
  refine wpAny_bind (wpAny_field hm1 rfl (x := lv) rfl ?_)
  refine wpAny_bind (wpAny_setField_rec hm1 (by simp) fun h' g1 g2 => ?_)
  refine wpAny_bind (wpAny_letGo ?_)
  refine wpAny_pure ⟨_, rfl, h h' ?_ ?_ fun b o hb e => (g2.2 b hb).trans (Heap.get?_push_of_some _ e)⟩
  · rw [g1]
    simp
  · exact (g2.2 _ (Ne.symm hne)).trans hp1
theorem next_fresh {m T : Addr} {lv : Value} {idx : List Nat} {its : List Value} {k : Nat} {Q : Value → Shared → Prop} (hm : s.heap.get? m = some (cObj T 0 lv idx)) {oT : Obj} (hT : s.heap.get? T = some oT) (hcl : oT.cls = .type "tuple") (hd : oT.data = .seq its.toArray k) (hz : idx.length ≤ sizeLine)
    (h : ∀ p h', h'.get? m = some (cObj T 1 (.ref p) idx) → s.heap.objs.size ≤ p → h'.get? p = some (cTup its idx) → (∀ b o, b ≠ m → s.heap.get? b = some o → h'.get? b = some o) → Q (.ref p) { s with heap := h' }) :
    wpAny (model prog w) A (Builtin.«itertools.combinations.__next__» ⟨[.ref m], []⟩) (fun fin s' => ∃ v, fin = .done (.ret v) ∧ Q v s') E s := by
  refine wpAny_bind (m := slotArgs "__next__" 0 _) (wpAny_pure ?_)
  show wpAny _ _ (field (.ref m) 0 >>= _) _ _ _
  refine wpAny_bind (wpAny_field hm rfl (x := .ref T) rfl ?_)
  refine wpAny_bind (numbers_at hm ?_)
  refine wpAny_bind (intf_at hm ?_)
  show wpAny _ _ (setField (.ref m) 1 (rawInt 1) >>= _) _ _ _
  have hTm : T ≠ m := fun e => by
    rw [e, hm] at hT
    exact absurd (Value.type.inj ((congrArg Obj.cls (Option.some.inj hT)).trans hcl)) (by decide)
  refine wpAny_bind (wpAny_setField_rec hm (by simp) fun h1 g1 g2 => ?_)
  have g1' : h1.get? m = some (cObj T 1 lv idx) := by rw [g1]; simp [rawInt]
  refine hand_at (s := { s with heap := h1 }) g1' ((g2.2 T hTm).trans hT) hcl hd hz fun h' a b c => ?_
  have sz : h1.objs.size = s.heap.objs.size := g2.1
  refine h h1.objs.size h' a (Nat.le_of_eq sz.symm) b fun y o hy e => c y o hy ((g2.2 y hy).trans e)
theorem next_go {m T : Addr} {lv : Value} {idx nx : List Nat} {its : List Value} {k : Nat} {Q : Value → Shared → Prop} (hm : s.heap.get? m = some (cObj T 1 lv idx)) {oT : Obj} (hT : s.heap.get? T = some oT) (hcl : oT.cls = .type "tuple") (hd : oT.data = .seq its.toArray k) (hz : nx.length ≤ sizeLine) (hg : cGo its.length idx = some nx)
    (h : ∀ p h', h'.get? m = some (cObj T 1 (.ref p) nx) → s.heap.objs.size ≤ p → h'.get? p = some (cTup its nx) → (∀ b o, b ≠ m → s.heap.get? b = some o → h'.get? b = some o) → Q (.ref p) { s with heap := h' }) :
    wpAny (model prog w) A (Builtin.«itertools.combinations.__next__» ⟨[.ref m], []⟩) (fun fin s' => ∃ v, fin = .done (.ret v) ∧ Q v s') E s := by
  refine wpAny_bind (m := slotArgs "__next__" 0 _) (wpAny_pure ?_)
  show wpAny _ _ (field (.ref m) 0 >>= _) _ _ _
  refine wpAny_bind (wpAny_field hm rfl (x := .ref T) rfl ?_)
  refine wpAny_bind (numbers_at hm ?_)
  refine wpAny_bind (intf_at hm ?_)
  have hTm : T ≠ m := fun e => by
    rw [e, hm] at hT
    exact absurd (Value.type.inj ((congrArg Obj.cls (Option.some.inj hT)).trans hcl)) (by decide)
  show wpAny _ _ (Builtin.Itertools.itPoolItems (.ref T) >>= _) _ _ _
  refine wpAny_bind ?_
  unfold Builtin.Itertools.itPoolItems
  refine wpAny_bind (wpAny_seqItems hT hd ?_)
  refine wpAny_pure ?_
  have same : ∀ o : Option (List Nat), (match (List.range idx.length).reverse.find? (fun i => idx.getD i 0 != i + its.toArray.size - idx.length) with | none => none | some i => some (idx.take i ++ (List.range (idx.length - i)).map (idx.getD i 0 + 1 + ·))) = o → o = some nx := fun o e => by
    rw [← e, ← hg]
    unfold cGo
    have sz : its.toArray.size = its.length := by simp
    rw [sz]
    generalize (List.range idx.length).reverse.find? _ = o
    cases o <;> rfl
  split
  · rename_i nx' heq
    have e : nx' = nx := Option.some.inj (same _ heq)
    subst e
    show wpAny _ _ (Builtin.Itertools.itSetNumbersFrom (.ref m) 3 nx' >>= _) _ _ _
    refine wpAny_bind ?_
    unfold Builtin.Itertools.itSetNumbersFrom
    have up : (cObj T 1 lv idx).mapFields (fun fs => fs.extract 0 3 ++ (nx'.map fun (n : Nat) => rawInt n).toArray) = cObj T 1 lv nx' := by
      simp [Obj.mapFields, rawInt]
    have g1 : (s.heap.update m (Obj.mapFields fun fs => fs.extract 0 3 ++ (nx'.map fun (n : Nat) => rawInt n).toArray)).get? m = some (cObj T 1 lv nx') := by
      rw [Heap.get?_update_self _ hm (by rw [up]; rfl)]
      rw [up]
    have oth : ∀ b o, b ≠ m → s.heap.get? b = some o → (s.heap.update m (Obj.mapFields fun fs => fs.extract 0 3 ++ (nx'.map fun (n : Nat) => rawInt n).toArray)).get? b = some o := fun b o hb e => (Heap.get?_update_other _ _ (Ne.symm hb)).trans e
    have usz : (s.heap.update m (Obj.mapFields fun fs => fs.extract 0 3 ++ (nx'.map fun (n : Nat) => rawInt n).toArray)).objs.size = s.heap.objs.size := Heap.size_update ..
    refine wpAny_updateFields hm rfl ?_ (by simp; omega)
    generalize s.heap.update m (Obj.mapFields fun fs => fs.extract 0 3 ++ (nx'.map fun (n : Nat) => rawInt n).toArray) = h1 at *
    refine hand_at (s := { s with heap := h1 }) g1 (oth T _ hTm hT) hcl hd hz fun h' a b c => ?_
    exact h h1.objs.size h' a (Nat.le_of_eq usz.symm) b fun y o hy e => c y o hy (oth y o hy e)
  · rename_i heq
    have e := same _ heq
    cases e
theorem next_stop {m T : Addr} {lv : Value} {idx : List Nat} {its : List Value} {k : Nat} {Q : Value → Shared → Prop} {E : Value → Shared → Prop} (hh : A.handled = none) (hm : s.heap.get? m = some (cObj T 1 lv idx)) {oT : Obj} (hT : s.heap.get? T = some oT) (hcl : oT.cls = .type "tuple") (hd : oT.data = .seq its.toArray k) (hg : cGo its.length idx = none)
    (h : ∀ e h', (∃ o, h'.get? e = some o ∧ o.cls = .type "StopIteration") → h'.get? m = some (cObj T 2 lv idx) → (∀ b o, b ≠ m → s.heap.get? b = some o → h'.get? b = some o) → E (.ref e) { s with heap := h' }) :
    wpAny (model prog w) A (Builtin.«itertools.combinations.__next__» ⟨[.ref m], []⟩) (fun fin s' => ∃ v, fin = .done (.ret v) ∧ Q v s') E s := by
  refine wpAny_bind (m := slotArgs "__next__" 0 _) (wpAny_pure ?_)
  show wpAny _ _ (field (.ref m) 0 >>= _) _ _ _
  refine wpAny_bind (wpAny_field hm rfl (x := .ref T) rfl ?_)
  refine wpAny_bind (numbers_at hm ?_)
  refine wpAny_bind (intf_at hm ?_)
  show wpAny _ _ (Builtin.Itertools.itPoolItems (.ref T) >>= _) _ _ _
  refine wpAny_bind ?_
  unfold Builtin.Itertools.itPoolItems
  refine wpAny_bind (wpAny_seqItems hT hd ?_)
  refine wpAny_pure ?_
  have same : ∀ o : Option (List Nat), (match (List.range idx.length).reverse.find? (fun i => idx.getD i 0 != i + its.toArray.size - idx.length) with | none => none | some i => some (idx.take i ++ (List.range (idx.length - i)).map (idx.getD i 0 + 1 + ·))) = o → o = none := fun o e => by
    rw [← e, ← hg]
    unfold cGo
    have sz : its.toArray.size = its.length := by simp
    rw [sz]
    generalize (List.range idx.length).reverse.find? _ = o
    cases o <;> rfl
  split
  · rename_i nx' heq
    have e := same _ heq
    cases e
  · refine wpAny_bind (wpAny_setField_rec hm (by simp) fun h1 g1 g2 => ?_)
    have g1' : h1.get? m = some (cObj T 2 lv idx) := by rw [g1]; simp [rawInt]
    have hml : m < h1.objs.size := Heap.lt_size g1'
    show wpAny _ _ (newExc (.type "StopIteration") [] >>= _) _ _ _
    refine wpAny_bind ?_
    simp only [newExc, newTuple]
    refine wpAny_bind (wpAny_newObj_type ?_ (by size_fits))
    refine wpAny_bind (m := firstArgMember _ _) (wpAny_of_eq (a := Value.none) (by first | rfl | (simp only [firstArgMember]; rfl)) ?_)
    refine wpAny_newObj_type ?_ (by size_fits)
    simp only [raiseNew]
    refine wpAny_bind (wpAny_bind (wpAny_handled ?_))
    rw [hh]
    refine wpAny_pure (wpAny_throw ?_)
    exact h _ _ ⟨_, Heap.get?_push_size _ rfl, rfl⟩ (Heap.get?_push_of_some _ (Heap.get?_push_of_some _ g1')) fun b o hb e => Heap.get?_push_of_some _ (Heap.get?_push_of_some _ ((g2.2 b hb).trans e))
theorem next_over {m T : Addr} {lv : Value} {idx : List Nat} {its : List Value} {k : Nat} {Q : Value → Shared → Prop} {E : Value → Shared → Prop} (hh : A.handled = none) (hm : s.heap.get? m = some (cObj T 2 lv idx))
    (h : ∀ e h', (∃ o, h'.get? e = some o ∧ o.cls = .type "StopIteration") → (∀ b o, s.heap.get? b = some o → h'.get? b = some o) → E (.ref e) { s with heap := h' }) :
    wpAny (model prog w) A (Builtin.«itertools.combinations.__next__» ⟨[.ref m], []⟩) (fun fin s' => ∃ v, fin = .done (.ret v) ∧ Q v s') E s := by
  refine wpAny_bind (m := slotArgs "__next__" 0 _) (wpAny_pure ?_)
  show wpAny _ _ (field (.ref m) 0 >>= _) _ _ _
  refine wpAny_bind (wpAny_field hm rfl (x := .ref T) rfl ?_)
  refine wpAny_bind (numbers_at hm ?_)
  refine wpAny_bind (intf_at hm ?_)
  show wpAny _ _ (rule "itertools.combinations.ended" >>= _) _ _ _
  refine wpAny_bind (wpAny_rule ?_)
  show wpAny _ _ (newExc (.type "StopIteration") [] >>= _) _ _ _
  refine wpAny_bind ?_
  simp only [newExc, newTuple]
  refine wpAny_bind (wpAny_newObj_type ?_ (by size_fits))
  refine wpAny_bind (m := firstArgMember _ _) (wpAny_of_eq (a := Value.none) (by first | rfl | (simp only [firstArgMember]; rfl)) ?_)
  refine wpAny_newObj_type ?_ (by size_fits)
  simp only [raiseNew]
  refine wpAny_bind (wpAny_bind (wpAny_handled ?_))
  rw [hh]
  refine wpAny_pure (wpAny_throw ?_)
  exact h _ _ ⟨_, Heap.get?_push_size _ rfl, rfl⟩ fun b o e => Heap.get?_push_of_some _ (Heap.get?_push_of_some _ e)
theorem isC {m T : Addr} {st : Int} {lv : Value} {idx : List Nat} (hm : s.heap.get? m = some (cObj T st lv idx)) : s.TypeIs (.ref m) "itertools.combinations" := ⟨_, hm, rfl⟩
theorem iterC {m T : Addr} {st : Int} {lv : Value} {idx : List Nat} {Q : Value → Shared → Prop} (hm : s.heap.get? m = some (cObj T st lv idx)) (h : Q (.ref m) s) : wpAny (model prog w) A (pyIter (.ref m)) Q E s := by
  refine wpAny_pyIter_slot (isC hm) sl_iter (wpAny_call_entry sl_iter (isC hm) en_iter ?_ (ar_iter _))
  show wpAny _ _ (ret (.ref m)) _ _ s
  exact wpAny_pure ⟨_, rfl, "itertools.combinations", _, isC hm, sl_next.lookup, h⟩
/-- what is still to come -/
def Nx1 (n : Nat) : List Nat → List (List Nat) → Prop
  | idx, [] => cGo n idx = none
  | idx, c :: r => cGo n idx = some c ∧ Nx1 n c r
def Nx (n : Nat) (st : Int) (idx : List Nat) (rest : List (List Nat)) : Prop := (st = 0 ∧ ∃ r, rest = idx :: r ∧ Nx1 n idx r) ∨ (st = 1 ∧ Nx1 n idx rest) ∨ (st = 2 ∧ rest = [])
theorem nextC {m T : Addr} {st : Int} {lv : Value} {idx c : List Nat} {rest : List (List Nat)} {its : List Value} {k : Nat} {Q : Option Value → Shared → Prop} (hm : s.heap.get? m = some (cObj T st lv idx)) {oT : Obj} (hT : s.heap.get? T = some oT) (hcl : oT.cls = .type "tuple") (hd : oT.data = .seq its.toArray k) (hz : c.length ≤ sizeLine) (hx : Nx its.length st idx (c :: rest))
    (h : ∀ p h', h'.get? m = some (cObj T 1 (.ref p) c) → s.heap.objs.size ≤ p → h'.get? p = some (cTup its c) → (∀ b o, b ≠ m → s.heap.get? b = some o → h'.get? b = some o) → Nx its.length 1 c rest → Q (some (.ref p)) { s with heap := h' }) :
    wpAny (model prog w) A (pyNext (.ref m)) Q E s := by
  unfold pyNext
  refine wpAny_bind (wpAny_attempt (wpAny_callSpecial?_slot (name := Str.ofString "__next__") (isC hm) sl_next (wpAny_call_entry sl_next (isC hm) en_next ?_ (ar_next _))))
  rcases hx with ⟨rfl, r, e, hx⟩ | ⟨rfl, hx⟩ | ⟨rfl, e⟩
  · cases e
    exact next_fresh hm hT hcl hd hz fun p h' a b d e => wpAny_pure (h p h' a b d e (.inr (.inl ⟨rfl, hx⟩)))
  · obtain ⟨g, hx⟩ := hx
    exact next_go hm hT hcl hd hz g fun p h' a b d e => wpAny_pure (h p h' a b d e (.inr (.inl ⟨rfl, hx⟩)))
  · cases e
theorem endC {m T : Addr} {st : Int} {lv : Value} {idx : List Nat} {its : List Value} {k : Nat} {Q : Option Value → Shared → Prop} (hh : A.handled = none) (hm : s.heap.get? m = some (cObj T st lv idx)) {oT : Obj} (hT : s.heap.get? T = some oT) (hcl : oT.cls = .type "tuple") (hd : oT.data = .seq its.toArray k) (hx : Nx its.length st idx [])
    (h : ∀ h', (∀ b o, b ≠ m → s.heap.get? b = some o → h'.get? b = some o) → Q none { s with heap := h' }) :
    wpAny (model prog w) A (pyNext (.ref m)) Q E s := by
  have hh1 : A.in1.handled = none := hh
  unfold pyNext
  refine wpAny_bind (wpAny_attempt (wpAny_callSpecial?_slot (name := Str.ofString "__next__") (isC hm) sl_next (wpAny_call_entry sl_next (isC hm) en_next ?_ (ar_next _))))
  rcases hx with ⟨rfl, r, e, hx⟩ | ⟨rfl, hx⟩ | ⟨rfl, e⟩
  · cases e
  · refine next_stop hh1 hm hT hcl hd hx fun e h' ⟨o, ho, hc⟩ _ kp => ?_
    refine wpAny_bind (wpAny_isInstance (T := "StopIteration") (b := true) ⟨o, ho, hc⟩ isSubtype_stop ?_)
    exact wpAny_pure (h h' kp)
  · refine next_over (its := its) (k := k) hh1 hm fun e h' ⟨o, ho, hc⟩ kp => ?_
    refine wpAny_bind (wpAny_isInstance (T := "StopIteration") (b := true) ⟨o, ho, hc⟩ isSubtype_stop ?_)
    exact wpAny_pure (h h' fun b o _ e => kp b o e)
end
/-- numbers as values -/
abbrev nV (c : List Nat) : List V := c.map fun (i : Nat) => V.int (i : Int)
theorem pick_vals {N : Nat} {its : List Value} (hv : Vals (nV (List.range N)) its) : ∀ {c : List Nat}, (∀ i ∈ c, i < N) → Vals (nV c) (c.map fun i => its.toArray.getD i .none)
  | [], _ => .nil
  | i :: c, h => by
    have hi := h i List.mem_cons_self
    have e : (nV (List.range N))[i]? = some (V.int (i : Int)) := by
      rw [List.getElem?_map, List.getElem?_range hi]
      rfl
    obtain ⟨u, hu, ru⟩ := hv.get e
    refine .cons ?_ (pick_vals hv fun j hj => h j (List.mem_cons_of_mem _ hj))
    have e2 : its.toArray.getD i .none = u := by
      have hl := (List.getElem?_eq_some_iff.mp hu).1
      have e3 := (List.getElem?_eq_some_iff.mp hu).2
      simp [hl, e3]
    show L2.RelV (V.int (i : Int)) (its.toArray.getD i .none)
    rw [e2]
    exact ru
section
variable {X : Cx} {pins : List (Addr × Obj)} {σ : L2.St} {m T S : Addr} {N : Nat} {R : Result → Shared → Prop}
theorem loopC (hh : X.A.handled = none) : ∀ (rest : List (List Nat)) {s : Shared} {H : Hp} {st : Int} {lv : Value} {idx : List Nat} {ds : List Addr} {cs : List (List Nat)}, Inv X pins σ H s → s.heap.get? m = some (cObj T st lv idx) → FpOk X pins H m → H T = some (.tup (nV (List.range N))) → H S = some (.lst (ds.map V.ref)) → Each (fun d c => H d = some (.tup (nV c))) ds cs →
    (∀ c ∈ rest, (∀ i ∈ c, i < N) ∧ c.length ≤ 1000) → ds.length + rest.length ≤ 100000 → Nx N st idx rest →
    (∀ s' H' es, Inv X pins σ H' s' → (∀ b o, b ≠ S → H b = some o → H' b = some o) → H' S = some (.lst (es.map V.ref)) → Each (fun d c => H' d = some (.tup (nV c))) es (cs ++ rest) → R (.ok (.ret .none)) s') →
    codeAny (model X.prog X.w) X.A.in1 (.builtin "list.extend.loop" ⟨[.ref S, .ref m, .none], []⟩) R s
  | [], s, H, st, lv, idx, ds, cs, I, hm, fp, hT, hS, hE, hr, hl, hx, hR => by
    obtain ⟨_, its, rv, oT, ho, hcl, k, hd⟩ := I.hok T _ hT
    have en : its.length = N := by rw [← rv.length, List.length_map, List.length_range]
    refine codeAny_builtin F.entry_extend_loop ?_
    rw [Around.under_plainId F.plain_extend_loop _]
    show wpAny _ X.A.in1.in1 (pyNext (.ref m) >>= _) _ _ s
    refine wpAny_bind (endC (its := its) (k := k) hh hm ho hcl hd (by rw [en]; exact hx) fun h' kp => ?_)
    have I2 := I.turnedL (h' := h') (t' := s.toks) (ch := [m]) (fun b o hb e => kp b o (fun z => hb (by rw [z]; exact List.mem_singleton.mpr rfl)) e) (fun b hb => by rw [List.mem_singleton.mp hb]; exact fp)
    exact wpAny_pure (hR _ H ds I2 (fun _ _ _ e => e) hS (by rw [List.append_nil]; exact hE))
  | c :: rest, s, H, st, lv, idx, ds, cs, I, hm, fp, hT, hS, hE, hr, hl, hx, hR => by
    obtain ⟨_, its, rv, oT, ho, hcl, k, hd⟩ := I.hok T _ hT
    have en : its.length = N := by rw [← rv.length, List.length_map, List.length_range]
    obtain ⟨hc1, hc2⟩ := hr c List.mem_cons_self
    have hz : c.length ≤ sizeLine := Nat.le_of_lt (sizes' (by omega))
    refine codeAny_builtin F.entry_extend_loop ?_
    rw [Around.under_plainId F.plain_extend_loop _]
    show wpAny _ X.A.in1.in1 (pyNext (.ref m) >>= _) _ _ s
    refine wpAny_bind (nextC (its := its) (k := k) hm ho hcl hd hz (by rw [en]; exact hx) fun p h' g1 g2 g3 kp hx2 => ?_)
    rw [en] at hx2
    have np : H p = none := I.hok.fresh g2
    have I2 := I.turnedNew (h' := h') (t' := s.toks) (ch := [m]) (T := p) (ob := .tup (nV c)) (fun b o hb e => kp b o (fun z => hb (by rw [z]; exact List.mem_singleton.mpr rfl)) e) (fun b hb => by rw [List.mem_singleton.mp hb]; exact fp) g2
      ⟨by rw [List.length_map]; exact hz, _, pick_vals rv hc1, _, g3, rfl, _, rfl⟩
    have mp : m ≠ p := Nat.ne_of_lt (Nat.lt_of_lt_of_le (Heap.lt_size hm) g2)
    have Sp : S ≠ p := fun e => by rw [← e, hS] at np; cases np
    have Sm : S ≠ m := fun e => by rw [e, fp.1] at hS; cases hS
    have hS2 : upd H p (.tup (nV c)) S = some (.lst (ds.map V.ref)) := by rw [upd_ne Sp]; exact hS
    obtain ⟨hzS, itS, eS, rS, lS, hoS⟩ := I2.lstM hS2
    rw [List.length_map] at lS
    have I3 := I2.lset (l := S) (f := (·.push (Value.ref p))) (its' := itS ++ [Value.ref p]) (ys := (ds ++ [p]).map V.ref) (t' := s.toks) hS2 hoS (by simp) (by rw [List.map_append]; exact rS.append (.cons rfl .nil)) (by rw [List.length_map, List.length_append, List.length_singleton]; rw [List.length_cons] at hl; exact Nat.le_of_lt (sizes' (by omega)))
    show wpAny _ X.A.in1.in1 (updateSeq S (·.push (.ref p)) >>= _) _ _ _
    refine wpAny_bind ?_
    rw [List.length_cons] at hl
    refine wpAny_updateSeq hoS rfl (wpAny_pure ⟨plainId_quiet F.plain_extend_loop _, ?_⟩) (by rw [List.size_toArray, ← lS]; exact Nat.le_of_lt (sizes' (by omega))) (by show (Array.push _ _).size ≤ _; rw [Array.size_push, List.size_toArray, ← lS]; have := sizes' (n := ds.length) (by omega); omega)
    have nS : ∀ b xs, H b = some (.tup xs) → b ≠ S := fun b xs e z => by rw [z, hS] at e; cases e
    have nP : ∀ b o, H b = some o → b ≠ p := fun b o e z => by rw [z, np] at e; cases e
    have up : ∀ b xs, H b = some (.tup xs) → upd (upd H p (.tup (nV c))) S (.lst ((ds ++ [p]).map V.ref)) b = some (.tup xs) := fun b xs e => by
      rw [upd_ne (nS b xs e), upd_ne (nP b _ e)]
      exact e
    refine loopC (lv := .ref p) hh rest I3 ?_ ?_ (up _ _ hT) upd_same ((hE.keep fun d c' z => up _ _ z).snoc ?_) (fun c' hc' => hr c' (List.mem_cons_of_mem _ hc')) (by rw [List.length_append, List.length_singleton]; omega) hx2 fun s' H' es I4 k4 e4 E4 => hR s' H' es I4 (fun b o hb e => k4 b o hb (by rw [upd_ne hb, upd_ne (nP b o e)]; exact e)) e4 (by rw [← List.append_cons] at E4; exact E4)
    · exact (Heap.get?_update_other _ _ Sm).trans g1
    · refine ⟨?_, fp.2⟩
      rw [upd_ne (Ne.symm Sm), upd_ne mp]
      exact fp.1
    · rw [upd_ne (Ne.symm Sp), upd_same]
end
end Cb

namespace Cb
open PySem PySem.Spec PyProof.Rows L2 Vs
section
variable {prog : Program} {w : World} {A : Around} {E : Value → Shared → Prop} {s : Shared}
theorem ssize_ {k : Nat} {t : Tok} (hk : k ≤ 1000) : Builtin.Itertools.itSsizeArg (.int (k : Int) t) = pure (k : Int) := by
  have h1 : ¬ ((k : Int) < -(2 ^ 63 : Int)) := by omega
  have h2 : ¬ ((k : Int) ≥ 2 ^ 63) := by omega
  have h3 : (decide ((k : Int) < -(2 ^ 63 : Int)) || decide ((k : Int) ≥ 2 ^ 63)) = false := by rw [decide_eq_false h1, decide_eq_false h2]; rfl
  unfold Builtin.Itertools.itSsizeArg asIndex asInt?
  simp only [pure_bind]
  rw [h3]
  rfl
theorem new_c (rg : Addr) (k : Nat) (t : Tok) : MeetsIn prog w (Builtin.«itertools.combinations.__new__» ⟨[.type "itertools.combinations", .ref rg, .int (k : Int) t], []⟩)
    (fun A R s => A.handled = none ∧ ∃ (N : Nat) (u v z : Tok), IsRange s.heap rg 0 (N : Int) 1 u v z ∧ N ≤ 1000 ∧ k ≤ 1000 ∧ ∀ (h1 : Heap) (tk : Nat) (its : List Value), (∀ b o, s.heap.get? b = some o → h1.get? b = some o) → Vals (nV (List.range N)) its →
      R (.ok (.ret (.ref (h1.objs.size + 1)))) { s with heap := (h1.push { cls := .type "tuple", data := .seq its.toArray }).push (cObj h1.objs.size (if k > N then 2 else 0) .none (List.range k)), toks := tk }) :=
  .of_wp fun A R s h => by
    obtain ⟨hh, N, u, v, z, hr, hN, hk, q⟩ := h
    have hh1 : A.in1.handled = none := hh
    unfold Builtin.«itertools.combinations.__new__»
    refine wpAny_bind ?_
    show wpAny _ _ (Builtin.Itertools.itClassAndRest "combinations" _ >>= _) _ _ _
    refine wpAny_bind (wpAny_of_eq (cls_ _ _) ?_)
    try dsimp only
    show wpAny _ _ (Builtin.Itertools.itBindNamed "combinations" ["iterable", "r"] 2 2 [.ref rg, .int (k : Int) t] [] >>= _) _ _ _
    refine wpAny_bind (wpAny_of_eq (bind_ _ _) ?_)
    try dsimp only
    show wpAny _ _ (Builtin.Itertools.itSsizeArg (.int (k : Int) t) >>= _) _ _ _
    refine wpAny_bind (wpAny_of_eq (ssize_ hk) ?_)
    try dsimp only
    refine wpAny_bind (collect_range (n := N) hh1 hr (small_one (by omega) (by omega) (by omega) (by omega)) (by rw [rangeSize_nat]; omega) (by omega) fun h1 tk acc kp hi => ?_)
    have hv : Vals (nV (List.range N)) acc.toList := by
      have q1 := vals_rg (a := 0) (b := (N : Int)) (acc := acc) (by rw [show ((N : Int) - 0).toNat = N by omega]; exact hi)
      have e : rgV 0 (N : Int) = nV (List.range N) := by
        unfold rgV
        rw [show ((N : Int) - 0).toNat = N by omega]
        refine List.map_congr_left fun i _ => ?_
        rw [Int.zero_add]
      rw [e] at q1
      exact q1
    have al : acc.toList.length = N := by rw [← hv.length, List.length_map, List.length_range]
    try dsimp only
    rw [if_neg (by omega : ¬ ((k : Int) < 0))]
    have tm : Builtin.Itertools.itTooMany (k : Int) = false := by
      unfold Builtin.Itertools.itTooMany
      exact decide_eq_false (by omega)
    rw [tm]
    simp only [Bool.false_eq_true, if_false]
    refine wpAny_bind (wpAny_newTuple ?_ (by show acc.toList.length ≤ _; rw [al]; exact Nat.le_of_lt (sizes' (by omega))))
    refine wpAny_pure ?_
    try dsimp only
    have e0 : (h1.push { cls := .type "tuple", data := .seq acc.toList.toArray }).get? h1.objs.size = some { cls := .type "tuple", data := .seq acc.toList.toArray } := Heap.get?_push_size _ rfl
    show wpAny _ _ (Builtin.Itertools.itNewRecord (.type "itertools.combinations") _ >>= _) _ _ _
    refine wpAny_bind ?_
    unfold Builtin.Itertools.itNewRecord
    rw [hasno_]
    rw [if_pos (show (!false) = true from rfl)]
    have ek : ((k : Int)).toNat = k := by omega
    have ef : ([Value.ref h1.objs.size, rawInt (if ((k : Int)).toNat > acc.toList.length then 2 else 0), Value.none] ++ List.map (fun (i : Nat) => rawInt (i : Int)) (List.range ((k : Int)).toNat)) = [Value.ref h1.objs.size, .int (if k > N then 2 else 0) 0, Value.none] ++ (List.range k).map fun (i : Nat) => Value.int (i : Int) 0 := by
      rw [ek, al]
      rfl
    rw [ef]
    refine wpAny_newObj_type ?_ ?_
    · refine wpAny_pure ⟨_, rfl, ?_⟩
      have sz : (h1.push { cls := .type "tuple", data := .seq acc.toList.toArray }).objs.size = h1.objs.size + 1 := Heap.size_push ..
      rw [sz]
      exact q h1 tk acc.toList kp hv
    · show (Array.size _) ≤ sizeLine + 2
      rw [List.size_toArray, List.length_append, List.length_map, List.length_range]
      have := sizes' (n := k) (by omega)
      show 3 + k ≤ _
      omega
theorem callC {rg : Addr} {N k : Nat} {t u v z : Tok} {Q : Value → Shared → Prop} (hh : A.handled = none) (hr : IsRange s.heap rg 0 (N : Int) 1 u v z) (hN : N ≤ 1000) (hk : k ≤ 1000)
    (h : ∀ (h1 : Heap) (tk : Nat) (its : List Value), (∀ b o, s.heap.get? b = some o → h1.get? b = some o) → Vals (nV (List.range N)) its →
      Q (.ref (h1.objs.size + 1)) { s with heap := (h1.push { cls := .type "tuple", data := .seq its.toArray }).push (cObj h1.objs.size (if k > N then 2 else 0) .none (List.range k)), toks := tk }) :
    wpAny (model prog w) A (call (.type "itertools.combinations") [.ref rg, .int (k : Int) t]) Q E s := by
  refine callType_newIn called_ (by decide) (tc_ _ _) (nc_ _ _) (fun obj => F.args_object_init_3 obj _ _) en_new (new_c rg k t) ⟨hh, N, u, v, z, hr, hN, hk, fun h1 tk its kp hv => ?_⟩
  have sz : (h1.push { cls := .type "tuple", data := .seq its.toArray }).objs.size = h1.objs.size + 1 := Heap.size_push ..
  have e1 : ((h1.push { cls := .type "tuple", data := .seq its.toArray }).push (cObj h1.objs.size (if k > N then 2 else 0) .none (List.range k))).get? (h1.objs.size + 1) = some (cObj h1.objs.size (if k > N then 2 else 0) .none (List.range k)) := by
    rw [← sz]
    exact Heap.get?_push_size _ rfl
  show _ ∧ _
  exact ⟨⟨_, e1, rfl⟩, h h1 tk its kp hv⟩
end
section
variable {X : Cx} {pins : List (Addr × Obj)} {σ : L2.St} {m T : Addr} {N : Nat}
theorem listC (hh : X.A.handled = none) {rest : List (List Nat)} {s : Shared} {H : Hp} {st : Int} {lv : Value} {idx : List Nat} {Q : VK} (I : Inv X pins σ H s) (hm : s.heap.get? m = some (cObj T st lv idx)) (fp : FpOk X pins H m) (hT : H T = some (.tup (nV (List.range N))))
    (hr : ∀ c ∈ rest, (∀ i ∈ c, i < N) ∧ c.length ≤ 1000) (hl : rest.length ≤ 100000) (hx : Nx N st idx rest)
    (hq : ∀ p H' es, Same H H' → H p = none → H' p = some (.lst (es.map V.ref)) → Each (fun d c => H' d = some (.tup (nV c))) es rest → Q (.ref p) H') :
    wpAny (model X.prog X.w) X.A (call (.type "list") [.ref m]) (EP X pins σ Q) X.xe s := by
  have fr := I.fresh
  have hlt : m < s.heap.objs.size := Heap.lt_size hm
  have hSm : s.heap.objs.size ≠ m := Nat.ne_of_gt hlt
  refine callType_codes (Q₁ := fun obj s₁ => obj = .ref s.heap.objs.size ∧ s₁ = { s with heap := s.heap.push { cls := .type "list", data := .seq #[] } }) F.called_list (F.typeCall_list_1 _) F.entry_list_init (code_list_new _ ⟨rfl, rfl⟩) fun obj s₁ h₁ => ?_
  obtain ⟨rfl, rfl⟩ := h₁
  have hS : (s.heap.push { cls := .type "list", data := .seq #[] }).get? s.heap.objs.size = some { cls := .type "list", data := .seq #[] } := Heap.get?_push_size _ rfl
  have I1 := I.lnew (its := []) (ys := []) (t' := s.toks) .nil (Nat.zero_le _)
  refine ⟨⟨_, hS, rfl⟩, F.args_list_init_2 _ _, ?_⟩
  show wpAny _ X.A.in1.in1 (Builtin.List.listItems (.ref s.heap.objs.size) >>= _) _ _ _
  refine wpAny_bind (listItems_at hS rfl ?_)
  show wpAny _ X.A.in1.in1 (Builtin.List.listUpdate (.ref s.heap.objs.size) (fun _ => #[]) >>= _) _ _ _
  refine wpAny_bind (listUpdate_at hS rfl ?_ (Nat.zero_le _) (Nat.zero_le _))
  have I2 := I1.lset (l := s.heap.objs.size) (f := fun _ => #[]) (its' := []) (ys := []) (t' := s.toks) upd_same hS rfl .nil (Nat.zero_le _)
  rw [upd_upd] at I2
  have m2 : ((s.heap.push { cls := .type "list", data := .seq #[] }).update s.heap.objs.size (Obj.mapSeq fun _ => #[])).get? m = some (cObj T st lv idx) := (Heap.get?_update_other _ _ hSm).trans (Heap.get?_push_of_some _ hm)
  generalize (s.heap.push { cls := .type "list", data := .seq #[] }).update s.heap.objs.size (Obj.mapSeq fun _ => #[]) = h2 at *
  refine wpAny_bind (wpAny_letGo ?_)
  show wpAny _ X.A.in1.in1 (Builtin.List.listExtendWith (.ref s.heap.objs.size) (.ref m) .none) _ _ _
  unfold Builtin.List.listExtendWith
  refine wpAny_bind (wpAny_typeOf (isC (s := { s with heap := h2 }) m2) ?_)
  have c1 : Builtin.List.listSameRef (.ref s.heap.objs.size) (.ref m) = false := by simp [Builtin.List.listSameRef, hSm]
  have c2 : (Value.type "itertools.combinations" == Value.type "list") = false := by decide
  have c3 : (Value.type "itertools.combinations" == Value.type "tuple") = false := by decide
  simp only [c1, c2, c3, Bool.or_false, Bool.false_eq_true, if_false]
  refine wpAny_bind (iterC (s := { s with heap := h2 }) m2 ?_)
  refine wpAny_bind (wpAny_holding ?_)
  unfold Builtin.List.listLengthHint
  refine wpAny_bind (wpAny_specialOf (isC (s := { s with heap := h2 }) m2) nolen_ ?_)
  show wpAny _ X.A.in1.in1 (specialOf (Value.ref m) (Str.ofString "__length_hint__") >>= _) _ _ _
  refine wpAny_bind (wpAny_specialOf (isC (s := { s with heap := h2 }) m2) nohint_ ?_)
  refine wpAny_pure ?_
  show wpAny _ X.A.in1.in1 (rule "list.extend.makes-room" >>= _) _ _ _
  refine wpAny_bind (wpAny_rule ?_)
  show wpAny _ X.A.in1.in1 (Builtin.List.listTouch (.ref s.heap.objs.size) >>= _) _ _ _
  refine wpAny_bind ?_
  show wpAny _ X.A.in1.in1 (updateSeq s.heap.objs.size (·.push .none) >>= fun _ => updateSeq s.heap.objs.size (·.pop)) _ _ _
  obtain ⟨_, it2, e2, r2, l2, ho2⟩ := I2.lstM upd_same
  have z2 : it2 = [] := List.eq_nil_of_length_eq_zero l2.symm
  subst z2
  refine wpAny_bind (wpAny_updateSeq ho2 rfl ?_ (Nat.zero_le _) (by show 1 ≤ _; decide))
  have I3 := I2.lset (l := s.heap.objs.size) (f := (·.push Value.none)) (its' := [Value.none]) (ys := [V.non]) (t' := s.toks) upd_same ho2 rfl (.cons rfl .nil) (by show 1 ≤ sizeLine; decide)
  rw [upd_upd] at I3
  have m3 : (h2.update s.heap.objs.size (Obj.mapSeq (·.push Value.none))).get? m = some (cObj T st lv idx) := (Heap.get?_update_other _ _ hSm).trans m2
  generalize h2.update s.heap.objs.size (Obj.mapSeq (·.push Value.none)) = h3 at *
  obtain ⟨_, it3, e3, r3, l3, ho3⟩ := I3.lstM upd_same
  have r3' := r3
  obtain ⟨w3, hw3, _⟩ := vals1 r3'
  subst hw3
  refine wpAny_updateSeq ho3 rfl ?_ (by show 1 ≤ _; decide) (by show 0 ≤ _; decide)
  have I4 := I3.lset (l := s.heap.objs.size) (f := (·.pop)) (its' := []) (ys := []) (t' := s.toks) upd_same ho3 rfl .nil (Nat.zero_le _)
  rw [upd_upd] at I4
  have m4 : (h3.update s.heap.objs.size (Obj.mapSeq (·.pop))).get? m = some (cObj T st lv idx) := (Heap.get?_update_other _ _ hSm).trans m3
  generalize h3.update s.heap.objs.size (Obj.mapSeq (·.pop)) = h4 at *
  refine wpAny_pure ⟨plainId_quiet F.plain_extend_loop _, ?_⟩
  have nS : ∀ b o, H b = some o → b ≠ s.heap.objs.size := fun b o e z => by rw [z, fr] at e; cases e
  refine loopC (ds := []) (cs := []) hh rest I4 m4 ⟨by rw [upd_ne (Ne.symm hSm)]; exact fp.1, fp.2⟩ (by rw [upd_ne (nS _ _ hT)]; exact hT) upd_same Each.nil hr (by simpa using hl) hx fun s' H' es I5 k5 e5 E5 => ?_
  exact ⟨rfl, .ref s.heap.objs.size, H', I5, rfl, hq _ H' es (fun b o e => k5 b o (nS b o e) (by rw [upd_ne (nS b o e)]; exact e)) fr e5 (by simpa using E5)⟩
end
end Cb
namespace Cb
open PySem PySem.Spec PyProof.Rows L2 Vs
theorem cr_rng1 {X : Cx} : CallR X (.type "range") (fun vs H Q => ∃ n, vs = [V.int n] ∧ ∀ p, H p = none → Q (.ref p) (upd H p (.rng 0 n))) := by
  intro pins s σ H vs us Q I r h
  obtain ⟨n, rfl, q⟩ := h
  obtain ⟨u, rfl, t, rfl⟩ := vals1 r
  refine call_range_1 ⟨.ref s.heap.objs.size, upd H s.heap.objs.size (.rng 0 n), I.laid (t' := s.toks + 1 + 1) (fun b o e => Heap.get?_push_of_some _ e) (Nat.le_refl _) ?_, rfl, q _ (I.hok.fresh (Nat.le_refl _))⟩
  exact ⟨s.toks, t, s.toks + 1, Heap.get?_push_size _ rfl⟩
/-- list(combinations(range(n), k)) -/
def tCmb (t : TA) : TE := fun σ H Q => t σ H fun vs H1 => ∃ (rg : Addr) (N k : Nat) (rest : List (List Nat)), vs = [V.ref rg, V.int (k : Int)] ∧ H1 rg = some (.rng 0 (N : Int)) ∧ N ≤ 1000 ∧ k ≤ 1000 ∧ (∀ c ∈ rest, (∀ i ∈ c, i < N) ∧ c.length ≤ 1000) ∧ rest.length ≤ 100000 ∧ Nx N (if k > N then 2 else 0) (List.range k) rest ∧
  ∀ p H' es, Same H1 H' → H1 p = none → H' p = some (.lst (es.map V.ref)) → Each (fun d c => H' d = some (.tup (nV c))) es rest → Q (.ref p) H'
theorem pe_listCmb {X : Cx} {x : Str} {p p2 pos pos2 : Pos} {e : Expr} {es : List Expr} {t : TA} (hc : X.calm = true) (hgL : Gl X "list") (hmL : X.mg "list" = none) (hg : Gl X x) (hm : X.mg x = some (.type "itertools.combinations")) (ha : PA X (e :: es) t) (hdb : (x == ("__debug__" : Str)) = false := by decide)
    (he : starEach (e :: es) X.env = (false, eval e X.env) :: starEach es X.env := by rfl) (hpl : (backTo pos2 (starEach es X.env)).any (·.1) = false := by rfl)
    (na : starEach [.Call (.Name x p2) (e :: es) [] pos2] X.env = (false, eval (.Call (.Name x p2) (e :: es) [] pos2) X.env) :: starEach [] X.env := by rfl) :
    PE X (.Call (.Name "list" p) [.Call (.Name x p2) (e :: es) [] pos2] [] pos) (tCmb t) := by
  refine ⟨fun pins s σ H Q I h => ?_⟩
  have hh : X.A.handled = none := I.ok.hd hc
  refine Call_ (ld_blt I hgL hmL boot_list (PyProof.Rows.callWith_type1 (args_cons (Call_ (ld_glob I hg hm (PyProof.Rows.callWith_type1 (thn (ha.run pos2 pins s σ H _ I h) fun us s1 ⟨vs, H1, I1, r1, q1⟩ => ?_) he hpl) hdb)) na) na))
  obtain ⟨rg, N, k, rest, rfl, hrg, hN, hk, hr, hl, hx, q⟩ := q1
  obtain ⟨u1, u2, rfl, e1, t2, rfl⟩ := vals2 r1
  obtain rfl : u1 = Value.ref rg := e1
  obtain ⟨ta, tb, tc, hob⟩ := I1.hok rg _ hrg
  refine callC hh hob hN hk fun h1 tk its kp hv => ?_
  refine args_nil ?_
  have hz : N ≤ sizeLine := Nat.le_of_lt (sizes' (by omega))
  have I2 : Inv X pins σ H1 { s1 with heap := h1, toks := tk } := I1.kept kp
  have fr := I2.fresh
  have I3 := I2.laid (a := h1.objs.size) (o := .tup (nV (List.range N))) (h' := h1.push { cls := .type "tuple", data := .seq its.toArray }) (t' := tk) (fun b o e => Heap.get?_push_of_some _ e) (Nat.le_refl _)
    ⟨by rw [List.length_map, List.length_range]; exact hz, its, hv, _, Heap.get?_push_size _ rfl, rfl, _, rfl⟩
  have sz : (h1.push { cls := .type "tuple", data := .seq its.toArray }).objs.size = h1.objs.size + 1 := Heap.size_push ..
  have fr3 := I3.fresh
  have fp := I3.fpOk (b := h1.objs.size + 1) (H' := upd H1 h1.objs.size (.tup (nV (List.range N)))) (Nat.le_of_eq sz) (by rw [← sz]; exact fr3)
  have I4 := I3.kept (h' := (h1.push { cls := .type "tuple", data := .seq its.toArray }).push (cObj h1.objs.size (if k > N then 2 else 0) .none (List.range k))) (t' := tk) fun b o e => Heap.get?_push_of_some _ e
  have gm : ((h1.push { cls := .type "tuple", data := .seq its.toArray }).push (cObj h1.objs.size (if k > N then 2 else 0) .none (List.range k))).get? (h1.objs.size + 1) = some (cObj h1.objs.size (if k > N then 2 else 0) .none (List.range k)) := by
    rw [← sz]
    exact Heap.get?_push_size _ rfl
  refine listC hh I4 gm fp upd_same hr hl hx fun p H' es sm np a b => q p H' es (fun c u hcu => sm c u (same_upd fr c u hcu)) ?_ a b
  cases e : H1 p with
  | none => rfl
  | some u =>
    rw [same_upd fr p u e] at np
    cases np
end Cb

namespace Vs
open PySem PySem.Spec PyProof.Rows L2
/-! ### choices of so many parts, in order -/
def rows1 (n k a : Nat) : List (List Nat) := (if k = 1 then [[a]] else []) ++ (List.range (n - (a + 1))).flatMap fun j => (if k = 2 then [[a, a + 1 + j]] else []) ++ (List.range (n - (a + 1 + j + 1))).flatMap fun i => if k = 3 then [[a, a + 1 + j, a + 1 + j + 1 + i]] else []
def rowsF (n k : Nat) : List (List Nat) := if k = 0 then [[]] else (List.range n).flatMap (rows1 n k)
def nx1B (n : Nat) : List Nat → List (List Nat) → Bool
  | idx, [] => (Cb.cGo n idx).isNone
  | idx, c :: r => decide (Cb.cGo n idx = some c) && nx1B n c r
theorem nx1_of {n : Nat} : ∀ {l : List (List Nat)} {idx : List Nat}, nx1B n idx l = true → Cb.Nx1 n idx l
  | [], idx, h => Option.isNone_iff_eq_none.mp h
  | c :: r, idx, h => by
    obtain ⟨h1, h2⟩ := Bool.and_eq_true_iff.mp h
    exact ⟨of_decide_eq_true h1, nx1_of h2⟩
def okF (n k : Nat) : Bool := (if k > n then (rowsF n k).isEmpty else match rowsF n k with
  | [] => false
  | c :: r => decide (c = List.range k) && nx1B n c r) && (rowsF n k).all fun c => c.all (fun i => decide (i < n)) && decide (c.length ≤ 1000)
theorem okF_all : ∀ n, n < 10 → ∀ k, k < 4 → okF n k = true ∧ (rowsF n k).length ≤ 100 := by decide +kernel
theorem rows_nx {n k : Nat} (hn : n < 10) (hk : k < 4) : Cb.Nx n (if k > n then 2 else 0) (List.range k) (rowsF n k) ∧ (∀ c ∈ rowsF n k, (∀ i ∈ c, i < n) ∧ c.length ≤ 1000) ∧ (rowsF n k).length ≤ 100 := by
  obtain ⟨h, hl⟩ := okF_all n hn k hk
  obtain ⟨h1, h2⟩ := Bool.and_eq_true_iff.mp h
  refine ⟨?_, fun c hc => ?_, hl⟩
  · by_cases g : k > n
    · rw [if_pos g] at h1 ⊢
      exact .inr (.inr ⟨rfl, List.isEmpty_iff.mp h1⟩)
    · rw [if_neg g] at h1 ⊢
      cases e : rowsF n k with
      | nil => rw [e] at h1; cases h1
      | cons c r =>
        rw [e] at h1
        obtain ⟨h3, h4⟩ := Bool.and_eq_true_iff.mp h1
        have e3 := of_decide_eq_true h3
        exact .inl ⟨rfl, r, by rw [e3], by rw [← e3]; exact nx1_of h4⟩
  · obtain ⟨h3, h4⟩ := Bool.and_eq_true_iff.mp (List.all_eq_true.mp h2 c hc)
    exact ⟨fun i hi => of_decide_eq_true (List.all_eq_true.mp h3 i hi), of_decide_eq_true h4⟩
/-- a list of choices, each a tuple made in the run -/
structure CsL (H : Hp) (l : Addr) (es : List Addr) (cs : List (List Nat)) : Prop where
  l : H l = some (.lst (es.map V.ref))
  e : Each (fun e c => H e = some (.tup (Cb.nV c))) es cs
theorem CsL.keep {H H' : Hp} {l : Addr} {es : List Addr} {cs : List (List Nat)} (h : CsL H l es cs) (s : Same H H') : CsL H' l es cs := ⟨s _ _ h.l, h.e.keep fun _ _ z => s _ _ z⟩
theorem CsL.grow {H H0 : Hp} {D u : Addr} {es : List Addr} {cs : List (List Nat)} {c : List Nat} {vs : List V} (hD : H0 D = none) (s0 : Same H0 H) (h : CsL H D es cs) (nu : H u = none) (ev : vs = Cb.nV c) : Same H0 (upd (upd H u (.tup vs)) D (.lst (es.map V.ref ++ [.ref u]))) ∧ CsL (upd (upd H u (.tup vs)) D (.lst (es.map V.ref ++ [.ref u]))) D (es ++ [u]) (cs ++ [c]) := by
  subst ev
  obtain ⟨s3, h3⟩ := fr (rfl : upd H u (.tup (Cb.nV c)) = _) nu
  generalize upd H u (.tup (Cb.nV c)) = H3 at *
  have h4 := h.keep s3
  have kk : TupK H3 (upd H3 D (.lst (es.map V.ref ++ [.ref u]))) := .set h4.l
  refine ⟨fun c w hc => ?_, by rw [upd_same, List.map_append]; rfl, (h4.e.keep fun _ _ z => kk.1 _ _ z).snoc (kk.1 _ _ h3)⟩
  rw [upd_ne (ne_of_none hc hD)]
  exact s3 _ _ (s0 _ _ hc)
def csP (c : List Nat) : PyData := .tuple ((c.map fun (i : Nat) => (i : Int)).map PyData.int)
theorem csI {K : PySem.W.Frag} {H : Hp} {a : Addr} {c : List Nat} (h : H a = some (.tup (Cb.nV c))) : Im K H (csP c) (.ref a) := Im.tup_ (SqT.of h) (by
  have e : Cb.nV c = (c.map fun (i : Nat) => (i : Int)).map V.int := by rw [List.map_map]; rfl
  rw [e]
  exact ImL.ints)
theorem CsL.im {K : PySem.W.Frag} {H : Hp} : ∀ {bs : List Addr} {cs : List (List Nat)}, Each (fun b c => H b = some (.tup (Cb.nV c))) bs cs → ImL K H (cs.map csP) (bs.map V.ref)
  | [], [], _ => ImL.nil_
  | [], s :: ss, h => absurd h.1 (by simp)
  | b :: bs, [], h => absurd h.1 (by simp)
  | b :: bs, s :: ss, h => ImL.cons_ (csI (h.2 0 b s rfl rfl)) (CsL.im ⟨by have := h.1; simpa using this, fun i b' s' h1 h2 => h.2 (i + 1) b' s' h1 h2⟩)
theorem CsL.ls {K : PySem.W.Frag} {H : Hp} {l bs cs} (h : CsL H l bs cs) : LsI K H l (cs.map csP) := ⟨_, h.l, CsL.im h.e⟩
theorem csi_depth : ∀ ns : List Int, PyData.depthAll (ns.map PyData.int) ≤ 1
  | [] => by simp [PyData.depthAll]
  | n :: r => by
    have := csi_depth r
    simp only [List.map_cons, PyData.depthAll, PyData.depth]
    omega
theorem cs_depth (c : List Nat) : (csP c).depth ≤ 3 := by
  have := csi_depth (c.map fun (i : Nat) => (i : Int))
  simp only [csP, PyData.depth]
  omega
theorem css_depth (cs : List (List Nat)) : (PyData.list (cs.map csP)).depth ≤ 64 := Nat.le_trans (ldepth cs_depth cs) (by decide)
theorem CsL.but {H H' : Hp} {l o : Addr} {es : List Addr} {cs : List (List Nat)} {xs : List V} (h : CsL H l es cs) (e : But o H H') (ho : H o = some (.lst xs)) (n : l ≠ o) : CsL H' l es cs :=
  ⟨e _ _ n h.l, h.e.keep fun _ _ z => e _ _ (ne_of z ho (by intro z; cases z)) z⟩
end Vs

namespace Vs
open PySem PySem.Spec PyProof.Rows L2
/-- a list is walked; what is done in a turn is any text -/
theorem it_list {K : PySem.W.Frag} {a : Addr} {xs : List V} {Bd : V → Hp → (Hp → Prop) → Prop} {H0 : Hp} {Qd : Hp → Prop} (Pv : Nat → Hp → Prop) (h0 : Pv 0 H0) (hl : ∀ i H, i ≤ xs.length → Pv i H → SqL K H a xs)
    (hs : ∀ i x H, xs[i]? = some x → Pv i H → Bd x H (Pv (i + 1))) (hd : ∀ H, Pv xs.length H → Qd H) :
    ∃ W : Nat → Nat → Hp → Prop, (∃ m, W 0 m H0) ∧ ∀ i m H, W i m H →
      ((Itl K a).stop i H ∧ Qd H) ∨ ((Itl K a).go i H ∧ ∃ Nx : Hp → Prop, (∀ H', Nx H' → ∃ m', m' < m ∧ W (i + 1) m' H') ∧ ∀ x H', (Itl K a).yld i H x H' → Bd x H' Nx) := by
  refine ⟨fun i m H => m = xs.length - i ∧ i ≤ xs.length ∧ Pv i H, ⟨xs.length, by simp, Nat.zero_le _, h0⟩, ?_⟩
  rintro i m H ⟨rfl, hi, p⟩
  have q := hl i H hi p
  by_cases hlt : i < xs.length
  · refine .inr ⟨⟨xs, xs[i], q, by simp [hlt]⟩, Pv (i + 1), fun H' p' => ⟨xs.length - (i + 1), by omega, rfl, hlt, p'⟩, fun x H' y => ?_⟩
    obtain ⟨e, y⟩ := y
    subst e
    exact hs i x _ (y xs q) p
  · have ei : i = xs.length := by omega
    subst ei
    exact .inl ⟨⟨xs, q, by simp⟩, hd H p⟩
theorem it_tup {K : PySem.W.Frag} {a : Addr} {xs : List V} {Bd : V → Hp → (Hp → Prop) → Prop} {H0 : Hp} {Qd : Hp → Prop} (Pv : Nat → Hp → Prop) (h0 : Pv 0 H0) (hl : ∀ i H, i ≤ xs.length → Pv i H → SqT K H a xs)
    (hs : ∀ i x H, xs[i]? = some x → Pv i H → Bd x H (Pv (i + 1))) (hd : ∀ H, Pv xs.length H → Qd H) :
    ∃ W : Nat → Nat → Hp → Prop, (∃ m, W 0 m H0) ∧ ∀ i m H, W i m H →
      ((Itt K a).stop i H ∧ Qd H) ∨ ((Itt K a).go i H ∧ ∃ Nx : Hp → Prop, (∀ H', Nx H' → ∃ m', m' < m ∧ W (i + 1) m' H') ∧ ∀ x H', (Itt K a).yld i H x H' → Bd x H' Nx) := by
  refine ⟨fun i m H => m = xs.length - i ∧ i ≤ xs.length ∧ Pv i H, ⟨xs.length, by simp, Nat.zero_le _, h0⟩, ?_⟩
  rintro i m H ⟨rfl, hi, p⟩
  have q := hl i H hi p
  by_cases hlt : i < xs.length
  · refine .inr ⟨⟨xs, xs[i], q, by simp [hlt]⟩, Pv (i + 1), fun H' p' => ⟨xs.length - (i + 1), by omega, rfl, hlt, p'⟩, fun x H' y => ?_⟩
    obtain ⟨e, y⟩ := y
    subst e
    exact hs i x _ (y xs q) p
  · have ei : i = xs.length := by omega
    subst ei
    exact .inl ⟨⟨xs, q, by simp⟩, hd H p⟩
end Vs

/-! zip of a list and a tuple, either way round -/
namespace Zm
open PySem PySem.Spec PyProof.Rows L2
open PySem.Sem (wp)
/-- an iterator of a list (true) or of a tuple -/
def ItB (b : Bool) (h : Heap) (it l : Addr) (k : Nat) : Prop := match b with | true => h.IsListIter it l k | false => h.IsTupleIter it l k
def SqB (b : Bool) (h : Heap) (l : Addr) (xs : Array Value) : Prop := match b with | true => h.IsList l xs | false => h.IsTuple l xs
theorem ItB.ext {b : Bool} {h h' : Heap} {it l x : Addr} {k : Nat} (g : ItB b h it l k) (e : Heap.ExtBut x h h') (n : it ≠ x) : ItB b h' it l k := by
  cases b with
  | true => exact Heap.IsListIter.extBut (show h.IsListIter it l k from g) e n
  | false => exact Heap.IsTupleIter.extBut (show h.IsTupleIter it l k from g) e n
theorem SqB.ext {b : Bool} {h h' : Heap} {l x : Addr} {xs : Array Value} (g : SqB b h l xs) (e : Heap.ExtBut x h h') (n : l ≠ x) : SqB b h' l xs := by
  cases b with
  | true => exact Heap.IsList.extBut (show h.IsList l xs from g) e n
  | false => exact Heap.IsTuple.extBut (show h.IsTuple l xs from g) e n
theorem ItB.ob {b : Bool} {h : Heap} {it l : Addr} {k : Nat} (g : ItB b h it l k) : ∃ o, h.get? it = some o ∧ ∃ fs, o.data = .fields fs := by
  cases b with
  | true =>
    obtain ⟨o, e, _, d⟩ := (show h.IsListIter it l k from g)
    exact ⟨o, e, _, d⟩
  | false =>
    obtain ⟨o, e, _, d⟩ := (show h.IsTupleIter it l k from g)
    exact ⟨o, e, _, d⟩
theorem ItB.mv {b : Bool} {h h' : Heap} {it l : Addr} {k : Nat} (g : ItB b h it l k) (e : ∀ o, h.get? it = some o → h'.get? it = some o) : ItB b h' it l k := by
  cases b with
  | true => exact Heap.IsListIter.at (show h.IsListIter it l k from g) e
  | false => exact Heap.IsTupleIter.at (show h.IsTupleIter it l k from g) e
section
variable {prog : Program} {w : World} {A : Around} {E : Value → Shared → Prop} {s : Shared}
theorem next_one {b : Bool} {it l : Addr} {i : Nat} {items : Array Value} {x : Value} {Q : Value → Shared → Prop} (hit : ItB b s.heap it l i) (hl : SqB b s.heap l items) (hx : items[i]? = some x)
    (hQ : ∀ h', ItB b h' it l (i + 1) → Heap.SameBut it s.heap h' → Q x { s with heap := h' }) : wpAny (model prog w) A (Builtin.SmallTypes.nextOf (.ref it)) Q E s := by
  cases b with
  | true => exact wpAny_nextOf_list_item hit hl hx hQ
  | false => exact RZ.nextOf_tuple_item hit hl hx hQ
theorem next_no {b : Bool} {it l : Addr} {i : Nat} {items : Array Value} {Q : Value → Shared → Prop} (hh : A.handled = none) (hit : ItB b s.heap it l i) (hl : SqB b s.heap l items) (hx : items[i]? = none)
    (hE : ∀ h' e, Heap.ExtBut it s.heap h' → (∃ o, h'.get? e = some o ∧ o.cls = .type "StopIteration") → E (.ref e) { s with heap := h' }) : wpAny (model prog w) A (Builtin.SmallTypes.nextOf (.ref it)) Q E s := by
  cases b with
  | true => exact wpAny_nextOf_list_end hh hit hl hx hE
  | false => exact RZ.nextOf_tuple_end hh hit hl hx hE
theorem zip_one {b c : Bool} {z TI TO i1 i2 l1 l2 : Addr} {k : Nat} {xs ys : Array Value} {x y u v : Value} {Q : Value → Shared → Prop} (D : ZipApart z TI TO i1 i2 l1 l2)
    (hz : IsZip s.heap z TI TO .none) (hTI : IsPair s.heap TI (.ref i1) (.ref i2)) (hTO : IsPair s.heap TO u v)
    (h1 : ItB b s.heap i1 l1 k) (h2 : ItB c s.heap i2 l2 k) (hl1 : SqB b s.heap l1 xs) (hl2 : SqB c s.heap l2 ys) (hx : xs[k]? = some x) (hy : ys[k]? = some y)
    (hQ : ∀ h', IsZip h' z TI TO (rawInt s.heap.objs.size) → IsPair h' TO x y → ItB b h' i1 l1 (k + 1) → ItB c h' i2 l2 (k + 1) → IsPair h' s.heap.objs.size x y → h'.objs.size = s.heap.objs.size + 1 →
      (∀ a o, a ≠ z → a ≠ TO → a ≠ i1 → a ≠ i2 → s.heap.get? a = some o → h'.get? a = some o) → Q (.ref s.heap.objs.size) { s with heap := h' }) :
    wpAny (model prog w) A (Builtin.«zip.__next__» ⟨[.ref z], []⟩) (fun fin s' => ∃ v, fin = .done (.ret v) ∧ Q v s') E s := by
  show wpAny _ _ (field (.ref z) 2 >>= _) _ _ _
  refine wpAny_bind (wpAny_field hz rfl (x := .bool false) rfl ?_)
  show wpAny _ _ (field (.ref z) 3 >>= _) _ _ _
  refine wpAny_bind (wpAny_field hz rfl (x := .ref TI) rfl (wpAny_bind (wpAny_seqItems hTI rfl ?_)))
  show wpAny _ _ (Builtin.SmallTypes.ownedTupleIsFree (.ref z) >>= _) _ _ _
  refine wpAny_bind ?_
  unfold Builtin.SmallTypes.ownedTupleIsFree
  refine wpAny_bind (wpAny_field hz rfl (x := .none) rfl (wpAny_pure ?_))
  simp only [if_true]
  refine wpAny_bind (wpAny_rule (wpAny_bind (wpAny_field hz rfl (x := .ref TO) rfl (wpAny_bind (wpAny_setField_rec hz (by simp) fun g1 z1 e1 => ?_)))))
  replace z1 : IsZip g1 z TI TO .ellipsis := z1
  refine wpAny_bind ?_
  simp only [List.zipIdx_cons, List.zipIdx_nil, List.forIn_cons, List.forIn_nil]
  -- the first one is asked
  refine wpAny_bind (wpAny_bind (wpAny_onRaise ?_))
  show wpAny _ _ (Builtin.SmallTypes.nextOf (.ref i1) >>= _) _ _ _
  refine wpAny_bind (next_one (h1.ext e1.extBut D.i1z) (hl1.ext e1.extBut D.l1z) hx fun g2 k1 e2 => wpAny_pure ?_)
  refine wpAny_bind (wpAny_seqItems (e2.extBut _ _ D.TOi1 (e1.extBut _ _ D.TOz hTO)) rfl (wpAny_bind (wpAny_updateSeq_pair (e2.extBut _ _ D.TOi1 (e1.extBut _ _ D.TOz hTO)) fun g3 t3 e3 => ?_)))
  replace t3 : IsPair g3 TO x v := t3
  refine wpAny_bind (wpAny_letGo (wpAny_pure ?_))
  -- and the second one
  refine wpAny_bind (wpAny_bind (wpAny_onRaise ?_))
  show wpAny _ _ (Builtin.SmallTypes.nextOf (.ref i2) >>= _) _ _ _
  refine wpAny_bind (next_one (((h2.ext e1.extBut D.i2z).ext e2.extBut D.i12.symm).ext e3.extBut D.TOi2.symm) (((hl2.ext e1.extBut D.l2z).ext e2.extBut D.l2i1).ext e3.extBut D.l2TO) hy fun g4 k2 e4 => wpAny_pure ?_)
  refine wpAny_bind (wpAny_seqItems (e4.extBut _ _ D.TOi2 t3) rfl (wpAny_bind (wpAny_updateSeq_pair (e4.extBut _ _ D.TOi2 t3) fun g5 t5 e5 => ?_)))
  replace t5 : IsPair g5 TO x y := t5
  refine wpAny_bind (wpAny_letGo (wpAny_pure (wpAny_pure ?_)))
  -- the pair is given out
  refine wpAny_bind (wpAny_seqItems t5 rfl (wpAny_bind (wpAny_newTuple ?_)))
  have sz : g5.objs.size = s.heap.objs.size := by rw [e5.1, e4.1, e3.1, e2.1, e1.1]
  have z5 : IsZip g5 z TI TO .ellipsis := e5.extBut _ _ D.TOz.symm (e4.extBut _ _ D.i2z.symm (e3.extBut _ _ D.TOz.symm (e2.extBut _ _ D.i1z.symm z1)))
  have j1 : ItB b g5 i1 l1 (k + 1) := ((k1.ext e3.extBut D.TOi1.symm).ext e4.extBut D.i12).ext e5.extBut D.TOi1.symm
  have j2 : ItB c g5 i2 l2 (k + 1) := k2.ext e5.extBut D.TOi2.symm
  have zl : z < g5.objs.size := Heap.lt_size z5
  show wpAny _ _ (Builtin.SmallTypes.ownedTupleHandOut (.ref z) (.ref g5.objs.size) >>= _) _ _ _
  refine wpAny_bind ?_
  unfold Builtin.SmallTypes.ownedTupleHandOut
  refine wpAny_bind (wpAny_setField_rec (show IsZip (g5.push { cls := .type "tuple", data := .seq #[x, y] }) z TI TO .ellipsis from Heap.get?_push_of_some _ z5) (by simp) fun g7 z7 e7 => ?_)
  replace z7 : IsZip g7 z TI TO (rawInt g5.objs.size) := z7
  refine wpAny_setField_rec z7 (by simp) fun g8 z8 e8 => ?_
  replace z8 : IsZip g8 z TI TO (rawInt g5.objs.size) := z8
  have up : ∀ a o, a ≠ z → g5.get? a = some o → g8.get? a = some o := fun a o n e => e8.extBut _ _ n (e7.extBut _ _ n (Heap.get?_push_of_some _ e))
  have t8 : IsPair g8 g5.objs.size x y := e8.extBut _ _ (Nat.ne_of_gt zl) (e7.extBut _ _ (Nat.ne_of_gt zl) (Heap.get?_push_size _ rfl))
  have s8 : g8.objs.size = g5.objs.size + 1 := by rw [e8.1, e7.1, Heap.size_push]
  rw [sz] at z8 t8 s8
  refine wpAny_pure ⟨_, rfl, ?_⟩
  show Q (.ref g5.objs.size) _
  rw [sz]
  exact hQ g8 z8 (up _ _ D.TOz t5) (j1.mv fun o e => up _ o D.i1z e) (j2.mv fun o e => up _ o D.i2z e) t8 s8 fun a o n1 n2 n3 n4 e =>
    up a o n1 (e5.extBut _ _ n2 (e4.extBut _ _ n4 (e3.extBut _ _ n2 (e2.extBut _ _ n3 (e1.extBut _ _ n1 e)))))
theorem zip_no {b c : Bool} {z TI TO i1 i2 l1 l2 : Addr} {k : Nat} {xs ys : Array Value} {u v : Value} {Q : Fin → Shared → Prop} (hh : A.handled = none) (D : ZipApart z TI TO i1 i2 l1 l2)
    (hz : IsZip s.heap z TI TO .none) (hTI : IsPair s.heap TI (.ref i1) (.ref i2)) (hTO : IsPair s.heap TO u v)
    (h1 : ItB b s.heap i1 l1 k) (h2 : ItB c s.heap i2 l2 k) (hl1 : SqB b s.heap l1 xs) (hl2 : SqB c s.heap l2 ys) (hend : xs[k]? = none ∨ ys[k]? = none)
    (hE : ∀ h' e, (∀ a o, a ≠ z → a ≠ TO → a ≠ i1 → a ≠ i2 → s.heap.get? a = some o → h'.get? a = some o) → (∃ o, h'.get? e = some o ∧ o.cls = .type "StopIteration") → E (.ref e) { s with heap := h' }) :
    wpAny (model prog w) A (Builtin.«zip.__next__» ⟨[.ref z], []⟩) Q E s := by
  show wpAny _ _ (field (.ref z) 2 >>= _) _ _ _
  refine wpAny_bind (wpAny_field hz rfl (x := .bool false) rfl ?_)
  show wpAny _ _ (field (.ref z) 3 >>= _) _ _ _
  refine wpAny_bind (wpAny_field hz rfl (x := .ref TI) rfl (wpAny_bind (wpAny_seqItems hTI rfl ?_)))
  show wpAny _ _ (Builtin.SmallTypes.ownedTupleIsFree (.ref z) >>= _) _ _ _
  refine wpAny_bind ?_
  unfold Builtin.SmallTypes.ownedTupleIsFree
  refine wpAny_bind (wpAny_field hz rfl (x := .none) rfl (wpAny_pure ?_))
  simp only [if_true]
  refine wpAny_bind (wpAny_rule (wpAny_bind (wpAny_field hz rfl (x := .ref TO) rfl (wpAny_bind (wpAny_setField_rec hz (by simp) fun g1 z1 e1 => ?_)))))
  replace z1 : IsZip g1 z TI TO .ellipsis := z1
  refine wpAny_bind ?_
  simp only [List.zipIdx_cons, List.zipIdx_nil, List.forIn_cons, List.forIn_nil]
  refine wpAny_bind (wpAny_bind (wpAny_onRaise ?_))
  show wpAny _ _ (Builtin.SmallTypes.nextOf (.ref i1) >>= _) _ _ _
  have p1 := h1.ext e1.extBut D.i1z
  have q1 := hl1.ext e1.extBut D.l1z
  have out : ∀ {g : Heap} {e : Addr} {o : Obj}, IsZip g z TI TO .ellipsis → g.get? e = some o → o.cls = .type "StopIteration" → e ≠ z := fun {g e o} hz he hc n => by
    subst n
    rw [hz] at he
    cases he
    simp at hc
  cases hx : xs[k]? with
  | none =>
    refine wpAny_bind (next_no hh p1 q1 hx fun g2 e e2 ⟨o, ho, hc⟩ => ?_)
    have z2 : IsZip g2 z TI TO .ellipsis := e2 _ _ D.i1z.symm z1
    exact wpAny_setField_rec z2 (by simp) fun g3 _ e3 => hE g3 e (fun a o n1 _ n3 _ x => e3.extBut _ _ n1 (e2 _ _ n3 (e1.extBut _ _ n1 x))) ⟨o, e3.extBut _ _ (out z2 ho hc) ho, hc⟩
  | some x =>
    have hy : ys[k]? = none := by
      rcases hend with h | h
      · rw [hx] at h; cases h
      · exact h
    refine wpAny_bind (next_one p1 q1 hx fun g2 k1 e2 => wpAny_pure ?_)
    have t2 : IsPair g2 TO u v := e2.extBut _ _ D.TOi1 (e1.extBut _ _ D.TOz hTO)
    refine wpAny_bind (wpAny_seqItems t2 rfl (wpAny_bind (wpAny_updateSeq_pair t2 fun g3 t3 e3 => wpAny_bind (wpAny_letGo (wpAny_pure ?_)))))
    refine wpAny_bind (wpAny_bind (wpAny_onRaise ?_))
    show wpAny _ _ (Builtin.SmallTypes.nextOf (.ref i2) >>= _) _ _ _
    refine wpAny_bind (next_no hh (((h2.ext e1.extBut D.i2z).ext e2.extBut D.i12.symm).ext e3.extBut D.TOi2.symm) (((hl2.ext e1.extBut D.l2z).ext e2.extBut D.l2i1).ext e3.extBut D.l2TO) hy fun g4 e e4 ⟨o, ho, hc⟩ => ?_)
    have z4 : IsZip g4 z TI TO .ellipsis := e4 _ _ D.i2z.symm (e3.extBut _ _ D.TOz.symm (e2.extBut _ _ D.i1z.symm z1))
    exact wpAny_setField_rec z4 (by simp) fun g5 _ e5 => hE g5 e (fun a o n1 n2 n3 n4 x => e5.extBut _ _ n1 (e4 _ _ n4 (e3.extBut _ _ n2 (e2.extBut _ _ n3 (e1.extBut _ _ n1 x))))) ⟨o, e5.extBut _ _ (out z4 ho hc) ho, hc⟩
theorem pyNext_one {b c : Bool} {z TI TO i1 i2 l1 l2 : Addr} {k : Nat} {xs ys : Array Value} {x y u v : Value} {Q : Option Value → Shared → Prop} (D : ZipApart z TI TO i1 i2 l1 l2)
    (hz : IsZip s.heap z TI TO .none) (hTI : IsPair s.heap TI (.ref i1) (.ref i2)) (hTO : IsPair s.heap TO u v)
    (h1 : ItB b s.heap i1 l1 k) (h2 : ItB c s.heap i2 l2 k) (hl1 : SqB b s.heap l1 xs) (hl2 : SqB c s.heap l2 ys) (hx : xs[k]? = some x) (hy : ys[k]? = some y)
    (hQ : ∀ h', IsZip h' z TI TO (rawInt s.heap.objs.size) → IsPair h' TO x y → ItB b h' i1 l1 (k + 1) → ItB c h' i2 l2 (k + 1) → IsPair h' s.heap.objs.size x y → h'.objs.size = s.heap.objs.size + 1 →
      (∀ a o, a ≠ z → a ≠ TO → a ≠ i1 → a ≠ i2 → s.heap.get? a = some o → h'.get? a = some o) → Q (some (.ref s.heap.objs.size)) { s with heap := h' }) : wpAny (model prog w) A (pyNext (.ref z)) Q E s := by
  have t : s.TypeIs (.ref z) "zip" := ⟨_, hz, rfl⟩
  unfold pyNext
  exact wpAny_bind (wpAny_attempt (wpAny_callSpecial?_slot (name := Str.ofString "__next__") t F.slot_zip_next (wpAny_call_entry F.slot_zip_next t F.entry_zip_next
    (zip_one D hz hTI hTO h1 h2 hl1 hl2 hx hy fun g a1 a2 a3 a4 a5 a6 a7 => wpAny_pure (hQ g a1 a2 a3 a4 a5 a6 a7)) (F.args_zip_next_1 _))))
theorem pyNext_no {b c : Bool} {z TI TO i1 i2 l1 l2 : Addr} {k : Nat} {xs ys : Array Value} {u v : Value} {Q : Option Value → Shared → Prop} (hh : A.handled = none) (D : ZipApart z TI TO i1 i2 l1 l2)
    (hz : IsZip s.heap z TI TO .none) (hTI : IsPair s.heap TI (.ref i1) (.ref i2)) (hTO : IsPair s.heap TO u v)
    (h1 : ItB b s.heap i1 l1 k) (h2 : ItB c s.heap i2 l2 k) (hl1 : SqB b s.heap l1 xs) (hl2 : SqB c s.heap l2 ys) (hend : xs[k]? = none ∨ ys[k]? = none)
    (hQ : ∀ h', (∀ a o, a ≠ z → a ≠ TO → a ≠ i1 → a ≠ i2 → s.heap.get? a = some o → h'.get? a = some o) → Q none { s with heap := h' }) : wpAny (model prog w) A (pyNext (.ref z)) Q E s := by
  have t : s.TypeIs (.ref z) "zip" := ⟨_, hz, rfl⟩
  unfold pyNext
  refine wpAny_bind (wpAny_attempt (wpAny_callSpecial?_slot (name := Str.ofString "__next__") t F.slot_zip_next (wpAny_call_entry F.slot_zip_next t F.entry_zip_next
    (zip_no hh D hz hTI hTO h1 h2 hl1 hl2 hend fun g e hk ⟨o, ho, hc⟩ => ?_) (F.args_zip_next_1 _))))
  exact wpAny_bind (wpAny_isInstance (T := "StopIteration") (b := true) ⟨o, ho, hc⟩ isSubtype_stop (wpAny_pure (hQ _ hk)))
end
/-- the object of an iterator just made -/
def itO (b : Bool) (l : Addr) : Obj := match b with | true => { cls := .type "list_iterator", data := .fields #[.ref l, .int 0 0] } | false => { cls := .type "tuple_iterator", data := .fields #[.ref l, .int 0 0] }
abbrev hp1 (b : Bool) (h : Heap) (l : Addr) : Heap := h.push (itO b l)
abbrev hp2 (b c : Bool) (h : Heap) (l m : Addr) : Heap := hp1 c (hp1 b h l) m
abbrev hp3 (b c : Bool) (h : Heap) (l m : Addr) : Heap := (hp2 b c h l m).push { cls := .type "tuple", data := .seq #[.ref h.objs.size, .ref (hp1 b h l).objs.size] }
abbrev hp4 (b c : Bool) (h : Heap) (l m : Addr) : Heap := (hp3 b c h l m).push { cls := .type "tuple", data := .seq #[.none, .none] }
abbrev hp5 (b c : Bool) (h : Heap) (l m : Addr) : Heap := (hp4 b c h l m).push { cls := .type "zip", data := .fields #[.none, .bool false, .bool false, .ref (hp2 b c h l m).objs.size, .ref (hp3 b c h l m).objs.size] }
theorem made_LT (l m : Addr) (xs ys : Array Value) : Meets (Builtin.«zip.__new__» ⟨[.type "zip", .ref l, .ref m], []⟩) (fun _ R s => (s.heap.IsList l xs ∧ s.heap.IsTuple m ys) ∧ R (.ok (.ret (.ref (hp4 true false s.heap l m).objs.size))) { s with heap := hp5 true false s.heap l m }) :=
  .of_wp fun prog w A R s h => by
    obtain ⟨hp, g, d, tk, os⟩ := s; obtain ⟨⟨hl, hm⟩, h⟩ := h
    have hsub := sub_zip
    have hL1 : Heap.IsList (Shared.heap ⟨hp, g, d, tk, os⟩) l xs := hl
    have hL2 : Heap.IsTuple (Shared.heap ⟨hp.push { cls := .type "list_iterator", data := .fields #[.ref l, .int 0 0] }, g, d, tk, os⟩) m ys := Heap.IsTuple.push hm _
    wp_walk using wpAny_pyIter_list hL1, wpAny_pyIter_tuple hL2
    exact ⟨_, rfl, h⟩
theorem made_TL (l m : Addr) (xs ys : Array Value) : Meets (Builtin.«zip.__new__» ⟨[.type "zip", .ref l, .ref m], []⟩) (fun _ R s => (s.heap.IsTuple l xs ∧ s.heap.IsList m ys) ∧ R (.ok (.ret (.ref (hp4 false true s.heap l m).objs.size))) { s with heap := hp5 false true s.heap l m }) :=
  .of_wp fun prog w A R s h => by
    obtain ⟨hp, g, d, tk, os⟩ := s; obtain ⟨⟨hl, hm⟩, h⟩ := h
    have hsub := sub_zip
    have hL1 : Heap.IsTuple (Shared.heap ⟨hp, g, d, tk, os⟩) l xs := hl
    have hL2 : Heap.IsList (Shared.heap ⟨hp.push { cls := .type "tuple_iterator", data := .fields #[.ref l, .int 0 0] }, g, d, tk, os⟩) m ys := Heap.IsList.push hm _
    wp_walk using wpAny_pyIter_tuple hL1, wpAny_pyIter_list hL2
    exact ⟨_, rfl, h⟩
theorem itO_it {b : Bool} {h : Heap} {a l : Addr} (e : h.get? a = some (itO b l)) : ItB b h a l 0 := by
  cases b with
  | true => exact ⟨_, e, rfl, rfl⟩
  | false => exact ⟨_, e, rfl, rfl⟩
theorem itO_live (b : Bool) (l : Addr) : (itO b l).isFreed = false := by cases b <;> rfl
section
variable {prog : Program} {w : World} {A : Around} {E : Value → Shared → Prop} {s : Shared}
theorem made_at (b c : Bool) (h : Heap) (l m : Addr) : (hp4 b c h l m).objs.size = h.objs.size + 4 ∧ IsZip (hp5 b c h l m) (h.objs.size + 4) (h.objs.size + 2) (h.objs.size + 3) .none ∧ IsPair (hp5 b c h l m) (h.objs.size + 2) (.ref h.objs.size) (.ref (h.objs.size + 1)) ∧
    IsPair (hp5 b c h l m) (h.objs.size + 3) .none .none ∧ ItB b (hp5 b c h l m) h.objs.size l 0 ∧ ItB c (hp5 b c h l m) (h.objs.size + 1) m 0 ∧ ∀ a o, h.get? a = some o → (hp5 b c h l m).get? a = some o := by
  have z1 : (hp1 b h l).objs.size = h.objs.size + 1 := Heap.size_push ..
  have z2 : (hp2 b c h l m).objs.size = h.objs.size + 2 := by rw [Heap.size_push, z1]
  have z3 : (hp3 b c h l m).objs.size = h.objs.size + 3 := by rw [Heap.size_push, z2]
  have z4 : (hp4 b c h l m).objs.size = h.objs.size + 4 := by rw [Heap.size_push, z3]
  have up : ∀ {g : Heap} {o : Obj} {a : Addr} {q : Obj}, g.get? a = some q → (g.push o).get? a = some q := fun e => Heap.get?_push_of_some _ e
  have g5 : (hp5 b c h l m).get? (hp4 b c h l m).objs.size = some _ := Heap.get?_push_size _ rfl
  have g4 : (hp5 b c h l m).get? (hp3 b c h l m).objs.size = some _ := up (Heap.get?_push_size _ rfl)
  have g3 : (hp5 b c h l m).get? (hp2 b c h l m).objs.size = some _ := up (up (Heap.get?_push_size _ rfl))
  have g2 : (hp5 b c h l m).get? (hp1 b h l).objs.size = some (itO c m) := up (up (up (Heap.get?_push_size _ (itO_live c m))))
  have g1 : (hp5 b c h l m).get? h.objs.size = some (itO b l) := up (up (up (up (Heap.get?_push_size _ (itO_live b l)))))
  rw [z1] at g2
  refine ⟨z4, ?_, ?_, ?_, itO_it g1, itO_it g2, fun a o e => up (up (up (up (up e))))⟩
  · rw [z4, z2, z3] at g5
    exact g5
  · rw [z2, z1] at g3
    exact g3
  · rw [z3] at g4
    exact g4
theorem call_M {b c : Bool} {l m : Addr} {xs ys : Array Value} {Q : Value → Shared → Prop} (bc : b ≠ c) (hl : SqB b s.heap l xs) (hm : SqB c s.heap m ys)
    (h : ∀ g, IsZip g (s.heap.objs.size + 4) (s.heap.objs.size + 2) (s.heap.objs.size + 3) .none → IsPair g (s.heap.objs.size + 2) (.ref s.heap.objs.size) (.ref (s.heap.objs.size + 1)) → IsPair g (s.heap.objs.size + 3) .none .none →
      ItB b g s.heap.objs.size l 0 → ItB c g (s.heap.objs.size + 1) m 0 → (∀ a o, s.heap.get? a = some o → g.get? a = some o) → Q (.ref (s.heap.objs.size + 4)) { s with heap := g }) :
    wpAny (model prog w) A (call (.type "zip") [.ref l, .ref m]) Q E s := by
  obtain ⟨e, a1, a2, a3, a4, a5, a6⟩ := made_at b c s.heap l m
  have fin := h _ a1 a2 a3 a4 a5 a6
  rw [← e] at fin
  match b, c, bc with
  | true, false, _ => exact callType_new F.called_zip (by decide) (F.typeCall_zip_2 _ _) (F.newCall_zip_2 _ _) (fun obj => F.args_object_init_3 obj _ _) F.entry_zip_new (made_LT l m xs ys) ⟨⟨hl, hm⟩, ⟨_, by rw [e]; exact a1, rfl⟩, fin⟩
  | false, true, _ => exact callType_new F.called_zip (by decide) (F.typeCall_zip_2 _ _) (F.newCall_zip_2 _ _) (fun obj => F.args_object_init_3 obj _ _) F.entry_zip_new (made_TL l m xs ys) ⟨⟨hl, hm⟩, ⟨_, by rw [e]; exact a1, rfl⟩, fin⟩
  | true, true, h => exact absurd rfl h
  | false, false, h => exact absurd rfl h
end
def SqX (b : Bool) (K : PySem.W.Frag) (H : Hp) (a : Addr) (xs : List V) : Prop := match b with | true => SqL K H a xs | false => SqT K H a xs
section
variable {X : Cx} {pins : List (Addr × Obj)} {σ : List (Option V)} {H : Hp} {s : Shared}
theorem sq_at {b : Bool} {a : Addr} {xs : List V} (I : Inv X pins σ H s) (h : SqX b X.K H a xs) : ∃ its, Vals xs its ∧ SqB b s.heap a its.toArray ∧ a < s.heap.objs.size := by
  cases b with
  | true =>
    obtain ⟨its, rv, p, _⟩ := I.list h
    exact ⟨its, rv, p.isList, p.lt⟩
  | false =>
    obtain ⟨its, rv, p, _⟩ := I.tuple h
    obtain ⟨o, ho, _⟩ := id p
    exact ⟨its, rv, p, Heap.lt_size ho⟩
theorem sq_one {b : Bool} {a : Addr} {xs ys : List V} (I : Inv X pins σ H s) (h : SqX b X.K H a xs) (g : SqX b X.K H a ys) : xs = ys := by
  cases b with
  | true => exact I.list_inj h g
  | false => exact I.tuple_inj h g
end
/-- the two at a and d as they stand at each turn, the items in new pairs -/
def ItzM (K : PySem.W.Frag) (b c : Bool) (a d : Addr) : It :=
  ⟨fun i H => ∃ (xs ys : List V) (x y : V), SqX b K H a xs ∧ SqX c K H d ys ∧ xs[i]? = some x ∧ ys[i]? = some y,
    fun i H v H' => ∃ T x y, v = .ref T ∧ H T = none ∧ H' = upd H T (.tup [x, y]) ∧ (∀ xs, SqX b K H a xs → xs[i]? = some x) ∧ ∀ ys, SqX c K H d ys → ys[i]? = some y,
    fun i H => ∃ xs ys : List V, SqX b K H a xs ∧ SqX c K H d ys ∧ (xs.length ≤ i ∨ ys.length ≤ i)⟩
theorem turn_M {P : Program} {w : World} {K : PySem.W.Frag} {elts : List Expr} {kk : Nat} {tpos : Pos} {b c : Bool} {a d z TI TO i1 i2 : Addr} (D : ZipApart z TI TO i1 i2 a d) :
    Turn P w K (.Tuple elts kk tpos) (ItzM K b c a d) [z, TI, TO, i1, i2] z (fun i h => IsZip h z TI TO .none ∧ IsPair h TI (.ref i1) (.ref i2) ∧ (∃ x y, IsPair h TO x y) ∧ ItB b h i1 a i ∧ ItB c h i2 d i) where
  mem := by simp
  obj := fun i h st q hq => by
    obtain ⟨hz, hTI, ⟨x, y, hTO⟩, h1, h2⟩ := st
    have ne : ∀ {j : Addr} {o : Obj}, h.get? j = some o → (∃ fs, o.data = .fields fs) → ∃ o, h.get? j = some o ∧ ∀ v, o.data ≠ .cell v := fun e ⟨fs, d⟩ => ⟨_, e, fun v g => by rw [d] at g; cases g⟩
    simp only [List.mem_cons, List.not_mem_nil, or_false] at hq
    rcases hq with rfl | rfl | rfl | rfl | rfl
    · exact ⟨_, hz, fun v g => nomatch g⟩
    · exact ⟨_, hTI, fun v g => nomatch g⟩
    · exact ⟨_, hTO, fun v g => nomatch g⟩
    · obtain ⟨o, e, f⟩ := h1.ob; exact ne e f
    · obtain ⟨o, e, f⟩ := h2.ob; exact ne e f
  keep := fun i h h' st k => by
    obtain ⟨hz, hTI, ⟨x, y, hTO⟩, h1, h2⟩ := st
    exact ⟨k z (by simp) _ hz, k TI (by simp) _ hTI, ⟨x, y, k TO (by simp) _ hTO⟩, h1.mv fun o q => k i1 (by simp) o q, h2.mv fun o q => k i2 (by simp) o q⟩
  item := by
    intro X hP hw hK hc i pins s σ H E I hf st hg
    subst hP hw hK
    obtain ⟨hz, hTI, ⟨x0, y0, hTO⟩, h1, h2⟩ := st
    obtain ⟨xs, ys, x, y, hqx, hqy, hx, hy⟩ := hg
    obtain ⟨its, rv, p, _⟩ := sq_at I hqx
    obtain ⟨its2, rv2, p2, _⟩ := sq_at I hqy
    obtain ⟨u, hu, ru⟩ := rv.get hx
    obtain ⟨u2, hu2, ru2⟩ := rv2.get hy
    have zl : z < s.heap.objs.size := Heap.lt_size hz
    refine pyNext_one D hz hTI hTO h1 h2 p p2 (x := u) (y := u2) (by simpa using hu) (by simpa using hu2) fun g z' TO' k1 k2 hT hsz hk => ?_
    refine ⟨_, rfl, wpAny_letOwnedTupleGo_zip (s := { s with heap := g }) z' fun g2 z2 sb => ?_⟩
    have T2 : g2.get? s.heap.objs.size = some { cls := .type "tuple", data := .seq #[u, u2] } := (sb.2 _ (Nat.ne_of_gt zl)).trans hT
    have new : ObjOk X.prog X.w (upd H s.heap.objs.size (.tup [x, y])) g2 s.heap.objs.size (.tup [x, y]) := ⟨by show 2 ≤ sizeLine; decide, [u, u2], .cons ru (.cons ru2 .nil), ⟨_, T2, rfl, _, rfl⟩⟩
    have kp : ∀ q o, q ∉ [z, TI, TO, i1, i2] → s.heap.get? q = some o → g2.get? q = some o := fun q o hn e => by
      simp only [List.mem_cons, List.not_mem_nil, or_false, not_or] at hn
      exact (sb.2 q hn.1).trans (hk q o hn.1 hn.2.2.1 hn.2.2.2.1 hn.2.2.2.2 e)
    have I1 : Inv X pins σ (upd H s.heap.objs.size (.tup [x, y])) { s with heap := g2 } := I.turnedNew (t' := s.toks) (ch := [z, TI, TO, i1, i2]) kp hf (Nat.le_refl _) new
    refine ⟨.ref s.heap.objs.size, _, I1, rfl, ⟨_, x, y, rfl, I.hok.fresh (Nat.le_refl _), rfl, fun l hl => by rw [sq_one I hl hqx]; exact hx, fun l hl => by rw [sq_one I hl hqy]; exact hy⟩, ⟨z2, ?_, ⟨u, u2, ?_⟩, ?_, ?_⟩, fun q hqm => ?_⟩
    · exact (sb.2 _ D.TIz).trans (hk _ _ D.TIz D.TITO D.TIi1 D.TIi2 hTI)
    · exact (sb.2 _ D.TOz).trans TO'
    · exact k1.mv fun o e => (sb.2 _ D.i1z).trans e
    · exact k2.mv fun o e => (sb.2 _ D.i2z).trans e
    · have lt : q < s.heap.objs.size := by
        simp only [List.mem_cons, List.not_mem_nil, or_false] at hqm
        rcases hqm with rfl | rfl | rfl | rfl | rfl
        · exact zl
        · exact Heap.lt_size hTI
        · exact Heap.lt_size hTO
        · obtain ⟨_, e, _⟩ := h1.ob; exact Heap.lt_size e
        · obtain ⟨_, e, _⟩ := h2.ob; exact Heap.lt_size e
      rw [upd_ne (Nat.ne_of_lt lt)]
      exact (hf q hqm).1
  done := by
    intro X hP hw hK hc i pins s σ H E I hf st hg
    subst hP hw hK
    obtain ⟨hz, hTI, ⟨x0, y0, hTO⟩, h1, h2⟩ := st
    obtain ⟨xs, ys, hqx, hqy, hend⟩ := hg
    obtain ⟨its, rv, p, _⟩ := sq_at I hqx
    obtain ⟨its2, rv2, p2, _⟩ := sq_at I hqy
    have l1 := rv.length
    have l2 := rv2.length
    have he : its.toArray[i]? = none ∨ its2.toArray[i]? = none := by
      rcases hend with q | q
      · exact .inl (by simp; omega)
      · exact .inr (by simp; omega)
    exact pyNext_no (I.ok.hd hc) D hz hTI hTO h1 h2 p p2 he fun g hk => ⟨rfl, I.turnedL (t' := s.toks) (ch := [z, TI, TO, i1, i2]) (fun q o hn e => by
      simp only [List.mem_cons, List.not_mem_nil, or_false, not_or] at hn
      exact hk q o hn.1 hn.2.2.1 hn.2.2.2.1 hn.2.2.2.2 e) hf⟩
  self := fun A i s Q E st h => wpAny_pyIter_zip st.1 h
/-- zip(e, e2) of a list and a tuple, either way round -/
def iZipM (K : PySem.W.Frag) (ta : TA) : TI := fun σ H R => ta σ H fun vs H1 => ∃ (a d : Addr) (xs ys : List V) (b c : Bool), vs = [.ref a, .ref d] ∧ b ≠ c ∧ SqX b K H1 a xs ∧ SqX c K H1 d ys ∧ R (ItzM K b c a d) H1
theorem pi_zipM {X : Cx} {e e2 : Expr} {ta : TA} {p pos tpos : Pos} {elts : List Expr} {kk : Nat} (hg : Gl X "zip") (hm : X.mg "zip" = none) (ha : PA X [e, e2] ta)
    (hs : starEach [e, e2] X.env = (false, eval e X.env) :: starEach [e2] X.env := by rfl) (hpl : (backTo pos (starEach [e2] X.env)).any (·.1) = false := by rfl) :
    PI X (.Tuple elts kk tpos) (.Call (.Name "zip" p) [e, e2] [] pos) (iZipM X.K ta) := by
  refine ⟨fun pins s σ H R I h => ?_⟩
  refine Call_ (ld_blt I hg hm PyProof.Rows.boot_zip (PyProof.Rows.callWith_type1 (thn (ha.run pos pins s σ H _ I h) fun us s1 ⟨vs, H1, I1, r1, q1⟩ => ?_) hs hpl))
  obtain ⟨a, d, xs, ys, b, c, ex, bc, hqx, hqy, q⟩ := q1
  subst ex
  cases r1 with
  | cons r rr =>
    cases rr with
    | cons r' rr =>
      cases rr
      cases r
      cases r'
      obtain ⟨its, rv, p1, la⟩ := sq_at I1 hqx
      obtain ⟨its2, rv2, p2, ld⟩ := sq_at I1 hqy
      refine call_M bc p1 p2 fun g hz hTI hTO h1 h2 hk => wpAny_pyIter_zip hz ?_
      have I2 : Inv X pins σ H1 { s1 with heap := g } := I1.kept (t' := s1.toks) hk
      refine ⟨s1.heap.objs.size + 4, [s1.heap.objs.size + 4, s1.heap.objs.size + 2, s1.heap.objs.size + 3, s1.heap.objs.size, s1.heap.objs.size + 1], _, _, H1, rfl, I2, turn_M (PySem.W.ktu_apart s1.heap.objs.size a d la ld), ⟨hz, hTI, ⟨_, _, hTO⟩, h1, h2⟩, fun q hq => ?_, q⟩
      have le : s1.heap.objs.size ≤ q := by
        simp only [List.mem_cons, List.not_mem_nil, or_false] at hq
        rcases hq with e | e | e | e | e
        · rw [e]; exact Nat.le_add_right _ _
        · rw [e]; exact Nat.le_add_right _ _
        · rw [e]; exact Nat.le_add_right _ _
        · rw [e]; exact Nat.le_refl _
        · rw [e]; exact Nat.le_add_right _ _
      exact I1.fpOk le (I1.hok.fresh le)
theorem walk_M {K : PySem.W.Frag} {a d : Addr} {xs ys : List V} {b c : Bool} {n : Nat} (hn : n = min xs.length ys.length) : Walk (ItzM K b c a d) n (fun H => SqX b K H a xs ∧ SqX c K H d ys) (YPair (fun i => xs[i]?) (fun i => ys[i]?)) := by
  subst hn
  refine ⟨fun i _ hi q => ?_, fun _ q => ⟨xs, ys, q.1, q.2, by omega⟩, fun i H v H' _ q y => ?_⟩
  · have h1 : i < xs.length := by omega
    have h2 : i < ys.length := by omega
    exact ⟨xs, ys, xs[i], ys[i], q.1, q.2, by simp [h1], by simp [h2]⟩
  · obtain ⟨T, x, z, h1, h2, h3, h4, h5⟩ := y
    exact ⟨T, x, z, h1, h2, h3, h4 xs q.1, h5 ys q.2⟩
end Zm

namespace Xo
open PySem PySem.Spec PyProof.Rows L2
/-- X(), X an own exception class without own __init__ -/
theorem pmk_own0 {X : Cx} {C : Addr} {bmB : List Value} {B newId initId : String} {x : Str} {p pos : Pos} (F : ExcBaseFacts B newId initId bmB) (q : PySem.W.excIn X.K C bmB newId = true) (gC : X.mg x = some (.ref C))
    (kC : PySem.W.keepIn X.K (.ref C) = true) (r : Raises X (.ref C)) (hg : Gl X x) (hdb : (x == ("__debug__" : Str)) = false := by decide) : PMk X (.Call (.Name x p) [] [] pos) (fun _ H Q => Q (.ref C) none H) := by
  intro pins s σ H Q I h
  refine wpAny_Call_Name_kw (ld_glob I hg gC (PySem.W.callWith_K0 I.kIn kC ?_) hdb)
  obtain ⟨bm, N, nm, qn, bs, hdct, sn, sub, ab, col, dd, k0, k1, k2, k3, k5, mN, hC, hN, hni, T⟩ := exc_obj I.kIn q
  exact wpAny_call_exc_subT F T hC hN hni (fun h' e hm => mk_of I hm r h (I.hok.gone hm.new)) (Nat.zero_le _)
end Xo

/-! a dict whose keys are tuples that stand anywhere: in the run's own part or in the written one -/
namespace Dk
open PySem PySem.Spec PyProof.Rows L2
/-- an entry: what the key's tuple holds, where it stands, the value -/
abbrev En := List Key × Addr × V
abbrev RelE : List En → List (List Key × Addr × Value) → Prop := Paired fun p q => p.1 = q.1 ∧ p.2.1 = q.2.1 ∧ RelV p.2.2 q.2.2
def DkR (P : Program) (w : World) (h : Heap) (a : Addr) (xs : List En) : Prop := xs.length ≤ sizeLine ∧ (a == sysModules) = false ∧ ∃ vs, RelE xs vs ∧
  ∃ o es ep, h.get? a = some o ∧ o.ExactDict ∧ o.data = .dict es ep ∧ es.toList = vs.map (entryOfKey (tupleKind (mixKind P w))) ∧ (vs.map (·.1)).Nodup
def DkO (P : Program) (w : World) (a : Addr) (xs : List En) : HO := .ext fun h => DkR P w h a xs
def Keys (K : PySem.W.Frag) (H : Hp) (xs : List En) : Prop := ∀ x ∈ xs, SqT K H x.2.1 (x.1.map kV)
def valE (xs : List En) (k : List Key) : Option V := (xs.find? fun x => decide (x.1 = k)).map (·.2.2)
def putE (xs : List En) (k : List Key) (b : Addr) (y : V) : List En := if (valE xs k).isSome = true then xs.map fun x => if x.1 = k then (x.1, x.2.1, y) else x else xs ++ [(k, b, y)]
theorem putE_len (xs : List En) (k : List Key) (b : Addr) (y : V) : (putE xs k b y).length ≤ xs.length + 1 := by
  unfold putE
  split
  · rw [List.length_map]; omega
  · rw [List.length_append]; exact Nat.le_refl _
theorem RelE.val {xs : List En} {vs : List (List Key × Addr × Value)} (r : RelE xs vs) (k : List Key) : RelO (valE xs k) ((atKey vs k).map (·.2)) := by
  induction r with
  | nil => exact True.intro
  | @cons p q ps qs h t ih =>
    obtain ⟨h1, _, h2⟩ := h
    by_cases e : p.1 = k
    · have e' : q.1 = k := h1.symm.trans e
      have b : atKey (q :: qs) k = some q.2 := by simp [atKey, List.find?_cons, e']
      have c : valE (p :: ps) k = some p.2.2 := by simp [valE, List.find?_cons, e]
      rw [b, c]; exact h2
    · have e' : ¬ q.1 = k := fun z => e (h1.trans z)
      have b : atKey (q :: qs) k = atKey qs k := by simp [atKey, List.find?_cons, e']
      have c : valE (p :: ps) k = valE ps k := by simp [valE, List.find?_cons, e]
      rw [b, c]; exact ih
theorem RelE.repl {xs : List En} {vs : List (List Key × Addr × Value)} (r : RelE xs vs) (k : List Key) {y : V} {u : Value} (ry : RelV y u) : RelE (xs.map fun x => if x.1 = k then (x.1, x.2.1, y) else x) (vs.map (putAt k u)) := by
  induction r with
  | nil => exact .nil
  | @cons p q ps qs h t ih =>
    rw [List.map_cons, List.map_cons]
    refine .cons ?_ ih
    obtain ⟨h1, h2, h3⟩ := h
    unfold putAt
    by_cases e : p.1 = k
    · rw [if_pos e, if_pos (h1.symm.trans e)]; exact ⟨h1, h2, ry⟩
    · rw [if_neg e, if_neg (fun z => e (h1.trans z))]; exact ⟨h1, h2, h3⟩
theorem RelE.put {xs : List En} {vs : List (List Key × Addr × Value)} (r : RelE xs vs) (k : List Key) {b : Addr} {y : V} {u : Value} (ry : RelV y u) : RelE (putE xs k b y) (storedH vs k b u) := by
  have e : (valE xs k).isSome = (atKey vs k).isSome := by rw [(r.val k).isSome_eq, Option.isSome_map]
  unfold putE storedH
  rw [e]
  by_cases q : (atKey vs k).isSome = true
  · rw [if_pos q, if_pos q]; exact r.repl k ry
  · rw [if_neg q, if_neg q]; exact Paired.snoc r ⟨rfl, rfl, ry⟩
section
variable {P : Program} {w : World} {H : Hp} {h h1 h2 : Heap} {a : Addr} {xs : List En}
theorem DkR.mv (r : DkR P w h1 a xs) (k : ∀ o, h1.get? a = some o → h2.get? a = some o) : DkR P w h2 a xs := by
  obtain ⟨z, s, vs, rel, o, es, ep, g, r⟩ := r
  exact ⟨z, s, vs, rel, o, es, ep, k _ g, r⟩
theorem dk_ok (r : DkR P w h a xs) : ObjOk P w H h a (DkO P w a xs) := ⟨r, let ⟨_, _, _, _, o, _, _, g, _⟩ := r; ⟨o, g⟩, fun _ _ p k => p.mv k⟩
end
section
variable {X : Cx} {pins : List (Addr × Obj)} {σ : List (Option V)} {H : Hp} {s : Shared} {a b : Addr} {xs : List En} {k : List Key} {v : V} {u r : Value} {A : Around} {E : Value → Shared → Prop}
theorem dk_get (I : Inv X pins σ H s) (ha : H a = some (DkO X.prog X.w a xs)) : DkR X.prog X.w s.heap a xs := (I.hok a _ ha).1
theorem key_is (I : Inv X pins σ H s) (hq : SqT X.K H b (k.map kV)) : (tupleKind (mixKind X.prog X.w)).is s.heap k b := by
  obtain ⟨its, rv, p, _⟩ := I.tuple hq
  obtain ⟨o, h1, h2, n, h3⟩ := p
  exact ⟨o, its.toArray, n, h1, h2, h3, by simpa using items_are rv⟩
theorem dk_of (I : Inv X pins σ H s) (ha : H a = some (DkO X.prog X.w a xs)) (hk : Keys X.K H xs) : xs.length ≤ sizeLine ∧ (a == sysModules) = false ∧ ∃ vs, RelE xs vs ∧ s.heap.DictOfH (tupleKind (mixKind X.prog X.w)) a vs := by
  obtain ⟨z, n, vs, rel, o, es, ep, g, e1, e2, e3, e4⟩ := dk_get I ha
  refine ⟨z, n, vs, rel, o, es, ep, g, e1, e2, e3, ?_, e4⟩
  clear z e3 e4 e2 e1 g n ha
  induction rel with
  | nil => intro x hx; exact nomatch hx
  | @cons p q ps qs hq t ih =>
    intro x hx
    rcases List.mem_cons.mp hx with e | hx
    · subst e
      rw [← hq.1, ← hq.2.1]
      exact key_is I (hk p List.mem_cons_self)
    · exact ih (fun y hy => hk y (List.mem_cons_of_mem _ hy)) x hx
theorem e_get {Q : Value → Shared → Prop} (hu : A.units + 1 < cLine) (I : Inv X pins σ H s) (ha : H a = some (DkO X.prog X.w a xs)) (hk : Keys X.K H xs) (hb : SqT X.K H b (k.map kV)) (l : valE xs k = some v)
    (h : ∀ w' s', Inv X pins σ H s' → RelV v w' → Q w' s') : wpAny (model X.prog X.w) A (getItem (.ref a) (.ref b)) Q E s := by
  obtain ⟨z, n, vs, rel, dd⟩ := dk_of I ha hk
  obtain ⟨w', hw, rw'⟩ := RelO.some_of (v := v) (o := (atKey vs k).map (·.2)) (by rw [← l]; exact rel.val k)
  obtain ⟨p, hp, hp2⟩ := Option.map_eq_some_iff.mp hw
  refine wpAny_getItem_heap (tupleKind_room_in1 hu) (key_is I hb) dd hp ?_
  rw [hp2]
  exact h w' _ (I.tok _) rw'
theorem e_in {Q : Value → Shared → Prop} (hu : A.units + 1 < cLine) (I : Inv X pins σ H s) (ha : H a = some (DkO X.prog X.w a xs)) (hk : Keys X.K H xs) (hb : SqT X.K H b (k.map kV))
    (h : ∀ s', Inv X pins σ H s' → Q (.bool (valE xs k).isSome) s') : wpAny (model X.prog X.w) A (compareOp .In (.ref b) (.ref a)) Q E s := by
  obtain ⟨z, n, vs, rel, dd⟩ := dk_of I ha hk
  refine wpAny_in_heap (tupleKind_room_in1 hu) (key_is I hb) n dd ?_
  have q := (rel.val k).isSome_eq
  rw [Option.isSome_map] at q
  rw [← q]
  exact h _ (I.tok _)
theorem e_set {Q : Unit → Shared → Prop} (hu : A.units + 1 < cLine) (I : Inv X pins σ H s) (ha : H a = some (DkO X.prog X.w a xs)) (hk : Keys X.K H xs) (hb : SqT X.K H b (k.map kV)) (hl : xs.length < sizeLine) (rv : RelV v r)
    (h : ∀ s', Inv X pins σ (upd H a (DkO X.prog X.w a (putE xs k b v))) s' → Q () s') : wpAny (model X.prog X.w) A (setItem (.ref a) (.ref b) r) Q E s := by
  obtain ⟨z, n, vs, rel, dd⟩ := dk_of I ha hk
  have hz : vs.length ≤ sizeLine := by rw [← Paired.length rel]; exact z
  have hl2 : (putE xs k b v).length ≤ sizeLine := by have := putE_len xs k b v; omega
  refine wpAny_setItem_heap (hsz := hz) (tupleKind_room_in1 hu) (key_is I hb) dd fun h' dd' hs => h _ ?_
  obtain ⟨q, es, ep, hq, h2, h3, h4, _, h5⟩ := dd'
  exact d_write I (by rw [ha]; exact True.intro) hs ⟨q, hq⟩ (dk_ok ⟨hl2, n, _, rel.put k rv, q, es, ep, hq, h2, h3, h4, h5⟩)
end
section
variable {X : Cx} {o i e value : Expr} {pos pos' : Pos} {td ty tv : TE}
theorem e_type {pins : List (Addr × Obj)} {σ : List (Option V)} {H : Hp} {s : Shared} {a : Addr} {xs : List En} (I : Inv X pins σ H s) (ha : H a = some (DkO X.prog X.w a xs)) : s.TypeIs (.ref a) "dict" := by
  obtain ⟨_, _, _, _, o, _, _, g, e, _⟩ := dk_get I ha
  exact ⟨o, g, e.1⟩
/-- d[y] -/
def tEGet (P : Program) (w : World) (K : PySem.W.Frag) (td ty : TE) : TE := fun σ H Q => td σ H fun x H1 => ty σ H1 fun y H2 => ∃ a b xs k v, x = .ref a ∧ y = .ref b ∧ H2 a = some (DkO P w a xs) ∧ Keys K H2 xs ∧ SqT K H2 b (k.map kV) ∧ valE xs k = some v ∧ Q v H2
theorem pe_eget (hu : X.A.units + 1 < cLine) (ho : PE X o td) (hi : PE X i ty) (hs : NoSl i) : PE X (.Subscript o i pos) (tEGet X.prog X.w X.K td ty) := by
  refine ⟨fun pins s σ H Q I h => ?_⟩
  refine subD_of PySem.F.slot_dict_getitem.lookup hs (thn (ho.run pins s σ H _ I h) fun u s1 ⟨x, H1, I1, rx, q1⟩ => thn (hi.run pins s1 σ H1 _ I1 q1) fun iv s2 ⟨y, H2, I2, ry, a, b, xs, k, v, ex, ey, ha, hk, hb, l, q2⟩ => ?_)
  subst ex ey
  obtain rfl : u = Value.ref a := rx
  obtain rfl : iv = Value.ref b := ry
  exact ⟨e_type I2 ha, e_get hu I2 ha hk hb l fun w' s3 I3 rw' => ⟨v, H2, I3, rw', q2⟩⟩
/-- y in d -/
def rInE (P : Program) (w : World) (K : PySem.W.Frag) : R2 := fun y x H Q => ∃ a b xs k, x = .ref a ∧ y = .ref b ∧ H a = some (DkO P w a xs) ∧ Keys K H xs ∧ SqT K H b (k.map kV) ∧ Q (.bl (valE xs k).isSome) H
theorem op_inE (hu : X.A.units + 1 < cLine) : OpR X (compareOp .In) (rInE X.prog X.w X.K) := by
  intro pins s σ H y x iv u Q I ry rx h
  obtain ⟨a, b, xs, k, ex, ey, ha, hk, hb, q⟩ := h
  subst ex ey
  obtain rfl : u = Value.ref a := rx
  obtain rfl : iv = Value.ref b := ry
  exact e_in hu I ha hk hb fun s3 I3 => ⟨.bl (valE xs k).isSome, H, I3, rfl, q⟩
/-- d[y] = v -/
def sEPut (P : Program) (w : World) (K : PySem.W.Frag) (td ty tv : TE) : TS := fun D σ H => tv σ H fun v H1 => td σ H1 fun x H2 => ty σ H2 fun y H3 => ∃ a b xs k, x = .ref a ∧ y = .ref b ∧ H3 a = some (DkO P w a xs) ∧ Keys K H3 xs ∧ SqT K H3 b (k.map kV) ∧ xs.length < sizeLine ∧
  D.nx σ (upd H3 a (DkO P w a (putE xs k b v)))
theorem ps_eput (hu : X.A.units + 1 < cLine) (ho : PE X o td) (hi : PE X i ty) (hv : PE X value tv) (hs : swapsWith value (some (.Subscript o i pos')) pos.line X.env = pure false) : PS X (.Assign [.Subscript o i pos'] value pos) (sEPut X.prog X.w X.K td ty tv) := by
  refine ⟨fun pins s σ H D I h => ?_⟩
  refine wpAny_Assign_Subscript (thn (hv.run pins s σ H _ I h) fun r s1 ⟨v, H1, I1, rv, q1⟩ => thn (ho.run pins s1 σ H1 _ I1 q1) fun u s2 ⟨x, H2, I2, rx, q2⟩ => thn (hi.run pins s2 σ H2 _ I2 q2) fun iv s3 ⟨y, H3, I3, ry, a, b, xs, k, ex, ey, ha, hk, hb, l, q3⟩ => ?_) hs
  subst ex ey
  obtain rfl : u = Value.ref a := rx
  obtain rfl : iv = Value.ref b := ry
  exact e_set hu I3 ha hk hb l rv fun s4 I4 => ⟨σ, _, I4, q3⟩
/-- {} -/
def tENew (P : Program) (w : World) : TE := fun _ H Q => ∀ p, H p = none → Q (.ref p) (upd H p (DkO P w p []))
theorem e_empty {P : Program} {w : World} (h : Heap) (hb : sysModules < h.objs.size) : DkR P w (h.push { cls := .type "dict", data := .dict #[] }) h.objs.size [] :=
  ⟨Nat.zero_le _, beq_eq_false_iff_ne.mpr (Ne.symm (Nat.ne_of_lt hb)), [], .nil, _, #[], 0, Heap.get?_push_size _ rfl, ⟨rfl, rfl, rfl⟩, rfl, rfl, List.nodup_nil⟩
theorem pe_enew : PE X (.Dict [] [] pos) (tENew X.prog X.w) := ⟨fun pins s σ H Q I h =>
  wpAny_Dict_empty ⟨.ref s.heap.objs.size, _, I.laid (a := s.heap.objs.size) (o := DkO X.prog X.w s.heap.objs.size []) (t' := s.toks) (fun _ _ q => Heap.get?_push_of_some _ q) (Nat.le_refl _) (dk_ok (e_empty s.heap I.big)), rfl, h _ (I.hok.fresh (Nat.le_refl _))⟩⟩
end
theorem RelE.at {xs : List En} {vs : List (List Key × Addr × Value)} (r : RelE xs vs) : vs.map (fun x => x.2.1) = xs.map fun x => x.2.1 := by
  induction r with
  | nil => rfl
  | @cons p q ps qs h t ih => rw [List.map_cons, List.map_cons, ih, h.2.1]
/-- list(d): the keys' own tuples -/
theorem call_list_E {X : Cx} (hc : X.calm = true) : CallR X (.type "list") (fun us H Q => ∃ d xs, us = [V.ref d] ∧ H d = some (DkO X.prog X.w d xs) ∧ ∀ p, H p = none → Q (.ref p) (upd H p (.lst (xs.map fun x => V.ref x.2.1)))) := by
  intro pins s σ H ws us Q I r h
  obtain ⟨d, xs, rfl, hd, q⟩ := h
  obtain ⟨u, rfl, rx⟩ := r.one
  cases rx
  obtain ⟨z, hs, vs, pr, o, es, ep, ho, hx, hdt, he, hn⟩ := dk_get I hd
  have l1 : es.size = vs.length := size_of_entries he
  have l2 : xs.length = vs.length := Paired.length pr
  refine PySem.W.kdl_call (kdl_raw hs hx hdt) (I.ok.hd hc) ho (by omega) fun h' tk acc c kp e it => ?_
  have ea : acc.toList = (xs.map fun x => x.2.1).map Value.ref := by
    rw [← pr.at, List.map_map]
    have hl : acc.toList.length = vs.length := by rw [Array.length_toList, it.1]; exact l1
    refine List.ext_getElem? fun j => ?_
    rw [List.getElem?_map]
    by_cases hj : j < acc.toList.length
    · rw [List.getElem?_eq_getElem hj, List.getElem?_eq_getElem (hl ▸ hj)]
      obtain ⟨en, hen, hv⟩ := it.2 j acc.toList[j] (by rw [← Array.getElem?_toList]; exact List.getElem?_eq_getElem hj)
      have qe := entry_at he j
      rw [hen, List.getElem?_eq_getElem (hl ▸ hj)] at qe
      rw [hv, Option.some.inj qe]
      rfl
    · rw [List.getElem?_eq_none (by omega), List.getElem?_eq_none (by omega)]
      rfl
  have rv : Vals ((xs.map fun x => x.2.1).map V.ref) acc.toList := by rw [ea]; exact vals_refs _
  have em : (xs.map fun x => V.ref x.2.1) = (xs.map fun x => x.2.1).map V.ref := by rw [List.map_map]; rfl
  refine ⟨.ref s.heap.objs.size, _, I.laid (t' := tk) (o := .lst (xs.map fun x => V.ref x.2.1)) kp (Nat.le_refl _) ?_, rfl, q _ (I.hok.fresh (Nat.le_refl _))⟩
  rw [em]
  exact ⟨by rw [List.length_map, List.length_map]; exact z, acc.toList, c, rv, by rw [Array.toArray_toList]; exact e⟩
end Dk

/-! dict comprehensions whose keys are tuples that stand anywhere (as StR and StY, with StZf's dict) -/
namespace Dk
open PySem PySem.Spec PyProof.Rows L2 Vs
theorem e_dictSet {X : Cx} {pins : List (Addr × Obj)} {σ : L2.St} {H : Hp} {s : Shared} {E : Value → Shared → Prop} {D b : Addr} {xs : List En} {k : List Key} {v : V} {r : Value} {Q : Unit → Shared → Prop} (hu : X.A.units + 1 < cLine) (I : Inv X pins σ H s) (hD : H D = some (DkO X.prog X.w D xs)) (hk : Keys X.K H xs) (hz : xs.length < sizeLine) (hb : SqT X.K H b (k.map kV)) (rv : RelV v r)
    (q : ∀ s', Inv X pins σ (upd H D (DkO X.prog X.w D (putE xs k b v))) s' → Q () s') : wpAny (model X.prog X.w) X.A (dictSet D (.ref b) r) Q E s := by
  obtain ⟨z, n, vs, rel, dd⟩ := dk_of I hD hk
  have hl := Paired.length rel
  have hr : (tupleKind (mixKind X.prog X.w)).room X.A := by
    first | exact hu | (show _ < _; omega)
  have hl2 : (putE xs k b v).length ≤ sizeLine := by have := putE_len xs k b v; omega
  refine wpAny_dictSet_heap (knd := tupleKind (mixKind X.prog X.w)) hr (key_is I hb) dd (fun h' dd' hs => q _ ?_) (by omega)
  obtain ⟨o, es, ep, ho, h2, h3, h4, _, h5⟩ := dd'
  exact d_write I (by rw [hD]; exact True.intro) hs ⟨_, ho⟩ (dk_ok ⟨hl2, n, _, rel.put k rv, o, es, ep, ho, h2, h3, h4, h5⟩)
def tDcE (P : Program) (w : World) (K : PySem.W.Frag) (wi : TI) (g : TG) (tt : TT) (tk tv : TE) (vs : List Nat) : TE := fun σ H Q => wi σ H fun J H1 => ∀ D, H1 D = none → ∃ W : Nat → Nat → Hp → Prop, (∃ m, W 0 m (upd H1 D (DkO P w D []))) ∧ ∀ i m H, W i m H → (J.stop i H ∧ Q (.ref D) H) ∨ (J.go i H ∧ ∃ Nx : Hp → Prop, (∀ H', Nx H' → ∃ m', m' < m ∧ W (i + 1) m' H') ∧ ∀ x H', J.yld i H x H' → g x (wipe σ vs) H' fun σ2 H2 => wipe σ2 vs = wipe σ vs ∧ tt σ2 H2 fun b H3 => if b = true then tk σ2 H3 fun y H4 => tv σ2 H4 fun z H5 => ∃ xs k b, y = .ref b ∧ SqT K H5 b (k.map kV) ∧ H5 D = some (DkO P w D xs) ∧ Keys K H5 xs ∧ xs.length < sizeLine ∧ Nx (upd H5 D (DkO P w D (putE xs k b z))) else Nx H3)
theorem dcE_loop {X : Cx} {kx vx tg iter : Expr} {ifs : List Expr} {scope : Scope} {pos : Pos} {g : TG} {tt : TT} {tk tv : TE} {J : It} {fp : List Addr} {it D : Addr} {tn : Nat → Heap → Prop} {vs : List Nat} {σ : L2.St} {H : Hp} {s : Shared} {W : Nat → Nat → Hp → Prop} {m0 : Nat} {Qd : Hp → Prop} {R : Result → Shared → Prop} (hu : X.A.units + 1 < cLine) (hc : X.calm = true) (hxe : X.xe = fun _ _ => False) (T : Turn X.prog X.w X.K tg J fp it tn) (hg : PG X tg g) (ht : PTs X ifs tt) (hk : PE X kx tk) (he : PE X vx tv)
    (hW : ∀ i m H, W i m H → (J.stop i H ∧ Qd H) ∨ (J.go i H ∧ ∃ Nx : Hp → Prop, (∀ H', Nx H' → ∃ m', m' < m ∧ W (i + 1) m' H') ∧ ∀ x H', J.yld i H x H' → g x (wipe σ vs) H' fun σ2 H2 => wipe σ2 vs = wipe σ vs ∧ tt σ2 H2 fun b H3 => if b = true then tk σ2 H3 fun y H4 => tv σ2 H4 fun z H5 => ∃ xs k b, y = .ref b ∧ SqT X.K H5 b (k.map kV) ∧ H5 D = some (DkO X.prog X.w D xs) ∧ Keys X.K H5 xs ∧ xs.length < sizeLine ∧ Nx (upd H5 D (DkO X.prog X.w D (putE xs k b z))) else Nx H3))
    (I : Inv X [] (wipe σ vs) H s) (t0 : tn 0 s.heap) (f0 : ∀ b ∈ fp, FpOk X [] H b) (w0 : W 0 m0 H) (hR : ∀ s' H', Inv X [] (wipe σ vs) H' s' → Qd H' → R (.ok .next) s') :
    codeAny (model X.prog X.w) X.A (.compLoop (.DictComp kx vx [⟨tg, iter, ifs, 0⟩] scope pos) 0 (.ref it) (.ref D) X.env) R s := by
  refine compLoop_anyD (fun n s => ∃ i H', Inv X [] (wipe σ vs) H' s ∧ tn i s.heap ∧ W i n H' ∧ ∀ b ∈ fp, FpOk X [] H' b) ?_ m0 ⟨0, H, I, t0, w0, f0⟩
  rintro n s ⟨i, H5, I5, t5, w5, f5⟩
  rcases hW i n H5 w5 with ⟨st, q⟩ | ⟨go, Nx, hNx, step⟩
  · refine thn (T.done X rfl rfl rfl hc i [] s _ H5 _ I5 f5 t5 st) fun r s6 ⟨hr, I6⟩ => ?_
    subst hr
    exact hR _ _ I6 q
  refine thn (T.item X rfl rfl rfl hc i [] s _ H5 _ I5 f5 t5 go) fun r s6 ⟨u, hr, h6⟩ => ?_
  subst hr
  refine thn h6 fun _ s7 ⟨x, H7, I7, r7, y7, t7, n7⟩ => ?_
  have I7p := I7.pinned (fun b hb => ⟨n7 b hb, (f5 b hb).2⟩) (T.obj (i + 1) _ t7)
  have back : ∀ (σ8 : L2.St) (H8 : Hp) (s8 : Shared), Inv X ([] ++ pinsAt fp s7.heap) σ8 H8 s8 → wipe σ8 vs = wipe σ vs → Nx H8 → ∃ m, m < n ∧ ∃ i H', Inv X [] (wipe σ vs) H' s8 ∧ tn i s8.heap ∧ W i m H' ∧ ∀ b ∈ fp, FpOk X [] H' b := by
    intro σ8 H8 s8 I8 hw nx
    obtain ⟨m, hm, w8⟩ := hNx H8 nx
    have I9 : Inv X [] (wipe σ vs) H8 s8 := by
      rw [← hw]
      exact (I8.unpinned).weak (wipe_length _ _) fun i v h => (wipe_some h).1
    have pn : ∀ b ∈ fp, ∀ o, s7.heap.get? b = some o → s8.heap.get? b = some o ∧ H8 b = none := fun b hb o ho => by
      have := I8.pin (b, o) (List.mem_append.mpr (.inr (mem_pinsAt hb ho)))
      exact ⟨this.1, this.2.1⟩
    refine ⟨m, hm, i + 1, H8, I9, T.keep _ _ _ t7 fun b hb o ho => (pn b hb o ho).1, w8, fun b hb => ?_⟩
    obtain ⟨o, ho, _⟩ := T.obj _ _ t7 b hb
    exact ⟨(pn b hb o ho).2, (f5 b hb).2⟩
  have nx : ∀ {α : Type} {t : Sem α} {Q Q' : α → Shared → Prop} {E : Value → Shared → Prop} {s : Shared}, wpAny (model X.prog X.w) X.A t Q X.xe s → (∀ a s, Q a s → Q' a s) → wpAny (model X.prog X.w) X.A t Q' E s := fun h k => thnF (by rw [hxe] at h; exact h) k
  refine nx (hg.run _ s7 _ H7 x u _ I7p r7 (step x H7 y7)) fun _ s8 ⟨σ8, H8, I8, hw8, q8⟩ => ?_
  refine nx (ht.run _ s8 σ8 H8 _ I8 q8) fun b s9 ⟨H9, I9, q9⟩ => ?_
  cases b with
  | false => exact back _ _ _ I9 hw8 q9
  | true =>
    refine nx (hk.run _ s9 σ8 H9 _ I9 q9) fun kv s10 ⟨y, H10, I10, ry, q10⟩ => ?_
    refine nx (he.run _ s10 σ8 H10 _ I10 q10) fun vv s11 ⟨z, H11, I11, rz, xs, k, b, ey, hb, hD, hk2, hz, nxt⟩ => ?_
    subst ey
    obtain rfl : kv = Value.ref b := ry
    exact e_dictSet hu I11 hD hk2 hz hb rz fun s' I' => back _ _ _ I' hw8 nxt
theorem dcE_core {X : Cx} {pins : List (Addr × Obj)} {s : Shared} {σ : L2.St} {H : Hp} {Q : VK} {kx vx tg iter : Expr} {ifs : List Expr} {scope : Scope} {own : List (Str × Nat)} {pos pos' : Pos} {wi : TI} {g : TG} {tt : TT} {tk tv : TE} {use : Option (Value → Sem Unit)} {Qf : Value → Shared → Prop} (hu : X.A.units + 1 < cLine) (hc : X.calm = true) (hN : X.N.Nodup) (hi : PI X tg iter wi) (ok : BlkOk X.N X.env.scope scope own)
    (hg : ∀ (s : Shared) (H : Hp) (C : Addr) (cl : List (Str × Addr)) (fp : List Addr), PG (X.blk s H scope (compEnvC scope cl C X.env) fp) tg g)
    (ht : ∀ (s : Shared) (H : Hp) (C : Addr) (cl : List (Str × Addr)) (fp : List Addr), PTs (X.blk s H scope (compEnvC scope cl C X.env) fp) ifs tt)
    (hk : ∀ (s : Shared) (H : Hp) (C : Addr) (cl : List (Str × Addr)) (fp : List Addr), PE (X.blk s H scope (compEnvC scope cl C X.env) fp) kx tk)
    (he : ∀ (s : Shared) (H : Hp) (C : Addr) (cl : List (Str × Addr)) (fp : List Addr), PE (X.blk s H scope (compEnvC scope cl C X.env) fp) vx tv)
    (hs : ∀ x : Value, foldedSetIterable iter X.env x = pure x) (I : Inv X pins σ H s) (h : tDcE X.prog X.w X.K wi g tt tk tv (own.map (·.2)) σ H Q)
    (hRR : ∀ D C s' m H', Inv X pins σ H' s' → Q (.ref D) H' → s'.heap.Ns C m → FpOk X pins H' C → compPost (model X.prog X.w) X.A X.xe use Qf (.ref D) C (.ok .next) s') :
    wpAny (model X.prog X.w) X.A (comprehension (.DictComp kx vx [⟨tg, iter, ifs, 0⟩] scope pos) scope X.env pos' newDict false (eval iter X.env) use) Qf X.xe s := by
  refine wpAny_comprehension_free (use := use) (gs := []) rfl hs (closure_ok fun y hy hf => I.ok.has _ (ok.free y hy hf)) ok.kind (fun x hx hl => by rw [ok.uniq x hx, hl]) ?_
  refine thn (hi.run pins s σ H _ I h) fun v s1 h1 => thn h1 fun u s2 ⟨it, fp, tn, J, H1, eu, I1, T, t0, hfp, r⟩ => ?_
  subst eu
  have nD : H1 s2.heap.objs.size = none := I1.hok.fresh (Nat.le_refl _)
  obtain ⟨W, ⟨m0, w0⟩, hW⟩ := r s2.heap.objs.size nD
  refine wpAny_newObj_type ?_
  have I2 := I1.laid (a := s2.heap.objs.size) (o := DkO X.prog X.w s2.heap.objs.size []) (h' := s2.heap.push { cls := .type "dict", data := .dict #[] }) (t' := s2.toks) (fun _ _ q => Heap.get?_push_of_some _ q) (Nat.le_refl _) (dk_ok (e_empty s2.heap I1.big))
  have hfp2 : ∀ b ∈ fp, FpOk X pins (upd H1 s2.heap.objs.size (DkO X.prog X.w s2.heap.objs.size [])) b ∧ b < (s2.heap.push { cls := Value.type "dict", data := Data.dict #[] }).objs.size := by
    intro b hb
    obtain ⟨o, ho, _⟩ := T.obj 0 _ t0 b hb
    have lt : b < s2.heap.objs.size := by
      refine Nat.lt_of_not_le fun z => ?_
      rw [Heap.get?_none_of_le z] at ho
      cases ho
    refine ⟨⟨by rw [upd_ne (Nat.ne_of_lt lt)]; exact (hfp b hb).1, (hfp b hb).2⟩, ?_⟩
    show b < (s2.heap.objs.push _).size
    rw [Array.size_push]
    exact Nat.lt_succ_of_lt lt
  have t02 : tn 0 (s2.heap.push { cls := Value.type "dict", data := Data.dict #[] }) := T.keep 0 _ _ t0 fun b hb o ho => Heap.get?_push_of_some _ ho
  have I3 : Inv X pins σ (upd H1 s2.heap.objs.size (DkO X.prog X.w s2.heap.objs.size [])) { heap := s2.heap.push { cls := Value.type "dict", data := Data.dict #[] }, gens := s2.gens, drawn := s2.drawn, toks := s2.toks, os := s2.os } := I2
  clear I2
  clear t0
  obtain ⟨s3, e3⟩ : ∃ x : Shared, x = { heap := s2.heap.push { cls := Value.type "dict", data := Data.dict #[] }, gens := s2.gens, drawn := s2.drawn, toks := s2.toks, os := s2.os } := ⟨_, rfl⟩
  have hh : s2.heap.push { cls := Value.type "dict", data := Data.dict #[] } = s3.heap := by rw [e3]
  rw [hh] at hfp2 t02
  rw [← e3] at I3 ⊢
  refine newEnv_comp ?_
  have Ib := block_start I3 ok hN hfp2
  have szC : s3.heap.objs.size ≤ s3.heap.objs.size := Nat.le_refl _
  have tn0 : tn 0 (pushCells (s3.heap.push { cls := Value.type "dict", data := Data.dict #[] }) scope.names) := T.keep 0 _ _ t02 fun b hb o ho => pushCells_keeps _ _ _ _ (Heap.get?_push_of_some _ ho)
  suffices main : codeAny (model X.prog X.w) X.A (.compLoop (.DictComp kx vx [⟨tg, iter, ifs, 0⟩] scope pos) 0 (.ref it) (.ref s2.heap.objs.size) (compEnvC scope (cellsFrom (s3.heap.objs.size + 1) scope.names (cloFrom X.env.cells scope.names [])) s3.heap.objs.size X.env)) (compPost (model X.prog X.w) X.A X.xe use Qf (Value.ref s2.heap.objs.size) s3.heap.objs.size) { heap := pushCells (s3.heap.push { cls := Value.type "dict", data := Data.dict #[] }) scope.names, gens := s3.gens, drawn := s3.drawn, toks := s3.toks, os := s3.os } from
    codeAny_compStart_dict main (T.self _ 0 _ _ _ tn0 main)
  · refine dcE_loop (X := X.blk s3 (upd H1 s2.heap.objs.size (DkO X.prog X.w s2.heap.objs.size [])) scope (compEnvC scope (cellsFrom (s3.heap.objs.size + 1) scope.names (cloFrom X.env.cells scope.names [])) s3.heap.objs.size X.env) fp) hu hc rfl T (hg _ _ _ _ _) (ht _ _ _ _ _) (hk _ _ _ _ _) (he _ _ _ _ _) hW Ib ?_ ?_ w0 ?_
    · exact tn0
    · intro b hb
      obtain ⟨⟨g1, g2, g3, g4, g5, g6⟩, lt⟩ := hfp2 b hb
      refine ⟨g1, Nat.ne_of_lt lt, fun m => ?_, .inl hb, fun x c hl e => ?_, fun p hp => by cases hp⟩
      · rcases List.mem_cons.mp (I3.stkSub b m) with z | z
        · exact g2 z
        · exact g3 z
      · have hm := lookup_mem hl
        have hm2 : (x, c) ∈ cellsFrom (s3.heap.push { cls := Value.type "dict", data := Data.dict #[] }).objs.size scope.names (cloFrom X.env.cells scope.names []) := by
          rw [show (s3.heap.push { cls := Value.type "dict", data := Data.dict #[] }).objs.size = s3.heap.objs.size + 1 from Array.size_push ..]
          exact hm
        rcases cells_mem hm2 with z | ⟨_, z, _⟩
        · rcases cloFrom_mem z with z | ⟨z1, z2⟩
          · cases z
          · obtain ⟨c', hc'⟩ := I.ok.has _ (ok.free _ z1 rfl)
            rw [hc'] at z2
            exact g5 x c' hc' (z2.symm.trans e)
        · rw [show (s3.heap.push { cls := Value.type "dict", data := Data.dict #[] }).objs.size = s3.heap.objs.size + 1 from Array.size_push ..] at z
          rw [e] at z
          exact absurd lt (Nat.not_lt_of_le (Nat.le_of_succ_le z))
    · intro s' H' I' q
      have I4 : Inv X pins σ H' s' := I3.call' I'.os I'.base I'.hok I'.bare fun b hb => by
        obtain ⟨⟨g1, g2, g3, g4, g5, g6⟩, lt⟩ := hfp2 b hb
        exact ⟨g4, g2, g5, g6⟩
      obtain ⟨m, hm, _⟩ := I'.loc
      have hC : FpOk X pins H' s3.heap.objs.size := I3.fpOk (Nat.le_refl _) I'.free
      exact hRR s2.heap.objs.size s3.heap.objs.size s' m H' I4 q hm hC

theorem pe_dcE {X : Cx} {kx vx tg iter : Expr} {ifs : List Expr} {scope : Scope} {own : List (Str × Nat)} {pos : Pos} {wi : TI} {g : TG} {tt : TT} {tk tv : TE} (hu : X.A.units + 1 < cLine) (hc : X.calm = true) (hN : X.N.Nodup) (hi : PI X tg iter wi) (ok : BlkOk X.N X.env.scope scope own)
    (hg : ∀ (s : Shared) (H : Hp) (C : Addr) (cl : List (Str × Addr)) (fp : List Addr), PG (X.blk s H scope (compEnvC scope cl C X.env) fp) tg g)
    (ht : ∀ (s : Shared) (H : Hp) (C : Addr) (cl : List (Str × Addr)) (fp : List Addr), PTs (X.blk s H scope (compEnvC scope cl C X.env) fp) ifs tt)
    (hk : ∀ (s : Shared) (H : Hp) (C : Addr) (cl : List (Str × Addr)) (fp : List Addr), PE (X.blk s H scope (compEnvC scope cl C X.env) fp) kx tk)
    (he : ∀ (s : Shared) (H : Hp) (C : Addr) (cl : List (Str × Addr)) (fp : List Addr), PE (X.blk s H scope (compEnvC scope cl C X.env) fp) vx tv)
    (hs : ∀ x : Value, foldedSetIterable iter X.env x = pure x := by intro _; rfl) : PE X (.DictComp kx vx [⟨tg, iter, ifs, 0⟩] scope pos) (tDcE X.prog X.w X.K wi g tt tk tv (own.map (·.2))) := by
  refine ⟨fun pins s σ H Q I h => ?_⟩
  rw [arm_eval_DictComp]
  refine dcE_core (use := none) (Qf := EP X pins σ Q) hu hc hN hi ok hg ht hk he hs I h fun D C s' m H' I' q hn f => ?_
  obtain ⟨g1, g2, g3, g4, g5, g6⟩ := f
  refine ⟨m, hn, fun h' sb => ⟨.ref D, H', ?_, rfl, q⟩⟩
  exact I'.turned (fun b o ne ho => by rw [sb.2 b ne]; exact ho) g1 g2 g4 g5 g6
theorem ps_setDcE {X : Cx} {i : Nat} {y : Str} {py : Pos} {kx vx tg iter : Expr} {ifs : List Expr} {scope : Scope} {own : List (Str × Nat)} {pos spos : Pos} {wi : TI} {g : TG} {tt : TT} {tk tv : TE} (hyl : X.env.scope.names.lookup y = some .local) (hy : X.N[i]? = some y)
    (hsw : swapsWith (.DictComp kx vx [⟨tg, iter, ifs, 0⟩] scope pos) (some (.Name y py)) spos.line X.env = pure true) (hu : X.A.units + 1 < cLine) (hc : X.calm = true) (hN : X.N.Nodup) (hi : PI X tg iter wi) (ok : BlkOk X.N X.env.scope scope own)
    (hg : ∀ (s : Shared) (H : Hp) (C : Addr) (cl : List (Str × Addr)) (fp : List Addr), PG (X.blk s H scope (compEnvC scope cl C X.env) fp) tg g)
    (ht : ∀ (s : Shared) (H : Hp) (C : Addr) (cl : List (Str × Addr)) (fp : List Addr), PTs (X.blk s H scope (compEnvC scope cl C X.env) fp) ifs tt)
    (hk : ∀ (s : Shared) (H : Hp) (C : Addr) (cl : List (Str × Addr)) (fp : List Addr), PE (X.blk s H scope (compEnvC scope cl C X.env) fp) kx tk)
    (he : ∀ (s : Shared) (H : Hp) (C : Addr) (cl : List (Str × Addr)) (fp : List Addr), PE (X.blk s H scope (compEnvC scope cl C X.env) fp) vx tv)
    (hs : ∀ x : Value, foldedSetIterable iter X.env x = pure x := by intro _; rfl) :
    PS X (.Assign [.Name y py] (.DictComp kx vx [⟨tg, iter, ifs, 0⟩] scope pos) spos) (tAsg (tDcE X.prog X.w X.K wi g tt tk tv (own.map (·.2))) (gName i)) := by
  refine ⟨fun pins s σ H D I h => ?_⟩
  rw [exec_Assign_Name_used _ _ _ _ hsw]
  refine wpAny_bind (wpAny_standAt (wpAny_bind ?_))
  show wpAny _ X.A (do let _ ← comprehension (.DictComp kx vx [⟨tg, iter, ifs, 0⟩] scope pos) scope X.env (firstIterPos [⟨tg, iter, ifs, 0⟩] pos) newDict false (eval iter X.env) (some (assign (.Name y py) X.env))) _ _ s
  have h : tDcE X.prog X.w X.K wi g tt tk tv (own.map (·.2)) σ H (fun x H1 => gName i x σ H1 D.nx) := h
  refine wpAny_bind (thn (dcE_core (Qf := fun _ s' => SP X pins D .next s') hu hc hN hi ok hg ht hk he hs I h fun L C s' m H' I' q hn f => ?_) fun _ s' hq => wpAny_pure (wpAny_pure hq))
  show wpAny _ _ (assign (.Name y py) X.env (.ref L)) _ _ _
  refine wpAny_assign_Name (store_ok2 (v := V.ref L) I' hN hy (.inl hyl) rfl (fun s2 I2 ⟨a, sb, ha⟩ => ?_) (.inr hyl))
  obtain ⟨f0, f1, f2, f3, f4, f5⟩ := f
  have haC : C ≠ a := by
    rcases ha with z | z
    · rw [z]; exact f1
    · exact fun e => f4 y a z e.symm
  refine ⟨m, hn.sameBut sb haC, fun h3 sb3 => ?_⟩
  exact ⟨_, H', I2.turned (t' := s2.toks) (fun b o hb e => (sb3.2 b hb).trans e) f0 f1 f3 f4 f5, q⟩
theorem dcE_it {P : Program} {w : World} {K : PySem.W.Frag} {J : It} {n : Nat} {G : Hp → Prop} {Y : Nat → Hp → V → Hp → Prop} (wk : Walk J n G Y) {g : TG} {tt : TT} {tk tv : TE} {vs : List Nat} {σ : L2.St} {H1 : Hp} {D : Addr} {Qd : Hp → Prop} (Pv : Nat → Hp → Prop) (h0 : Pv 0 (upd H1 D (DkO P w D []))) (hG : ∀ i H, i ≤ n → Pv i H → G H)
    (hs : ∀ i x H H', i < n → Pv i H → Y i H x H' → g x (wipe σ vs) H' fun σ2 H2 => wipe σ2 vs = wipe σ vs ∧ tt σ2 H2 fun b H3 => if b = true then tk σ2 H3 fun y H4 => tv σ2 H4 fun z H5 => ∃ xs k b, y = .ref b ∧ SqT K H5 b (k.map kV) ∧ H5 D = some (DkO P w D xs) ∧ Keys K H5 xs ∧ xs.length < sizeLine ∧ Pv (i + 1) (upd H5 D (DkO P w D (putE xs k b z))) else Pv (i + 1) H3)
    (hd : ∀ H, Pv n H → Qd H) :
    ∃ W : Nat → Nat → Hp → Prop, (∃ m, W 0 m (upd H1 D (DkO P w D []))) ∧ ∀ i m H, W i m H → (J.stop i H ∧ Qd H) ∨ (J.go i H ∧ ∃ Nx : Hp → Prop, (∀ H', Nx H' → ∃ m', m' < m ∧ W (i + 1) m' H') ∧ ∀ x H', J.yld i H x H' → g x (wipe σ vs) H' fun σ2 H2 => wipe σ2 vs = wipe σ vs ∧ tt σ2 H2 fun b H3 => if b = true then tk σ2 H3 fun y H4 => tv σ2 H4 fun z H5 => ∃ xs k b, y = .ref b ∧ SqT K H5 b (k.map kV) ∧ H5 D = some (DkO P w D xs) ∧ Keys K H5 xs ∧ xs.length < sizeLine ∧ Nx (upd H5 D (DkO P w D (putE xs k b z))) else Nx H3) := by
  refine ⟨fun i m H => i + m = n ∧ Pv i H, ⟨n, by omega, h0⟩, ?_⟩
  rintro i m H ⟨e, p⟩
  by_cases hi : i < n
  · refine .inr ⟨wk.goes i H hi (hG i H (by omega) p), Pv (i + 1), fun H' p' => ⟨m - 1, by omega, by omega, p'⟩, fun x H' y => ?_⟩
    exact hs i x H H' hi p (wk.yields i H x H' hi (hG i H (by omega) p) y)
  · have ei : i = n := by omega
    subst ei
    exact .inl ⟨wk.stops H (hG _ H (Nat.le_refl _) p), hd H p⟩
end Dk

/-! for k in d, d a dict whose tuple keys stand anywhere; d is locked -/
namespace Dk
open PySem PySem.Spec PyProof.Rows L2 Vs
/-- the keys' own tuples, in their order -/
def ItE (P : Program) (w : World) (d : Addr) (o : Obj) (xs : List En) : It :=
  ⟨fun i H => H d = some (.frz o (DkO P w d xs)) ∧ i < xs.length, fun i H x H' => H' = H ∧ ∃ e : En, xs[i]? = some e ∧ x = .ref e.2.1, fun i H => H d = some (.frz o (DkO P w d xs)) ∧ xs.length ≤ i⟩
theorem RelE.get {xs : List En} {vs : List (List Key × Addr × Value)} (r : RelE xs vs) : ∀ {i : Nat} {e : En}, xs[i]? = some e → ∃ b, vs[i]? = some b ∧ b.2.1 = e.2.1 := by
  induction r with
  | nil => intro i e h; simp at h
  | @cons p q ps qs h t ih =>
    intro i e g
    cases i with
    | zero =>
      cases g
      exact ⟨q, rfl, h.2.1.symm⟩
    | succ j => exact ih (by simpa using g)
section
variable {X : Cx} {pins : List (Addr × Obj)} {σ : List (Option V)} {H : Hp} {s : Shared} {d : Addr} {o : Obj} {xs : List En}
theorem frzE (I : Inv X pins σ H s) (h : H d = some (.frz o (DkO X.prog X.w d xs))) :
    (d == sysModules) = false ∧ s.heap.get? d = some o ∧ o.ExactDict ∧ ∃ (es : Array DictEntry) (ep : Nat), o.data = .dict es ep ∧ es.size = xs.length ∧ ∀ (i : Nat) (e : En), xs[i]? = some e → ∃ en : DictEntry, es[i]? = some en ∧ en.key = .ref e.2.1 := by
  obtain ⟨hd, ⟨z, hs, vs, pr, o', es, ep, ho, hx, hdt, he, _⟩, _⟩ := I.hok d _ h
  rw [hd] at ho
  cases ho
  refine ⟨hs, hd, hx, es, ep, hdt, ?_, fun i e g => ?_⟩
  · have l1 : es.size = vs.length := size_of_entries he
    have l2 : xs.length = vs.length := Paired.length pr
    omega
  · obtain ⟨b, hb, e1⟩ := pr.get g
    have q := entry_at he i
    rw [hb] at q
    exact ⟨_, q, by rw [← e1]; rfl⟩
end
section
variable {P : Program} {w : World} {K : PySem.W.Frag} {tg : Expr} {d : Addr} {o : Obj} {es : Array DictEntry} {ep : Nat}
theorem turn_keysE {xs : List En} (it : Addr) (hod : o.data = .dict es ep) : Turn P w K tg (ItE P w d o xs) [it] it (fun i h => h.IsKeyIter it d i xs.length ep) where
  mem := by simp
  obj := fun i h st b hb => by
    obtain rfl : b = it := by simpa using hb
    obtain ⟨oi, e, c, dd⟩ := st
    exact ⟨oi, e, fun v z => by rw [dd] at z; cases z⟩
  keep := fun i h h' st k => st.at fun oi e => k it (by simp) oi e
  item := by
    intro X hP hw hK hc i pins s σ H E I hf st hg
    subst hP hw hK
    obtain ⟨hd, hi⟩ := hg
    obtain ⟨f0, f1, f2, f3, f4, f5⟩ := hf it (by simp)
    obtain ⟨hs, hgd, hx, es', ep', hdt, hsz, ent⟩ := frzE I hd
    obtain ⟨rfl, rfl⟩ := dict_ep hod hdt
    obtain ⟨en, hen, hkey⟩ := ent i xs[i] (List.getElem?_eq_getElem hi)
    refine next_key_item st hgd hdt hsz hen fun h' st' sb => ?_
    have I1 : Inv X pins σ H { s with heap := h' } := I.turned (t' := s.toks) (fun b ob hb e => (sb.2 b hb).trans e) f0 f1 f3 f4 f5
    obtain ⟨oi, e, c, dd⟩ := id st'
    exact ⟨en.key, rfl, go_of (s := { s with heap := h' }) e c dd (by decide) ⟨.ref xs[i].2.1, H, I1, hkey, ⟨rfl, xs[i], List.getElem?_eq_getElem hi, rfl⟩, st', fun b hb => (hf b hb).1⟩⟩
  done := by
    intro X hP hw hK hc i pins s σ H E I hf st hg
    subst hP hw hK
    obtain ⟨hd, hi⟩ := hg
    obtain ⟨f0, f1, f2, f3, f4, f5⟩ := hf it (by simp)
    obtain ⟨hs, hgd, hx, es', ep', hdt, hsz, ent⟩ := frzE I hd
    obtain ⟨rfl, rfl⟩ := dict_ep hod hdt
    exact next_key_end (I.ok.hd hc) st hgd hdt hsz hi fun h' eb => ⟨rfl, I.turned (t' := s.toks) (fun b ob hb e => eb b ob hb e) f0 f1 f3 f4 f5⟩
  self := fun A i s Q E st h => wpAny_pyIter_keyiter st h
/-- the dict is locked -/
def iKeysE (P : Program) (w : World) (td : TE) : TI := fun σ H R => td σ H fun x H1 => ∃ d o xs, x = .ref d ∧ H1 d = some (.frz o (DkO P w d xs)) ∧ R (ItE P w d o xs) H1
theorem pi_keysE {X : Cx} {tg e : Expr} {td : TE} (he : PE X e td) : PI X tg e (iKeysE X.prog X.w td) := by
  refine ⟨fun pins s σ H R I h => ?_⟩
  refine thn (he.run pins s σ H _ I h) fun u s1 ⟨x, H1, I1, rx, d, o, xs, ex, hd, q⟩ => ?_
  subst ex
  obtain rfl : u = Value.ref d := rx
  obtain ⟨hs, hgd, hx, es, ep, hdt, hsz, ent⟩ := frzE I1 hd
  refine iter_keys hs hgd hx hdt (pi_one (tk := s1.toks) I1 _ (turn_keysE _ hdt) ⟨_, Heap.get?_push_size _ rfl, rfl, ?_⟩ q)
  rw [hsz] <;> rfl
theorem walk_keysE {xs : List En} : Walk (ItE P w d o xs) xs.length (fun H => H d = some (.frz o (DkO P w d xs))) (fun i H x H' => H' = H ∧ ∃ e : En, xs[i]? = some e ∧ x = .ref e.2.1) :=
  ⟨fun _ _ hi q => ⟨q, hi⟩, fun _ q => ⟨q, Nat.le_refl _⟩, fun _ _ _ _ _ _ y => y⟩
end
/-- the entries without the keys' places -/
def two (x : En) : List Key × V := (x.1, x.2.2)
theorem valE_two (k : List Key) : ∀ xs : List En, valE xs k = valV (xs.map two) k
  | [] => rfl
  | x :: r => by
    have ih := valE_two k r
    by_cases e : x.1 = k
    · rw [show valE (x :: r) k = some x.2.2 by simp [valE, List.find?_cons, e], List.map_cons, valV_pos (p := two x) e]
      rfl
    · rw [show valE (x :: r) k = valE r k by simp [valE, List.find?_cons, e], List.map_cons, valV_neg (p := two x) e, ih]
theorem putE_two (xs : List En) (k : List Key) (b : Addr) (y : V) : (putE xs k b y).map two = putK (xs.map two) k y := by
  unfold putE putK
  rw [valV_any, valE_two]
  split
  · rw [List.map_map, List.map_map]
    refine List.map_congr_left fun x _ => ?_
    show two (if x.1 = k then _ else _) = if (two x).1 = k then ((two x).1, y) else two x
    by_cases e : x.1 = k
    · rw [if_pos e, if_pos (show (two x).1 = k from e)]
      rfl
    · rw [if_neg e, if_neg (show ¬ (two x).1 = k from e)]
  · rw [List.map_append]
    rfl
theorem keys_put {K : PySem.W.Frag} {H : Hp} {xs : List En} {k : List Key} {b : Addr} {y : V} (h : Keys K H xs) (hb : SqT K H b (k.map kV)) : Keys K H (putE xs k b y) := fun x m => by
  unfold putE at m
  split at m
  · obtain ⟨z, hz, rfl⟩ := List.mem_map.mp m
    by_cases e : z.1 = k
    · rw [if_pos e]; exact h z hz
    · rw [if_neg e]; exact h z hz
  · rcases List.mem_append.mp m with m | m
    · exact h x m
    · rw [List.mem_singleton.mp m]; exact hb
theorem keys_tk {K : PySem.W.Frag} {H H' : Hp} {xs : List En} (k : TupK H H') (h : Keys K H xs) : Keys K H' xs := fun x m => by
  rcases h x m with (g | ⟨o, g⟩) | g
  · exact .inl (.inl (k.1 _ _ g))
  · exact .inl (.inr ⟨o, k.2 _ _ _ g⟩)
  · exact .inr g
end Dk

/-! points and bounds whose tuples stand anywhere -/
namespace Dk
open PySem PySem.Spec PyProof.Rows L2 Vs
theorem sq_tk {K : PySem.W.Frag} {H H' : Hp} {a : Addr} {xs : List V} (k : TupK H H') (h : SqT K H a xs) : SqT K H' a xs := by
  rcases h with (g | ⟨o, g⟩) | g
  · exact .inl (.inl (k.1 _ _ g))
  · exact .inl (.inr ⟨o, k.2 _ _ _ g⟩)
  · exact .inr g
def PtA (K : PySem.W.Frag) (H : Hp) (b : Addr) (p : Pt) : Prop := SqT K H b [.int p.d, .int p.n, .int p.c]
structure PtLA (K : PySem.W.Frag) (H : Hp) (l : Addr) (bs : List Addr) (ps : List Pt) : Prop where
  l : H l = some (.lst (bs.map V.ref))
  e : Each (PtA K H) bs ps
def BnEA (K : PySem.W.Frag) (H : Hp) (e : Addr) (z : Bd) : Prop := ∃ x y, SqT K H e [.ref x, .ref y, .int z.amount, .int z.part] ∧ PtA K H x z.one ∧ PtA K H y z.two
structure BnLA (K : PySem.W.Frag) (H : Hp) (l : Addr) (es : List Addr) (bs : List Bd) : Prop where
  l : H l = some (.lst (es.map V.ref))
  e : Each (BnEA K H) es bs
section
variable {K : PySem.W.Frag} {H H' : Hp}
theorem PtLA.tk {l : Addr} {bs : List Addr} {ps : List Pt} (k : TupK H H') (l' : H' l = some (.lst (bs.map V.ref))) (h : PtLA K H l bs ps) : PtLA K H' l bs ps := ⟨l', h.e.keep fun _ _ z => sq_tk k z⟩
theorem PtLA.keep {l : Addr} {bs : List Addr} {ps : List Pt} (s : Same H H') (h : PtLA K H l bs ps) : PtLA K H' l bs ps := h.tk (.of s) (s _ _ h.l)
theorem BnEA.tk {e : Addr} {z : Bd} (k : TupK H H') (h : BnEA K H e z) : BnEA K H' e z := by
  obtain ⟨x, y, a, b, c⟩ := h
  exact ⟨x, y, sq_tk k a, sq_tk k b, sq_tk k c⟩
theorem BnLA.tk {l : Addr} {es : List Addr} {bs : List Bd} (k : TupK H H') (l' : H' l = some (.lst (es.map V.ref))) (h : BnLA K H l es bs) : BnLA K H' l es bs := ⟨l', h.e.keep fun _ _ z => z.tk k⟩
theorem BnLA.keep {l : Addr} {es : List Addr} {bs : List Bd} (s : Same H H') (h : BnLA K H l es bs) : BnLA K H' l es bs := h.tk (.of s) (s _ _ h.l)
end
section
variable {K : PySem.W.Frag} {H : Hp}
theorem refs_of {α : Type} {f : α → PyData} {Q : Addr → α → Prop} (h1 : ∀ (x : α) (v : V), Im K H (f x) v → ∃ e, v = .ref e ∧ Q e x) : ∀ {xs : List α} {vs : List V}, ImL K H (xs.map f) vs → ∃ es : List Addr, vs = es.map V.ref ∧ Each Q es xs
  | [], vs, h => ⟨[], h.unn, Each.nil⟩
  | x :: r, vs, h => by
    obtain ⟨v, q, rfl, g1, g2⟩ := ImL.unc h
    obtain ⟨e, rfl, ge⟩ := h1 x v g1
    obtain ⟨es, rfl, gs⟩ := refs_of h1 g2
    refine ⟨e :: es, rfl, by rw [List.length_cons, List.length_cons, gs.1], fun i a y ha hy => ?_⟩
    cases i with
    | zero =>
      cases ha
      cases hy
      exact ge
    | succ j => exact gs.2 j a y (by simpa using ha) (by simpa using hy)
theorem BnLA.of {l : Addr} {bs : List Bd} (h : LsI K H l (bs.map bdP)) : ∃ es, BnLA K H l es bs := by
  obtain ⟨vs, h1, h2⟩ := h
  obtain ⟨es, rfl, g⟩ := refs_of (Q := BnEA K H) (fun b v g => by
    obtain ⟨a, x, y, rfl, g1, g2, g3⟩ := Im.unbd g
    obtain ⟨p, rfl, k1⟩ := Im.unpt g2
    obtain ⟨q, rfl, k2⟩ := Im.unpt g3
    exact ⟨a, rfl, p, q, g1, k1, k2⟩) h2
  exact ⟨es, h1, g⟩
theorem PtLA.of {l : Addr} {ps : List Pt} (h : LsI K H l (ps.map ptP)) : ∃ es, PtLA K H l es ps := by
  obtain ⟨vs, h1, h2⟩ := h
  obtain ⟨es, rfl, g⟩ := refs_of (Q := PtA K H) (fun p v g => Im.unpt g) h2
  exact ⟨es, h1, g⟩
end
end Dk

namespace Dk
open PySem PySem.Spec PyProof.Rows L2 Vs
/-- len(d) -/
def rLenE (P : Program) (w : World) (K : PySem.W.Frag) : List V → Hp → VK → Prop := fun us H Q => ∃ a xs, us = [.ref a] ∧ H a = some (DkO P w a xs) ∧ Keys K H xs ∧ Q (.int (xs.length : Int)) H
theorem call_len_E {X : Cx} : CallR X (.builtin "len") (rLenE X.prog X.w X.K) := by
  intro pins s σ H ws us Q I r h
  obtain ⟨a, xs, rfl, ha, hk, q⟩ := h
  obtain ⟨u, rfl, rx⟩ := r.one
  cases rx
  obtain ⟨z, hd, vs, rel, dd⟩ := dk_of I ha hk
  have hl : xs.length = vs.length := Paired.length rel
  refine call_len_dictH hd dd (by rw [← hl]; rw [sizeLine_eq] at z; omega) ?_
  exact ⟨.int (xs.length : Int), H, I.tok _, ⟨_, by rw [hl]⟩, q⟩
section
variable {X : Cx} {P : Program} {w : World} {K : PySem.W.Frag} {o i e value : Expr} {pos pos' : Pos} {td ty tv : TE}
/-- the same, the program, the world and the written part named -/
theorem ps_eputP (hP : X.prog = P) (hw : X.w = w) (hK : X.K = K) (hu : X.A.units + 1 < cLine) (ho : PE X o td) (hi : PE X i ty) (hv : PE X value tv) (hs : swapsWith value (some (.Subscript o i pos')) pos.line X.env = pure false) : PS X (.Assign [.Subscript o i pos'] value pos) (sEPut P w K td ty tv) := by
  subst hP hw hK
  exact ps_eput hu ho hi hv hs
theorem pe_egetP (hP : X.prog = P) (hw : X.w = w) (hK : X.K = K) (hu : X.A.units + 1 < cLine) (ho : PE X o td) (hi : PE X i ty) (hs : NoSl i) : PE X (.Subscript o i pos) (tEGet P w K td ty) := by
  subst hP hw hK
  exact pe_eget hu ho hi hs
theorem call_len_P (hP : X.prog = P) (hw : X.w = w) (hK : X.K = K) : CallR X (.builtin "len") (rLenE P w K) := by
  subst hP hw hK
  exact call_len_E
theorem pi_keysP (hP : X.prog = P) (hw : X.w = w) {tg : Expr} (he : PE X e td) : PI X tg e (iKeysE P w td) := by
  subst hP hw
  exact pi_keysE he
theorem pe_dcP {kx vx tg iter : Expr} {ifs : List Expr} {scope : Scope} {own : List (Str × Nat)} {wi : TI} {g : TG} {tt : TT} {tk : TE} (hP : X.prog = P) (hw : X.w = w) (hK : X.K = K) (hu : X.A.units + 1 < cLine) (hc : X.calm = true) (hN : X.N.Nodup) (hi : PI X tg iter wi) (ok : BlkOk X.N X.env.scope scope own)
    (hg : ∀ (s : Shared) (H : Hp) (C : Addr) (cl : List (Str × Addr)) (fp : List Addr), PG (X.blk s H scope (compEnvC scope cl C X.env) fp) tg g)
    (ht : ∀ (s : Shared) (H : Hp) (C : Addr) (cl : List (Str × Addr)) (fp : List Addr), PTs (X.blk s H scope (compEnvC scope cl C X.env) fp) ifs tt)
    (hk : ∀ (s : Shared) (H : Hp) (C : Addr) (cl : List (Str × Addr)) (fp : List Addr), PE (X.blk s H scope (compEnvC scope cl C X.env) fp) kx tk)
    (he : ∀ (s : Shared) (H : Hp) (C : Addr) (cl : List (Str × Addr)) (fp : List Addr), PE (X.blk s H scope (compEnvC scope cl C X.env) fp) vx tv)
    (hs : ∀ x : Value, foldedSetIterable iter X.env x = pure x := by intro _; rfl) : PE X (.DictComp kx vx [⟨tg, iter, ifs, 0⟩] scope pos) (tDcE P w K wi g tt tk tv (own.map (·.2))) := by
  subst hP hw hK
  exact pe_dcE hu hc hN hi ok hg ht hk he hs
end
end Dk

/-! law 40: a device without clocks, sources of one kind each, events that note or mark -/
namespace Vs
open PySem PySem.Spec PyProof.Rows L2
theorem eqvA_ints : ∀ a b : List Int, PyData.eqvAll (a.map .int) (b.map .int) = decide (a = b)
  | [], [] => by simp [PyData.eqvAll]
  | [], y :: b => by simp [PyData.eqvAll]
  | x :: a, [] => by simp [PyData.eqvAll]
  | x :: a, y :: b => by
    rw [List.map_cons, List.map_cons, PyData.eqvAll, eqvA_ints a b, PyData.eqv]
    by_cases h : x = y
    · subst h
      rw [beq_self_eq_true, Bool.true_and]
      exact decide_eq_decide.mpr ⟨fun h => by rw [h], fun h => by injection h⟩
    · rw [beq_eq_false_iff_ne.mpr h, Bool.false_and]
      exact (decide_eq_false fun z => h (by injection z)).symm
theorem eqv_pair (d n : Int) : PyData.eqv (.tuple [.int d, .int n]) (.tuple [.int (-1), .int 0]) = decide (d = -1 ∧ n = 0) := by
  have h := eqvA_ints [d, n] [-1, 0]
  rw [PyData.eqv]
  refine Eq.trans h (decide_eq_decide.mpr ⟨fun e => ?_, fun ⟨e1, e2⟩ => by rw [e1, e2]⟩)
  injection e with e1 e2
  injection e2 with e2 _
  exact ⟨e1, e2⟩
/-- an event of the view, or the beginning -/
def InV (vw : List (List Ev)) (d n : Int) : Prop := (d = -1 ∧ n = 0) ∨ (0 ≤ d ∧ d < (vw.length : Int) ∧ 0 ≤ n ∧ n < ((vw.getD d.toNat []).length : Int))
/-! the frame and the bounds of the law -/
def sr40 (nm : Str) (e l : Int) : Sr := ⟨nm, 0, [⟨Str.ofString "n", e, some l⟩]⟩
def SrF (s : Sr) : Prop := ∃ nm e l, s = sr40 nm e l
def fm40 (ss : List Sr) (f : Int) : Fm := ⟨["a"], [], [], ss, f⟩
def ev40 : Ev := ⟨false, [], [], ⟨0, []⟩, [1]⟩
def loF (ss : List Sr) (s : Int) : Int := (kdOf (srOf (fm40 ss 0) s).kinds 0).low
def hiF (ss : List Sr) (s : Int) : Int := hiOf (kdOf (srOf (fm40 ss 0) s).kinds 0)
def dl40 (ss : List Sr) (n : Int) (d : Dd) : List Bd := [⟨⟨0, n, -1⟩, ⟨0, n - 1, -1⟩, 0, -1⟩] ++ (if d.place = 2 then [⟨stP, ⟨0, n, -1⟩, d.nums.getD 2 0 + hiF ss (d.nums.getD 0 0), d.nums.getD 0 0⟩, ⟨⟨0, n, -1⟩, stP, loF ss (d.nums.getD 0 0) - d.nums.getD 2 0, d.nums.getD 0 0⟩] else [])
def due40 (ss : List Sr) (es : List Ev) : List Bd := (List.range es.length).flatMap fun (i : Nat) => dl40 ss (1 + (i : Int)) (es.getD i dfE).deed
theorem due40_snoc (ss : List Sr) (es : List Ev) (e : Ev) : due40 ss (es ++ [e]) = due40 ss es ++ dl40 ss (1 + (es.length : Int)) e.deed := by
  unfold due40
  rw [List.length_append, List.length_singleton, rangeB, snoc_getD', flatM_congr fun i hi => by rw [snoc_getD hi]]
theorem dl40_len (ss : List Sr) (n : Int) (d : Dd) : (dl40 ss n d).length ≤ 3 := by
  unfold dl40
  rw [List.length_append]
  split
  · show 1 + 2 ≤ 3
    decide
  · show 1 + 0 ≤ 3
    decide
theorem due40_len (ss : List Sr) (es : List Ev) : (due40 ss es).length ≤ 3 * es.length := by
  unfold due40
  suffices h : ∀ n, ((List.range n).flatMap fun (i : Nat) => dl40 ss (1 + (i : Int)) (es.getD i dfE).deed).length ≤ 3 * n from h _
  intro n
  induction n with
  | zero => exact Nat.le_refl _
  | succ n ih =>
    have := dl40_len ss (1 + (n : Int)) (es.getD n dfE).deed
    rw [rangeB, List.length_append]
    omega
structure Dd40 (ss : List Sr) (d : Dd) : Prop where
  pl : d.place = 0 ∨ d.place = 2
  ar : d.nums.length = arity d.place
  mk2 : d.place = 2 → 0 ≤ d.nums.getD 0 0 ∧ d.nums.getD 0 0 < (ss.length : Int) ∧ d.nums.getD 1 0 = 0
structure Ev4 (ss : List Sr) (e : Ev) : Prop where
  d : Dd40 ss e.deed
  s : e.shown = []
  a : e.after = []
section
variable {ss : List Sr} {f : Int}
theorem evB40 {e : Ev} {n : Int} {hs : List HdM} (h : Ev4 ss e) : evB (fm40 ss f) 0 n e hs none = dl40 ss n e.deed := by
  unfold evB dl40 restM
  rw [cks_none rfl]
  show [_] ++ [] ++ _ = _
  rw [List.append_nil]
  congr 1
  by_cases e2 : e.deed.place = 2
  · rw [if_pos e2, if_pos e2]
    unfold markM ftl
    have x1 : ((fm40 ss f).clocks.length : Int) + ((fm40 ss f).links.length : Int) + e.deed.nums.getD 0 0 = e.deed.nums.getD 0 0 := by
      show (0 : Int) + 0 + _ = _
      omega
    rw [x1, Int.neg_sub, (h.d.mk2 e2).2.2]
    rfl
  · have e5 : e.deed.place ≠ 5 := by rcases h.d.pl with x | x <;> omega
    rw [if_neg e2, if_neg e2, if_neg e5]
theorem heard40 {vw : List (List Ev)} {d : Dd} (h : Dd40 ss d) : heardM (fm40 ss f) vw d = none := by
  unfold heardM
  rw [if_neg (by rcases h.pl with x | x <;> omega)]
theorem devS40 {es : List Ev} (h : ∀ e ∈ es, Ev4 ss e) : ∀ j, j ≤ es.length → (devS (fm40 ss f) [ev40 :: es] 0 j).1 = (List.range j).flatMap fun (i : Nat) => dl40 ss (1 + (i : Int)) (es.getD i dfE).deed
  | 0, _ => rfl
  | j + 1, hj => by
    have ih := devS40 h j (by omega)
    have he : Ev4 ss (es.getD j dfE) := h _ (List.mem_of_getElem? (getD_ix (by omega)))
    rw [devS, rangeB, ← ih]
    show _ ++ evB (fm40 ss f) 0 ((j : Int) + 1) (es.getD j dfE) _ (heardM (fm40 ss f) _ (es.getD j dfE).deed) = _
    rw [heard40 he.d, evB40 he, Int.add_comm]
theorem vwB40 {es : List Ev} (h : ∀ e ∈ es, Ev4 ss e) : vwB (fm40 ss f) [ev40 :: es] = due40 ss es := by
  show (devS (fm40 ss f) [ev40 :: es] 0 ((ev40 :: es).length - 1)).1 ++ [] = _
  rw [List.append_nil, List.length_cons, Nat.add_sub_cancel, devS40 h _ (Nat.le_refl _)]
  rfl
theorem fit40 {es : List Ev} (h : ∀ e ∈ es, Ev4 ss e) (hl : es.length ≤ 20) (hsk : ∀ s ∈ ss, SrF s) : VwFit (fm40 ss f) [ev40 :: es] := by
  have key : ∀ d j, d < ([ev40 :: es] : List (List Ev)).length → j + 1 < (([ev40 :: es] : List (List Ev)).getD d []).length → d = 0 ∧ Ev4 ss ((([ev40 :: es] : List (List Ev)).getD d []).getD (j + 1) dfE) := by
    intro d j hd hj
    have hd0 : d = 0 := by
      rw [List.length_singleton] at hd
      omega
    subst hd0
    refine ⟨rfl, ?_⟩
    have hj : j + 1 < (ev40 :: es).length := hj
    rw [List.length_cons] at hj
    exact h _ (List.mem_of_getElem? (getD_ix (xs := es) (i := j) (by omega)))
  refine ⟨by show 0 ≤ 10; decide, by show 1 ≤ 6; decide, fun d => ?_, fun d j hd hj => ?_, fun d j hd hj => ?_, fun d j hd hj h5 => ?_⟩
  · rw [one_getD]
    split
    · rw [List.length_cons]; omega
    · exact Nat.zero_le _
  · obtain ⟨_, he⟩ := key d j hd hj
    rcases he.d.pl with x | x <;> omega
  · obtain ⟨rfl, he⟩ := key d j hd hj
    generalize (([ev40 :: es] : List (List Ev)).getD 0 []).getD (j + 1) dfE = e at *
    have hc : cks (fm40 ss f) ((0 : Nat) : Int) = [] := cks_none rfl _
    have hp := he.d.pl
    refine ⟨by rcases hp with x | x <;> omega, by rw [hc, he.s], by rw [hc, he.a], devS2_len _ _ _ _, fun _ => he.d.ar, fun h8 => by rcases hp with x | x <;> omega, fun h2 => ?_, fun h5 => by rcases hp with x | x <;> omega, fun i hi => by rw [hc] at hi; simp at hi, fun i hi => by rw [hc] at hi; simp at hi⟩
    obtain ⟨m0, m1, m2⟩ := he.d.mk2 h2
    obtain ⟨nm, lo, hi, hs⟩ := hsk _ (List.mem_of_getElem? (getD_at (d := (⟨Str.empty, 0, []⟩ : Sr)) m0 m1))
    have hs : srOf (fm40 ss f) (e.deed.nums.getD 0 0) = sr40 nm lo hi := hs
    have k6 : Six (srOf (fm40 ss f) (e.deed.nums.getD 0 0)).kinds (e.deed.nums.getD 1 0) := by
      rw [hs, m2]
      exact ⟨Int.le_refl _, by show (0 : Int) < 1; decide⟩
    refine ⟨m0, m1, k6, ?_⟩
    show (kdOf (srOf (fm40 ss f) (e.deed.nums.getD 0 0)).kinds (e.deed.nums.getD 1 0)).high.isSome = true
    rw [hs, m2]
    rfl
  · obtain ⟨_, he⟩ := key d j hd hj
    rcases he.d.pl with x | x <;> omega
theorem due40_pts {es : List Ev} {z : Bd} (h : z ∈ due40 ss es) : (∃ i : Nat, i ≤ es.length ∧ (z.one = ⟨0, (i : Int), -1⟩ ∨ z.one = stP)) ∧ ∃ i : Nat, i ≤ es.length ∧ (z.two = ⟨0, (i : Int), -1⟩ ∨ z.two = stP) := by
  unfold due40 at h
  obtain ⟨i, hi, hz⟩ := List.mem_flatMap.mp h
  have hi := List.mem_range.mp hi
  have e1 : (1 + (i : Int)) = ((i + 1 : Nat) : Int) := by omega
  have e2 : (1 + (i : Int)) - 1 = (i : Int) := by omega
  unfold dl40 at hz
  rw [e2, e1] at hz
  rcases List.mem_append.mp hz with hz | hz
  · rw [List.mem_singleton.mp hz]
    exact ⟨⟨i + 1, by omega, .inl rfl⟩, i, by omega, .inl rfl⟩
  · split at hz
    · simp only [List.mem_cons, List.not_mem_nil, or_false] at hz
      rcases hz with rfl | rfl
      · exact ⟨⟨0, by omega, .inr rfl⟩, i + 1, by omega, .inl rfl⟩
      · exact ⟨⟨i + 1, by omega, .inl rfl⟩, 0, by omega, .inr rfl⟩
    · cases hz
end
end Vs

/-! law 81: walks in comprehensions of two -/
namespace Vs
open PySem PySem.Spec PyProof.Rows L2
/-- any walk, in a comprehension of two -/
theorem it_walk {J : It} {n : Nat} {inv : Hp → Prop} {Y : Nat → Hp → V → Hp → Prop} (w : Walk J n inv Y) {Bd : V → Hp → (Hp → Prop) → Prop} {H0 : Hp} {Qd : Hp → Prop} (Pv : Nat → Hp → Prop) (h0 : Pv 0 H0) (hl : ∀ i H, i ≤ n → Pv i H → inv H)
    (hs : ∀ i x H H', i < n → Pv i H → Y i H x H' → Bd x H' (Pv (i + 1))) (hd : ∀ H, Pv n H → Qd H) :
    ∃ W : Nat → Nat → Hp → Prop, (∃ m, W 0 m H0) ∧ ∀ i m H, W i m H →
      (J.stop i H ∧ Qd H) ∨ (J.go i H ∧ ∃ Nx : Hp → Prop, (∀ H', Nx H' → ∃ m', m' < m ∧ W (i + 1) m' H') ∧ ∀ x H', J.yld i H x H' → Bd x H' Nx) := by
  refine ⟨fun i m H => m = n - i ∧ i ≤ n ∧ Pv i H, ⟨n, by simp, Nat.zero_le _, h0⟩, ?_⟩
  rintro i m H ⟨rfl, hi, p⟩
  have q := hl i H hi p
  by_cases hlt : i < n
  · exact .inr ⟨w.goes i H hlt q, Pv (i + 1), fun H' p' => ⟨n - (i + 1), by omega, rfl, hlt, p'⟩, fun x H' y => hs i x H H' hlt p (w.yields i H x H' hlt q y)⟩
  · have e : i = n := by omega
    subst e
    exact .inl ⟨w.stops H q, hd H p⟩
/-! ### the law's frame and view -/
def cl81 (hi : Int) : Cl := ⟨Str.ofString "c", 0, true, [⟨Str.ofString "k", 1, some hi⟩]⟩
def fm81 (ss : List Sr) (hi f : Int) : Fm := ⟨["a"], [cl81 hi], [], ss, f⟩
def SrG (s : Sr) : Prop := ∃ nm e l, s = ⟨nm, 0, [⟨Str.ofString "g", e, some l⟩]⟩
structure Ev81 (ss : List Sr) (e : Ev) : Prop where
  z : e.asleep = false
  s : e.shown = [0]
  a : e.after = [0]
  d : e.deed.place = 2
  ar : e.deed.nums.length = 3
  mk2 : 0 ≤ e.deed.nums.getD 0 0 ∧ e.deed.nums.getD 0 0 < (ss.length : Int) ∧ e.deed.nums.getD 1 0 = 0
def hd81 : HdM := ⟨some ⟨0, 1, 0⟩, 0, 0⟩
def ok81 (n : Nat) (p : Pt) : Prop := p = stP ∨ p = ⟨0, 1, 0⟩ ∨ ∃ i : Nat, i ≤ n ∧ p = ⟨0, (i : Int), -1⟩
theorem ok81.up {n m : Nat} {p : Pt} (h : ok81 n p) (l : n ≤ m) : ok81 m p := by
  rcases h with h | h | ⟨i, h, e⟩
  · exact .inl h
  · exact .inr (.inl h)
  · exact .inr (.inr ⟨i, by omega, e⟩)
section
variable {ss : List Sr} {hi f : Int}
theorem cks81 : cks (fm81 ss hi f) 0 = [0] := rfl
theorem heard81 {F : Fm} {vw : List (List Ev)} {e : Ev} (h : Ev81 ss e) : heardM F vw e.deed = none := by
  unfold heardM
  rw [if_neg (by have := h.d; omega)]
theorem evB81 {e : Ev} {j : Nat} (h : Ev81 ss e) : ∀ b ∈ evB (fm81 ss hi f) 0 ((j : Int) + 1) e (if j = 0 then [dfH] else [hd81]) none, ok81 (j + 1) b.one ∧ ok81 (j + 1) b.two := fun b hb => by
  have o1 : ok81 (j + 1) ⟨0, (j : Int) + 1, -1⟩ := .inr (.inr ⟨j + 1, Nat.le_refl _, rfl⟩)
  have o2 : ok81 (j + 1) ⟨0, (j : Int) + 1 - 1, -1⟩ := .inr (.inr ⟨j, by omega, by rw [show (j : Int) + 1 - 1 = (j : Int) by omega]⟩)
  have o3 : ok81 (j + 1) stP := .inl rfl
  have o4 : ok81 (j + 1) ⟨0, 1, 0⟩ := .inr (.inl rfl)
  unfold evB at hb
  rcases List.mem_append.mp hb with hb | hb
  · rcases List.mem_append.mp hb with hb | hb
    · rw [List.mem_singleton.mp hb]
      exact ⟨o1, o2⟩
    · have hb : b ∈ clockM (cl81 hi) 0 0 ((j : Int) + 1) e (e.shown.getD 0 0) ((if j = 0 then [dfH] else [hd81]).getD 0 dfH) := by
        have h2 : b ∈ (List.range 1).flatMap (cB (fm81 ss hi f) 0 ((j : Int) + 1) e (if j = 0 then [dfH] else [hd81])) := hb
        obtain ⟨k, hk, h3⟩ := List.mem_flatMap.mp h2
        have : k = 0 := by have := List.mem_range.mp hk; omega
        subst this
        exact h3
      rw [h.s] at hb
      by_cases j0 : j = 0
      · rw [if_pos j0] at hb
        subst j0
        unfold clockM at hb
        have hs : sinceM (cl81 hi).goes e dfH = none := by unfold sinceM; split <;> rfl
        have hs : sinceM (cl81 hi).goes e (([dfH] : List HdM).getD 0 dfH) = none := hs
        rw [hs] at hb
        unfold ftl at hb
        simp only [List.mem_cons, List.not_mem_nil, or_false] at hb
        rcases hb with rfl | rfl
        · exact ⟨o4, o1⟩
        · exact ⟨o1, o4⟩
      · rw [if_neg j0] at hb
        unfold clockM at hb
        have hs : sinceM (cl81 hi).goes e (([hd81] : List HdM).getD 0 dfH) = some ⟨0, 1, 0⟩ := by
          unfold sinceM
          rw [if_neg (by rw [h.z, h.d]; simp)]
          rfl
        rw [hs] at hb
        have hb : b ∈ ftl ⟨0, 1, 0⟩ ⟨0, (j : Int) + 1, -1⟩ 0 (hiOf (kdOf (cl81 hi).kinds 0)) 0 := hb
        unfold ftl at hb
        simp only [List.mem_cons, List.not_mem_nil, or_false] at hb
        rcases hb with rfl | rfl
        · exact ⟨o4, o1⟩
        · exact ⟨o1, o4⟩
  · unfold restM at hb
    rw [if_pos h.d] at hb
    unfold markM ftl at hb
    simp only [List.mem_cons, List.not_mem_nil, or_false] at hb
    rcases hb with rfl | rfl
    · exact ⟨o3, o1⟩
    · exact ⟨o1, o3⟩
theorem evH81 {e : Ev} {j : Nat} (h : Ev81 ss e) : evH (fm81 ss hi f) 0 ((j : Int) + 1) e (if j = 0 then [dfH] else [hd81]) = [hd81] := by
  show [handM (cl81 hi) 0 0 ((j : Int) + 1) e 0 ((if j = 0 then [dfH] else [hd81]).getD 0 dfH)] = _
  have hg : givenM e.deed 0 0 = none := by
    unfold givenM
    rw [if_neg (by have := h.d; omega), if_neg (by have := h.d; omega)]
  unfold handM
  rw [hg, h.a, h.s]
  by_cases j0 : j = 0
  · subst j0
    have hs : sinceM (cl81 hi).goes e (([dfH] : List HdM).getD 0 dfH) = none := by unfold sinceM; split <;> rfl
    rw [if_pos rfl, hs]
    rfl
  · have hs : sinceM (cl81 hi).goes e (([hd81] : List HdM).getD 0 dfH) = some ⟨0, 1, 0⟩ := by
      unfold sinceM
      rw [if_neg (by rw [h.z, h.d]; simp)]
      rfl
    rw [if_neg j0, hs]
    rfl
theorem devS81 {es : List Ev} (hes : ∀ e ∈ es, Ev81 ss e) : ∀ j, j ≤ es.length → (devS (fm81 ss hi f) [ev40 :: es] 0 j).2 = (if j = 0 then [dfH] else [hd81]) ∧ ∀ b ∈ (devS (fm81 ss hi f) [ev40 :: es] 0 j).1, ok81 j b.one ∧ ok81 j b.two
  | 0, _ => ⟨rfl, fun b hb => by cases hb⟩
  | j + 1, hj => by
    obtain ⟨i1, i2⟩ := devS81 hes j (by omega)
    have he : Ev81 ss (es.getD j dfE) := hes _ (List.mem_of_getElem? (getD_ix (by omega)))
    have e1 : (devS (fm81 ss hi f) [ev40 :: es] 0 (j + 1)).1 = (devS (fm81 ss hi f) [ev40 :: es] 0 j).1 ++ evB (fm81 ss hi f) 0 ((j : Int) + 1) (es.getD j dfE) (if j = 0 then [dfH] else [hd81]) none := by
      rw [devS, ← i1]
      show _ ++ evB (fm81 ss hi f) 0 ((j : Int) + 1) (es.getD j dfE) _ (heardM (fm81 ss hi f) _ (es.getD j dfE).deed) = _
      rw [heard81 he]
    have e2 : (devS (fm81 ss hi f) [ev40 :: es] 0 (j + 1)).2 = [hd81] := by
      rw [devS]
      show evH (fm81 ss hi f) 0 ((j : Int) + 1) (es.getD j dfE) (devS (fm81 ss hi f) [ev40 :: es] 0 j).2 = _
      rw [i1, evH81 he]
    rw [e1, e2]
    refine ⟨rfl, fun b hb => ?_⟩
    rcases List.mem_append.mp hb with hb | hb
    · obtain ⟨a, b⟩ := i2 b hb
      exact ⟨a.up (by omega), b.up (by omega)⟩
    · exact evB81 he b hb
theorem vwB81 {es : List Ev} : vwB (fm81 ss hi f) [ev40 :: es] = (devS (fm81 ss hi f) [ev40 :: es] 0 es.length).1 := by
  show (devS (fm81 ss hi f) [ev40 :: es] 0 ((ev40 :: es).length - 1)).1 ++ [] = _
  rw [List.append_nil, List.length_cons, Nat.add_sub_cancel]
theorem vwB81_ok {es : List Ev} (hes : ∀ e ∈ es, Ev81 ss e) : ∀ b ∈ vwB (fm81 ss hi f) [ev40 :: es], ok81 es.length b.one ∧ ok81 es.length b.two := by
  rw [vwB81]
  exact (devS81 hes _ (Nat.le_refl _)).2
theorem fit81 {es : List Ev} (hes : ∀ e ∈ es, Ev81 ss e) (hl : es.length ≤ 20) (hsk : ∀ s ∈ ss, SrG s) (h18 : In18 hi) : VwFit (fm81 ss hi f) [ev40 :: es] := by
  have key : ∀ d j, d < ([ev40 :: es] : List (List Ev)).length → j + 1 < (([ev40 :: es] : List (List Ev)).getD d []).length → d = 0 ∧ j < es.length ∧ (([ev40 :: es] : List (List Ev)).getD d []).getD (j + 1) dfE = es.getD j dfE ∧ Ev81 ss (es.getD j dfE) := by
    intro d j hd hj
    have hd0 : d = 0 := by
      rw [List.length_singleton] at hd
      omega
    subst hd0
    have hj : j + 1 < (ev40 :: es).length := hj
    rw [List.length_cons] at hj
    exact ⟨rfl, by omega, rfl, hes _ (List.mem_of_getElem? (getD_ix (xs := es) (i := j) (by omega)))⟩
  refine ⟨by show 1 ≤ 10; decide, by show 1 ≤ 6; decide, fun d => ?_, fun d j hd hj => ?_, fun d j hd hj => ?_, fun d j hd hj h5 => ?_⟩
  · rw [one_getD]
    split
    · rw [List.length_cons]; omega
    · exact Nat.zero_le _
  · obtain ⟨_, _, e, he⟩ := key d j hd hj
    rw [e, he.d]
    decide
  · obtain ⟨rfl, hjl, e, he⟩ := key d j hd hj
    have hh := (devS81 (hi := hi) (f := f) hes j (by omega)).1
    have hk0 : (((devS (fm81 ss hi f) [ev40 :: es] 0 j).2).getD 0 dfH).kind = 0 := by
      rw [hh]
      split <;> rfl
    have hhl : ((devS (fm81 ss hi f) [ev40 :: es] 0 j).2).length = 1 := by
      rw [hh]
      split <;> rfl
    rw [e]
    generalize es.getD j dfE = ev at *
    refine ⟨by rw [he.d]; decide, by rw [he.s]; rfl, by rw [he.a]; rfl, hhl, fun _ => by rw [he.ar, he.d]; rfl, (fun h8 => by rw [he.d] at h8; cases h8), fun h2 => ?_, (fun h5 => by rw [he.d] at h5; cases h5), fun i hi' => ?_, fun i hi' => ?_⟩
    · obtain ⟨m0, m1, m2⟩ := he.mk2
      obtain ⟨nm, lo, hi2, hs⟩ := hsk _ (List.mem_of_getElem? (getD_at (d := (⟨Str.empty, 0, []⟩ : Sr)) m0 m1))
      have hs : srOf (fm81 ss hi f) (ev.deed.nums.getD 0 0) = ⟨nm, 0, [⟨Str.ofString "g", lo, some hi2⟩]⟩ := hs
      have k6 : Six (srOf (fm81 ss hi f) (ev.deed.nums.getD 0 0)).kinds (ev.deed.nums.getD 1 0) := by
        rw [hs, m2]
        exact ⟨Int.le_refl _, by show (0 : Int) < 1; decide⟩
      refine ⟨m0, m1, k6, ?_⟩
      rw [hs, m2]
      rfl
    · have : i = 0 := by have h : i < 1 := hi'; omega
      subst this
      have hk0 : (((devS (fm81 ss hi f) [ev40 :: es] ((0 : Nat)) j).2).getD 0 dfH).kind = 0 := hk0
      rw [hk0]
      exact ⟨by show In18 1; unfold In18; decide, hi, rfl, h18⟩
    · have : i = 0 := by have h : i < 1 := hi'; omega
      subst this
      have hk0 : (((devS (fm81 ss hi f) [ev40 :: es] ((0 : Nat)) j).2).getD 0 dfH).kind = 0 := hk0
      rw [hk0]
      exact ⟨Int.le_refl _, by show (0 : Int) < 1; decide⟩
  · obtain ⟨_, _, e, he⟩ := key d j hd hj
    rw [e, he.d] at h5
    cases h5
end
end Vs

/-! the points of any view -/
namespace Vs
open PySem PySem.Spec PyProof.Rows L2
/-- the events of a view, device by device -/
def evtI (vw : List (List Ev)) (n : Nat) : List (Nat × Nat) := (List.range n).flatMap fun d => (List.range (vw.getD d []).length).map fun j => (d, j)
theorem evtI_succ (vw : List (List Ev)) (n : Nat) : evtI vw (n + 1) = evtI vw n ++ (List.range (vw.getD n []).length).map fun j => (n, j) := by
  unfold evtI
  rw [List.range_succ, List.flatMap_append]
  congr 1
  exact List.append_nil _
def evPt (z : Nat × Nat) : Pt := ⟨(z.1 : Int), (z.2 : Int), -1⟩
theorem evtI_mem {vw : List (List Ev)} {n : Nat} {z : Nat × Nat} : z ∈ evtI vw n ↔ z.1 < n ∧ z.2 < (vw.getD z.1 []).length := by
  unfold evtI
  rw [List.mem_flatMap]
  constructor
  · rintro ⟨d, hd, h⟩
    obtain ⟨j, hj, rfl⟩ := List.mem_map.mp h
    exact ⟨List.mem_range.mp hd, List.mem_range.mp hj⟩
  · rintro ⟨h1, h2⟩
    exact ⟨z.1, List.mem_range.mpr h1, List.mem_map.mpr ⟨z.2, List.mem_range.mpr h2, rfl⟩⟩
/-- all points that a view's bounds may name -/
def ptAll (F : Fm) (vw : List (List Ev)) : List Pt := stP :: (List.range vw.length).flatMap fun d => (List.range (vw.getD d []).length).flatMap fun (j : Nat) => (⟨(d : Int), (j : Int), -1⟩ : Pt) :: (cks F d).map fun c => ⟨(d : Int), (j : Int), c⟩
section
variable {F : Fm} {vw : List (List Ev)}
theorem ptAll_st : stP ∈ ptAll F vw := List.mem_cons_self
theorem ptAll_ev {d j : Nat} (hd : d < vw.length) (hj : j < (vw.getD d []).length) : (⟨(d : Int), (j : Int), -1⟩ : Pt) ∈ ptAll F vw :=
  List.mem_cons_of_mem _ (List.mem_flatMap.mpr ⟨d, List.mem_range.mpr hd, List.mem_flatMap.mpr ⟨j, List.mem_range.mpr hj, List.mem_cons_self⟩⟩)
theorem ptAll_tk {d j i : Nat} (hd : d < vw.length) (hj : j < (vw.getD d []).length) (hi : i < (cks F d).length) : (⟨(d : Int), (j : Int), (cks F d).getD i 0⟩ : Pt) ∈ ptAll F vw :=
  List.mem_cons_of_mem _ (List.mem_flatMap.mpr ⟨d, List.mem_range.mpr hd, List.mem_flatMap.mpr ⟨j, List.mem_range.mpr hj, List.mem_cons_of_mem _ (List.mem_map.mpr ⟨_, List.mem_of_getElem? (getD_ix (d := (0 : Int)) hi), rfl⟩)⟩⟩)
theorem evt_all {z : Nat × Nat} (h : z ∈ evtI vw vw.length) : evPt z ∈ ptAll F vw := by
  obtain ⟨h1, h2⟩ := evtI_mem.mp h
  exact ptAll_ev h1 h2
theorem inV_all {d n : Int} (h : InV vw d n) : (⟨d, n, -1⟩ : Pt) ∈ ptAll F vw := by
  rcases h with ⟨rfl, rfl⟩ | ⟨d0, d1, n0, n1⟩
  · exact ptAll_st
  · obtain ⟨d, rfl⟩ : ∃ k : Nat, d = (k : Int) := ⟨d.toNat, by omega⟩
    obtain ⟨n, rfl⟩ : ∃ k : Nat, n = (k : Int) := ⟨n.toNat, by omega⟩
    exact ptAll_ev (by omega) (by have : ((d : Int)).toNat = d := by omega
                                  rw [this] at n1; omega)
theorem inV_evt {d n : Int} (h : InV vw d n) : (⟨d, n, -1⟩ : Pt) = stP ∨ ∃ z ∈ evtI vw vw.length, (⟨d, n, -1⟩ : Pt) = evPt z := by
  rcases h with ⟨rfl, rfl⟩ | ⟨d0, d1, n0, n1⟩
  · exact .inl rfl
  · obtain ⟨d, rfl⟩ : ∃ k : Nat, d = (k : Int) := ⟨d.toNat, by omega⟩
    obtain ⟨n, rfl⟩ : ∃ k : Nat, n = (k : Int) := ⟨n.toNat, by omega⟩
    exact .inr ⟨(d, n), evtI_mem.mpr ⟨by show d < _; omega, by have : ((d : Int)).toNat = d := by omega
                                                               rw [this] at n1; show n < (vw.getD d []).length; omega⟩, rfl⟩
theorem since_pt {g : Bool} {e : Ev} {h : HdM} {t : Pt} (x : sinceM g e h = some t) : h.pt = some t := by
  unfold sinceM at x
  split at x
  · cases x
  · exact x
theorem clockM_pts {S : Pt → Prop} {C : Cl} {c dev n : Int} {e : Ev} {s : Int} {h : HdM} (h1 : ∀ t, h.pt = some t → S t) (h2 : S ⟨dev, n, c⟩) (h3 : S ⟨dev, n, -1⟩) (h4 : S ⟨dev, n - 1, -1⟩) : ∀ b ∈ clockM C c dev n e s h, S b.one ∧ S b.two := fun b hb => by
  unfold clockM at hb
  cases hs : sinceM C.goes e h with
  | none =>
    rw [hs] at hb
    unfold ftl at hb
    simp only [List.mem_cons, List.not_mem_nil, or_false] at hb
    rcases hb with rfl | rfl
    · exact ⟨h2, h3⟩
    · exact ⟨h3, h2⟩
  | some t =>
    have ht := h1 t (since_pt hs)
    rw [hs] at hb
    simp only at hb
    split at hb
    · unfold ftl at hb
      simp only [List.mem_cons, List.not_mem_nil, or_false] at hb
      rcases hb with rfl | rfl
      · exact ⟨ht, h3⟩
      · exact ⟨h3, ht⟩
    · unfold ftl at hb
      simp only [List.mem_append, List.mem_cons, List.not_mem_nil, or_false] at hb
      rcases hb with (((rfl | rfl) | rfl) | rfl) | (rfl | rfl)
      · exact ⟨ht, h2⟩
      · exact ⟨h2, ht⟩
      · exact ⟨h2, ht⟩
      · exact ⟨h2, h4⟩
      · exact ⟨h2, h3⟩
      · exact ⟨h3, h2⟩
theorem handM_pt {S : Pt → Prop} {C : Cl} {c dev n : Int} {e : Ev} {i : Nat} {h : HdM} (h1 : ∀ t, h.pt = some t → S t) (h2 : S ⟨dev, n, c⟩) (h3 : S ⟨dev, n, -1⟩) : ∀ t, (handM C c dev n e i h).pt = some t → S t := fun t ht => by
  unfold handM at ht
  split at ht
  · cases ht; exact h3
  · split at ht
    · cases ht; exact h3
    · split at ht
      · exact h1 t ht
      · cases ht; exact h2
theorem hearM_pts {S : Pt → Prop} {here : Pt} {d : Dd} {k : Option Int} (h1 : S here) (h2 : S ⟨(lkOf F (d.nums.getD 0 0)).s, d.nums.getD 1 0, -1⟩) : ∀ b ∈ hearM F here d k, S b.one ∧ S b.two := fun b hb => by
  unfold hearM at hb
  rcases List.mem_append.mp hb with hb | hb
  · rw [List.mem_singleton.mp hb]
    exact ⟨h1, h2⟩
  · cases k with
    | none => cases hb
    | some j =>
      rcases List.mem_append.mp hb with hb | hb
      · rw [List.mem_singleton.mp hb]
        exact ⟨h1, h2⟩
      · cases hh : (kdOf (lkOf F (d.nums.getD 0 0)).kinds j).high with
        | none => rw [hh] at hb; cases hb
        | some m =>
          rw [hh] at hb
          rw [List.mem_singleton.mp hb]
          exact ⟨h2, h1⟩
/-- what the hands point to, after some events of a device -/
theorem devS_pts (hf : VwFit F vw) {d : Nat} (hd : d < vw.length) : ∀ j, j < (vw.getD d []).length → (∀ b ∈ (devS F vw d j).1, b.one ∈ ptAll F vw ∧ b.two ∈ ptAll F vw) ∧ ∀ i, i < (cks F d).length → ∀ t, ((devS F vw d j).2.getD i dfH).pt = some t → t ∈ ptAll F vw
  | 0, _ => ⟨fun b hb => (by cases hb), fun i hi t ht => by
      have : (devS F vw d 0).2 = List.replicate (cks F d).length dfH := rfl
      rw [this, List.getD_eq_getElem?_getD, List.getElem?_replicate, if_pos hi] at ht
      cases ht⟩
  | j + 1, hj => by
    obtain ⟨i1, i2⟩ := devS_pts hf hd j (by omega)
    have here : (⟨(d : Int), (j : Int) + 1, -1⟩ : Pt) ∈ ptAll F vw := by
      have := ptAll_ev (F := F) hd hj
      rwa [show ((j + 1 : Nat) : Int) = (j : Int) + 1 from rfl] at this
    have last : (⟨(d : Int), (j : Int) + 1 - 1, -1⟩ : Pt) ∈ ptAll F vw := by
      rw [show (j : Int) + 1 - 1 = (j : Int) by omega]
      exact ptAll_ev hd (by omega)
    have tick : ∀ i, i < (cks F d).length → (⟨(d : Int), (j : Int) + 1, (cks F d).getD i 0⟩ : Pt) ∈ ptAll F vw := fun i hi => by
      have := ptAll_tk (F := F) hd hj hi
      rwa [show ((j + 1 : Nat) : Int) = (j : Int) + 1 from rfl] at this
    have he : ((vw.getD d []).getD (j + 1) dfE).deed.place = 5 → HeFit F vw ((vw.getD d []).getD (j + 1) dfE).deed := hf.he d j hd hj
    rw [devS]
    generalize (vw.getD d []).getD (j + 1) dfE = e at *
    generalize (devS F vw d j).2 = hs at *
    refine ⟨fun b hb => ?_, fun i hi t ht => ?_⟩
    · rcases List.mem_append.mp hb with hb | hb
      · exact i1 b hb
      · unfold evB at hb
        rcases List.mem_append.mp hb with hb | hb
        · rcases List.mem_append.mp hb with hb | hb
          · rw [List.mem_singleton.mp hb]
            exact ⟨here, last⟩
          · obtain ⟨i, hi, h3⟩ := List.mem_flatMap.mp hb
            have hi := List.mem_range.mp hi
            exact clockM_pts (i2 i hi) (tick i hi) here last b h3
        · unfold restM at hb
          split at hb
          · unfold markM ftl at hb
            simp only [List.mem_cons, List.not_mem_nil, or_false] at hb
            rcases hb with rfl | rfl
            · exact ⟨ptAll_st, here⟩
            · exact ⟨here, ptAll_st⟩
          · split at hb
            · rename_i h5
              have h := he h5
              refine hearM_pts here ?_ b hb
              obtain ⟨a, ha⟩ : ∃ a : Nat, (lkOf F (e.deed.nums.getD 0 0)).s = (a : Int) := ⟨_, (Int.toNat_of_nonneg h.s0).symm⟩
              obtain ⟨c, hc⟩ : ∃ c : Nat, e.deed.nums.getD 1 0 = (c : Int) := ⟨_, (Int.toNat_of_nonneg h.n0).symm⟩
              have h1 := h.s1
              have h2 := h.n1
              rw [ha] at h1 h2
              rw [hc] at h2
              rw [ha, hc]
              exact ptAll_ev (by omega) (by have : ((a : Int)).toNat = a := by omega
                                            rw [this] at h2; omega)
            · cases hb
    · have hg : (evH F (d : Int) ((j : Int) + 1) e hs).getD i dfH = cH F (d : Int) ((j : Int) + 1) e hs i := by
        unfold evH
        rw [List.getD_eq_getElem?_getD, List.getElem?_map, List.getElem?_range hi]
        rfl
      rw [hg] at ht
      exact handM_pt (S := fun t => t ∈ ptAll F vw) (i2 i hi) (tick i hi) here t ht
theorem vwB_pts (hf : VwFit F vw) (ne : ∀ d, d < vw.length → 0 < (vw.getD d []).length) : ∀ b ∈ vwB F vw, b.one ∈ ptAll F vw ∧ b.two ∈ ptAll F vw := fun b hb => by
  obtain ⟨d, hd, h⟩ := List.mem_flatMap.mp hb
  have hd := List.mem_range.mp hd
  have := ne d hd
  exact (devS_pts hf hd _ (by omega)).1 b h
end
/-- the kinds that hands are of -/
theorem devS_kinds {F : Fm} {vw : List (List Ev)} {d : Nat} {S : Nat → Int → Prop} (h0 : ∀ i, i < (cks F d).length → S i 0) (hg : ∀ j i k, j + 1 < (vw.getD d []).length → i < (cks F d).length → givenM ((vw.getD d []).getD (j + 1) dfE).deed ((cks F d).getD i 0) i = some k → S i k) :
    ∀ j, j < (vw.getD d []).length → ∀ i, i < (cks F d).length → S i ((devS F vw d j).2.getD i dfH).kind
  | 0, _, i, hi => by
    have : (devS F vw d 0).2 = List.replicate (cks F d).length dfH := rfl
    rw [this, List.getD_eq_getElem?_getD, List.getElem?_replicate, if_pos hi]
    exact h0 i hi
  | j + 1, hj, i, hi => by
    have ih := devS_kinds h0 hg j (by omega) i hi
    have hg := hg j i
    rw [devS]
    generalize (vw.getD d []).getD (j + 1) dfE = e at *
    generalize (devS F vw d j).2 = hs at *
    have he : (evH F (d : Int) ((j : Int) + 1) e hs).getD i dfH = cH F (d : Int) ((j : Int) + 1) e hs i := by
      unfold evH
      rw [List.getD_eq_getElem?_getD, List.getElem?_map, List.getElem?_range hi]
      rfl
    rw [he]
    unfold cH handM
    cases hk : givenM e.deed ((cks F d).getD i 0) i with
    | some k => exact hg k hj hi hk
    | none =>
      simp only
      split
      · exact ih
      · split <;> exact ih
/-- how many points there may be -/
theorem ptAll_one {F : Fm} {es : List Ev} : (ptAll F [es]).length = 1 + es.length * (1 + (cks F 0).length) := by
  have key : ∀ n, ((List.range n).flatMap fun (j : Nat) => (⟨((0 : Nat) : Int), (j : Int), -1⟩ : Pt) :: (cks F (0 : Nat)).map fun c => ⟨((0 : Nat) : Int), (j : Int), c⟩).length = n * (1 + (cks F 0).length) := fun n => by
    induction n with
    | zero => rw [Nat.zero_mul]; rfl
    | succ n ih =>
      rw [List.range_succ, List.flatMap_append, List.length_append, ih, Nat.succ_mul]
      congr 1
      show (_ :: _ ++ []).length = _
      rw [List.append_nil, List.length_cons, List.length_map]
      exact Nat.add_comm _ _
  unfold ptAll
  rw [List.length_cons]
  have := key es.length
  have e : (List.range ([es] : List (List Ev)).length).flatMap (fun d => (List.range (([es] : List (List Ev)).getD d []).length).flatMap fun (j : Nat) => (⟨(d : Int), (j : Int), -1⟩ : Pt) :: (cks F d).map fun c => ⟨(d : Int), (j : Int), c⟩) = (List.range es.length).flatMap fun (j : Nat) => (⟨((0 : Nat) : Int), (j : Int), -1⟩ : Pt) :: (cks F (0 : Nat)).map fun c => ⟨((0 : Nat) : Int), (j : Int), c⟩ := List.append_nil _
  rw [e, this]
  omega
end Vs

/-! law 83: one clock, sources of one kind, marks -/
namespace Vs
open PySem PySem.Spec PyProof.Rows L2
def cl83 (lo hi : Int) : Cl := ⟨Str.ofString "c", 0, true, [⟨Str.ofString "k", lo, some hi⟩]⟩
def fm83 (ss : List Sr) (lo hi f : Int) : Fm := ⟨["a"], [cl83 lo hi], [], ss, f⟩
structure Ev83 (ss : List Sr) (e : Ev) : Prop where
  s : e.shown.length = 1
  a : e.after.length = 1
  d : e.deed.place = 2
  ar : e.deed.nums.length = 3
  mk2 : 0 ≤ e.deed.nums.getD 0 0 ∧ e.deed.nums.getD 0 0 < (ss.length : Int) ∧ e.deed.nums.getD 1 0 = 0
theorem given83 {ss : List Sr} {e : Ev} (h : Ev83 ss e) (c : Int) (i : Nat) : givenM e.deed c i = none := by
  unfold givenM
  rw [if_neg (by have := h.d; omega), if_neg (by have := h.d; omega)]
theorem fit83 {ss : List Sr} {lo hi f : Int} {es : List Ev} (hes : ∀ e ∈ es, Ev83 ss e) (hl : es.length ≤ 20) (hsk : ∀ s ∈ ss, SrG s) (h18 : In18 lo) (h18' : In18 hi) : VwFit (fm83 ss lo hi f) [ev40 :: es] := by
  have key : ∀ d j, d < ([ev40 :: es] : List (List Ev)).length → j + 1 < (([ev40 :: es] : List (List Ev)).getD d []).length → d = 0 ∧ j < es.length ∧ (([ev40 :: es] : List (List Ev)).getD d []).getD (j + 1) dfE = es.getD j dfE ∧ Ev83 ss (es.getD j dfE) := by
    intro d j hd hj
    have hd0 : d = 0 := by
      rw [List.length_singleton] at hd
      omega
    subst hd0
    have hj : j + 1 < (ev40 :: es).length := hj
    rw [List.length_cons] at hj
    exact ⟨rfl, by omega, rfl, hes _ (List.mem_of_getElem? (getD_ix (xs := es) (i := j) (by omega)))⟩
  have kinds := devS_kinds (F := fm83 ss lo hi f) (vw := [ev40 :: es]) (d := 0) (S := fun _ k => k = 0) (fun _ _ => rfl) (fun j i k hj hi hk => by
    obtain ⟨_, _, e, he⟩ := key 0 j (by show 0 < 1; decide) hj
    rw [e, given83 he] at hk
    cases hk)
  refine ⟨by show 1 ≤ 10; decide, by show 1 ≤ 6; decide, fun d => ?_, fun d j hd hj => ?_, fun d j hd hj => ?_, fun d j hd hj h5 => ?_⟩
  · rw [one_getD]
    split
    · rw [List.length_cons]; omega
    · exact Nat.zero_le _
  · obtain ⟨_, _, e, he⟩ := key d j hd hj
    rw [e, he.d]
    decide
  · obtain ⟨rfl, hjl, e, he⟩ := key d j hd hj
    have kd := kinds j (by omega)
    have hc : (cks (fm83 ss lo hi f) ((0 : Nat) : Int)).length = 1 := rfl
    rw [e]
    refine ⟨by rw [he.d]; decide, by rw [he.s]; rfl, by rw [he.a]; rfl, devS2_len _ _ _ _, fun _ => by rw [he.ar, he.d]; rfl, (fun h8 => by rw [he.d] at h8; cases h8), fun h2 => ?_, (fun h5 => by rw [he.d] at h5; cases h5), fun i hi' => ?_, fun i hi' => ?_⟩
    · obtain ⟨m0, m1, m2⟩ := he.mk2
      obtain ⟨nm, lo2, hi2, hs⟩ := hsk _ (List.mem_of_getElem? (getD_at (d := (⟨Str.empty, 0, []⟩ : Sr)) m0 m1))
      have hs : srOf (fm83 ss lo hi f) ((es.getD j dfE).deed.nums.getD 0 0) = ⟨nm, 0, [⟨Str.ofString "g", lo2, some hi2⟩]⟩ := hs
      have k6 : Six (srOf (fm83 ss lo hi f) ((es.getD j dfE).deed.nums.getD 0 0)).kinds ((es.getD j dfE).deed.nums.getD 1 0) := by
        rw [hs, m2]
        exact ⟨Int.le_refl _, by show (0 : Int) < 1; decide⟩
      refine ⟨m0, m1, k6, ?_⟩
      rw [hs, m2]
      rfl
    · rw [kd i hi']
      have : i = 0 := by omega
      subst this
      exact ⟨h18, hi, rfl, h18'⟩
    · rw [kd i hi']
      have : i = 0 := by omega
      subst this
      exact ⟨Int.le_refl _, by show (0 : Int) < 1; decide⟩
  · obtain ⟨_, _, e, he⟩ := key d j hd hj
    rw [e, he.d] at h5
    cases h5
end Vs

/-! views of any frame that fit it -/
namespace Vs
open PySem PySem.Spec PyProof.Rows L2
/-- the kinds of a clock, as its rules need them -/
structure ClG (C : Cl) : Prop where
  ne : 0 < C.kinds.length
  ks : ∀ k ∈ C.kinds, KdC k
/-- an event of a device that fits the frame and the view -/
structure EvG (F : Fm) (vw : List (List Ev)) (d : Nat) (e : Ev) : Prop where
  pl : e.deed.place < 9
  sh : e.shown.length = (cks F d).length
  af : e.after.length = (cks F d).length
  ar : e.deed.place ≠ 8 → e.deed.nums.length = arity e.deed.place
  an : e.deed.place = 8 → e.deed.nums.length = (cks F d).length ∧ ∀ i, i < (cks F d).length → Six (clOf F ((cks F d).getD i 0)).kinds (e.deed.nums.getD i 0)
  kd : e.deed.place = 1 → ∀ i, i < (cks F d).length → e.deed.nums.getD 0 0 = (cks F d).getD i 0 → Six (clOf F ((cks F d).getD i 0)).kinds (e.deed.nums.getD 1 0)
  ma : e.deed.place = 2 → 0 ≤ e.deed.nums.getD 0 0 ∧ e.deed.nums.getD 0 0 < F.sources.length ∧ Six (srOf F (e.deed.nums.getD 0 0)).kinds (e.deed.nums.getD 1 0) ∧ (kdOf (srOf F (e.deed.nums.getD 0 0)).kinds (e.deed.nums.getD 1 0)).high.isSome = true
  he : e.deed.place = 5 → HeFit F vw e.deed ∧ ∀ k, heardM F vw e.deed = some k → Six (lkOf F (e.deed.nums.getD 0 0)).kinds k
theorem fit_of {F : Fm} {vw : List (List Ev)} (c10 : F.clocks.length ≤ 10) (v6 : vw.length ≤ 6) (e40 : ∀ d, (vw.getD d []).length ≤ 40) (hcl : ∀ C ∈ F.clocks, ClG C) (hev : ∀ d j, d < vw.length → j + 1 < (vw.getD d []).length → EvG F vw d ((vw.getD d []).getD (j + 1) dfE)) : VwFit F vw := by
  have hc : ∀ {d i : Nat}, i < (cks F d).length → ClG (clOf F ((cks F d).getD i 0)) := fun {d i} hi => by
    obtain ⟨c0, c1⟩ := cks_in hi
    exact hcl _ (List.mem_of_getElem? (getD_at (d := (⟨Str.empty, 0, false, []⟩ : Cl)) c0 c1))
  refine ⟨c10, v6, e40, fun d j hd hj => (hev d j hd hj).pl, fun d j hd hj => ?_, fun d j hd hj h5 => ((hev d j hd hj).he h5).1⟩
  have kinds := devS_kinds (F := F) (vw := vw) (d := d) (S := fun i k => Six (clOf F ((cks F d).getD i 0)).kinds k) (fun i hi => ⟨Int.le_refl _, by have := (hc hi).ne; omega⟩) (fun j i k hj hi hk => by
    have he := hev d j hd hj
    unfold givenM at hk
    split at hk
    · rename_i h8
      have := (he.an h8).2 i hi
      have ek : ((vw.getD d []).getD (j + 1) dfE).deed.nums.getD i 0 = k := by rw [List.getD_eq_getElem?_getD, hk]; rfl
      rw [ek] at this
      exact this
    · split at hk
      · rename_i h1
        have e0 : ((vw.getD d []).getD (j + 1) dfE).deed.nums.getD 0 0 = (cks F d).getD i 0 := by
          rw [List.getD_eq_getElem?_getD, h1.2]
          rfl
        have := he.kd h1.1 i hi e0
        have ek : ((vw.getD d []).getD (j + 1) dfE).deed.nums.getD 1 0 = k := by rw [List.getD_eq_getElem?_getD, hk]; rfl
        rw [ek] at this
        exact this
      · cases hk) j (by omega)
  have he := hev d j hd hj
  exact ⟨he.pl, he.sh, he.af, devS2_len _ _ _ _, he.ar, fun h8 => (he.an h8).1, he.ma, fun h5 => ⟨(he.he h5).1.l0, (he.he h5).1.l1, (he.he h5).2⟩, fun i hi => (hc hi).ks _ (kdOf_mem (kinds i hi)), fun i hi => kinds i hi⟩
theorem evB_lenC (F : Fm) (dev n : Int) (e : Ev) (hs : List HdM) (k : Option Int) : (evB F dev n e hs k).length ≤ 4 + 6 * (cks F dev).length := by
  have h1 := flatB_len (f := cB F dev n e hs) (fun i => clockM_len _ _ _ _ _ _ _) (cks F dev).length
  have h3 : (restM F ⟨dev, n, -1⟩ e.deed k).length ≤ 3 := by
    unfold restM
    split
    · show 2 ≤ 3
      decide
    · split
      · exact hearM_len _ _ _ _
      · exact Nat.zero_le _
  unfold evB
  rw [List.length_append, List.length_append, List.length_cons, List.length_nil]
  omega
theorem devS_lenC (F : Fm) (vw : List (List Ev)) (d : Nat) : ∀ j, (devS F vw d j).1.length ≤ (4 + 6 * (cks F d).length) * j
  | 0 => Nat.zero_le _
  | j + 1 => by
    have h1 := devS_lenC F vw d j
    have h2 := evB_lenC F d ((j : Int) + 1) ((vw.getD d []).getD (j + 1) dfE) (devS F vw d j).2 (heardM F vw ((vw.getD d []).getD (j + 1) dfE).deed)
    rw [devS, List.length_append, Nat.mul_succ]
    omega
/-- how many points there may be, of one device -/
def ptOne (F : Fm) (vw : List (List Ev)) (d : Nat) : List Pt := (List.range (vw.getD d []).length).flatMap fun (j : Nat) => (⟨(d : Int), (j : Int), -1⟩ : Pt) :: (cks F d).map fun c => ⟨(d : Int), (j : Int), c⟩
theorem ptOne_len (F : Fm) (vw : List (List Ev)) (d : Nat) : (ptOne F vw d).length = (vw.getD d []).length * (1 + (cks F d).length) := by
  unfold ptOne
  generalize (vw.getD d []).length = n
  induction n with
  | zero => rw [Nat.zero_mul]; rfl
  | succ n ih =>
    rw [List.range_succ, List.flatMap_append, List.length_append, ih, Nat.succ_mul]
    congr 1
    show (_ :: _ ++ []).length = _
    rw [List.append_nil, List.length_cons, List.length_map]
    exact Nat.add_comm _ _
theorem ptAll_two {F : Fm} {a b : List Ev} : (ptAll F [a, b]).length = 1 + a.length * (1 + (cks F 0).length) + b.length * (1 + (cks F 1).length) := by
  have h0 := ptOne_len F [a, b] 0
  have h1 := ptOne_len F [a, b] 1
  have e : ptAll F [a, b] = stP :: (ptOne F [a, b] 0 ++ (ptOne F [a, b] 1 ++ [])) := rfl
  rw [e, List.length_cons, List.length_append, List.append_nil, h0, h1]
  show a.length * (1 + (cks F 0).length) + b.length * (1 + (cks F 1).length) + 1 = _
  omega
theorem evtI_one {a : List Ev} : (evtI [a] 1).length = a.length := by
  rw [evtI_succ]
  show ([] ++ (List.range a.length).map fun j => (0, j)).length = _
  rw [List.nil_append, List.length_map, List.length_range]
theorem evtI_two {a b : List Ev} : (evtI [a, b] 2).length = a.length + b.length := by
  rw [evtI_succ, evtI_succ]
  show ([] ++ ((List.range a.length).map fun j => (0, j)) ++ (List.range b.length).map fun j => (1, j)).length = _
  rw [List.nil_append, List.length_append, List.length_map, List.length_map, List.length_range, List.length_range]
theorem vwB_one {F : Fm} {a : List Ev} : (vwB F [a]).length ≤ (4 + 6 * (cks F 0).length) * (a.length - 1) := by
  show ((devS F [a] 0 (a.length - 1)).1 ++ []).length ≤ _
  rw [List.append_nil]
  exact devS_lenC F [a] 0 (a.length - 1)
theorem vwB_two {F : Fm} {a b : List Ev} : (vwB F [a, b]).length ≤ (4 + 6 * (cks F 0).length) * (a.length - 1) + (4 + 6 * (cks F 1).length) * (b.length - 1) := by
  show ((devS F [a, b] 0 (a.length - 1)).1 ++ ((devS F [a, b] 1 (b.length - 1)).1 ++ [])).length ≤ _
  rw [List.append_nil, List.length_append]
  have h0 := devS_lenC F [a, b] 0 (a.length - 1)
  have h1 := devS_lenC F [a, b] 1 (b.length - 1)
  exact Nat.add_le_add h0 h1
end Vs

namespace Vs
open PySem PySem.Spec PyProof.Rows L2
/-- a drawn clock -/
structure ClK23 (c : Cl) : Prop where
  dv : c.dev = 0
  len : 0 < c.kinds.length ∧ c.kinds.length ≤ 2
  ks : ∀ k ∈ c.kinds, KdC k
theorem in18 {g : Int} (h0 : 0 ≤ g) (h1 : g ≤ 1000) : In18 g := by
  unfold In18
  omega
def cl0 : Cl := ⟨Str.empty, 0, false, []⟩
/-- a drawn deed -/
def Dd23 (cs : List Cl) (d : Dd) : Prop := (d = ⟨0, []⟩) ∨ (∃ c k : Int, d = ⟨1, [c, k]⟩ ∧ 0 ≤ c ∧ c < (cs.length : Int) ∧ Six (cs.getD c.toNat cl0).kinds k) ∨ (∃ ks : List Int, d = ⟨8, ks⟩ ∧ ks.length = cs.length ∧ ∀ i : Nat, i < cs.length → Six (cs.getD i cl0).kinds (ks.getD i 0))
def fm23 (cs : List Cl) : Fm := ⟨["a"], cs, [], [], 0⟩
def od23 (n : Int) : Bd := ⟨⟨0, n, -1⟩, ⟨0, n - 1, -1⟩, 0, -1⟩
def tkP (C : Cl) (c n : Int) (e : Ev) (s : Int) (h : HdM) : Pt := match sinceM C.goes e h with
  | some t => if s - h.shown = 0 then t else ⟨0, n, c⟩
  | none => ⟨0, n, c⟩
def midL (C : Cl) (c n : Int) (e : Ev) (s : Int) (h : HdM) : List Bd := match sinceM C.goes e h with
  | some t => if s - h.shown = 0 then [] else [⟨t, ⟨0, n, c⟩, hiOf (kdOf C.kinds h.kind) * (s - h.shown), c⟩, ⟨⟨0, n, c⟩, t, 0 - (kdOf C.kinds h.kind).low * (s - h.shown), c⟩, ⟨⟨0, n, c⟩, t, 0, c⟩, ⟨⟨0, n, c⟩, ⟨0, n - 1, -1⟩, (kdOf C.kinds h.kind).low - (kdOf C.kinds h.kind).low * (s - h.shown), c⟩]
  | none => []
theorem clockM_eq (C : Cl) (c n : Int) (e : Ev) (s : Int) (h : HdM) : clockM C c 0 n e s h = midL C c n e s h ++ [⟨tkP C c n e s h, ⟨0, n, -1⟩, hiOf (kdOf C.kinds h.kind), c⟩, ⟨⟨0, n, -1⟩, tkP C c n e s h, 0, c⟩] := by
  unfold clockM midL tkP
  cases sinceM C.goes e h with
  | none => rfl
  | some t =>
    dsimp only
    by_cases g : s - h.shown = 0
    · rw [if_pos g, if_pos g, if_pos g]
      rfl
    · rw [if_neg g, if_neg g, if_neg g]
      have e1 : -((kdOf C.kinds h.kind).low * (s - h.shown - 1)) = (kdOf C.kinds h.kind).low - (kdOf C.kinds h.kind).low * (s - h.shown) := by
        rw [Int.mul_sub, Int.mul_one, Int.neg_sub]
      have e2 : -((kdOf C.kinds h.kind).low * (s - h.shown)) = 0 - (kdOf C.kinds h.kind).low * (s - h.shown) := (Int.zero_sub _).symm
      unfold ftl
      rw [e1, e2]
      rfl
theorem tk_hand (C : Cl) (c n : Int) (e : Ev) (s : Int) (h : HdM) : (if (sinceM C.goes e h).isSome = true ∧ s = h.shown then h else ⟨some ⟨0, n, c⟩, s, h.kind⟩) = (⟨some (tkP C c n e s h), s, h.kind⟩ : HdM) := by
  unfold tkP
  cases hs : sinceM C.goes e h with
  | none => rw [if_neg (fun z => absurd z.1 (by decide))]
  | some t =>
    have ep : h.pt = some t := by
      unfold sinceM at hs
      split at hs
      · cases hs
      · exact hs
    by_cases g : s = h.shown
    · have g0 : s - h.shown = 0 := by omega
      rw [if_pos ⟨rfl, g⟩]
      dsimp only
      rw [if_pos g0, ← ep, g]
    · have g0 : ¬ (s - h.shown = 0) := by omega
      rw [if_neg (fun z => g z.2)]
      dsimp only
      rw [if_neg g0]
theorem midL_len (C : Cl) (c n : Int) (e : Ev) (s : Int) (h : HdM) : (midL C c n e s h).length ≤ 4 := by
  unfold midL
  split
  · split
    · exact Nat.zero_le _
    · exact Nat.le_refl _
  · exact Nat.zero_le _
structure Ev23 (cs : List Cl) (e : Ev) : Prop where
  d : Dd23 cs e.deed
  s : e.shown.length = cs.length
  a : e.after.length = cs.length
structure Hs23 (cs : List Cl) (hs : List HdM) : Prop where
  l : hs.length = cs.length
  k : ∀ i : Nat, i < cs.length → Six (cs.getD i cl0).kinds (hs.getD i dfH).kind
theorem Dd23.pl {cs : List Cl} {d : Dd} (h : Dd23 cs d) : d.place = 0 ∨ d.place = 1 ∨ d.place = 8 := by
  rcases h with rfl | ⟨_, _, rfl, _⟩ | ⟨_, rfl, _⟩
  · exact .inl rfl
  · exact .inr (.inl rfl)
  · exact .inr (.inr rfl)
theorem cks23 {cs : List Cl} (h : ∀ c ∈ cs, ClK23 c) : cks (fm23 cs) 0 = (List.range cs.length).map fun (i : Nat) => (i : Int) := ckN_all (fun c hc => (h c hc).dv) _ (Nat.le_refl _)
/-- a law's hands and its list, in the making -/
structure D23 (K : PySem.W.Frag) (H H' : Hp) (hl : Addr) (rs0 : List Addr) (dl : Addr) (rs : List Addr) (hs : List HdM) (ds : List PyData) : Prop where
  fr : But hl H H'
  tk : TupK H H'
  h : HLi K H' hl rs hs
  l : LsI K H' dl ds
  nd : dl ∉ hl :: rs
  nf : H dl = none
  fp : ∀ a ∈ rs, a ∈ rs0 ∨ H a = none
section
variable {K : PySem.W.Frag} {H H' H'' : Hp} {hl dl : Addr} {rs0 rs : List Addr} {hs : List HdM} {ds : List PyData}
theorem D23.keep (g : D23 K H H' hl rs0 dl rs hs ds) (s : Same H' H'') : D23 K H H'' hl rs0 dl rs hs ds := ⟨g.fr.trans (But.of s), g.tk.trans (.of s), g.h.keep s, g.l.keep s, g.nd, g.nf, g.fp⟩
theorem D23.snoc (g : D23 K H H' hl rs0 dl rs hs ds) {d : PyData} {v : V} (i : Im K H' d v) : ∃ vs, H' dl = some (.lst vs) ∧ vs.length = ds.length ∧ D23 K H (upd H' dl (.lst (vs ++ [v]))) hl rs0 dl rs hs (ds ++ [d]) := by
  obtain ⟨vs, h1, h2, h3⟩ := g.l.snoc i
  exact ⟨vs, h1, h2, fun c u hc hu => by rw [upd_ne (ne_of_none hu g.nf)]; exact g.fr c u hc hu, g.tk.trans (.set h1), g.h.but But.set h1 g.nd, h3, g.nd, g.nf, g.fp⟩
theorem D23.free (g : D23 K H H' hl rs0 dl rs hs ds) {a : Addr} (h : H' a = none) : H a = none := by
  cases e : H a with
  | none => rfl
  | some w =>
    by_cases q : a = hl
    · rw [q, g.h.l] at h; cases h
    · rw [g.fr _ _ q e] at h; cases h
theorem D23.set (g : D23 K H H' hl rs0 dl rs hs ds) (s : Same H' H'') {a : Addr} {h : HdM} (na : H' a = none) (ha : HdL K H'' a h) (i : Nat) : D23 K H (upd H'' hl (.lst ((rs.set i a).map V.ref))) hl rs0 dl (rs.set i a) (hs.set i h) ds := by
  have g2 := g.keep s
  have e1 : a ≠ hl := fun e => by rw [e, g.h.l] at na; cases na
  have e2 : a ≠ dl := fun e => by
    obtain ⟨xs, hx⟩ := g.l.lst
    rw [e, hx] at na
    cases na
  have b : But hl H'' (upd H'' hl (.lst ((rs.set i a).map V.ref))) := But.set
  have n1 : dl ≠ hl := fun e => g.nd (List.mem_cons.mpr (.inl e))
  refine ⟨g2.fr.trans b, g2.tk.trans (.set g2.h.l), g2.h.set e1 ha i, g2.l.but b g2.h.l n1, fun m => ?_, g.nf, fun c hc => ?_⟩
  · rcases List.mem_cons.mp m with m | m
    · exact n1 m
    · rcases List.mem_or_eq_of_mem_set m with m | m
      · exact g.nd (List.mem_cons.mpr (.inr m))
      · exact e2 m.symm
  · rcases List.mem_or_eq_of_mem_set hc with m | m
    · exact g.fp c m
    · rw [m]
      exact .inr (g.free na)
/-- a hand of the law, read -/
theorem HLi.at (g : HLi K H' hl rs hs) {i : Nat} (hi : i < hs.length) : ∃ a x, atI (rs.map V.ref) (i : Int) = some (.ref a) ∧ H' a = some (.lst [x, .int (hs.getD i dfH).shown, .int (hs.getD i dfH).kind]) ∧ Im K H' (opP (hs.getD i dfH).pt) x ∧ i < rs.length := by
  have hl2 := g.e.1
  have hr : i < rs.length := by omega
  obtain ⟨x, h1, h2⟩ := g.e.2 i _ _ (List.getElem?_eq_getElem hr) (getD_ix (d := dfH) hi)
  exact ⟨rs[i], x, at_of (j := i) rfl (by rw [List.getElem?_map, List.getElem?_eq_getElem hr]; rfl), h1, h2, hr⟩
end
def ev0 : Ev := ⟨false, [], [], ⟨0, []⟩, [1]⟩
theorem heard23 {cs : List Cl} {vw : List (List Ev)} {d : Dd} (h : Dd23 cs d) : heardM (fm23 cs) vw d = none := by
  unfold heardM
  rw [if_neg (by rcases h.pl with x | x | x <;> omega)]
section
variable {cs : List Cl} {es : List Ev}
theorem devS23_ext (h : ∀ e ∈ es, Ev23 cs e) (e : Ev) : ∀ j, j ≤ es.length → devS (fm23 cs) [ev0 :: (es ++ [e])] 0 j = devS (fm23 cs) [ev0 :: es] 0 j
  | 0, _ => rfl
  | j + 1, hj => by
    have ih := devS23_ext h e j (by omega)
    have he : Ev23 cs (es.getD j dfE) := h _ (List.mem_of_getElem? (getD_ix (by omega)))
    have e1 : ((([ev0 :: (es ++ [e])] : List (List Ev)).getD 0 []).getD (j + 1) dfE) = es.getD j dfE := snoc_getD (xs := es) (x := e) (z := dfE) (by omega)
    have e2 : ((([ev0 :: es] : List (List Ev)).getD 0 []).getD (j + 1) dfE) = es.getD j dfE := rfl
    rw [devS, devS, ih, e1, e2, heard23 he.d, heard23 he.d]
theorem devS23_step (h : ∀ e ∈ es, Ev23 cs e) {e : Ev} (he : Ev23 cs e) : devS (fm23 cs) [ev0 :: (es ++ [e])] 0 (es ++ [e]).length = ((devS (fm23 cs) [ev0 :: es] 0 es.length).1 ++ evB (fm23 cs) 0 (1 + (es.length : Int)) e (devS (fm23 cs) [ev0 :: es] 0 es.length).2 none, evH (fm23 cs) 0 (1 + (es.length : Int)) e (devS (fm23 cs) [ev0 :: es] 0 es.length).2) := by
  have e1 : ((([ev0 :: (es ++ [e])] : List (List Ev)).getD 0 []).getD (es.length + 1) dfE) = e := snoc_getD' (xs := es) (x := e) (z := dfE)
  rw [List.length_append, List.length_singleton, devS, e1, heard23 he.d, devS23_ext h e _ (Nat.le_refl _), Int.add_comm 1]
  rfl
theorem kind23 {e : Ev} {i : Nat} {n : Int} {h : HdM} (he : Ev23 cs e) (hi : i < cs.length) (h6 : Six (cs.getD i cl0).kinds h.kind) : Six (cs.getD i cl0).kinds (handM (cs.getD i cl0) (i : Int) 0 n e i h).kind := by
  unfold handM
  cases hg : givenM e.deed (i : Int) i with
  | none =>
    dsimp only
    split
    · exact h6
    · split
      · exact h6
      · exact h6
  | some k =>
    dsimp only
    unfold givenM at hg
    rcases he.d with q | ⟨c, k', q, c0, c1, k6⟩ | ⟨ks, q, q1, q2⟩
    · rw [q, if_neg (show ¬ ((0 : Nat) = 8) by decide), if_neg (fun z => absurd z.1 (show ¬ ((0 : Nat) = 1) by decide))] at hg
      cases hg
    · rw [q, if_neg (show ¬ ((1 : Nat) = 8) by decide)] at hg
      split at hg
      · rename_i z
        have ec : c = (i : Int) := Option.some.inj z.2
        have ek : k' = k := Option.some.inj hg
        rw [ec, show ((i : Int)).toNat = i from by omega] at k6
        rw [← ek]
        exact k6
      · cases hg
    · rw [q, if_pos (show (8 : Nat) = 8 from rfl)] at hg
      have := q2 i hi
      have ek : ks.getD i 0 = k := by
        rw [List.getD_eq_getElem?_getD, show ks[i]? = some k from hg]
        rfl
      rw [ek] at this
      exact this
theorem hs23 (hcs : ∀ c ∈ cs, ClK23 c) {e : Ev} {n : Int} {hs : List HdM} (he : Ev23 cs e) (hh : Hs23 cs hs) : Hs23 cs (evH (fm23 cs) 0 n e hs) := by
  have ck := cks23 hcs
  have hlen : (cks (fm23 cs) 0).length = cs.length := by rw [ck, List.length_map, List.length_range]
  refine ⟨by unfold evH; rw [List.length_map, List.length_range, hlen], fun i hi => ?_⟩
  have e1 : (evH (fm23 cs) 0 n e hs).getD i dfH = handM (cs.getD i cl0) (i : Int) 0 n e i (hs.getD i dfH) := by
    unfold evH
    rw [hlen, List.getD_eq_getElem?_getD, List.getElem?_map, List.getElem?_range hi]
    show cH (fm23 cs) 0 n e hs i = _
    unfold cH
    rw [ck, range_getD hi]
    rfl
  rw [e1]
  exact kind23 he hi (hh.k i hi)
theorem hs23_0 (hcs : ∀ c ∈ cs, ClK23 c) : Hs23 cs (List.replicate cs.length dfH) := ⟨List.length_replicate, fun i hi => by
  have e : (List.replicate cs.length dfH).getD i dfH = dfH := by
    rw [List.getD_eq_getElem?_getD, List.getElem?_replicate_of_lt hi]
    rfl
  rw [e]
  have := (hcs _ (List.mem_of_getElem? (getD_ix (d := cl0) hi))).len
  exact ⟨by show (0 : Int) ≤ 0; decide, by show (0 : Int) < _; omega⟩⟩
theorem hsS23 (hcs : ∀ c ∈ cs, ClK23 c) (h : ∀ e ∈ es, Ev23 cs e) : ∀ j, j ≤ es.length → Hs23 cs (devS (fm23 cs) [ev0 :: es] 0 j).2
  | 0, _ => by
    show Hs23 cs (List.replicate (cks (fm23 cs) 0).length dfH)
    rw [cks23 hcs, List.length_map, List.length_range]
    exact hs23_0 hcs
  | j + 1, hj => hs23 hcs (h _ (List.mem_of_getElem? (getD_ix (d := dfE) (xs := es) (i := j) (by omega)))) (hsS23 hcs h j (by omega))
theorem fit23 (hcs : ∀ c ∈ cs, ClK23 c) (hc2 : cs.length ≤ 2) (h : ∀ e ∈ es, Ev23 cs e) (hl : es.length ≤ 20) : VwFit (fm23 cs) [ev0 :: es] := by
  have ck := cks23 hcs
  have hlen : (cks (fm23 cs) 0).length = cs.length := by rw [ck, List.length_map, List.length_range]
  have key : ∀ d j, d < ([ev0 :: es] : List (List Ev)).length → j + 1 < (([ev0 :: es] : List (List Ev)).getD d []).length → d = 0 ∧ j < es.length ∧ Ev23 cs ((([ev0 :: es] : List (List Ev)).getD d []).getD (j + 1) dfE) := by
    intro d j hd hj
    have hd0 : d = 0 := by
      rw [List.length_singleton] at hd
      omega
    subst hd0
    have hj : j + 1 < (ev0 :: es).length := hj
    rw [List.length_cons] at hj
    exact ⟨rfl, by omega, h _ (List.mem_of_getElem? (getD_ix (xs := es) (i := j) (by omega)))⟩
  refine ⟨by show cs.length ≤ 10; omega, by show 1 ≤ 6; decide, fun d => ?_, fun d j hd hj => ?_, fun d j hd hj => ?_, fun d j hd hj h5 => ?_⟩
  · rw [one_getD]
    split
    · rw [List.length_cons]; omega
    · exact Nat.zero_le _
  · obtain ⟨_, _, he⟩ := key d j hd hj
    rcases he.d.pl with x | x | x <;> omega
  · obtain ⟨rfl, hj2, he⟩ := key d j hd hj
    have hh := hsS23 hcs h j (by omega)
    generalize (([ev0 :: es] : List (List Ev)).getD 0 []).getD (j + 1) dfE = e at *
    have hp := he.d.pl
    have ck0 : cks (fm23 cs) ((0 : Nat) : Int) = (List.range cs.length).map fun (i : Nat) => (i : Int) := ck
    have hl0 : (cks (fm23 cs) ((0 : Nat) : Int)).length = cs.length := hlen
    refine ⟨by rcases hp with x | x | x <;> omega, by rw [hl0, he.s], by rw [hl0, he.a], devS2_len _ _ _ _, fun h8 => ?_, fun h8 => ?_, fun h2 => by rcases hp with x | x | x <;> omega, fun h5 => by rcases hp with x | x | x <;> omega, fun i hi => ?_, fun i hi => ?_⟩
    · rcases he.d with q | ⟨_, _, q, _⟩ | ⟨_, q, _⟩
      · rw [q]; rfl
      · rw [q]; rfl
      · rw [q] at h8; exact absurd rfl h8
    · rw [hl0]
      rcases he.d with q | ⟨_, _, q, _⟩ | ⟨_, q, q1, _⟩
      · rw [q] at h8; exact absurd h8 (show (0 : Nat) ≠ 8 by decide)
      · rw [q] at h8; exact absurd h8 (show (1 : Nat) ≠ 8 by decide)
      · rw [q]; exact q1
    · rw [hl0] at hi
      rw [ck0, range_getD hi]
      exact (hcs _ (List.mem_of_getElem? (getD_ix (d := cl0) hi))).ks _ (kdOf_mem (hh.k i hi))
    · rw [hl0] at hi
      rw [ck0, range_getD hi]
      exact hh.k i hi
  · obtain ⟨_, _, he⟩ := key d j hd hj
    rcases he.d.pl with x | x | x <;> omega
theorem vwB23 : vwB (fm23 cs) [ev0 :: es] = (devS (fm23 cs) [ev0 :: es] 0 es.length).1 := by
  show (devS (fm23 cs) [ev0 :: es] 0 ((ev0 :: es).length - 1)).1 ++ [] = _
  rw [List.append_nil, List.length_cons, Nat.add_sub_cancel]
end

/-! ### law 24: the times that its dict tells -/
def keyP (p : Pt) : List Key := [.inl p.d, .inl p.n, .inl p.c]
theorem keyP_inj {p q : Pt} (h : keyP p = keyP q) : p = q := by
  cases p; cases q
  unfold keyP at h
  injection h with h1 h; injection h with h2 h; injection h with h3 _
  injection h1 with h1; injection h2 with h2; injection h3 with h3
  subst h1 h2 h3
  rfl
def tOf (kvs : List (List Key × V)) (p : Pt) : Option Int := match valV kvs (keyP p) with
  | some (.int z) => some z
  | _ => none
theorem tOf_val {kvs : List (List Key × V)} {p : Pt} {z : Int} (h : tOf kvs p = some z) : valV kvs (keyP p) = some (.int z) := by
  unfold tOf at h
  split at h
  · rename_i x e
    rw [e, ← Option.some.inj h]
  · cases h
theorem tOf_put (kvs : List (List Key × V)) (p q : Pt) (z : Int) : tOf (putK kvs (keyP p) (.int z)) q = if q = p then some z else tOf kvs q := by
  unfold tOf
  rw [valV_put]
  by_cases e : q = p
  · subst e
    rw [if_pos rfl, if_pos rfl]
  · rw [if_neg (fun h => e (keyP_inj h)), if_neg e]
structure J24 (C : Cl) (es : List Ev) (kvs : List (List Key × V)) (T : Int) (c : Cs) : Prop where
  kl : kvs.length ≤ 2 + 2 * es.length
  old : ∀ q z, tOf kvs q = some z → q.n ≤ (es.length : Int)
  ev : tOf kvs ⟨0, (es.length : Int), -1⟩ = some T
  met : ∀ b ∈ (devS (fm23 [C]) [ev0 :: es] 0 es.length).1, Met (tOf kvs) b
  hand : ∃ h, (devS (fm23 [C]) [ev0 :: es] 0 es.length).2 = [h] ∧ HdT (tOf kvs) T c h
  ok : CsOk C.kinds c
  hes : ∀ e ∈ es, Ev23 [C] e
theorem J24.step {C : Cl} {es : List Ev} {kvs : List (List Key × V)} {T g : Int} {c d f : Cs} {D : Dd} {as : Bool} {ws : List Int} (hC : ∀ x ∈ [C], ClK23 x) (h24 : 0 ≤ loK C.kinds c.k) (j : J24 C es kvs T c) (w : Went C.kinds C.goes as c d g) (dn : Done C.kinds d f D) (okf : CsOk C.kinds f) (g0 : 0 ≤ g) :
    J24 C (es ++ [⟨as, [d.v], [f.v], D, ws⟩]) (putK (putK kvs (keyP ⟨0, 1 + (es.length : Int), -1⟩) (.int (T + g))) (keyP ⟨0, 1 + (es.length : Int), 0⟩) (.int (T + g - d.e))) (T + g) f := by
  obtain ⟨h, hh, hT⟩ := j.hand
  have ck := cks23 hC
  have ck1 : cks (fm23 [C]) 0 = [0] := ck
  have hdd : Dd23 [C] D := by
    cases dn with
    | note => exact .inl rfl
    | set v l m _ _ => exact .inl rfl
    | kind k l m o => exact .inr (.inl ⟨0, k, rfl, by decide, by show (0 : Int) < 1; decide, o.k6⟩)
  have he : Ev23 [C] ⟨as, [d.v], [f.v], D, ws⟩ := ⟨hdd, rfl, rfl⟩
  have hp8 : D.place ≠ 8 := by
    cases dn with
    | note => exact (show (0 : Nat) ≠ 8 by decide)
    | set v l m _ _ => exact (show (0 : Nat) ≠ 8 by decide)
    | kind k l m o => exact (show (1 : Nat) ≠ 8 by decide)
  have hp2 : D.place ≠ 2 ∧ D.place ≠ 5 := by
    cases dn with
    | note => exact ⟨show (0 : Nat) ≠ 2 by decide, show (0 : Nat) ≠ 5 by decide⟩
    | set v l m _ _ => exact ⟨show (0 : Nat) ≠ 2 by decide, show (0 : Nat) ≠ 5 by decide⟩
    | kind k l m o => exact ⟨show (1 : Nat) ≠ 2 by decide, show (1 : Nat) ≠ 5 by decide⟩
  have st := devS23_step j.hes he
  generalize hk2 : putK (putK kvs (keyP ⟨0, 1 + (es.length : Int), -1⟩) (.int (T + g))) (keyP ⟨0, 1 + (es.length : Int), 0⟩) (.int (T + g - d.e)) = k2
  have tq : ∀ q, tOf k2 q = if q = ⟨0, 1 + (es.length : Int), 0⟩ then some (T + g - d.e) else if q = ⟨0, 1 + (es.length : Int), -1⟩ then some (T + g) else tOf kvs q := fun q => by rw [← hk2, tOf_put, tOf_put]
  have mono : ∀ p x, tOf kvs p = some x → tOf k2 p = some x := fun p x hx => by
    have o := j.old p x hx
    have n1 : p ≠ ⟨0, 1 + (es.length : Int), 0⟩ := fun z => by rw [z] at o; have o : 1 + (es.length : Int) ≤ es.length := o; omega
    have n2 : p ≠ ⟨0, 1 + (es.length : Int), -1⟩ := fun z => by rw [z] at o; have o : 1 + (es.length : Int) ≤ es.length := o; omega
    rw [tq, if_neg n1, if_neg n2]
    exact hx
  have t0 : tOf k2 ⟨0, 1 + (es.length : Int) - 1, -1⟩ = some T := by
    rw [show 1 + (es.length : Int) - 1 = es.length from by omega]
    exact mono _ _ j.ev
  have t1 : tOf k2 ⟨0, 1 + (es.length : Int), -1⟩ = some (T + g) := by
    rw [tq, if_neg (fun z => by injection z with _ _ z; cases z), if_pos rfl]
  have t2 : tOf k2 ⟨0, 1 + (es.length : Int), 0⟩ = some (T + g - d.e) := by rw [tq, if_pos rfl]
  have hT' : HdT (tOf k2) T c h := ⟨hT.k, fun q hq => ⟨mono _ _ (hT.p q hq).1, (hT.p q hq).2⟩⟩
  have w' : Went C.kinds C.goes as c d (T + g - T) := by rw [show T + g - T = g from by omega]; exact w
  have ec : clOf (fm23 [C]) 0 = C := rfl
  have hcl := clock24 (C := C) (e := ⟨as, [d.v], [f.v], D, ws⟩) hp8 h24 w' j.ok hT' t0 t1 t2
  have hha := hand24 (C := C) (e := ⟨as, [d.v], [f.v], D, ws⟩) w' dn rfl rfl hT' t1 t2
  refine ⟨?_, fun q z hq => ?_, ?_, ?_, ?_, okf, fun e' h' => ?_⟩
  · have l1 := length_putK kvs (keyP ⟨0, 1 + (es.length : Int), -1⟩) (.int (T + g))
    have l2 := length_putK (putK kvs (keyP ⟨0, 1 + (es.length : Int), -1⟩) (.int (T + g))) (keyP ⟨0, 1 + (es.length : Int), 0⟩) (.int (T + g - d.e))
    rw [hk2] at l2
    have := j.kl
    rw [List.length_append, List.length_singleton]
    omega
  · rw [List.length_append, List.length_singleton]
    rw [tq] at hq
    split at hq
    · rename_i e1; rw [e1]; show 1 + (es.length : Int) ≤ _; omega
    · split at hq
      · rename_i e1; rw [e1]; show 1 + (es.length : Int) ≤ _; omega
      · have := j.old q z hq; omega
  · rw [List.length_append, List.length_singleton, show (((es.length + 1 : Nat)) : Int) = 1 + (es.length : Int) from by omega]
    exact t1
  · rw [st]
    intro b hb
    rcases List.mem_append.mp hb with hb | hb
    · exact (j.met b hb).mono mono
    · unfold evB at hb
      rw [ck1] at hb
      rcases List.mem_append.mp hb with hb | hb
      · rcases List.mem_append.mp hb with hb | hb
        · rw [List.mem_singleton.mp hb]
          exact ⟨_, _, t1, t0, by show T ≤ T + g + -0; omega⟩
        · have hb : b ∈ cB (fm23 [C]) 0 (1 + (es.length : Int)) ⟨as, [d.v], [f.v], D, ws⟩ (devS (fm23 [C]) [ev0 :: es] 0 es.length).2 0 ++ [] := hb
          rw [List.append_nil] at hb
          unfold cB at hb
          rw [ck1, hh] at hb
          exact hcl b hb
      · unfold restM at hb
        rw [if_neg hp2.1, if_neg hp2.2] at hb
        cases hb
  · rw [st]
    refine ⟨_, ?_, hha⟩
    show evH (fm23 [C]) 0 (1 + (es.length : Int)) ⟨as, [d.v], [f.v], D, ws⟩ (devS (fm23 [C]) [ev0 :: es] 0 es.length).2 = _
    unfold evH cH
    rw [ck1, hh]
    rfl
  · rcases List.mem_append.mp h' with h' | h'
    · exact j.hes e' h'
    · rw [List.mem_singleton.mp h']
      exact he

/-! ### dicts with tuples for keys, asked by a tuple wherever it stands -/
section
variable {X : Cx} {pins : List (Addr × Obj)} {σ : L2.St} {H : Hp} {s : Shared} {a b : Addr} {kvs : List (List Key × V)} {k : List Key}
theorem key_ofS (I : Inv X pins σ H s) (e : SqT X.K H b (k.map kV)) : (tupleKind (mixKind X.prog X.w)).is s.heap k b := by
  obtain ⟨its, r, pl, hz⟩ := I.tuple e
  obtain ⟨o, h1, h2, n, h3⟩ := pl
  exact ⟨o, its.toArray, n, h1, h2, h3, by simpa using items_are r⟩
def tDGetS (K : PySem.W.Frag) (td ty : TE) : TE := fun σ H Q => td σ H fun x H1 => ty σ H1 fun y H2 => ∃ a kvs k b v, x = .ref a ∧ H2 a = some (.dT kvs) ∧ y = .ref b ∧ SqT K H2 b (k.map kV) ∧ valV kvs k = some v ∧ Q v H2
def tDNotInS (K : PySem.W.Frag) (ty td : TE) : TE := fun σ H Q => ty σ H fun y H1 => td σ H1 fun x H2 => ∃ a kvs k b v, x = .ref a ∧ H2 a = some (.dT kvs) ∧ y = .ref b ∧ SqT K H2 b (k.map kV) ∧ valV kvs k = some v ∧ Q (.bl false) H2
variable {o i : Expr} {pos : Pos} {td ty : TE}
theorem pe_dgetS (hu : X.A.units + 1 < cLine) (ho : PE X o td) (hi : PE X i ty) (hs : NoSl i) : PE X (.Subscript o i pos) (tDGetS X.K td ty) := by
  refine ⟨fun pins s σ H Q I h => ?_⟩
  refine subD_of PySem.F.slot_dict_getitem.lookup hs (thn (ho.run pins s σ H _ I h) fun u s1 ⟨x, H1, I1, rx, q1⟩ => thn (hi.run pins s1 σ H1 _ I1 q1) fun iv s2 ⟨y, H2, I2, ry, a, kvs, k, b, v, ex, e, ey, eb, l, q2⟩ => ?_)
  subst ex ey
  obtain rfl : u = Value.ref a := rx
  cases (show iv = Value.ref b from ry)
  obtain ⟨z, hd, xs, rel, dd⟩ := dt_of I2.hok e
  refine ⟨dd.typeIs, ?_⟩
  obtain ⟨w', hw, rw'⟩ := RelO.some_of (v := v) (o := (atKey xs k).map (·.2)) (by rw [← l]; exact rel.val k)
  obtain ⟨p, hp, hp2⟩ := Option.map_eq_some_iff.mp hw
  refine wpAny_getItem_heap (tupleKind_room_in1 hu) (key_ofS I2 eb) dd hp ?_
  rw [hp2]
  exact ⟨v, H2, I2.tok _, rw', q2⟩
theorem pc_dnotinS (hu : X.A.units + 1 < cLine) (hi : PE X i ty) (ho : PE X o td) : PC X .NotIn i o (tDNotInS X.K ty td) := by
  refine ⟨fun pins s σ H Q I h => ?_⟩
  refine thn (hi.run pins s σ H _ I h) fun iv s1 ⟨y, H1, I1, ry, q1⟩ => thn (ho.run pins s1 σ H1 _ I1 q1) fun u s2 ⟨x, H2, I2, rx, a, kvs, k, b, v, ex, e, ey, eb, l, q2⟩ => ?_
  subst ex ey
  obtain rfl : u = Value.ref a := rx
  cases (show iv = Value.ref b from ry)
  obtain ⟨z, hd, xs, rel, dd⟩ := dt_of I2.hok e
  refine wpAny_notIn_heap (tupleKind_room_in1 hu) (key_ofS I2 eb) hd dd ?_
  have q := (rel.val k).isSome_eq
  rw [Option.isSome_map, l] at q
  rw [← q]
  exact ⟨.bl false, H2, I2.tok _, rfl, q2⟩
end
end Vs

/-! law 25: a clock's looks, and what the table says of them -/
namespace Vs
open PySem PySem.Spec PyProof.Rows L2
def max3 (a b c : Int) : Int := if (if a < b then b else a) < c then c else (if a < b then b else a)
theorem nuMax3_int (a b c : Int) : nuMax3 (.int a) (.int b) (.int c) = some (.int (max3 a b c)) := by
  unfold nuMax3 nuMax2 max3
  by_cases h : a < b
  · rw [if_pos h]
    have e : nuLt (V.int a) (V.int b) = some true := by show some (decide (a < b)) = _; rw [decide_eq_true h]
    rw [e]
    show ((nuLt (V.int b) (V.int c)).map fun z => if z = true then V.int c else V.int b) = _
    show some (if decide (b < c) = true then V.int c else V.int b) = _
    by_cases g : b < c
    · rw [if_pos g, decide_eq_true g]; rfl
    · rw [if_neg g, decide_eq_false g]; rfl
  · rw [if_neg h]
    have e : nuLt (V.int a) (V.int b) = some false := by show some (decide (a < b)) = _; rw [decide_eq_false h]
    rw [e]
    show some (if decide (a < c) = true then V.int c else V.int a) = _
    by_cases g : a < c
    · rw [if_pos g, decide_eq_true g]; rfl
    · rw [if_neg g, decide_eq_false g]; rfl
theorem max3_ge (a b c : Int) : a ≤ max3 a b c ∧ b ≤ max3 a b c ∧ c ≤ max3 a b c := by
  unfold max3
  split <;> split <;> omega
theorem max3_le {a b c m : Int} (h1 : a ≤ m) (h2 : b ≤ m) (h3 : c ≤ m) : max3 a b c ≤ m := by
  unfold max3
  split <;> split <;> omega
/-- the device's one hand ahead of event j + 1 -/
def hnd (C : Cl) (es : List Ev) (j : Nat) : HdM := (devS (fm23 [C]) [ev0 :: es] 0 j).2.getD 0 dfH
/-- the looks: no clock shows less than it was set to -/
def Gn (C : Cl) (es : List Ev) : Prop := ∀ j, j < es.length → (es.getD j dfE).deed.place ≠ 8 ∧ ∀ t, sinceM C.goes (es.getD j dfE) (hnd C es j) = some t → (hnd C es j).shown ≤ (es.getD j dfE).shown.getD 0 0
theorem Gn.step {C : Cl} {es : List Ev} {kvs : List (List Key × V)} {T g : Int} {c d f : Cs} {D : Dd} {as : Bool} {ws : List Int} (j : J24 C es kvs T c) (w : Went C.kinds C.goes as c d g) (dn : Done C.kinds d f D) (G : Gn C es) : Gn C (es ++ [⟨as, [d.v], [f.v], D, ws⟩]) := fun i hi => by
  rw [List.length_append, List.length_singleton] at hi
  have hh : hnd C (es ++ [⟨as, [d.v], [f.v], D, ws⟩]) i = hnd C es i := by
    unfold hnd
    rw [devS23_ext j.hes _ i (by omega)]
  rw [hh]
  by_cases e : i < es.length
  · rw [snoc_getD e]
    exact G i e
  · have e : i = es.length := by omega
    subst e
    rw [snoc_getD']
    refine ⟨?_, fun t ht => ?_⟩
    · cases dn with
      | note => exact (show (0 : Nat) ≠ 8 by decide)
      | set v l m _ _ => exact (show (0 : Nat) ≠ 8 by decide)
      | kind k l m o => exact (show (1 : Nat) ≠ 8 by decide)
    · obtain ⟨h, hh2, hT⟩ := j.hand
      have e1 : hnd C es es.length = h := by unfold hnd; rw [hh2]; rfl
      rw [e1] at ht ⊢
      rw [(hT.p t (since_pt ht)).2]
      show c.v ≤ d.v
      unfold Went at w
      split at w
      · exact w.u
      · rw [w]; exact Int.le_refl _
/-- what a table's times say of the bounds of one event -/
structure Wk25 (τ : Pt → Int → Prop) (C : Cl) (n : Int) (e : Ev) (h : HdM) (lo hi : Int) : Prop where
  ord : ∀ x y, τ ⟨0, n, -1⟩ x → τ ⟨0, n - 1, -1⟩ y → y ≤ x
  non : sinceM C.goes e h = none → ∀ z x, τ ⟨0, n, 0⟩ z → τ ⟨0, n, -1⟩ x → 0 ≤ x - z ∧ x - z ≤ hi
  same : ∀ t, sinceM C.goes e h = some t → e.shown.getD 0 0 - h.shown = 0 → ∀ z x, τ t z → τ ⟨0, n, -1⟩ x → 0 ≤ x - z ∧ x - z ≤ hi
  more : ∀ t, sinceM C.goes e h = some t → ¬ e.shown.getD 0 0 - h.shown = 0 → ∀ z s l x, τ t z → τ ⟨0, n, 0⟩ s → τ ⟨0, n - 1, -1⟩ l → τ ⟨0, n, -1⟩ x → s ≤ z + hi * (e.shown.getD 0 0 - h.shown) ∧ z ≤ s - lo * (e.shown.getD 0 0 - h.shown) ∧ l ≤ s - lo * (e.shown.getD 0 0 - h.shown - 1) ∧ 0 ≤ x - s ∧ x - s ≤ hi
theorem wk25 {τ : Pt → Int → Prop} {C : Cl} {n : Int} {e : Ev} {h : HdM} (mt : ∀ b ∈ evB (fm23 [C]) 0 n e [h] none, ∀ x y, τ b.one x → τ b.two y → y ≤ x + b.amount) (ck : cks (fm23 [C]) 0 = [0]) : Wk25 τ C n e h (kdOf C.kinds h.kind).low (hiOf (kdOf C.kinds h.kind)) := by
  have mc : ∀ b ∈ clockM C 0 0 n e (e.shown.getD 0 0) h, ∀ x y, τ b.one x → τ b.two y → y ≤ x + b.amount := fun b hb => mt b (by
    unfold evB
    rw [ck]
    refine List.mem_append.mpr (.inl (List.mem_append.mpr (.inr ?_)))
    show b ∈ cB (fm23 [C]) 0 n e [h] 0 ++ []
    rw [List.append_nil]
    unfold cB
    rw [ck]
    exact hb)
  refine ⟨fun x y hx hy => ?_, fun hs z x hz hx => ?_, fun t hs g z x hz hx => ?_, fun t hs g z s l x hz hs2 hl hx => ?_⟩
  · have := mt ⟨⟨0, n, -1⟩, ⟨0, n - 1, -1⟩, -0, -1⟩ (by unfold evB; simp) x y hx hy
    have : y ≤ x + -0 := this
    omega
  · unfold clockM at mc
    rw [hs] at mc
    have h1 := mc ⟨⟨0, n, 0⟩, ⟨0, n, -1⟩, hiOf (kdOf C.kinds h.kind), 0⟩ (by unfold ftl; simp) z x hz hx
    have h2 := mc ⟨⟨0, n, -1⟩, ⟨0, n, 0⟩, -0, 0⟩ (by unfold ftl; simp) x z hx hz
    have h1 : x ≤ z + hiOf (kdOf C.kinds h.kind) := h1
    have h2 : z ≤ x + -0 := h2
    omega
  · unfold clockM at mc
    rw [hs] at mc
    simp only [if_pos g] at mc
    have h1 := mc ⟨t, ⟨0, n, -1⟩, hiOf (kdOf C.kinds h.kind), 0⟩ (by unfold ftl; simp) z x hz hx
    have h2 := mc ⟨⟨0, n, -1⟩, t, -0, 0⟩ (by unfold ftl; simp) x z hx hz
    have h1 : x ≤ z + hiOf (kdOf C.kinds h.kind) := h1
    have h2 : z ≤ x + -0 := h2
    omega
  · unfold clockM at mc
    rw [hs] at mc
    simp only [if_neg g] at mc
    have h1 := mc ⟨t, ⟨0, n, 0⟩, hiOf (kdOf C.kinds h.kind) * (e.shown.getD 0 0 - h.shown), 0⟩ (by unfold ftl; simp) z s hz hs2
    have h2 := mc ⟨⟨0, n, 0⟩, t, -((kdOf C.kinds h.kind).low * (e.shown.getD 0 0 - h.shown)), 0⟩ (by unfold ftl; simp) s z hs2 hz
    have h3 := mc ⟨⟨0, n, 0⟩, ⟨0, n - 1, -1⟩, -((kdOf C.kinds h.kind).low * (e.shown.getD 0 0 - h.shown - 1)), 0⟩ (by unfold ftl; simp) s l hs2 hl
    have h4 := mc ⟨⟨0, n, 0⟩, ⟨0, n, -1⟩, hiOf (kdOf C.kinds h.kind), 0⟩ (by unfold ftl; simp) s x hs2 hx
    have h5 := mc ⟨⟨0, n, -1⟩, ⟨0, n, 0⟩, -0, 0⟩ (by unfold ftl; simp) x s hx hs2
    have h1 : s ≤ z + hiOf (kdOf C.kinds h.kind) * (e.shown.getD 0 0 - h.shown) := h1
    have h2 : z ≤ s + -((kdOf C.kinds h.kind).low * (e.shown.getD 0 0 - h.shown)) := h2
    have h3 : l ≤ s + -((kdOf C.kinds h.kind).low * (e.shown.getD 0 0 - h.shown - 1)) := h3
    have h4 : x ≤ s + hiOf (kdOf C.kinds h.kind) := h4
    have h5 : s ≤ x + -0 := h5
    exact ⟨h1, by omega, by omega, by omega, by omega⟩
/-- kinds of a clock as law 24 draws them -/
structure Ks24 (ks : List Kd) : Prop where
  len : ks.length = 2
  ks : ∀ k ∈ ks, ∃ h, k.high = some h ∧ 1 ≤ k.low ∧ k.low ≤ h ∧ h ≤ 13
theorem Wd.cs {K : PySem.W.Frag} {H : Hp} {r : Addr} {n : Nat} {ls : List (Addr × List PyData)} {is : List (Addr × HO)} {cl : Addr} {ns ns' : List Int} {ws : List V} (w : Wd K H r n ((cl, ns.map PyData.int) :: ls) is) (h : ws = ns'.map V.int) : Wd K (upd H cl (.lst ws)) r n ((cl, ns'.map PyData.int) :: ls) is := by
  subst h
  exact w.put (i := 0) (ds' := ns'.map PyData.int) rfl ImL.ints
theorem Ks24.at {ks : List Kd} (h : Ks24 ks) {k : Int} (h6 : Six ks k) : ∃ hi, (kdOf ks k).high = some hi ∧ hiK ks k = hi ∧ 1 ≤ loK ks k ∧ loK ks k ≤ hi ∧ hi ≤ 13 := by
  obtain ⟨x, h1, h2, h3, h4⟩ := h.ks _ (kdOf_mem h6)
  exact ⟨x, h1, by unfold hiK hiOf; rw [h1]; rfl, h2, h3, h4⟩
theorem Wd.perm {K : PySem.W.Frag} {H : Hp} {r : Addr} {n : Nat} {ls ls' : List (Addr × List PyData)} {is : List (Addr × HO)} (w : Wd K H r n ls is) (p : ls.Perm ls') : Wd K H r n ls' is :=
  ⟨w.rows, fun q hq => w.la q (p.mem_iff.mpr hq), w.ia, (List.Perm.nodup_iff (List.Perm.cons _ (List.Perm.append_right _ (p.map _)))).mp w.nd⟩
/-- the units that a clock gained can be given lengths -/
structure Fit25 (st lk sp g lo hi : Int) : Prop where
  g1 : 1 ≤ g
  lo0 : 0 ≤ lo
  lh : lo ≤ hi
  hi13 : hi ≤ 13
  a : sp ≤ st + hi * g
  b : st ≤ sp - lo * g
  c : lk ≤ sp - lo * (g - 1)
  d : lk ≤ st + hi
theorem Fit25.all {st lk sp g lo hi : Int} (h : Fit25 st lk sp g lo hi) : 
    st + lo ≤ max3 lk (st + lo) (sp - hi * (g - 1)) ∧ max3 lk (st + lo) (sp - hi * (g - 1)) ≤ st + hi ∧ lo * (g - 1) ≤ sp - max3 lk (st + lo) (sp - hi * (g - 1)) ∧ sp - max3 lk (st + lo) (sp - hi * (g - 1)) ≤ hi * (g - 1) := by
  obtain ⟨g1, lo0, lh, hi13, a, b, c, d⟩ := h
  have e1 : hi * g = hi * (g - 1) + hi := by rw [Int.mul_sub, Int.mul_one]; omega
  have e2 : lo * g = lo * (g - 1) + lo := by rw [Int.mul_sub, Int.mul_one]; omega
  have e3 : lo * (g - 1) ≤ hi * (g - 1) := Int.mul_le_mul_of_nonneg_right lh (by omega)
  rw [e1] at a
  rw [e2] at b
  generalize hi * (g - 1) = B at *
  generalize lo * (g - 1) = A at *
  obtain ⟨m1, m2, m3⟩ := max3_ge lk (st + lo) (sp - B)
  refine ⟨m2, max3_le d (by omega) (by omega), ?_, by omega⟩
  have := max3_le (m := sp - A) c (show st + lo ≤ sp - A by omega) (show sp - B ≤ sp - A by omega)
  omega
/-- what a table's times say of all looks -/
structure W25 (C : Cl) (es : List Ev) (T : TbM) : Prop where
  ev : ∀ e ∈ es, Ev23 [C] e
  gn : Gn C es
  zero : (⟨0, 0, -1⟩ : Pt) ∈ T.pts
  nx : ∀ j, j < es.length → hnd C es (j + 1) = handM C 0 0 (1 + (j : Int)) (es.getD j dfE) 0 (hnd C es j)
  k6 : ∀ j, j ≤ es.length → Six C.kinds (hnd C es j).kind
  pts : ∀ j, j < es.length → ∀ b ∈ evB (fm23 [C]) 0 (1 + (j : Int)) (es.getD j dfE) [hnd C es j] none, b.one ∈ T.pts ∧ b.two ∈ T.pts
  met : ∀ j, j < es.length → ∀ b ∈ evB (fm23 [C]) 0 (1 + (j : Int)) (es.getD j dfE) [hnd C es j] none, ∀ x y, IsTm T b.one x → IsTm T b.two y → y ≤ x + b.amount
theorem devS25 {C : Cl} {es : List Ev} (hcs : ∀ c ∈ [C], ClK23 c) (hes : ∀ e ∈ es, Ev23 [C] e) {j : Nat} (hj : j < es.length) : (devS (fm23 [C]) [ev0 :: es] 0 j).2 = [hnd C es j] ∧ devS (fm23 [C]) [ev0 :: es] 0 (j + 1) = ((devS (fm23 [C]) [ev0 :: es] 0 j).1 ++ evB (fm23 [C]) 0 (1 + (j : Int)) (es.getD j dfE) [hnd C es j] none, [handM C 0 0 (1 + (j : Int)) (es.getD j dfE) 0 (hnd C es j)]) := by
  have ck : cks (fm23 [C]) 0 = [0] := cks23 hcs
  have hl : (devS (fm23 [C]) [ev0 :: es] 0 j).2.length = 1 := by
    have := devS2_len (fm23 [C]) [ev0 :: es] 0 j
    rw [this]
    show (cks (fm23 [C]) 0).length = 1
    rw [ck]
    rfl
  have h1 : (devS (fm23 [C]) [ev0 :: es] 0 j).2 = [hnd C es j] := by
    unfold hnd
    match (devS (fm23 [C]) [ev0 :: es] 0 j).2, hl with
    | [h], _ => rfl
  refine ⟨h1, ?_⟩
  have he : Ev23 [C] (es.getD j dfE) := hes _ (List.mem_of_getElem? (getD_ix hj))
  rw [devS, h1]
  have e1 : (([ev0 :: es] : List (List Ev)).getD 0 []).getD (j + 1) dfE = es.getD j dfE := rfl
  rw [e1, heard23 he.d, Int.add_comm 1]
  congr 1
  show evH (fm23 [C]) 0 ((j : Int) + 1) (es.getD j dfE) [hnd C es j] = _
  unfold evH cH
  rw [ck]
  rfl
theorem w25_of {C : Cl} {es : List Ev} {T : TbM} (hcs : ∀ c ∈ [C], ClK23 c) (hes : ∀ e ∈ es, Ev23 [C] e) (gn : Gn C es) (zero : (⟨0, 0, -1⟩ : Pt) ∈ T.pts) (gd : TbGd T) (hb : ∀ b ∈ vwB (fm23 [C]) [ev0 :: es], b.one ∈ T.pts ∧ b.two ∈ T.pts ∧ DLe (distM T b.one b.two) b.amount) : W25 C es T := by
  have sub : ∀ j, j < es.length → ∀ b ∈ evB (fm23 [C]) 0 (1 + (j : Int)) (es.getD j dfE) [hnd C es j] none, b ∈ vwB (fm23 [C]) [ev0 :: es] := fun j hj b h => by
    rw [vwB23]
    have key : ∀ m, j < m → m ≤ es.length → b ∈ (devS (fm23 [C]) [ev0 :: es] 0 m).1 := fun m => by
      induction m with
      | zero => intro h; omega
      | succ m ih =>
        intro h1 h2
        rw [(devS25 hcs hes (j := m) (by omega)).2]
        by_cases e : j = m
        · rw [← e]
          exact List.mem_append.mpr (.inr h)
        · exact List.mem_append.mpr (.inl (ih (by omega) (by omega)))
    exact key es.length hj (Nat.le_refl _)
  refine ⟨hes, gn, zero, fun j hj => ?_, fun j hj => ?_, fun j hj b h => ⟨(hb b (sub j hj b h)).1, (hb b (sub j hj b h)).2.1⟩, fun j hj b h x y hx hy => ?_⟩
  · unfold hnd
    rw [(devS25 hcs hes hj).2]
    rfl
  · have := (hsS23 hcs hes j hj).k 0 (by show 0 < 1; decide)
    exact this
  · obtain ⟨h1, h2, h3⟩ := hb b (sub j hj b h)
    exact hx.met gd h1 h2 hy h3
/-- the hand behind a look -/
theorem hand25 {C : Cl} {n : Int} {e : Ev} {h : HdM} (he : Ev23 [C] e) (h8 : e.deed.place ≠ 8) :
    handM C 0 0 n e 0 h = if e.deed.place = 1 then ⟨some ⟨0, n, -1⟩, e.after.getD 0 0, e.deed.nums.getD 1 0⟩ else if e.after.getD 0 0 ≠ e.shown.getD 0 0 then ⟨some ⟨0, n, -1⟩, e.after.getD 0 0, h.kind⟩ else ⟨some (tkP C 0 n e (e.shown.getD 0 0) h), e.after.getD 0 0, h.kind⟩ := by
  unfold handM givenM
  rcases he.d with q | ⟨c, k, q, c0, c1, k6⟩ | ⟨ks, q, _⟩
  · rw [q, if_neg (show ¬ ((0 : Nat) = 8) by decide), if_neg (fun z => absurd z.1 (show ¬ ((0 : Nat) = 1) by decide)), if_neg (show ¬ ((0 : Nat) = 1) by decide)]
    dsimp only
    by_cases g : e.after.getD 0 0 ≠ e.shown.getD 0 0
    · rw [if_pos g, if_pos g]
    · rw [if_neg g, if_neg g, tk_hand]
      have g : e.after.getD 0 0 = e.shown.getD 0 0 := by omega
      rw [g]
  · have c1 : c < 1 := c1
    have c0 : c = 0 := by omega
    subst c0
    rw [q, if_neg (show ¬ ((1 : Nat) = 8) by decide), if_pos ⟨rfl, rfl⟩, if_pos rfl]
    rfl
  · rw [q] at h8
    exact absurd rfl h8
end Vs

namespace Vs
open PySem PySem.Spec PyProof.Rows L2

def topS (i : Nat) : Stmt := PySem.Challenge.pw_whensure_k25_bounds_of_a_clock_are_its_r.main.body.getD i (.Pass ⟨0, 0, 0, 0⟩)
abbrev s_Frame_clocks_of : Stmt := inClass (topS 27) 2
abbrev nm_Frame_clocks_of : List Str := ["self", "device", "number", "clock"]
theorem sc_Frame_clocks_of : FnScope nm_Frame_clocks_of ["self", "device"] (defScope s_Frame_clocks_of) := ⟨rfl, rfl, rfl, by decide +kernel, rfl, by decide +kernel, by decide +kernel⟩
abbrev s_first_hands : Stmt := topS 7
abbrev nm_first_hands : List Str := ["frame", "device", "_"]
theorem sc_first_hands : FnScope nm_first_hands ["frame", "device"] (defScope s_first_hands) := ⟨rfl, rfl, rfl, by decide +kernel, rfl, by decide +kernel, by decide +kernel⟩
abbrev s_event_point : Stmt := topS 4
abbrev nm_event_point : List Str := ["event", "device", "number"]
theorem sc_event_point : FnScope nm_event_point ["event"] (defScope s_event_point) := ⟨rfl, rfl, rfl, by decide +kernel, rfl, by decide +kernel, by decide +kernel⟩
abbrev s_at_least_later : Stmt := topS 8
abbrev nm_at_least_later : List Str := ["first", "second", "least", "part"]
theorem sc_at_least_later : FnScope nm_at_least_later ["first", "second", "least", "part"] (defScope s_at_least_later) := ⟨rfl, rfl, rfl, by decide +kernel, rfl, by decide +kernel, by decide +kernel⟩
abbrev s_from_to_later : Stmt := topS 9
abbrev nm_from_to_later : List Str := ["first", "second", "least", "most", "part"]
theorem sc_from_to_later : FnScope nm_from_to_later ["first", "second", "least", "most", "part"] (defScope s_from_to_later) := ⟨rfl, rfl, rfl, by decide +kernel, rfl, by decide +kernel, by decide +kernel⟩
abbrev s_running_since : Stmt := topS 10
abbrev nm_running_since : List Str := ["frame", "clock", "event", "hand", "asleep", "deed", "goes_on", "stopped"]
theorem sc_running_since : FnScope nm_running_since ["frame", "clock", "event", "hand"] (defScope s_running_since) := ⟨rfl, rfl, rfl, by decide +kernel, rfl, by decide +kernel, by decide +kernel⟩
abbrev s_clock_bounds : Stmt := topS 11
abbrev nm_clock_bounds : List Str := ["frame", "record", "clock", "place", "hand", "here", "tick", "since", "gained", "bounds", "device", "number", "event", "_", "low", "high"]
theorem sc_clock_bounds : FnScope nm_clock_bounds ["frame", "record", "clock", "place", "hand"] (defScope s_clock_bounds) := ⟨rfl, rfl, rfl, by decide +kernel, rfl, by decide +kernel, by decide +kernel⟩
abbrev s_kind_given : Stmt := topS 12
abbrev nm_kind_given : List Str := ["deed", "clock", "place"]
theorem sc_kind_given : FnScope nm_kind_given ["deed", "clock", "place"] (defScope s_kind_given) := ⟨rfl, rfl, rfl, by decide +kernel, rfl, by decide +kernel, by decide +kernel⟩
abbrev s_hand_after : Stmt := topS 13
abbrev nm_hand_after : List Str := ["frame", "record", "clock", "place", "hand", "shown", "after", "given", "since", "device", "number", "event"]
theorem sc_hand_after : FnScope nm_hand_after ["frame", "record", "clock", "place", "hand"] (defScope s_hand_after) := ⟨rfl, rfl, rfl, by decide +kernel, rfl, by decide +kernel, by decide +kernel⟩
abbrev s_hands_after : Stmt := topS 14
abbrev nm_hands_after : List Str := ["frame", "record", "hands", "clocks", "place", "clock"]
theorem sc_hands_after : FnScope nm_hands_after ["frame", "record", "hands"] (defScope s_hands_after) := ⟨rfl, rfl, rfl, by decide +kernel, rfl, by decide +kernel, by decide +kernel⟩
abbrev s_Frame_source_part : Stmt := inClass (topS 27) 4
abbrev nm_Frame_source_part : List Str := ["self", "source"]
theorem sc_Frame_source_part : FnScope nm_Frame_source_part ["self", "source"] (defScope s_Frame_source_part) := ⟨rfl, rfl, rfl, by decide +kernel, rfl, by decide +kernel, by decide +kernel⟩
abbrev s_mark_bounds : Stmt := topS 15
abbrev nm_mark_bounds : List Str := ["frame", "here", "deed", "_", "source", "kind", "said", "early", "late"]
theorem sc_mark_bounds : FnScope nm_mark_bounds ["frame", "here", "deed"] (defScope s_mark_bounds) := ⟨rfl, rfl, rfl, by decide +kernel, rfl, by decide +kernel, by decide +kernel⟩
abbrev s_Frame_link_part : Stmt := inClass (topS 27) 3
abbrev nm_Frame_link_part : List Str := ["self", "link"]
theorem sc_Frame_link_part : FnScope nm_Frame_link_part ["self", "link"] (defScope s_Frame_link_part) := ⟨rfl, rfl, rfl, by decide +kernel, rfl, by decide +kernel, by decide +kernel⟩
abbrev s_hear_bounds : Stmt := topS 16
abbrev nm_hear_bounds : List Str := ["frame", "here", "deed", "kind", "sending", "bounds", "_", "link", "number", "part", "least", "most"]
theorem sc_hear_bounds : FnScope nm_hear_bounds ["frame", "here", "deed", "kind"] (defScope s_hear_bounds) := ⟨rfl, rfl, rfl, by decide +kernel, rfl, by decide +kernel, by decide +kernel⟩
abbrev s_event_bounds : Stmt := topS 17
abbrev nm_event_bounds : List Str := ["frame", "record", "hands", "kind", "here", "deed", "bounds", "device", "number", "event", "place", "clock"]
theorem sc_event_bounds : FnScope nm_event_bounds ["frame", "record", "hands", "kind"] (defScope s_event_bounds) := ⟨rfl, rfl, rfl, by decide +kernel, rfl, by decide +kernel, by decide +kernel⟩
abbrev s_heard_kind : Stmt := topS 18
abbrev nm_heard_kind : List Str := ["frame", "view", "deed", "sender", "sending"]
theorem sc_heard_kind : FnScope nm_heard_kind ["frame", "view", "deed"] (defScope s_heard_kind) := ⟨rfl, rfl, rfl, by decide +kernel, rfl, by decide +kernel, by decide +kernel⟩
abbrev s_view_bounds : Stmt := topS 19
abbrev nm_view_bounds : List Str := ["frame", "view", "bounds", "device", "events", "hands", "number", "kind", "more"]
theorem sc_view_bounds : FnScope nm_view_bounds ["frame", "view"] (defScope s_view_bounds) := ⟨rfl, rfl, rfl, by decide +kernel, rfl, by decide +kernel, by decide +kernel⟩
abbrev s_points_named : Stmt := topS 24
abbrev nm_points_named : List Str := ["bounds", "points", "named", "first", "second", "_", "point"]
theorem sc_points_named : FnScope nm_points_named ["bounds", "points"] (defScope s_points_named) := ⟨rfl, rfl, rfl, by decide +kernel, rfl, by decide +kernel, by decide +kernel⟩
abbrev s_Table___init__ : Stmt := inClass (topS 22) 0
abbrev nm_Table___init__ : List Str := ["self"]
theorem sc_Table___init__ : FnScope nm_Table___init__ ["self"] (defScope s_Table___init__) := ⟨rfl, rfl, rfl, by decide +kernel, rfl, by decide +kernel, by decide +kernel⟩
abbrev s_Table_add_point : Stmt := inClass (topS 22) 3
abbrev nm_Table_add_point : List Str := ["self", "point", "row"]
theorem sc_Table_add_point : FnScope nm_Table_add_point ["self", "point"] (defScope s_Table_add_point) := ⟨rfl, rfl, rfl, by decide +kernel, rfl, by decide +kernel, by decide +kernel⟩
abbrev s_is_nearer : Stmt := topS 21
abbrev nm_is_nearer : List Str := ["amount", "distance"]
theorem sc_is_nearer : FnScope nm_is_nearer ["amount", "distance"] (defScope s_is_nearer) := ⟨rfl, rfl, rfl, by decide +kernel, rfl, by decide +kernel, by decide +kernel⟩
abbrev s_Table__shorten : Stmt := inClass (topS 22) 5
abbrev nm_Table__shorten : List Str := ["self", "start", "end", "amount", "reach", "onward", "row", "place", "rest", "ahead"]
theorem sc_Table__shorten : FnScope nm_Table__shorten ["self", "start", "end", "amount"] (defScope s_Table__shorten) := ⟨rfl, rfl, rfl, by decide +kernel, rfl, by decide +kernel, by decide +kernel⟩
abbrev s_Table_put_bound : Stmt := inClass (topS 22) 4
abbrev nm_Table_put_bound : List Str := ["self", "first", "second", "amount", "start", "end", "back"]
theorem sc_Table_put_bound : FnScope nm_Table_put_bound ["self", "first", "second", "amount"] (defScope s_Table_put_bound) := ⟨rfl, rfl, rfl, by decide +kernel, rfl, by decide +kernel, by decide +kernel⟩
abbrev s_table_of : Stmt := topS 25
abbrev nm_table_of : List Str := ["bounds", "points", "table", "point", "first", "second", "amount", "_"]
theorem sc_table_of : FnScope nm_table_of ["bounds", "points"] (defScope s_table_of) := ⟨rfl, rfl, rfl, by decide +kernel, rfl, by decide +kernel, by decide +kernel⟩
abbrev s__law_draws : Stmt := topS 29
abbrev nm__law_draws : List Str := ["script", "count", "rows", "place", "cell"]
theorem sc__law_draws : FnScope nm__law_draws ["script", "count"] (defScope s__law_draws) := ⟨rfl, rfl, rfl, by decide +kernel, rfl, by decide +kernel, by decide +kernel⟩
abbrev s__law_take : Stmt := topS 30
abbrev nm__law_take : List Str := ["rows", "at", "many", "got"]
theorem sc__law_take : FnScope nm__law_take ["rows", "at", "many"] (defScope s__law_take) := ⟨rfl, rfl, rfl, by decide +kernel, rfl, by decide +kernel, by decide +kernel⟩
abbrev s__law_kinds : Stmt := topS 31
abbrev nm__law_kinds : List Str := ["rows", "at", "kinds", "j", "low"]
theorem sc__law_kinds : FnScope nm__law_kinds ["rows", "at"] (defScope s__law_kinds) := ⟨rfl, rfl, rfl, by decide +kernel, rfl, by decide +kernel, by decide +kernel⟩
abbrev s__law_begin : Stmt := topS 32
abbrev nm__law_begin : List Str := ["clock", "rows", "kinds", "low"]
theorem sc__law_begin : FnScope nm__law_begin ["clock", "rows", "kinds"] (defScope s__law_begin) := ⟨rfl, rfl, rfl, by decide +kernel, rfl, by decide +kernel, by decide +kernel⟩
abbrev s__law_run : Stmt := topS 33
abbrev nm__law_run : List Str := ["clock", "rows", "amount", "kinds", "k"]
theorem sc__law_run : FnScope nm__law_run ["clock", "rows", "amount", "kinds"] (defScope s__law_run) := ⟨rfl, rfl, rfl, by decide +kernel, rfl, by decide +kernel, by decide +kernel⟩
abbrev s__law_view : Stmt := topS 34
abbrev nm__law_view : List Str := ["rows", "kinds", "goes_on", "clock", "events", "n", "asleep", "gap", "shown", "way", "deed"]
theorem sc__law_view : FnScope nm__law_view ["rows", "kinds", "goes_on"] (defScope s__law_view) := ⟨rfl, rfl, rfl, by decide +kernel, rfl, by decide +kernel, by decide +kernel⟩
abbrev s__law_fits : Stmt := topS 35
abbrev nm__law_fits : List Str := ["start", "look", "stop", "gain", "low", "high", "first", "rest"]
theorem sc__law_fits : FnScope nm__law_fits ["start", "look", "stop", "gain", "low", "high"] (defScope s__law_fits) := ⟨rfl, rfl, rfl, by decide +kernel, rfl, by decide +kernel, by decide +kernel⟩
abbrev s_Table_time_of : Stmt := inClass (topS 22) 8
abbrev nm_Table_time_of : List Str := ["self", "point", "place", "row"]
theorem sc_Table_time_of : FnScope nm_Table_time_of ["self", "point"] (defScope s_Table_time_of) := ⟨rfl, rfl, rfl, by decide +kernel, rfl, by decide +kernel, by decide +kernel⟩
abbrev s__law_walk : Stmt := topS 36
abbrev nm__law_walk : List Str := ["events", "kinds", "goes_on", "table", "since", "value", "kind", "n", "here", "look", "low", "high", "asleep", "shown", "after", "deed", "knows", "stop"]
theorem sc__law_walk : FnScope nm__law_walk ["events", "kinds", "goes_on", "table"] (defScope s__law_walk) := ⟨rfl, rfl, rfl, by decide +kernel, rfl, by decide +kernel, by decide +kernel⟩
abbrev s_Table_possible : Stmt := inClass (topS 22) 2
abbrev nm_Table_possible : List Str := ["self"]
theorem sc_Table_possible : FnScope nm_Table_possible ["self"] (defScope s_Table_possible) := ⟨rfl, rfl, rfl, by decide +kernel, rfl, by decide +kernel, by decide +kernel⟩
abbrev s_Frame___init__ : Stmt := inClass (topS 27) 0
abbrev nm_Frame___init__ : List Str := ["self", "devices", "clocks", "links", "sources", "faults"]
theorem sc_Frame___init__ : FnScope nm_Frame___init__ ["self", "devices", "clocks", "links", "sources", "faults"] (defScope s_Frame___init__) := ⟨rfl, rfl, rfl, by decide +kernel, rfl, by decide +kernel, by decide +kernel⟩
abbrev s_law : Stmt := topS 37
abbrev nm_law : List Str := ["script", "rows", "kinds", "goes_on", "events", "frame", "table"]
theorem sc_law : FnScope nm_law ["script"] (defScope s_law) := ⟨rfl, rfl, rfl, by decide +kernel, rfl, by decide +kernel, by decide +kernel⟩
/-- what the top has made of the class -/
structure Ck_Frame (K : PySem.W.Frag) (mg : Str → Option Value) (C : Addr) : Prop where
  cl : Cls K C
  mg : mg "Frame" = some (.ref C)
  n_devices : NoAttr K C "devices"
  n_clocks : NoAttr K C "clocks"
  n_links : NoAttr K C "links"
  n_sources : NoAttr K C "sources"
  n_faults : NoAttr K C "faults"
/-- its attributes -/
def ff_Frame (v_devices v_clocks v_links v_sources v_faults : V) : List (Str × V) := putF "faults" v_faults (putF "sources" v_sources (putF "links" v_links (putF "clocks" v_clocks (putF "devices" v_devices ([])))))
theorem lk_Frame_devices {v_devices v_clocks v_links v_sources v_faults : V} : (ff_Frame v_devices v_clocks v_links v_sources v_faults).lookup ("devices" : Str) = some v_devices := by
  unfold ff_Frame; rw [lookup_putF, if_neg (by decide +kernel : ¬ (("devices" : Str) = "faults"))]; rw [lookup_putF, if_neg (by decide +kernel : ¬ (("devices" : Str) = "sources"))]; rw [lookup_putF, if_neg (by decide +kernel : ¬ (("devices" : Str) = "links"))]; rw [lookup_putF, if_neg (by decide +kernel : ¬ (("devices" : Str) = "clocks"))]; rw [lookup_putF, if_pos rfl]
theorem lk_Frame_clocks {v_devices v_clocks v_links v_sources v_faults : V} : (ff_Frame v_devices v_clocks v_links v_sources v_faults).lookup ("clocks" : Str) = some v_clocks := by
  unfold ff_Frame; rw [lookup_putF, if_neg (by decide +kernel : ¬ (("clocks" : Str) = "faults"))]; rw [lookup_putF, if_neg (by decide +kernel : ¬ (("clocks" : Str) = "sources"))]; rw [lookup_putF, if_neg (by decide +kernel : ¬ (("clocks" : Str) = "links"))]; rw [lookup_putF, if_pos rfl]
theorem lk_Frame_links {v_devices v_clocks v_links v_sources v_faults : V} : (ff_Frame v_devices v_clocks v_links v_sources v_faults).lookup ("links" : Str) = some v_links := by
  unfold ff_Frame; rw [lookup_putF, if_neg (by decide +kernel : ¬ (("links" : Str) = "faults"))]; rw [lookup_putF, if_neg (by decide +kernel : ¬ (("links" : Str) = "sources"))]; rw [lookup_putF, if_pos rfl]
theorem lk_Frame_sources {v_devices v_clocks v_links v_sources v_faults : V} : (ff_Frame v_devices v_clocks v_links v_sources v_faults).lookup ("sources" : Str) = some v_sources := by
  unfold ff_Frame; rw [lookup_putF, if_neg (by decide +kernel : ¬ (("sources" : Str) = "faults"))]; rw [lookup_putF, if_pos rfl]
theorem lk_Frame_faults {v_devices v_clocks v_links v_sources v_faults : V} : (ff_Frame v_devices v_clocks v_links v_sources v_faults).lookup ("faults" : Str) = some v_faults := by
  unfold ff_Frame; rw [lookup_putF, if_pos rfl]
theorem no_Frame {v_devices v_clocks v_links v_sources v_faults : V} {m : Str} (h_devices : ¬ m = "devices" := by decide +kernel) (h_clocks : ¬ m = "clocks" := by decide +kernel) (h_links : ¬ m = "links" := by decide +kernel) (h_sources : ¬ m = "sources" := by decide +kernel) (h_faults : ¬ m = "faults" := by decide +kernel) : (ff_Frame v_devices v_clocks v_links v_sources v_faults).lookup m = none := by
  unfold ff_Frame; rw [lookup_putF, if_neg h_faults]; rw [lookup_putF, if_neg h_sources]; rw [lookup_putF, if_neg h_links]; rw [lookup_putF, if_neg h_clocks]; rw [lookup_putF, if_neg h_devices]; rfl
/-- what the top has made of the class -/
structure Ck_Table (K : PySem.W.Frag) (mg : Str → Option Value) (C : Addr) : Prop where
  cl : Cls K C
  mg : mg "Table" = some (.ref C)
  n__places : NoAttr K C "_places"
  n__rows : NoAttr K C "_rows"
  n__possible : NoAttr K C "_possible"
/-- its attributes -/
def ff_Table (v__places v__rows v__possible : V) : List (Str × V) := putF "_possible" v__possible (putF "_rows" v__rows (putF "_places" v__places ([])))
theorem lk_Table__places {v__places v__rows v__possible : V} : (ff_Table v__places v__rows v__possible).lookup ("_places" : Str) = some v__places := by
  unfold ff_Table; rw [lookup_putF, if_neg (by decide +kernel : ¬ (("_places" : Str) = "_possible"))]; rw [lookup_putF, if_neg (by decide +kernel : ¬ (("_places" : Str) = "_rows"))]; rw [lookup_putF, if_pos rfl]
theorem lk_Table__rows {v__places v__rows v__possible : V} : (ff_Table v__places v__rows v__possible).lookup ("_rows" : Str) = some v__rows := by
  unfold ff_Table; rw [lookup_putF, if_neg (by decide +kernel : ¬ (("_rows" : Str) = "_possible"))]; rw [lookup_putF, if_pos rfl]
theorem lk_Table__possible {v__places v__rows v__possible : V} : (ff_Table v__places v__rows v__possible).lookup ("_possible" : Str) = some v__possible := by
  unfold ff_Table; rw [lookup_putF, if_pos rfl]
theorem no_Table {v__places v__rows v__possible : V} {m : Str} (h__places : ¬ m = "_places" := by decide +kernel) (h__rows : ¬ m = "_rows" := by decide +kernel) (h__possible : ¬ m = "_possible" := by decide +kernel) : (ff_Table v__places v__rows v__possible).lookup m = none := by
  unfold ff_Table; rw [lookup_putF, if_neg h__possible]; rw [lookup_putF, if_neg h__rows]; rw [lookup_putF, if_neg h__places]; rfl
/-- a frame of data, as an instance; own: its lists -/
def FrI (K : PySem.W.Frag) (CF : Addr) (H : Hp) (p : Addr) (F : Fm) (own : List Addr) : Prop := ∃ dx d c l s, own = [p, d, c, l, s] ∧ H p = some (.ins CF dx (ff_Frame (.ref d) (.ref c) (.ref l) (.ref s) (.int F.faults))) ∧ LsI K H d (F.devices.map PyData.str) ∧ LsI K H c (F.clocks.map clP) ∧ LsI K H l (F.links.map lkP) ∧ LsI K H s (F.sources.map srP)
theorem FrI.keep {K : PySem.W.Frag} {CF : Addr} {H H' : Hp} {p : Addr} {F : Fm} {own : List Addr} (e : Same H H') (h : FrI K CF H p F own) : FrI K CF H' p F own := by
  obtain ⟨dx, d, c, l, s, h0, h1, h2, h3, h4, h5⟩ := h
  exact ⟨dx, d, c, l, s, h0, e _ _ h1, h2.keep e, h3.keep e, h4.keep e, h5.keep e⟩
theorem FrI.but {K : PySem.W.Frag} {CF : Addr} {H H' : Hp} {p o : Addr} {xs : List V} {F : Fm} {own : List Addr} (e : But o H H') (ho : H o = some (.lst xs)) (n : o ∉ own) (h : FrI K CF H p F own) : FrI K CF H' p F own := by
  obtain ⟨dx, d, c, l, s, h0, h1, h2, h3, h4, h5⟩ := h
  rw [h0] at n
  simp only [List.mem_cons, List.not_mem_nil, or_false, not_or] at n
  exact ⟨dx, d, c, l, s, h0, e _ _ (Ne.symm n.1) h1, h2.but e ho (Ne.symm n.2.1), h3.but e ho (Ne.symm n.2.2.1), h4.but e ho (Ne.symm n.2.2.2.1), h5.but e ho (Ne.symm n.2.2.2.2)⟩
theorem FrI.none {K : PySem.W.Frag} {CF : Addr} {H : Hp} {p o : Addr} {F : Fm} {own : List Addr} (h : FrI K CF H p F own) (n : H o = none) : o ∉ own := by
  obtain ⟨dx, d, c, l, s, h0, h1, ⟨_, h2, _⟩, ⟨_, h3, _⟩, ⟨_, h4, _⟩, ⟨_, h5, _⟩⟩ := h
  rw [h0]
  simp only [List.mem_cons, List.not_mem_nil, or_false, not_or]
  exact ⟨(ne_of_none h1 n).symm, (ne_of_none h2 n).symm, (ne_of_none h3 n).symm, (ne_of_none h4 n).symm, (ne_of_none h5 n).symm⟩
theorem mk_same {H : Hp} {x dx C : Addr} (nx : H x = none) (ndx : H dx = none) : Same H (upd (upd H dx (.own x)) x (.ins C dx [])) := fun c w hc => by
  rw [upd_ne (ne_of_none hc nx), upd_ne (ne_of_none hc ndx)]
  exact hc
theorem Wd.made {K : PySem.W.Frag} {CF : Addr} {H H8 : Hp} {r : Addr} {n : Nat} {ls : List (Addr × List PyData)} {is : List (Addr × HO)} (w : Wd K H r n ls is) {x dx d1 d2 d3 d4 : Addr} {o : HO} {e1 e2 e3 e4 : List PyData} (nx : H x = none) (ndx : H dx = none)
    (b8 : But x (upd (upd H dx (.own x)) x (.ins CF dx [])) H8) (hx : H8 x = some o) (f1 : LsI K H8 d1 e1) (f2 : LsI K H8 d2 e2) (f3 : LsI K H8 d3 e3) (f4 : LsI K H8 d4 e4)
    (m1 : (upd (upd H dx (.own x)) x (.ins CF dx [])) d1 = Option.none) (m2 : (upd (upd H dx (.own x)) x (.ins CF dx [])) d2 = Option.none) (m3 : (upd (upd H dx (.own x)) x (.ins CF dx [])) d3 = Option.none) (m4 : (upd (upd H dx (.own x)) x (.ins CF dx [])) d4 = Option.none) (nd : [d1, d2, d3, d4].Nodup) :
    Same H H8 ∧ Wd K H8 r n ((d1, e1) :: (d2, e2) :: (d3, e3) :: (d4, e4) :: ls) ((x, o) :: is) := by
  have sx := mk_same (C := CF) nx ndx
  have ex : (upd (upd H dx (.own x)) x (.ins CF dx [])) x = some (.ins CF dx []) := upd_same
  generalize upd (upd H dx (.own x)) x (.ins CF dx []) = H7 at *
  have s68 : Same H H8 := fun c u hc => b8 _ _ (ne_of_none hc nx) (sx _ _ hc)
  have hxn : ∀ d, H7 d = Option.none → d ≠ x := fun d hd e => by rw [e, ex] at hd; cases hd
  refine ⟨s68, w.news (ls2 := [(d1, e1), (d2, e2), (d3, e3), (d4, e4)]) (is2 := [(x, o)]) s68 (fun p hp => ?_) (fun p hp => ?_) ?_⟩
  · simp only [List.mem_cons, List.not_mem_nil, or_false] at hp
    rcases hp with e | e | e | e <;> subst e
    · exact ⟨f1, sx.free m1⟩
    · exact ⟨f2, sx.free m2⟩
    · exact ⟨f3, sx.free m3⟩
    · exact ⟨f4, sx.free m4⟩
  · rw [List.mem_singleton.mp hp]
    exact ⟨hx, nx⟩
  · show ([d1, d2, d3, d4] ++ [x]).Nodup
    rw [List.nodup_append]
    refine ⟨nd, by simp, fun c hc y hy e => ?_⟩
    rw [List.mem_singleton.mp hy] at e
    simp only [List.mem_cons, List.not_mem_nil, or_false] at hc
    rcases hc with z | z | z | z <;> subst z
    · exact hxn _ m1 e
    · exact hxn _ m2 e
    · exact hxn _ m3 e
    · exact hxn _ m4 e
/-- a frame among the things of a bundle -/
def FrW (CF x : Addr) (F : Fm) (ls : List (Addr × List PyData)) (is : List (Addr × HO)) : Prop := ∃ dx d1 d2 d3 d4, (x, HO.ins CF dx (ff_Frame (.ref d1) (.ref d2) (.ref d3) (.ref d4) (.int F.faults))) ∈ is ∧ (d1, F.devices.map PyData.str) ∈ ls ∧ (d2, F.clocks.map clP) ∈ ls ∧ (d3, F.links.map lkP) ∈ ls ∧ (d4, F.sources.map srP) ∈ ls
theorem FrW.fr {K : PySem.W.Frag} {H : Hp} {r : Addr} {n : Nat} {CF x : Addr} {F : Fm} {ls : List (Addr × List PyData)} {is : List (Addr × HO)} (f : FrW CF x F ls is) (w : Wd K H r n ls is) : ∃ own, FrI K CF H x F own := by
  obtain ⟨dx, d1, d2, d3, d4, h0, h1, h2, h3, h4⟩ := f
  exact ⟨_, dx, d1, d2, d3, d4, rfl, w.ia _ h0, w.la _ h1, w.la _ h2, w.la _ h3, w.la _ h4⟩
theorem FrW.mono {CF x : Addr} {F : Fm} {ls ls' : List (Addr × List PyData)} {is : List (Addr × HO)} (f : FrW CF x F ls is) (h : ∀ p ∈ ls, p ∈ ls') : FrW CF x F ls' is := by
  obtain ⟨dx, d1, d2, d3, d4, h0, h1, h2, h3, h4⟩ := f
  exact ⟨dx, d1, d2, d3, d4, h0, h _ h1, h _ h2, h _ h3, h _ h4⟩
/-- points in a list: each a tuple of its own -/
structure PtL (H : Hp) (l : Addr) (bs : List Addr) (ps : List Pt) : Prop where
  l : H l = some (.lst (bs.map V.ref))
  e : Each (fun b p => H b = some (.tup [.int p.d, .int p.n, .int p.c])) bs ps
def Outs (fp : List Addr) (H H' : Hp) : Prop := ∀ b u, b ∉ fp → H b = some u → H' b = some u
theorem Outs.of {fp : List Addr} {H H' : Hp} (e : Same H H') : Outs fp H H' := fun b u _ h => e b u h
theorem Outs.trans {fp : List Addr} {H H1 H2 : Hp} (a : Outs fp H H1) (b : Outs fp H1 H2) : Outs fp H H2 := fun c u n h => b c u n (a c u n h)
theorem Outs.mono {fp gp : List Addr} {H H' : Hp} (a : Outs fp H H') (s : ∀ b ∈ fp, b ∈ gp) : Outs gp H H' := fun c u n h => a c u (fun m => n (s c m)) h
theorem Outs.but {fp : List Addr} {o : Addr} {H H' : Hp} (a : But o H H') (m : o ∈ fp) : Outs fp H H' := fun c u n h => a c u (fun e => n (e ▸ m)) h
theorem Outs.same {fp : List Addr} {H0 H H' : Hp} (s : Outs fp H H') (e : Same H0 H) (n : ∀ b ∈ fp, H0 b = none) : Same H0 H' := fun c u h => s c u (fun m => by rw [n c m] at h; cases h) (e c u h)
def onP (x : Nat × Int) : PyData := .tuple [.int (x.1 : Int), .int x.2]
theorem Im.unon {K : PySem.W.Frag} {H : Hp} {x : Nat × Int} {v : V} (h : Im K H (onP x) v) : ∃ a, v = .ref a ∧ SqT K H a [.int (x.1 : Int), .int x.2] := by
  obtain ⟨a, vs, h1, h2, h3⟩ := Im.unt h
  have e := ImL.uints (ns := [(x.1 : Int), x.2]) h3
  exact ⟨a, h1, by rw [e] at h2; exact h2⟩
theorem onI {K : PySem.W.Frag} {H : Hp} {a : Addr} {x : Nat × Int} (h : SqT K H a [.int (x.1 : Int), .int x.2]) : Im K H (onP x) (.ref a) := Im.tup_ h (ImL.ints (ns := [(x.1 : Int), x.2]))
theorem rowAt {K : PySem.W.Frag} {H : Hp} {a : Addr} {r : Row} (h : H a = some (rowO r)) : SqL K H a (r.map hiV) := SqL.of h
theorem row_at {r : Row} {i : Nat} (hi : i < r.length) : atI (r.map hiV) (i : Int) = some (hiV (r.getD i none)) := at_of (j := i) rfl (by rw [List.getElem?_map, getD_ix (d := none) hi]; rfl)
theorem hiV_non {o : Option Int} : decide (hiV o = V.non) = o.isNone := by
  cases o with
  | none => exact decide_eq_true rfl
  | some b => exact decide_eq_false (by intro z; cases z)
/-- one row of a list of rows is changed -/
theorem rows_put {H : Hp} {rs : List Addr} {d : List Row} {a : Addr} {r : Row} {i : Nat} (g : Each (fun a r => H a = some (rowO r)) rs d) (nd : rs.Nodup) (hi : rs[i]? = some a) : Each (fun b q => upd H a (rowO r) b = some (rowO q)) rs (d.set i r) := by
  refine ⟨by rw [g.1, List.length_set], fun j b q h1 h2 => ?_⟩
  by_cases e : i = j
  · subst e
    rw [hi] at h1
    cases h1
    have hl := (List.getElem?_eq_some_iff.mp h2).1
    rw [List.length_set] at hl
    rw [List.getElem?_set_self hl] at h2
    cases h2
    exact upd_same
  · rw [List.getElem?_set_ne e] at h2
    rw [upd_ne (show b ≠ a from fun z => e (nd_ix nd hi (by rw [← z]; exact h1)))]
    exact g.2 j b q h1 h2
theorem put_possible {a b c x : V} : putF "_possible" x (ff_Table a b c) = ff_Table a b x := rfl
theorem put_rows {a b c x : V} : putF "_rows" x (ff_Table a b c) = ff_Table a x c := rfl
theorem put_places {a b c x : V} : putF "_places" x (ff_Table a b c) = ff_Table x b c := rfl
theorem len_Table {a b c : V} : (ff_Table a b c).length < 1000 := by
  rw [show (ff_Table a b c).length = 3 from rfl]
  decide
theorem rep_row : ∀ n : Nat, (List.replicate n [V.non]).flatten ++ [V.int 0] = (List.replicate n (none : Option Int) ++ [some 0]).map hiV
  | 0 => rfl
  | n + 1 => by
    rw [List.replicate_succ, List.flatten_cons, List.replicate_succ]
    show V.non :: ((List.replicate n [V.non]).flatten ++ [V.int 0]) = V.non :: (List.replicate n (none : Option Int) ++ [some 0]).map hiV
    rw [rep_row n]
theorem rep_len (n : Nat) : ((List.replicate n [V.non]).flatten).length = n := by
  induction n with
  | zero => rfl
  | succ n ih =>
    rw [List.replicate_succ, List.flatten_cons, List.length_append, ih, List.length_singleton]
    omega
open Dk in
/-- the places of a table's points -/
structure PlE (P : Program) (wd : World) (K : PySem.W.Frag) (H : Hp) (pl : Addr) (xs : List En) (ps : List Pt) : Prop where
  o : H pl = some (DkO P wd pl xs)
  k : Keys K H xs
  t : xs.map two = plK ps
open Dk in
theorem PlE.tk {P : Program} {wd : World} {K : PySem.W.Frag} {H H' : Hp} {pl : Addr} {xs : List En} {ps : List Pt} (k : TupK H H') (o : ∀ u, H pl = some u → H' pl = some u) (h : PlE P wd K H pl xs ps) : PlE P wd K H' pl xs ps := ⟨o _ h.o, keys_tk k h.k, h.t⟩
def HO.isTup : HO → Bool
  | .tup _ => true
  | .frz _ (.tup _) => true
  | _ => false
theorem tk_out {fp : List Addr} {H H' : Hp} (e : Outs fp H H') (n : ∀ b ∈ fp, ∃ u, H b = some u ∧ HO.isTup u = false) : TupK H H' := ⟨fun a xs g => e _ _ (fun m => by
    obtain ⟨u, h1, h2⟩ := n a m
    rw [g] at h1
    cases h1
    cases h2) g, fun a o xs g => e _ _ (fun m => by
    obtain ⟨u, h1, h2⟩ := n a m
    rw [g] at h1
    cases h1
    cases h2) g⟩
open Dk in
theorem PlE.val {P : Program} {wd : World} {K : PySem.W.Frag} {H : Hp} {pl : Addr} {xs : List En} {ps : List Pt} {k : List Key} {v : V} (h : PlE P wd K H pl xs ps) (g : valV (plK ps) k = some v) : valE xs k = some v := by rw [valE_two, h.t]; exact g
open Dk in
theorem PlE.len {P : Program} {wd : World} {K : PySem.W.Frag} {H : Hp} {pl : Addr} {xs : List En} {ps : List Pt} (h : PlE P wd K H pl xs ps) : xs.length = ps.length := by
  have := congrArg List.length h.t
  rw [List.length_map, plK_len] at this
  exact this
open Dk in
theorem PlE.key {P : Program} {wd : World} {K : PySem.W.Frag} {H : Hp} {pl : Addr} {xs : List En} {ps : List Pt} (h : PlE P wd K H pl xs ps) {i : Nat} {x : En} {p : Pt} (g : xs[i]? = some x) (e : ps[i]? = some p) : PtA K H x.2.1 p := by
  have e1 : (xs.map two)[i]? = some (two x) := by rw [List.getElem?_map, g]; rfl
  rw [h.t, plK_get e] at e1
  have e3 : ptK p = x.1 := congrArg Prod.fst (Option.some.inj e1)
  have kx := h.k x (List.mem_of_getElem? g)
  rw [← e3] at kx
  exact kx
structure TbAt (P : Program) (wd : World) (K : PySem.W.Frag) (CT : Addr) (H : Hp) (t : Addr) (T : TbM) (pl rw : Addr) (rs : List Addr) : Prop where
  ins : ∃ dx, H t = some (.ins CT dx (ff_Table (.ref pl) (.ref rw) (.bl T.ok)))
  hpl : ∃ xs, PlE P wd K H pl xs T.pts
  hrw : H rw = some (.lst (rs.map V.ref))
  ro : Each (fun a r => H a = some (rowO r)) rs T.d
  nr : rw ∉ rs
  nd : rs.Nodup
  ok : TbOk T
section
variable {P : Program} {wd : World} {K : PySem.W.Frag} {CT : Addr} {H H' : Hp} {t pl rw : Addr} {T : TbM} {rs : List Addr}
theorem TbAt.rl (h : TbAt P wd K CT H t T pl rw rs) : rs.length = T.pts.length := by rw [h.ro.1, h.ok.dl]
theorem TbAt.row (h : TbAt P wd K CT H t T pl rw rs) {i : Nat} (hi : i < T.pts.length) : ∃ a, rs[i]? = some a ∧ H a = some (rowO (T.d.getD i [])) ∧ (T.d.getD i []).length = T.pts.length := by
  have hl := h.rl
  have h1 : rs[i]? = some (rs[i]'(by omega)) := List.getElem?_eq_getElem _
  have h2 : T.d[i]? = some (T.d.getD i []) := getD_ix (by rw [h.ok.dl]; exact hi)
  exact ⟨_, h1, h.ro.2 i _ _ h1 h2, h.ok.rl _ (List.mem_of_getElem? h2)⟩
theorem TbAt.keep (e : Same H H') (h : TbAt P wd K CT H t T pl rw rs) : TbAt P wd K CT H' t T pl rw rs := by
  obtain ⟨dx, h1⟩ := h.ins
  obtain ⟨xs, hx⟩ := h.hpl
  exact ⟨⟨dx, e _ _ h1⟩, ⟨xs, hx.tk (.of e) (e _)⟩, e _ _ h.hrw, h.ro.keep fun _ _ z => e _ _ z, h.nr, h.nd, h.ok⟩
/-- it stays where what changes is none of its own, and tuples stay -/
theorem TbAt.outs {fp : List Addr} (e : Outs fp H H') (k : TupK H H') (h : TbAt P wd K CT H t T pl rw rs) (n : ∀ a ∈ t :: pl :: rw :: rs, a ∉ fp) : TbAt P wd K CT H' t T pl rw rs := by
  obtain ⟨dx, h1⟩ := h.ins
  obtain ⟨xs, hx⟩ := h.hpl
  exact ⟨⟨dx, e _ _ (n t (by simp)) h1⟩, ⟨xs, hx.tk k fun u => e _ u (n pl (by simp))⟩, e _ _ (n rw (by simp)) h.hrw, h.ro.imp fun a _ ha z => e _ _ (n a (by simp [ha])) z, h.nr, h.nd, h.ok⟩
theorem TbAt.tn (h : TbAt P wd K CT H t T pl rw rs) : t ∉ rs := fun m => by
  obtain ⟨i, hi⟩ := List.getElem?_of_mem m
  obtain ⟨x, _, y⟩ := h.ro.get hi
  obtain ⟨dx, h1⟩ := h.ins
  rw [y] at h1
  cases h1
theorem TbAt.pn (h : TbAt P wd K CT H t T pl rw rs) : pl ∉ rs := fun m => by
  obtain ⟨i, hi⟩ := List.getElem?_of_mem m
  obtain ⟨x, _, y⟩ := h.ro.get hi
  obtain ⟨xs, hx⟩ := h.hpl
  have h1 := hx.o
  rw [y] at h1
  cases h1
theorem TbAt.tp (h : TbAt P wd K CT H t T pl rw rs) : t ≠ pl := by
  obtain ⟨dx, h1⟩ := h.ins
  obtain ⟨xs, hx⟩ := h.hpl
  exact ne_of h1 hx.o (by intro z; cases z)
theorem TbAt.tw (h : TbAt P wd K CT H t T pl rw rs) : t ≠ rw := by
  obtain ⟨dx, h1⟩ := h.ins
  exact ne_of h1 h.hrw (by intro z; cases z)
theorem TbAt.pw (h : TbAt P wd K CT H t T pl rw rs) : pl ≠ rw := by
  obtain ⟨xs, hx⟩ := h.hpl
  exact ne_of hx.o h.hrw (by intro z; cases z)
theorem TbAt.rk (h : TbAt P wd K CT H t T pl rw rs) : ∀ b ∈ rs, ∃ u, H b = some u ∧ HO.isTup u = false := fun b m => by
  obtain ⟨i, hi⟩ := List.getElem?_of_mem m
  obtain ⟨x, _, y⟩ := h.ro.get hi
  exact ⟨_, y, rfl⟩
/-- of its own things none is a tuple -/
theorem TbAt.ok2 (h : TbAt P wd K CT H t T pl rw rs) : ∀ b ∈ t :: pl :: rw :: rs, ∃ u, H b = some u ∧ HO.isTup u = false := fun b m => by
  obtain ⟨dx, h1⟩ := h.ins
  obtain ⟨xs, hx⟩ := h.hpl
  simp only [List.mem_cons] at m
  rcases m with e | e | e | m
  · rw [e]; exact ⟨_, h1, rfl⟩
  · rw [e]; exact ⟨_, hx.o, rfl⟩
  · rw [e]; exact ⟨_, h.hrw, rfl⟩
  · exact h.rk b m
theorem TbAt.rows (h : TbAt P wd K CT H t T pl rw rs) {d' : List Row} (e : Outs rs H H') (ro : Each (fun a r => H' a = some (rowO r)) rs d') (ok : TbOk ⟨T.pts, d', T.ok⟩) : TbAt P wd K CT H' t ⟨T.pts, d', T.ok⟩ pl rw rs := by
  obtain ⟨dx, h1⟩ := id h.ins
  obtain ⟨xs, hx⟩ := id h.hpl
  exact ⟨⟨dx, e _ _ h.tn h1⟩, ⟨xs, hx.tk (tk_out e h.rk) fun u => e _ u h.pn⟩, e _ _ h.nr h.hrw, ro, h.nr, h.nd, ok⟩
theorem TbAt.flag (h : TbAt P wd K CT H t T pl rw rs) {dx : Addr} {b : Bool} (e : But t H H') (g : H' t = some (.ins CT dx (ff_Table (.ref pl) (.ref rw) (.bl b)))) : TbAt P wd K CT H' t ⟨T.pts, T.d, b⟩ pl rw rs := by
  obtain ⟨xs, hx⟩ := id h.hpl
  have k : TupK H H' := tk_out (Outs.but e (List.mem_singleton.mpr rfl)) fun b m => h.ok2 b (by rw [List.mem_singleton.mp m]; exact List.mem_cons_self)
  exact ⟨⟨dx, g⟩, ⟨xs, hx.tk k fun u => e _ u h.tp.symm⟩, e _ _ h.tw.symm h.hrw, h.ro.imp fun a _ ha z => e _ _ (fun w => h.tn (w ▸ ha)) z, h.nr, h.nd, h.ok.nd, h.ok.few, h.ok.dl, h.ok.rl⟩
theorem TbAt.free (h : TbAt P wd K CT H t T pl rw rs) {a : Addr} (n : H a = none) : a ∉ t :: pl :: rw :: rs := fun m => by
  obtain ⟨dx, h1⟩ := h.ins
  simp only [List.mem_cons] at m
  rcases m with e | e | e | m
  · rw [e, h1] at n; cases n
  · obtain ⟨xs, hx⟩ := h.hpl
    rw [e, hx.o] at n; cases n
  · rw [e, h.hrw] at n; cases n
  · obtain ⟨i, hi⟩ := List.getElem?_of_mem m
    obtain ⟨x, _, y⟩ := h.ro.get hi
    rw [y] at n; cases n
end
theorem PtL.keep {H H' : Hp} {l : Addr} {bs : List Addr} {ps : List Pt} (e : Same H H') (h : PtL H l bs ps) : PtL H' l bs ps := ⟨e _ _ h.l, h.e.keep fun _ _ z => e _ _ z⟩
theorem PtL.tk {H H' : Hp} {l : Addr} {bs : List Addr} {ps : List Pt} (e : TupK H H') (el : H' l = some (.lst (bs.map V.ref))) (h : PtL H l bs ps) : PtL H' l bs ps := ⟨el, h.e.keep fun _ _ z => e.1 _ _ z⟩
theorem PtL.get {H : Hp} {l : Addr} {bs : List Addr} {ps : List Pt} (h : PtL H l bs ps) {i : Nat} {p : Pt} (hi : ps[i]? = some p) : ∃ b, bs[i]? = some b ∧ H b = some (.tup [.int p.d, .int p.n, .int p.c]) := by
  have hl := h.e.1
  have hi' := (List.getElem?_eq_some_iff.mp hi).1
  have e : bs[i]? = some (bs[i]'(by omega)) := List.getElem?_eq_getElem _
  exact ⟨_, e, h.e.2 i _ _ e hi⟩
def ptN (p : Pt) : List Int := [p.d, p.n, p.c]
theorem ptN_inj {p q : Pt} (h : ptN p = ptN q) : p = q := by
  unfold ptN at h
  injection h with h1 h
  injection h with h2 h
  injection h with h3 _
  cases p; cases q
  simp only at h1 h2 h3
  rw [h1, h2, h3]
def ksM (bs : List Addr) (ns : List Pt) : List (Addr × List Int) := (bs.zip ns).map fun z => (z.1, ptN z.2)
theorem ksM_refs : ∀ {bs : List Addr} {ns : List Pt}, bs.length = ns.length → (ksM bs ns).map (fun p => V.ref p.1) = bs.map V.ref
  | [], [], _ => rfl
  | b :: bs, n :: ns, h => by
    show V.ref b :: (ksM bs ns).map (fun p => V.ref p.1) = V.ref b :: bs.map V.ref
    rw [ksM_refs (by simpa using h)]
theorem ksM_mem {H : Hp} : ∀ {bs : List Addr} {ns : List Pt}, Each (fun b p => H b = some (.tup [.int p.d, .int p.n, .int p.c])) bs ns → ∀ p ∈ ksM bs ns, H p.1 = some (.tup (p.2.map V.int)) ∧ ∃ q ∈ ns, p.2 = ptN q := by
  intro bs ns h p hp
  obtain ⟨z, hz, rfl⟩ := List.mem_map.mp hp
  obtain ⟨i, hi⟩ := List.getElem?_of_mem hz
  rw [List.getElem?_zip_eq_some] at hi
  exact ⟨h.2 i _ _ hi.1 hi.2, z.2, List.mem_of_getElem? hi.2, rfl⟩
theorem ksM_has : ∀ {bs : List Addr} {ns : List Pt}, bs.length = ns.length → ∀ q ∈ ns, ∃ p ∈ ksM bs ns, p.2 = ptN q
  | [], [], _, q, h => by cases h
  | b :: bs, n :: ns, h, q, hq => by
    rcases List.mem_cons.mp hq with e | hq
    · exact ⟨(b, ptN n), List.mem_cons_self, by rw [e]⟩
    · obtain ⟨p, hp, e⟩ := ksM_has (by simpa using h) q hq
      exact ⟨p, List.mem_cons_of_mem _ hp, e⟩
theorem setMem {bs : List Addr} {ns : List Pt} {H : Hp} {L : List (Addr × List Int)} (hP : Each (fun b p => H b = some (.tup [.int p.d, .int p.n, .int p.c])) bs ns) (h1 : ∀ p ∈ L, p ∈ ksM bs ns) (h2 : ∀ p ∈ ksM bs ns, p.2 ∈ L.map (·.2)) (q : Pt) : decide (ptN q ∈ L.map (·.2)) = decide (q ∈ ns) := by
  apply decide_eq_decide.mpr
  refine ⟨fun m => ?_, fun m => ?_⟩
  · obtain ⟨p, hp, e⟩ := List.mem_map.mp m
    obtain ⟨_, q', hq, e2⟩ := ksM_mem hP p (h1 p hp)
    rw [ptN_inj (e.symm.trans e2)]
    exact hq
  · obtain ⟨p, hp, e⟩ := ksM_has hP.1 q m
    rw [← e]
    exact h2 p hp
theorem filter_take {α : Type} {f : α → Bool} {xs : List α} {i : Nat} {x : α} (h : xs[i]? = some x) : (xs.take (i + 1)).filter f = (xs.take i).filter f ++ (if f x = true then [x] else []) := by
  rw [List.take_add_one, h, List.filter_append]
  congr 1
  show List.filter f [x] = _
  rw [List.filter_cons]
  cases f x <;> rfl
theorem map_take {α β : Type} {f : α → β} {xs : List α} {i : Nat} {x : α} (h : xs[i]? = some x) : (xs.take (i + 1)).map f = (xs.take i).map f ++ [f x] := by
  rw [List.take_add_one, h, List.map_append]
  rfl
theorem ref_of {rs : List Addr} {i : Nat} {x : V} (hx : (rs.map V.ref)[i]? = some x) : ∃ a, rs[i]? = some a ∧ x = V.ref a := by
  rw [List.getElem?_map] at hx
  cases h : rs[i]? with
  | none => rw [h] at hx; cases hx
  | some a => rw [h] at hx; exact ⟨a, rfl, (Option.some.inj hx).symm⟩
abbrev PtAt (H : Hp) : Addr → Pt → Prop := fun b p => H b = some (.tup [.int p.d, .int p.n, .int p.c])
theorem pt_eqv (p q : Pt) : PyData.eqv (ptP p) (ptP q) = decide (p = q) := by
  obtain ⟨a, b, c⟩ := p
  obtain ⟨x, y, z⟩ := q
  rw [Bool.eq_iff_iff, decide_eq_true_iff, Pt.mk.injEq]
  simp [ptP, PyData.eqv, PyData.eqvAll]
theorem pts_any (ps : List Pt) (p : Pt) : ((ps.map ptP).any fun z => z.eqv (ptP p)) = decide (p ∈ ps) := by
  induction ps with
  | nil => simp
  | cons a r ih =>
    rw [List.map_cons, List.any_cons, ih, pt_eqv, Bool.eq_iff_iff, Bool.or_eq_true, decide_eq_true_iff, decide_eq_true_iff, decide_eq_true_iff, List.mem_cons]
    exact ⟨fun h => h.elim (fun e => .inl e.symm) .inr, fun h => h.elim (fun e => .inl e.symm) .inr⟩
theorem pts_lay : ∀ ps : List Pt, PyData.canLayAll0 (ps.map ptP) = true
  | [] => rfl
  | p :: r => by
    show (PyData.canLay0 (ptP p) && PyData.canLayAll0 (r.map ptP)) = true
    rw [pts_lay r]
    rfl
theorem pts_shaped (ps : List Pt) : SeqAt.shaped (.list (ps.map ptP)) = true := by
  unfold SeqAt.shaped
  rw [Bool.and_eq_true]
  exact ⟨pts_lay ps, decide_eq_true (Nat.le_trans (ldepth pt_depth ps) (by decide))⟩
theorem pt_dp {K : PySem.W.Frag} {H : Hp} {b : Addr} {p : Pt} (h : PtAt H b p) : Dp K H (.ref b) (ptP p) := .tup (SqT.of h) (.cons (.int _) (.cons (.int _) (.cons (.int _) .nil)))
theorem PtL.dp {K : PySem.W.Frag} {H : Hp} {l : Addr} {bs : List Addr} {ps : List Pt} (h : PtL H l bs ps) : Dp K H (.ref l) (.list (ps.map ptP)) := .lst (SqL.of h.l) (all_dp (P := PtAt H) (fun _ _ z => pt_dp z) h.e)
theorem ptl_plain (ps : List Pt) : (PyData.list (ps.map ptP)).plain = true := all_plain (fun _ => rfl) ps
theorem PtL.neP {K : PySem.W.Frag} {H : Hp} {l m : Addr} {bs cs : List Addr} {ps : List Pt} {Q : VK} (h : PtL H l bs ps) (g : PtL H m cs ps) (q : Q (.bl false) H) : rNeP K (.ref l) (.ref m) H Q := by
  refine ⟨_, _, h.dp, g.dp, ptl_plain ps, ptl_plain ps, Nat.le_trans (ldepth pt_depth ps) (by decide), ?_⟩
  rw [SeqAt.eqv_refl_plain _ (ptl_plain ps)]
  exact q
theorem PtL.eqP {K : PySem.W.Frag} {H : Hp} {l m : Addr} {bs cs : List Addr} {ps : List Pt} {Q : VK} (h : PtL H l bs ps) (g : PtL H m cs ps) (q : Q (.bl true) H) : rEqP K (.ref l) (.ref m) H Q := by
  refine ⟨_, _, h.dp, g.dp, ptl_plain ps, ptl_plain ps, Nat.le_trans (ldepth pt_depth ps) (by decide), ?_⟩
  rw [SeqAt.eqv_refl_plain _ (ptl_plain ps)]
  exact q
/-- what is new in a heap, and the tuples -/
def newP (H H' : Hp) : Hp := fun x => match H x with | none => H' x | some (.tup xs) => some (.tup xs) | some _ => none
theorem newP_new {H H' : Hp} {a : Addr} {u : HO} (n : H a = none) (h : H' a = some u) : newP H H' a = some u := by
  unfold newP
  rw [n]
  exact h
theorem newP_tup {H H' : Hp} {a : Addr} {xs : List V} (s : Same H H') (h : H' a = some (.tup xs)) : newP H H' a = some (.tup xs) := by
  cases e : H a with
  | none => exact newP_new e h
  | some u =>
    have h2 := s _ _ e
    rw [h] at h2
    cases h2
    unfold newP
    rw [e]
theorem newP_sub {H H' : Hp} (s : Same H H') : Same (newP H H') H' := by
  intro a u h
  unfold newP at h
  cases e : H a with
  | none => rw [e] at h; exact h
  | some w =>
    rw [e] at h
    cases w <;> first | (cases h; exact s _ _ e) | cases h
/-- a table as it is shown -/
structure ShAt (H : Hp) (a : Addr) (ps : List Pt) (d : List Row) (b : Bool) : Prop where
  ex : ∃ l bs r rs, H a = some (.tup [.ref l, .ref r, .bl b]) ∧ PtL H l bs ps ∧ H r = some (.lst (rs.map V.ref)) ∧ Each (fun a r => H a = some (rowO r)) rs d
theorem ShAt.keep {H H' : Hp} {a : Addr} {ps : List Pt} {d : List Row} {b : Bool} (s : Same H H') (h : ShAt H a ps d b) : ShAt H' a ps d b := by
  obtain ⟨l, bs, r, rs, h1, h2, h3, h4⟩ := h.ex
  exact ⟨l, bs, r, rs, s _ _ h1, h2.keep s, s _ _ h3, h4.keep fun _ _ z => s _ _ z⟩
def shM (T : TbM) : List Row := T.pts.map fun p => T.pts.map fun q => distM T p q
theorem shr_dp {K : PySem.W.Frag} {H : Hp} {a : Addr} {r : Row} (h : H a = some (rowO r)) : Dp K H (.ref a) (.list (r.map hiP)) := by
  refine .lst (SqL.of h) ?_
  induction r with
  | nil => exact .nil
  | cons o r ih =>
    refine .cons (hi_dp o) ?_
    clear ih h
    induction r with
    | nil => exact .nil
    | cons o r ih => exact .cons (hi_dp o) ih
def shD (ps : List Pt) (d : List Row) (b : Bool) : PyData := .tuple [.list (ps.map ptP), .list (d.map fun r => .list (r.map hiP)), .bool b]
theorem sh_plain (ps : List Pt) (d : List Row) (b : Bool) : (shD ps d b).plain = true := by
  show ((PyData.list (ps.map ptP)).plain && ((PyData.list (d.map fun r => .list (r.map hiP))).plain && (true && true))) = true
  rw [ptl_plain, show (PyData.list (d.map fun r => PyData.list (r.map hiP))).plain = true from all_plain (f := fun r : Row => PyData.list (r.map hiP)) (fun r => all_plain hi_plain r) d]
  rfl
theorem sh_depth (ps : List Pt) (d : List Row) (b : Bool) : (shD ps d b).depth ≤ 64 := by
  have h1 := ldepth pt_depth ps
  have h2 := ldepth (f := fun r : Row => PyData.list (r.map hiP)) (fun r => ldepth hi_depth r) d
  simp only [shD, PyData.depth, PyData.depthAll] at *
  omega
theorem ShAt.dp {K : PySem.W.Frag} {H : Hp} {a : Addr} {ps : List Pt} {d : List Row} {b : Bool} (h : ShAt H a ps d b) : Dp K H (.ref a) (shD ps d b) := by
  obtain ⟨l, bs, r, rs, h1, h2, h3, h4⟩ := h.ex
  exact .tup (SqT.of h1) (.cons h2.dp (.cons (.lst (SqL.of h3) (all_dp (P := fun a r => H a = some (rowO r)) (f := fun r : Row => PyData.list (r.map hiP)) (fun _ _ z => shr_dp z) h4)) (.cons (.bl _) .nil)))
theorem hu65 {k : Nat} {A : Around} (h : Room k A) : A.units + 65 < cLine := by
  have := h.un
  omega
theorem PtL.at {H : Hp} {l : Addr} {bs : List Addr} {ps : List Pt} (h : PtL H l bs ps) {g : Int} (g0 : 0 ≤ g) (g1 : g < (ps.length : Int)) : ∃ b p, atI (bs.map V.ref) g = some (.ref b) ∧ bs[g.toNat]? = some b ∧ PtAt H b p ∧ ps[g.toNat]? = some p := by
  have hl := h.e.1
  have h2 : ps[g.toNat]? = some (ps[g.toNat]'(by omega)) := List.getElem?_eq_getElem _
  obtain ⟨b, hb, hp⟩ := h.get h2
  exact ⟨b, _, at_of (j := g.toNat) (by omega) (by rw [List.getElem?_map, hb]; rfl), hb, hp, h2⟩
theorem Each.erase {α : Type} {P : Addr → α → Prop} {as : List Addr} {xs : List α} (h : Each P as xs) (k : Nat) : Each P (as.eraseIdx k) (xs.eraseIdx k) := by
  refine ⟨by rw [List.length_eraseIdx, List.length_eraseIdx, h.1], fun i a x h1 h2 => ?_⟩
  rw [List.getElem?_eraseIdx] at h1 h2
  split at h1
  · rename_i c
    rw [if_pos c] at h2
    exact h.2 _ _ _ h1 h2
  · rename_i c
    rw [if_neg c] at h2
    exact h.2 _ _ _ h1 h2
theorem map_erase {α β : Type} {f : α → β} : ∀ (xs : List α) (k : Nat), (xs.map f).eraseIdx k = (xs.eraseIdx k).map f
  | [], _ => rfl
  | _ :: _, 0 => rfl
  | x :: r, k + 1 => by
    show f x :: (r.map f).eraseIdx k = f x :: (r.eraseIdx k).map f
    rw [map_erase r k]
theorem seqI {g : Int} {n : Nat} (g0 : 0 ≤ g) (g1 : g < (n : Int)) : seqIndex? g n = some g.toNat := by
  have h : (if g < 0 then g + (n : Int) else g) = g := if_neg (by omega)
  show (if (decide (0 ≤ (if g < 0 then g + (n : Int) else g)) && decide ((if g < 0 then g + (n : Int) else g) < (n : Int))) = true then some (if g < 0 then g + (n : Int) else g).toNat else none) = _
  rw [h, if_pos (by rw [decide_eq_true g0, decide_eq_true g1]; rfl)]
theorem iteB {c : Bool} {X A B : Prop} (hB : B) (h : c = true → B → X) : if c = true then X else (if false = true then A else B) := by
  cases c with
  | false => exact hB
  | true => exact h rfl hB
theorem putM_pts (T : TbM) (s e : Nat) (w : Int) : (putM T s e w).pts = T.pts := by
  unfold putM
  split
  · rfl
  · split <;> rfl
theorem TbAt.hp {P : Program} {wd : World} {K : PySem.W.Frag} {CT : Addr} {H : Hp} {t pl rw : Addr} {T : TbM} {rs : List Addr} (h : TbAt P wd K CT H t T pl rw rs) : ∃ dx, H t = some (.ins CT dx (ff_Table (.ref pl) (.ref rw) (.bl T.ok))) := h.ins
theorem cutP {xs : List V} {j : Nat} (h : j ≤ xs.length) : cutV xs none (some (j : Int)) = xs.take j := by
  unfold cutV
  have e : HT.sIx xs.length xs.length (some (j : Int)) = j := by
    show (if (j : Int) < 0 then ((j : Int) + xs.length).toNat else min (j : Int).toNat xs.length) = j
    rw [if_neg (by omega)]
    omega
  have e0 : HT.sIx xs.length 0 none = 0 := rfl
  rw [e, e0]
  rfl
theorem iteN {A B : Prop} (h : B) : if (!true) = true then A else B := h
theorem TbAt.kind {P : Program} {wd : World} {K : PySem.W.Frag} {CT : Addr} {H : Hp} {t pl rw : Addr} {T : TbM} {rs : List Addr} (h : TbAt P wd K CT H t T pl rw rs) : ∀ x ∈ t :: pl :: rw :: rs, ∃ o, H x = some o ∧ ∀ xs, o ≠ .tup xs := by
  intro x hx
  obtain ⟨dx, h1⟩ := h.ins
  simp only [List.mem_cons] at hx
  rcases hx with e | e | e | m
  · exact ⟨_, by rw [e]; exact h1, fun xs z => by cases z⟩
  · obtain ⟨ys, hy⟩ := h.hpl
    exact ⟨_, by rw [e]; exact hy.o, fun xs z => by cases z⟩
  · exact ⟨_, by rw [e]; exact h.hrw, fun xs z => by cases z⟩
  · obtain ⟨i, hi⟩ := List.getElem?_of_mem m
    obtain ⟨r, _, y⟩ := h.ro.get hi
    exact ⟨_, y, fun xs z => by cases z⟩
/-- the bounds as the law has them: numbers in place of points -/
def AcAt (H : Hp) (e : Addr) (z : Ar) : Prop := H e = some (.tup [.int (z.u : Int), .int (z.v : Int), .int z.w])
structure ArL (H : Hp) (a : Addr) (es : List Addr) (arcs : List Ar) : Prop where
  l : H a = some (.lst (es.map V.ref))
  e : Each (AcAt H) es arcs
theorem ArL.keep {H H' : Hp} {a : Addr} {es : List Addr} {arcs : List Ar} (s : Same H H') (h : ArL H a es arcs) : ArL H' a es arcs := ⟨s _ _ h.l, h.e.keep fun _ _ z => s _ _ z⟩
theorem ArL.tk {H H' : Hp} {a : Addr} {es : List Addr} {arcs : List Ar} (k : TupK H H') (l : H' a = some (.lst (es.map V.ref))) (h : ArL H a es arcs) : ArL H' a es arcs := ⟨l, h.e.keep fun _ _ z => k.1 _ _ z⟩
theorem foldr_len : ∀ (l : List Ar) (b : Row), (l.foldl relax b).length = b.length
  | [], _ => rfl
  | z :: l, b => by
    show (l.foldl relax (relax b z)).length = _
    rw [foldr_len l, relax_len]
theorem iterR_len (arcs : List Ar) (b : Row) : ∀ k, (iterR arcs k b).length = b.length
  | 0 => rfl
  | k + 1 => by
    show (arcs.foldl relax (iterR arcs k b)).length = _
    rw [foldr_len, iterR_len arcs b k]
theorem fold_take {z : Ar} {arcs : List Ar} {j : Nat} {b : Row} (h : arcs[j]? = some z) : (arcs.take (j + 1)).foldl relax b = relax ((arcs.take j).foldl relax b) z := by
  rw [List.take_add_one, h, List.foldl_append]
  rfl
theorem Outs.tups {P : Program} {wd : World} {K : PySem.W.Frag} {CT : Addr} {H H' : Hp} {t pl rw : Addr} {T : TbM} {rs fp : List Addr} (o : Outs fp H H') (a : TbAt P wd K CT H t T pl rw rs) (s : ∀ x ∈ fp, x ∈ t :: pl :: rw :: rs) : TupK H H' := tk_out o fun b m => a.ok2 b (s b m)
theorem iteO {c : Bool} {A B R : Prop} (hA : A) (h : c = false → A → R) : if c = true then (if true = true then A else B) else R := by
  cases c with
  | false => exact h rfl hA
  | true => exact hA
section
variable {P : Program} {wd : World} {K : PySem.W.Frag} {CT : Addr} {H H' : Hp} {r : Addr} {n : Nat} {l t : Addr} {T : TbM} {pl rw : Addr} {rs cs : List Addr} {b : Addr} {es : List Addr} {arcs : List Ar} {B : Int}
end
def bnd : Nat → Int
  | 0 => 0
  | k + 1 => 2 * bnd k + 1000000000000
theorem bnd_pos : ∀ k, 0 ≤ bnd k
  | 0 => Int.le_refl _
  | k + 1 => by
    have := bnd_pos k
    show 0 ≤ 2 * bnd k + 1000000000000
    omega
theorem bnd_le {k m : Nat} (h : k ≤ m) : bnd k ≤ bnd m := by
  induction h with
  | refl => exact Int.le_refl _
  | step h ih =>
    rename_i m
    have := bnd_pos m
    show _ ≤ 2 * bnd m + 1000000000000
    omega
theorem row_of {n : Nat} {f : Nat → Option Int} {i : Nat} (hi : i < n) : atI (((List.range n).map f).map hiV) (i : Int) = some (hiV (f i)) := by
  have h := row_at (r := (List.range n).map f) (i := i) (by rw [List.length_map, List.length_range]; exact hi)
  rw [h]
  congr 2
  rw [List.getD_eq_getElem?_getD, List.getElem?_map, List.getElem?_range hi]
  rfl
theorem Each.kind {H : Hp} {as : List Addr} {d : List Row} {x : Addr} (h : Each (fun a r => H a = some (rowO r)) as d) (m : x ∈ as) : ∃ xs, H x = some (.lst xs) := by
  obtain ⟨i, hi⟩ := List.getElem?_of_mem m
  obtain ⟨r, _, y⟩ := h.get hi
  exact ⟨_, y⟩
/-- the law's list of points and their numbers -/
def LvE (H : Hp) (e : Addr) (z : Pt × Nat) : Prop := ∃ c, H e = some (.tup [.ref c, .int (z.2 : Int)]) ∧ PtAt H c z.1
theorem LvE.tk {H H' : Hp} {e : Addr} {z : Pt × Nat} (k : TupK H H') (h : LvE H e z) : LvE H' e z := by
  obtain ⟨c, h1, h2⟩ := h
  exact ⟨c, k.1 _ _ h1, k.1 _ _ h2⟩
structure LvL (H : Hp) (l : Addr) (es : List Addr) (zs : List (Pt × Nat)) : Prop where
  l : H l = some (.lst (es.map V.ref))
  e : Each (LvE H) es zs
theorem LvL.keep {H H' : Hp} {l : Addr} {es : List Addr} {zs : List (Pt × Nat)} (s : Same H H') (h : LvL H l es zs) : LvL H' l es zs := ⟨s _ _ h.l, h.e.keep fun _ _ z => z.tk (.of s)⟩
theorem LvL.tk {H H' : Hp} {l : Addr} {es : List Addr} {zs : List (Pt × Nat)} (k : TupK H H') (l' : H' l = some (.lst (es.map V.ref))) (h : LvL H l es zs) : LvL H' l es zs := ⟨l', h.e.keep fun _ _ z => z.tk k⟩
theorem LvL.at {H : Hp} {l : Addr} {es : List Addr} {zs : List (Pt × Nat)} (h : LvL H l es zs) {g : Int} (g0 : 0 ≤ g) (g1 : g < (zs.length : Int)) : ∃ e z, atI (es.map V.ref) g = some (.ref e) ∧ LvE H e z ∧ zs[g.toNat]? = some z := by
  have hl := h.e.1
  have h2 : es[g.toNat]? = some (es[g.toNat]'(by omega)) := List.getElem?_eq_getElem _
  obtain ⟨z, hz, hp⟩ := h.e.get h2
  exact ⟨_, z, at_of (j := g.toNat) (by omega) (by rw [List.getElem?_map, h2]; rfl), hp, hz⟩
theorem some_relax {n : Nat} {b : Row} (hl : b.length = n) (h : ∀ v, v < n → ∃ x, b.getD v none = some x) {z : Ar} (hz : z.v < n) : ∀ v, v < n → ∃ x, (relax b z).getD v none = some x := fun v hv => by
  obtain ⟨x, hx⟩ := h v hv
  obtain ⟨y, hy, _⟩ := relax_le (z := z) (by rw [hl]; exact hz) (⟨x, hx, Int.le_refl _⟩ : DLe (b.getD v none) x)
  exact ⟨y, hy⟩
theorem some_fold {n : Nat} : ∀ (l : List Ar) (b : Row), (∀ z ∈ l, z.v < n) → b.length = n → (∀ v, v < n → ∃ x, b.getD v none = some x) → ∀ v, v < n → ∃ x, (l.foldl relax b).getD v none = some x
  | [], _, _, _, h => h
  | z :: l, b, hz, hl, h => some_fold l _ (fun y hy => hz y (List.mem_cons_of_mem _ hy)) (by rw [relax_len, hl]) (some_relax hl h (hz z List.mem_cons_self))
theorem some_iter {n : Nat} {arcs : List Ar} (hz : ∀ z ∈ arcs, z.v < n) : ∀ k v, v < n → ∃ x, (iterR arcs k (List.replicate n (some 0))).getD v none = some x
  | 0, v, hv => ⟨0, by
    show (List.replicate n (some (0 : Int))).getD v none = some 0
    rw [List.getD_eq_getElem?_getD, List.getElem?_replicate, if_pos hv]
    rfl⟩
  | k + 1, v, hv => some_fold arcs _ hz (by rw [iterR_len, List.length_replicate]) (some_iter hz k) v hv
/-- bounds of points as tuples -/
def BnE (H : Hp) (e : Addr) (z : Bd) : Prop := ∃ x y, H e = some (.tup [.ref x, .ref y, .int z.amount, .int z.part]) ∧ PtAt H x z.one ∧ PtAt H y z.two
theorem BnE.tk {H H' : Hp} {e : Addr} {z : Bd} (k : TupK H H') (h : BnE H e z) : BnE H' e z := by
  obtain ⟨x, y, h1, h2, h3⟩ := h
  exact ⟨x, y, k.1 _ _ h1, k.1 _ _ h2, k.1 _ _ h3⟩
structure BnL (H : Hp) (l : Addr) (es : List Addr) (bs : List Bd) : Prop where
  l : H l = some (.lst (es.map V.ref))
  e : Each (BnE H) es bs
theorem BnL.keep {H H' : Hp} {l : Addr} {es : List Addr} {bs : List Bd} (s : Same H H') (h : BnL H l es bs) : BnL H' l es bs := ⟨s _ _ h.l, h.e.keep fun _ _ z => z.tk (.of s)⟩
theorem BnL.tk {H H' : Hp} {l : Addr} {es : List Addr} {bs : List Bd} (k : TupK H H') (l' : H' l = some (.lst (es.map V.ref))) (h : BnL H l es bs) : BnL H' l es bs := ⟨l', h.e.keep fun _ _ z => z.tk k⟩
/-- points, each once, in the order in which they come -/
def insP (ns : List Pt) (p : Pt) : List Pt := if p ∈ ns then ns else ns ++ [p]
def insB (ns : List Pt) (b : Bd) : List Pt := insP (insP ns b.one) b.two
def namesM (ps : List Pt) (bs : List Bd) : List Pt := bs.foldl insB (ps.foldl insP [])
theorem insP_nd {ns : List Pt} (h : ns.Nodup) (p : Pt) : (insP ns p).Nodup := by
  unfold insP
  split
  · exact h
  · rename_i n
    rw [List.nodup_append]
    exact ⟨h, by simp, fun a ha b hb e => n (by rw [List.mem_singleton.mp hb] at e; exact e ▸ ha)⟩
theorem insP_mem {ns : List Pt} {p q : Pt} : q ∈ insP ns p ↔ q ∈ ns ∨ q = p := by
  unfold insP
  split
  · rename_i m
    exact ⟨.inl, fun h => h.elim (fun h => h) (fun e => e ▸ m)⟩
  · rw [List.mem_append, List.mem_singleton]
theorem insP_len (ns : List Pt) (p : Pt) : (insP ns p).length ≤ ns.length + 1 := by
  unfold insP
  split
  · omega
  · rw [List.length_append, List.length_singleton]
    exact Nat.le_refl _
def nmK (ns : List Pt) : List (List Key × V) := ns.map fun p => (ptK p, V.bl true)
theorem nmK_keys (ns : List Pt) : (nmK ns).map (·.1) = ns.map ptK := by
  unfold nmK
  rw [List.map_map]
  rfl
theorem nmK_put (ns : List Pt) (p : Pt) : putK (nmK ns) (ptK p) (.bl true) = nmK (insP ns p) := by
  by_cases m : p ∈ ns
  · have hany : ((nmK ns).any fun kv => decide (kv.1 = ptK p)) = true := List.any_eq_true.mpr ⟨(ptK p, V.bl true), List.mem_map.mpr ⟨p, m, rfl⟩, decide_eq_true rfl⟩
    unfold putK insP
    rw [if_pos hany, if_pos m]
    unfold nmK
    rw [List.map_map]
    apply List.map_congr_left
    intro q _
    show (if ptK q = ptK p then (ptK q, V.bl true) else (ptK q, V.bl true)) = _
    split <;> rfl
  · rw [putK_new (by
      rw [nmK_keys]
      intro h
      obtain ⟨q, hq, e⟩ := List.mem_map.mp h
      exact m (ptK_inj e ▸ hq))]
    unfold insP
    rw [if_neg m]
    unfold nmK
    rw [List.map_append]
    rfl
/-- there is a ring below 0, or there is none -/
def RingOr (n : Nat) (arcs : List Ar) (res : Bool) : Prop := (res = false → ∃ D, ClD D n arcs) ∧ (res = true → ∃ sub e s y w, Wk sub e s y ∧ y + w < 0 ∧ (⟨s, e, w⟩ : Ar) ∈ arcs ∧ sub ⊆ arcs)
def runB : TbM → List Bd → TbM
  | T, [] => T
  | T, b :: r => if (putM T (T.pts.idxOf b.one) (T.pts.idxOf b.two) b.amount).ok = true then runB (putM T (T.pts.idxOf b.one) (T.pts.idxOf b.two) b.amount) r else putM T (T.pts.idxOf b.one) (T.pts.idxOf b.two) b.amount
theorem runB_cons (T : TbM) (b : Bd) (r : List Bd) : runB T (b :: r) = if (putM T (T.pts.idxOf b.one) (T.pts.idxOf b.two) b.amount).ok = true then runB (putM T (T.pts.idxOf b.one) (T.pts.idxOf b.two) b.amount) r else putM T (T.pts.idxOf b.one) (T.pts.idxOf b.two) b.amount := rfl
theorem addAll_pts : ∀ (ns : List Pt) (T : TbM), (ns.foldl addM T).pts = T.pts ++ ns
  | [], T => by rw [List.append_nil]; rfl
  | p :: r, T => by
    show (r.foldl addM (addM T p)).pts = _
    rw [addAll_pts r]
    show (T.pts ++ [p]) ++ r = _
    rw [List.append_assoc]
    rfl
theorem addAll_ok : ∀ (ns : List Pt) (T : TbM), (ns.foldl addM T).ok = T.ok
  | [], _ => rfl
  | p :: r, T => addAll_ok r (addM T p)
theorem insB_mem {ns : List Pt} {b : Bd} {q : Pt} : q ∈ insB ns b ↔ q ∈ ns ∨ q = b.one ∨ q = b.two := by
  unfold insB
  rw [insP_mem, insP_mem]
  constructor
  · rintro ((h | h) | h)
    · exact .inl h
    · exact .inr (.inl h)
    · exact .inr (.inr h)
  · rintro (h | h | h)
    · exact .inl (.inl h)
    · exact .inl (.inr h)
    · exact .inr h
theorem foldP_nd : ∀ (ps : List Pt) (ns : List Pt), ns.Nodup → (ps.foldl insP ns).Nodup
  | [], _, h => h
  | p :: r, ns, h => foldP_nd r _ (insP_nd h p)
theorem foldB_nd : ∀ (bs : List Bd) (ns : List Pt), ns.Nodup → (bs.foldl insB ns).Nodup
  | [], _, h => h
  | b :: r, ns, h => foldB_nd r _ (insP_nd (insP_nd h b.one) b.two)
theorem names_nd (ps : List Pt) (bs : List Bd) : (namesM ps bs).Nodup := foldB_nd bs _ (foldP_nd ps _ List.nodup_nil)
theorem foldB_old : ∀ (bs : List Bd) (ns : List Pt) {q : Pt}, q ∈ ns → q ∈ bs.foldl insB ns
  | [], _, _, h => h
  | b :: r, ns, _, h => foldB_old r _ (insB_mem.mpr (.inl h))
theorem foldB_mem : ∀ (bs : List Bd) (ns : List Pt) {b : Bd}, b ∈ bs → b.one ∈ bs.foldl insB ns ∧ b.two ∈ bs.foldl insB ns
  | c :: r, ns, b, h => by
    rcases List.mem_cons.mp h with e | m
    · rw [e]
      exact ⟨foldB_old r _ (insB_mem.mpr (.inr (.inl rfl))), foldB_old r _ (insB_mem.mpr (.inr (.inr rfl)))⟩
    · exact foldB_mem r _ m
theorem foldP_len : ∀ (ps : List Pt) (ns : List Pt), (ps.foldl insP ns).length ≤ ns.length + ps.length
  | [], _ => Nat.le_refl _
  | p :: r, ns => by
    have := foldP_len r (insP ns p)
    have := insP_len ns p
    show (r.foldl insP (insP ns p)).length ≤ _
    rw [List.length_cons]
    omega
theorem foldB_len : ∀ (bs : List Bd) (ns : List Pt), (bs.foldl insB ns).length ≤ ns.length + 2 * bs.length
  | [], _ => Nat.le_refl _
  | b :: r, ns => by
    have := foldB_len r (insB ns b)
    have h1 := insP_len ns b.one
    have h2 := insP_len (insP ns b.one) b.two
    show (r.foldl insB (insB ns b)).length ≤ _
    unfold insB at *
    rw [List.length_cons]
    omega
theorem names_len (ps : List Pt) (bs : List Bd) : (namesM ps bs).length ≤ ps.length + 2 * bs.length := by
  have h1 := foldB_len bs (ps.foldl insP [])
  have h2 := foldP_len ps []
  rw [List.length_nil] at h2
  unfold namesM
  omega
def arcM (ns : List Pt) (b : Bd) : Ar := ⟨ns.idxOf b.one, ns.idxOf b.two, b.amount⟩
theorem run_ring (ns : List Pt) : ∀ (bds : List Bd) (T : TbM) (arcs : List Ar), T.pts = ns → TbGd T → T.ok = true → ClD (cellM T.d) ns.length arcs → (∀ b ∈ bds, b.one ∈ ns ∧ b.two ∈ ns) →
    ∃ (c : Nat) (T' : TbM), c ≤ bds.length ∧ T'.pts = ns ∧ TbGd T' ∧ (runB T bds).pts = ns ∧ (runB T bds).d = T'.d ∧ (runB T bds).ok = decide (c = bds.length) ∧ ClD (cellM T'.d) ns.length (arcs ++ (bds.take c).map (arcM ns)) ∧ (∀ k, k < c → RingOr ns.length (arcs ++ (bds.take (k + 1)).map (arcM ns)) false) ∧ (c < bds.length → RingOr ns.length (arcs ++ (bds.take (c + 1)).map (arcM ns)) true)
  | [], T, arcs, ep, g, ok, cl, _ => ⟨0, T, Nat.le_refl _, ep, g, ep, rfl, ok, by rw [List.take_nil, List.map_nil, List.append_nil]; exact cl, fun k h => absurd h (Nat.not_lt_zero k), fun h => absurd h (Nat.lt_irrefl _)⟩
  | b :: r, T, arcs, ep, g, ok, cl, mem => by
    obtain ⟨m1, m2⟩ := mem b List.mem_cons_self
    have h1 : T.pts.idxOf b.one < T.pts.length := idx_lt (by rw [ep]; exact m1)
    have h2 : T.pts.idxOf b.two < T.pts.length := idx_lt (by rw [ep]; exact m2)
    by_cases nn : negB (cellM T.d (T.pts.idxOf b.two) (T.pts.idxOf b.one)) b.amount = true
    · have dT : putM T (T.pts.idxOf b.one) (T.pts.idxOf b.two) b.amount = ⟨T.pts, T.d, false⟩ := by unfold putM; rw [if_pos nn]
      have run : runB T (b :: r) = ⟨T.pts, T.d, false⟩ := by
        rw [runB_cons, dT]
        exact if_neg (fun h => by cases h)
      refine ⟨0, T, Nat.zero_le _, ep, g, by rw [run]; exact ep, by rw [run], by rw [run]; exact (decide_eq_false (by rw [List.length_cons]; omega)).symm, by rw [List.take_zero, List.map_nil, List.append_nil]; exact cl, fun k h => absurd h (Nat.not_lt_zero k), fun _ => ⟨(fun h => by cases h), fun _ => ?_⟩⟩
      cases hd : cellM T.d (T.pts.idxOf b.two) (T.pts.idxOf b.one) with
      | none => rw [hd] at nn; cases nn
      | some y =>
        rw [hd] at nn
        have lt : y + b.amount < 0 := of_decide_eq_true nn
        refine ⟨arcs, _, _, y, b.amount, cl.at' _ _ (by rw [← ep]; exact h2) (by rw [← ep]; exact h1) y hd, lt, ?_, fun z hz => List.mem_append_left _ hz⟩
        rw [ep]
        exact List.mem_append_right _ (List.mem_singleton.mpr rfl)
    · obtain ⟨g2, ok2, _, _⟩ := put_cell g h1 h2 nn
      have pT := putM_pts T (T.pts.idxOf b.one) (T.pts.idxOf b.two) b.amount
      have cl1 : ClD (cellM T.d) T.pts.length arcs := by rw [ep]; exact cl
      have cl2 := ClD.put g cl1 h1 h2 nn
      have okT := ok2.trans ok
      have run : runB T (b :: r) = runB (putM T (T.pts.idxOf b.one) (T.pts.idxOf b.two) b.amount) r := by rw [runB_cons, if_pos okT]
      have ea : (⟨T.pts.idxOf b.one, T.pts.idxOf b.two, b.amount⟩ : Ar) = arcM ns b := by rw [ep]; rfl
      rw [ea, ep] at cl2
      rw [ep] at run okT g2 pT
      obtain ⟨c, T', a1, a2, a3, a4, a5, a6, a7, a8, a9⟩ := run_ring ns r _ (arcs ++ [arcM ns b]) pT g2 okT cl2 (fun z hz => mem z (List.mem_cons_of_mem _ hz))
      have sh : ∀ k, arcs ++ ((b :: r).take (k + 1)).map (arcM ns) = arcs ++ [arcM ns b] ++ (r.take k).map (arcM ns) := fun k => by
        rw [List.take_succ_cons, List.map_cons, List.append_assoc]
        rfl
      refine ⟨c + 1, T', by rw [List.length_cons]; omega, a2, a3, by rw [run]; exact a4, by rw [run]; exact a5, ?_, by rw [sh]; exact a7, fun k hk => ?_, fun h => ?_⟩
      · rw [run, a6, List.length_cons]
        exact decide_eq_decide.mpr ⟨fun h => by omega, fun h => by omega⟩
      · rw [sh]
        cases k with
        | zero =>
          rw [List.take_zero, List.map_nil, List.append_nil]
          exact ⟨fun _ => ⟨_, cl2⟩, fun h => by cases h⟩
        | succ k => exact a8 k (by omega)
      · rw [sh]
        exact a9 (by rw [List.length_cons] at h; omega)
theorem lt_idx {p q : Pt} : ∀ (ns : List Pt) (m : Nat), m < ns.idxOf p → ns[m]? = some q → q ≠ p
  | [], m, h, e => by cases e
  | a :: r, m, h, e => by
    rw [List.idxOf_cons] at h
    by_cases c : a = p
    · rw [c, beq_self_eq_true, cond_true] at h
      exact absurd h (Nat.not_lt_zero _)
    · rw [beq_false_of_ne c, cond_false] at h
      cases m with
      | zero =>
        have e : a = q := Option.some.inj e
        rw [← e]
        exact c
      | succ m => exact lt_idx r m (by omega) e
theorem idx_first {ns : List Pt} {p : Pt} : ∀ m z, m < ns.idxOf p → (ns.map ptP)[m]? = some z → PyData.eqv z (ptP p) = false := by
  intro m z hm hz
  rw [List.getElem?_map] at hz
  cases e : ns[m]? with
  | none => rw [e] at hz; cases hz
  | some q =>
    rw [e] at hz
    cases hz
    rw [pt_eqv]
    exact decide_eq_false (lt_idx ns m hm e)
theorem pe_bmK {X : Cx} {o e : Expr} {es : List Expr} {to : TE} {t : TA} {name : Str} {apos cpos : Pos} {T id : String} {r : V → List V → Hp → VK → Prop} (K : PySem.W.Frag) (hK : X.K = K) (h1 : PlainAttrs T) (h2 : Slot T name id) (h3 : typeOf (Value.builtin id) = pure (Value.type "method_descriptor")) (h4 : MtR X id r) (h5 : PE X o to) (h6 : PA X (e :: es) t)
    (a1 : attributeBase o name X.env (eval o X.env) = eval o X.env := by rfl)
    (a2 : ((((backTo cpos (starEach (e :: es) X.env)).all fun x => !x.fst) && (backToKw cpos (keywordEach [] X.env)).all fun x => x.fst.isSome) && decide (((e :: es).length + ([] : List Expr).length + if ([] : List Expr).isEmpty = true then 0 else 1) < 30)) = true := by rfl)
    (a3 : (apos.endLine == cpos.line) = true := by rfl)
    (a4 : starEach (e :: es) X.env = (false, eval e X.env) :: starEach es X.env := by rfl)
    (a5 : ((backTo cpos (starEach es X.env)).any fun x => x.fst) = false := by rfl) : PE X ((o.Attribute name apos).Call (e :: es) [] cpos) (tBM K T r to t) := by
  subst hK
  exact pe_bm h1 h2 h3 h4 h5 h6 a1 a2 a3 a4 a5
theorem addAll_gd : ∀ (qs : List Pt) (T : TbM), (T.pts ++ qs).Nodup → T.pts.length + qs.length ≤ 40 → TbGd T → (∀ i j c, i < T.pts.length → j < T.pts.length → cellM T.d i j = some c → c = 0 ∧ i = j) → TbGd (qs.foldl addM T) ∧ ∀ i j c, i < (qs.foldl addM T).pts.length → j < (qs.foldl addM T).pts.length → cellM (qs.foldl addM T).d i j = some c → c = 0 ∧ i = j
  | [], T, _, _, g, z => ⟨g, z⟩
  | q :: qs, T, nd, few, g, z => by
    rw [List.length_cons] at few
    have np : q ∉ T.pts := fun m => (List.nodup_append.mp nd).2.2 q m q List.mem_cons_self rfl
    have len : (addM T q).pts.length = T.pts.length + 1 := by show (T.pts ++ [q]).length = _; rw [List.length_append, List.length_singleton]
    have ep : (addM T q).pts ++ qs = T.pts ++ q :: qs := by show (T.pts ++ [q]) ++ qs = _; rw [List.append_assoc]; rfl
    exact addAll_gd qs (addM T q) (by rw [ep]; exact nd) (by rw [len]; omega) (g.add np (by omega)) (fun i j c hi hj hc => by
      rw [len] at hi hj
      rw [addM_cell g.ok hi hj] at hc
      split at hc
      · split at hc
        · exact z _ _ _ (by assumption) (by assumption) hc
        · cases hc
      · split at hc
        · cases hc
        · cases hc
          exact ⟨rfl, by omega⟩)
def leftB (bs : List Bd) (ch : List Int) : List Bd := bs.filter fun b => !ch.contains b.part
theorem left_step {bs : List Bd} {ch : List Int} {i : Nat} {b : Bd} (hb : bs[i]? = some b) : leftB (bs.take (i + 1)) ch = leftB (bs.take i) ch ++ (if ch.contains b.part = true then [] else [b]) := by
  unfold leftB
  rw [List.take_add_one, hb, List.filter_append]
  congr 1
  show List.filter _ [b] = _
  rw [List.filter_cons]
  cases ch.contains b.part <;> rfl
theorem left_mem {bs : List Bd} {ch : List Int} {b : Bd} (h : b ∈ leftB bs ch) : b ∈ bs := (List.mem_filter.mp h).1
theorem left_len (bs : List Bd) (ch : List Int) : (leftB bs ch).length ≤ bs.length := List.length_filter_le _ _
theorem foldP_in {q : Pt} : ∀ (ps ns : List Pt), q ∈ ps.foldl insP ns → q ∈ ns ∨ q ∈ ps
  | [], ns, h => .inl h
  | p :: r, ns, h => by
    rcases foldP_in r (insP ns p) h with m | m
    · rcases insP_mem.mp m with m | m
      · exact .inl m
      · exact .inr (by rw [m]; exact List.mem_cons_self)
    · exact .inr (List.mem_cons_of_mem _ m)
theorem foldB_in {q : Pt} : ∀ (bs : List Bd) (ns : List Pt), q ∈ bs.foldl insB ns → q ∈ ns ∨ ∃ b ∈ bs, q = b.one ∨ q = b.two
  | [], ns, h => .inl h
  | b :: r, ns, h => by
    rcases foldB_in r (insB ns b) h with m | ⟨c, m, e⟩
    · rcases insB_mem.mp m with m | m
      · exact .inl m
      · exact .inr ⟨b, List.mem_cons_self, m⟩
    · exact .inr ⟨c, List.mem_cons_of_mem _ m, e⟩
theorem names_in {ps : List Pt} {bs : List Bd} {q : Pt} (h : q ∈ namesM ps bs) : q ∈ ps ∨ ∃ b ∈ bs, q = b.one ∨ q = b.two := by
  rcases foldB_in bs _ h with m | m
  · rcases foldP_in ps [] m with m | m
    · cases m
    · exact .inl m
  · exact .inr m
theorem foldP_all : ∀ (ps ns : List Pt), ∀ q, q ∈ ns ∨ q ∈ ps → q ∈ ps.foldl insP ns
  | [], ns, q, h => by
    rcases h with m | m
    · exact m
    · cases m
  | p :: r, ns, q, h => foldP_all r (insP ns p) q (by
    rcases h with m | m
    · exact .inl (insP_mem.mpr (.inl m))
    · rcases List.mem_cons.mp m with e | m
      · exact .inl (insP_mem.mpr (.inr e))
      · exact .inr m)
theorem names_has {ps : List Pt} {bs : List Bd} {q : Pt} (h : q ∈ ps) : q ∈ namesM ps bs := foldB_old bs _ (foldP_all ps [] q (.inr h))
/-! ### chains by other numbers of the points -/
theorem Wk.map {arcs brcs : List Ar} {f : Nat → Nat} (h : ∀ z ∈ arcs, (⟨f z.u, f z.v, z.w⟩ : Ar) ∈ brcs) {i j : Nat} {a : Int} (g : Wk arcs i j a) : Wk brcs (f i) (f j) a := by
  induction g with
  | nil => exact .nil _
  | snoc _ m e ih => exact Wk.snoc ih (h _ m) (congrArg f e)
def upIx (ns big : List Pt) (k : Nat) : Nat := match ns[k]? with
  | some p => big.idxOf p
  | none => 0
theorem upIx_of {ns big : List Pt} {p : Pt} (m : p ∈ ns) : upIx ns big (ns.idxOf p) = big.idxOf p := by
  unfold upIx
  rw [idx_get m]
theorem up_arc {ns big : List Pt} {b : Bd} (m1 : b.one ∈ ns) (m2 : b.two ∈ ns) : (⟨upIx ns big (arcM ns b).u, upIx ns big (arcM ns b).v, (arcM ns b).w⟩ : Ar) = arcM big b := by
  show (⟨upIx ns big (ns.idxOf b.one), upIx ns big (ns.idxOf b.two), b.amount⟩ : Ar) = _
  rw [upIx_of m1, upIx_of m2]
  rfl
theorem up_arcs {ns big : List Pt} {bds : List Bd} (mem : ∀ b ∈ bds, b.one ∈ ns ∧ b.two ∈ ns) : ∀ z ∈ bds.map (arcM ns), (⟨upIx ns big z.u, upIx ns big z.v, z.w⟩ : Ar) ∈ bds.map (arcM big) := fun z hz => by
  obtain ⟨b, hb, rfl⟩ := List.mem_map.mp hz
  rw [up_arc (mem b hb).1 (mem b hb).2]
  exact List.mem_map.mpr ⟨b, hb, rfl⟩
def upD (ns big : List Pt) (D : Nat → Nat → Option Int) (i j : Nat) : Option Int := match big[i]?, big[j]? with
  | some p, some q => if p ∈ ns ∧ q ∈ ns then D (ns.idxOf p) (ns.idxOf q) else if i = j then some 0 else none
  | _, _ => none
theorem upD_at {ns big : List Pt} {D : Nat → Nat → Option Int} {i j : Nat} {p q : Pt} (hp : big[i]? = some p) (hq : big[j]? = some q) : upD ns big D i j = if p ∈ ns ∧ q ∈ ns then D (ns.idxOf p) (ns.idxOf q) else if i = j then some 0 else none := by
  unfold upD
  rw [hp, hq]
theorem up_cl {ns big : List Pt} {D : Nat → Nat → Option Int} {bds : List Bd} (nd : big.Nodup) (mem : ∀ b ∈ bds, b.one ∈ ns ∧ b.two ∈ ns) (sub : ∀ p ∈ ns, p ∈ big) (c : ClD D ns.length (bds.map (arcM ns))) : ClD (upD ns big D) big.length (bds.map (arcM big)) := by
  have at_ : ∀ {i}, i < big.length → ∃ p, big[i]? = some p ∧ big.idxOf p = i := fun {i} hi => by
    have e : big[i]? = some big[i] := List.getElem?_eq_getElem hi
    exact ⟨_, e, nd_ix nd (idx_get (List.getElem_mem hi)) e⟩
  refine ⟨fun i hi => ?_, fun i j k hi hj hk a b h1 h2 => ?_, fun z hz => ?_, fun i j hi hj x hx => ?_⟩
  · obtain ⟨p, hp, _⟩ := at_ hi
    rw [upD_at hp hp]
    by_cases m : p ∈ ns
    · rw [if_pos ⟨m, m⟩]
      exact c.dg _ (idx_lt m)
    · rw [if_neg (fun z => m z.1), if_pos rfl]
  · obtain ⟨p, hp, _⟩ := at_ hi
    obtain ⟨q, hq, _⟩ := at_ hj
    obtain ⟨r, hr, _⟩ := at_ hk
    rw [upD_at hp hq] at h1
    by_cases m1 : p ∈ ns ∧ q ∈ ns
    · rw [if_pos m1] at h1
      rw [upD_at hq hr] at h2
      by_cases m2 : q ∈ ns ∧ r ∈ ns
      · rw [if_pos m2] at h2
        rw [upD_at hp hr, if_pos ⟨m1.1, m2.2⟩]
        exact c.tr _ _ _ (idx_lt m1.1) (idx_lt m1.2) (idx_lt m2.2) a b h1 h2
      · rw [if_neg m2] at h2
        by_cases e : j = k
        · rw [if_pos e] at h2
          cases h2
          subst e
          rw [upD_at hp hq, if_pos m1]
          exact ⟨a, h1, by omega⟩
        · rw [if_neg e] at h2
          cases h2
    · rw [if_neg m1] at h1
      by_cases e : i = j
      · rw [if_pos e] at h1
        cases h1
        subst e
        exact ⟨b, h2, by omega⟩
      · rw [if_neg e] at h1
        cases h1
  · obtain ⟨b, hb, rfl⟩ := List.mem_map.mp hz
    obtain ⟨m1, m2⟩ := mem b hb
    obtain ⟨_, _, g⟩ := c.ar (arcM ns b) (List.mem_map.mpr ⟨b, hb, rfl⟩)
    refine ⟨idx_lt (sub _ m1), idx_lt (sub _ m2), ?_⟩
    show DLe (upD ns big D (big.idxOf b.one) (big.idxOf b.two)) b.amount
    rw [upD_at (idx_get (sub _ m1)) (idx_get (sub _ m2)), if_pos ⟨m1, m2⟩]
    exact g
  · obtain ⟨p, hp, ip⟩ := at_ hi
    obtain ⟨q, hq, iq⟩ := at_ hj
    rw [upD_at hp hq] at hx
    by_cases m : p ∈ ns ∧ q ∈ ns
    · rw [if_pos m] at hx
      have w := Wk.map (up_arcs (big := big) mem) (c.at' _ _ (idx_lt m.1) (idx_lt m.2) x hx)
      rw [upIx_of m.1, upIx_of m.2, ip, iq] at w
      exact w
    · rw [if_neg m] at hx
      by_cases e : i = j
      · rw [if_pos e] at hx
        cases hx
        subst e
        exact .nil _
      · rw [if_neg e] at hx
        cases hx
theorem gd_of {T T' : TbM} (g : TbGd T') (hp : T.pts = T'.pts) (hd : T.d = T'.d) : TbGd T := by
  obtain ⟨⟨nd, few, dl, rl⟩, dg, tr⟩ := g
  exact ⟨⟨by rw [hp]; exact nd, by rw [hp]; exact few, by rw [hp, hd]; exact dl, by rw [hp, hd]; exact rl⟩, by rw [hp, hd]; exact dg, by rw [hp, hd]; exact tr⟩
/-- the table of some bounds over some points -/
def tabM (bds : List Bd) (ps : List Pt) : TbM := runB ((namesM ps bds).foldl addM ⟨[], [], true⟩) bds
theorem tab_ringN {big : List Pt} (nd : big.Nodup) {bds : List Bd} {ps : List Pt} (hm : ∀ b ∈ bds, b.one ∈ big ∧ b.two ∈ big) (hp : ∀ p ∈ ps, p ∈ big) (nlen : (namesM ps bds).length ≤ 40) :
    (tabM bds ps).pts = namesM ps bds ∧ ∃ res : Bool, (tabM bds ps).ok = !res ∧ RingOr big.length (bds.map (arcM big)) res ∧ (res = false → TbGd (tabM bds ps) ∧ ∃ D, ClD D big.length (bds.map (arcM big)) ∧ ∀ p q, p ∈ namesM ps bds → q ∈ namesM ps bds → D (big.idxOf p) (big.idxOf q) = distM (tabM bds ps) p q) := by
  have nnd := names_nd ps bds
  have bmem : ∀ z ∈ bds, z.one ∈ namesM ps bds ∧ z.two ∈ namesM ps bds := fun z m => foldB_mem bds (ps.foldl insP []) m
  have sub : ∀ p ∈ namesM ps bds, p ∈ big := fun p m => by
    rcases names_in m with h | ⟨b, hb, h | h⟩
    · exact hp p h
    · rw [h]; exact (hm b hb).1
    · rw [h]; exact (hm b hb).2
  unfold tabM
  generalize namesM ps bds = ns at *
  obtain ⟨g0', z0⟩ := addAll_gd ns ⟨[], [], true⟩ nnd (by show 0 + ns.length ≤ 40; omega) TbGd.nil (fun i j c h => absurd h (Nat.not_lt_zero i))
  have p0 : (ns.foldl addM ⟨[], [], true⟩).pts = ns := addAll_pts ns ⟨[], [], true⟩
  have o0 : (ns.foldl addM ⟨[], [], true⟩).ok = true := addAll_ok ns ⟨[], [], true⟩
  generalize ns.foldl addM ⟨[], [], true⟩ = T0 at *
  rw [p0] at z0
  have c0 : ClD (cellM T0.d) ns.length [] := ⟨by rw [← p0]; exact g0'.dg, by rw [← p0]; exact g0'.tr, fun z hz => (by cases hz), fun i j hi hj c hc => by
    obtain ⟨e1, e2⟩ := z0 i j c hi hj hc
    subst e1
    subst e2
    exact .nil _⟩
  obtain ⟨cn, T', cle, pT', gT', pR, dR, okR, clR, noR, yesR⟩ := run_ring ns bds T0 [] p0 g0' o0 c0 bmem
  simp only [List.nil_append] at clR noR yesR
  refine ⟨pR, ?_⟩
  by_cases e : cn = bds.length
  · rw [e, List.take_length] at clR
    rw [decide_eq_true e] at okR
    have cU := up_cl nd bmem sub clR
    refine ⟨false, okR, ⟨fun _ => ⟨_, cU⟩, fun h => by cases h⟩, fun _ => ⟨gd_of gT' (pR.trans pT'.symm) dR, _, cU, fun p q mp mq => ?_⟩⟩
    · rw [upD_at (idx_get (sub _ mp)) (idx_get (sub _ mq)), if_pos ⟨mp, mq⟩]
      unfold distM
      rw [pR, dR]
  · rw [decide_eq_false e] at okR
    obtain ⟨_, yes⟩ := yesR (by omega)
    obtain ⟨sb, ee, s, y, w, h1, h2, h3, h4⟩ := yes rfl
    have inn : ∀ z ∈ (bds.take (cn + 1)).map (arcM ns), (⟨upIx ns big z.u, upIx ns big z.v, z.w⟩ : Ar) ∈ bds.map (arcM big) := fun z hz => by
      obtain ⟨b, hb, rfl⟩ := List.mem_map.mp hz
      have hb2 := List.mem_of_mem_take hb
      rw [up_arc (bmem b hb2).1 (bmem b hb2).2]
      exact List.mem_map.mpr ⟨b, hb2, rfl⟩
    refine ⟨true, okR, ⟨(fun h => by cases h), fun _ => ⟨bds.map (arcM big), upIx ns big ee, upIx ns big s, y, w, Wk.map (fun z hz => inn z (h4 hz)) h1, h2, inn _ h3, fun _ h => h⟩⟩, fun h => by cases h⟩
theorem tab_ring {big : List Pt} (nd : big.Nodup) {bds : List Bd} {ps : List Pt} (hm : ∀ b ∈ bds, b.one ∈ big ∧ b.two ∈ big) (hp : ∀ p ∈ ps, p ∈ big) (few : ps.length + 2 * bds.length ≤ 40) :
    (tabM bds ps).pts = namesM ps bds ∧ ∃ res : Bool, (tabM bds ps).ok = !res ∧ RingOr big.length (bds.map (arcM big)) res ∧ (res = false → TbGd (tabM bds ps) ∧ ∃ D, ClD D big.length (bds.map (arcM big)) ∧ ∀ p q, p ∈ namesM ps bds → q ∈ namesM ps bds → D (big.idxOf p) (big.idxOf q) = distM (tabM bds ps) p q) := tab_ringN nd hm hp (Nat.le_trans (names_len ps bds) few)

/-- the tables that choices leave -/
def leftT (bds : List Bd) (ps : List Pt) (ch : List Int) : Option TbM := if (tabM (leftB bds ch) ps).ok = true then some (keepM (tabM (leftB bds ch) ps) ps) else none
def tabsM (bds : List Bd) (chs : List (List Int)) (ps : List Pt) : List TbM := chs.filterMap (leftT bds ps)
theorem tabs_step {bds : List Bd} {chs : List (List Int)} {ps : List Pt} {i : Nat} {ch : List Int} (h : chs[i]? = some ch) : tabsM bds (chs.take (i + 1)) ps = tabsM bds (chs.take i) ps ++ (leftT bds ps ch).toList := by
  unfold tabsM
  rw [List.take_add_one, h, List.filterMap_append]
  have e : List.filterMap (leftT bds ps) [ch] = (leftT bds ps ch).toList := by
    cases e : leftT bds ps ch with
    | none => simp [e]
    | some T => simp [e]
  exact congrArg _ e
/-- choices: tuples of numbers -/
structure ChL (H : Hp) (l : Addr) (es : List Addr) (chs : List (List Int)) : Prop where
  l : H l = some (.lst (es.map V.ref))
  e : Each (fun e ch => H e = some (.tup (ch.map V.int))) es chs
theorem ChL.keep {H H' : Hp} {l : Addr} {es : List Addr} {chs : List (List Int)} (s : Same H H') (h : ChL H l es chs) : ChL H' l es chs := ⟨s _ _ h.l, h.e.keep fun _ _ z => s _ _ z⟩
/-- pairs of a choice and a table -/
structure PrL (P : Program) (wd : World) (K : PySem.W.Frag) (CT : Addr) (H : Hp) (l : Addr) (es : List Addr) (Ts : List TbM) : Prop where
  l : H l = some (.lst (es.map V.ref))
  e : Each (fun e T => ∃ c t pl rw rs, H e = some (.tup [.ref c, .ref t]) ∧ TbAt P wd K CT H t T pl rw rs) es Ts
theorem PrL.keep {P : Program} {wd : World} {K : PySem.W.Frag} {CT : Addr} {H H' : Hp} {l : Addr} {es : List Addr} {Ts : List TbM} (s : Same H H') (h : PrL P wd K CT H l es Ts) : PrL P wd K CT H' l es Ts :=
  ⟨s _ _ h.l, h.e.keep fun _ _ ⟨c, t, pl, rw, rs, a, b⟩ => ⟨c, t, pl, rw, rs, s _ _ a, b.keep s⟩⟩
/-- the stretch of two points by a table -/
def stM (T : TbM) (p q : Pt) : Stc := ⟨(distM T q p).map fun b => -b, distM T p q⟩
def toldM (bds : List Bd) (chs : List (List Int)) (p q : Pt) : List Stc := (tabsM bds chs [p, q]).map fun T => stM T p q
theorem runB_pts : ∀ (bds : List Bd) (T : TbM), (runB T bds).pts = T.pts
  | [], T => rfl
  | b :: r, T => by
    rw [runB_cons]
    split
    · rw [runB_pts r, putM_pts]
    · exact putM_pts _ _ _ _
theorem tabM_pts (bds : List Bd) (ps : List Pt) : (tabM bds ps).pts = namesM ps bds := by
  unfold tabM
  rw [runB_pts]
  exact addAll_pts _ ⟨[], [], true⟩
theorem kept_has {bds : List Bd} {ps : List Pt} {r : Pt} (h : r ∈ ps) : r ∈ keptM (tabM bds ps) ps := List.mem_filter.mpr ⟨by rw [tabM_pts]; exact names_has h, decide_eq_true h⟩
theorem tabs_has {bds : List Bd} {chs : List (List Int)} {ps : List Pt} {T : TbM} (h : T ∈ tabsM bds chs ps) : ∀ r ∈ ps, r ∈ T.pts := fun r hr => by
  obtain ⟨ch, _, e⟩ := List.mem_filterMap.mp h
  unfold leftT at e
  split at e
  · cases e
    exact kept_has hr
  · cases e
theorem StcL.bput {H H' : Hp} {l : Addr} {bs : List Addr} {ss : List Stc} (h : StcL H l bs ss) (e : Same H H') : StcL H' l bs ss := h.keep e
/-! ### one more number between two points -/
theorem ClD.wk {D : Nat → Nat → Option Int} {n : Nat} {arcs : List Ar} (c : ClD D n arcs) {i j : Nat} {a : Int} (h : Wk arcs i j a) (hi : i < n) : j < n ∧ DLe (D i j) a := by
  induction h with
  | nil => exact ⟨hi, 0, c.dg _ hi, Int.le_refl _⟩
  | snoc _ m e ih =>
    obtain ⟨hj, x, hx, lx⟩ := ih
    obtain ⟨h1, h2, y, hy, ly⟩ := c.ar _ m
    subst e
    obtain ⟨z, hz, lz⟩ := c.tr _ _ _ hi h1 h2 x y hx hy
    exact ⟨h2, z, hz, by omega⟩
theorem no_ring {D : Nat → Nat → Option Int} {n : Nat} {arcs : List Ar} (c : ClD D n arcs) {sub : List Ar} {e s : Nat} {y w : Int} (h : Wk sub e s y) (lt : y + w < 0) (m : (⟨s, e, w⟩ : Ar) ∈ arcs) (sb : sub ⊆ arcs) : False := by
  obtain ⟨h1, h2, x, hx, lx⟩ := c.ar _ m
  obtain ⟨_, z, hz, lz⟩ := c.wk (h.mono sb) h2
  obtain ⟨v, hv, lv⟩ := c.tr _ _ _ h2 h1 h2 z x hz hx
  rw [c.dg _ h2] at hv
  cases hv
  have : x ≤ w := lx
  omega
theorem ring_no {D : Nat → Nat → Option Int} {n : Nat} {arcs : List Ar} {res : Bool} (c : ClD D n arcs) (r : RingOr n arcs res) : res = false := by
  cases res with
  | false => rfl
  | true =>
    obtain ⟨sub, e, s, y, w, h1, h2, h3, h4⟩ := r.2 rfl
    exact (no_ring c h1 h2 h3 h4).elim
theorem ClD.uniq {D D' : Nat → Nat → Option Int} {n : Nat} {arcs : List Ar} (c : ClD D n arcs) (c' : ClD D' n arcs) {i j : Nat} (hi : i < n) (hj : j < n) : D i j = D' i j := by
  cases h : D i j with
  | none =>
    cases h' : D' i j with
    | none => rfl
    | some x =>
      obtain ⟨_, y, hy, _⟩ := c.wk (c'.at' i j hi hj x h') hi
      rw [h] at hy
      cases hy
  | some x =>
    obtain ⟨_, y, hy, ly⟩ := c'.wk (c.at' i j hi hj x h) hi
    obtain ⟨_, z, hz, lz⟩ := c.wk (c'.at' i j hi hj y hy) hi
    rw [h] at hz
    cases hz
    rw [hy]
    congr 1
    omega
theorem names_few {ptsL : List Pt} {bds : List Bd} {ps : List Pt} (hm : ∀ b ∈ bds, b.one ∈ ptsL ∧ b.two ∈ ptsL) (hp : ∀ p ∈ ps, p ∈ ptsL) : (namesM ps bds).length ≤ ptsL.length := (names_nd ps bds).length_le_of_subset fun q m => by
  rcases names_in m with h | ⟨b, hb, h | h⟩
  · exact hp q h
  · rw [h]; exact (hm b hb).1
  · rw [h]; exact (hm b hb).2
/-- fewer bounds name no more -/
theorem names_sub {bds bds' : List Bd} {ps ps' : List Pt} (hb : ∀ b ∈ bds', b.one ∈ namesM ps bds ∧ b.two ∈ namesM ps bds) (hp : ∀ p ∈ ps', p ∈ namesM ps bds) : (namesM ps' bds').length ≤ (namesM ps bds).length := names_few hb hp
theorem names_all {bds : List Bd} {ps : List Pt} : ∀ b ∈ bds, b.one ∈ namesM ps bds ∧ b.two ∈ namesM ps bds := fun b hb => foldB_mem bds _ hb
theorem names_left {bds : List Bd} {ps : List Pt} {n : Nat} (h : (namesM ps bds).length ≤ n) (ch : List Int) : (namesM ps (leftB bds ch)).length ≤ n := Nat.le_trans (names_sub (fun b hb => names_all b (left_mem hb)) fun p hp => names_has hp) h
section
variable {ptsL : List Pt} (ndP : ptsL.Nodup) (lP : ptsL.length ≤ 40)
include ndP lP
/-- with two bounds besides that make q later than p by just x -/
def withX (bds : List Bd) (p q : Pt) (x : Int) : List Bd := bds ++ [⟨p, q, x, -1⟩, ⟨q, p, -x, -1⟩]
theorem with_ok {bds : List Bd} {p q : Pt} {x : Int} (mp : p ∈ ptsL) (mq : q ∈ ptsL) (hm : ∀ b ∈ bds, b.one ∈ ptsL ∧ b.two ∈ ptsL) :
    (tabM (withX bds p q x) []).ok = ((tabM bds [p, q]).ok && isIn (stM (tabM bds [p, q]) p q) x) := by
  have ip : ptsL.idxOf p < ptsL.length := idx_lt mp
  have iq : ptsL.idxOf q < ptsL.length := idx_lt mq
  have hw : ∀ b ∈ withX bds p q x, b.one ∈ ptsL ∧ b.two ∈ ptsL := fun b hb => by
    rcases List.mem_append.mp hb with h | h
    · exact hm b h
    · simp only [List.mem_cons, List.not_mem_nil, or_false] at h
      rcases h with h | h
      · rw [h]; exact ⟨mp, mq⟩
      · rw [h]; exact ⟨mq, mp⟩
  have wl : (withX bds p q x).length = bds.length + 2 := by unfold withX; rw [List.length_append]; rfl
  have hpq : ∀ r ∈ [p, q], r ∈ ptsL := fun r hr => by
    simp only [List.mem_cons, List.not_mem_nil, or_false] at hr
    rcases hr with h | h
    · rw [h]; exact mp
    · rw [h]; exact mq
  have hno : ∀ r ∈ ([] : List Pt), r ∈ ptsL := fun r hr => by cases hr
  obtain ⟨_, r1, o1, g1, d1⟩ := tab_ringN (big := ptsL) ndP (ps := [p, q]) hm hpq (Nat.le_trans (names_few hm hpq) lP)
  obtain ⟨_, r2, o2, g2, d2⟩ := tab_ringN (big := ptsL) ndP (ps := []) hw hno (Nat.le_trans (names_few hw hno) lP)
  have np : p ∈ namesM [p, q] bds := names_has (by simp)
  have nq : q ∈ namesM [p, q] bds := names_has (by simp)
  have ea : (withX bds p q x).map (arcM ptsL) = bds.map (arcM ptsL) ++ [⟨ptsL.idxOf p, ptsL.idxOf q, x⟩, ⟨ptsL.idxOf q, ptsL.idxOf p, -x⟩] := by unfold withX; rw [List.map_append]; rfl
  have sub : bds.map (arcM ptsL) ⊆ (withX bds p q x).map (arcM ptsL) := fun z hz => by rw [ea]; exact List.mem_append_left _ hz
  rw [o1, o2]
  cases hr2 : r2 with
  | false =>
    obtain ⟨_, D2, c2, _⟩ := d2 hr2
    have hr1 : r1 = false := by
      cases r1 with
      | false => rfl
      | true =>
        obtain ⟨sb, e, s, y, w, h1, h2, h3, h4⟩ := g1.2 rfl
        exact (no_ring c2 h1 h2 (sub h3) fun z hz => sub (h4 hz)).elim
    obtain ⟨_, D1, c1, e1⟩ := d1 hr1
    obtain ⟨_, _, y1, hy1, l1⟩ := c2.ar ⟨ptsL.idxOf p, ptsL.idxOf q, x⟩ (by rw [ea]; simp)
    obtain ⟨_, _, y2, hy2, l2⟩ := c2.ar ⟨ptsL.idxOf q, ptsL.idxOf p, -x⟩ (by rw [ea]; simp)
    have hin : isIn (stM (tabM bds [p, q]) p q) x = true := by
      rw [isIn_iff]
      refine ⟨fun a ha => ?_, fun b hb => ?_⟩
      · have ha' : (distM (tabM bds [p, q]) q p).map (fun b => -b) = some a := ha
        rw [← e1 q p nq np] at ha'
        cases hd : D1 (ptsL.idxOf q) (ptsL.idxOf p) with
        | none => rw [hd] at ha'; cases ha'
        | some c =>
          rw [hd] at ha'
          cases ha'
          obtain ⟨_, z, hz, lz⟩ := c2.wk ((c1.at' _ _ iq ip c hd).mono sub) iq
          obtain ⟨v, hv, lv⟩ := c2.tr _ _ _ ip iq ip y1 z hy1 hz
          rw [c2.dg _ ip] at hv
          cases hv
          have : y1 ≤ x := l1
          show -c ≤ x
          omega
      · have hb' : distM (tabM bds [p, q]) p q = some b := hb
        rw [← e1 p q np nq] at hb'
        obtain ⟨_, z, hz, lz⟩ := c2.wk ((c1.at' _ _ ip iq b hb').mono sub) ip
        obtain ⟨v, hv, lv⟩ := c2.tr _ _ _ ip iq ip z y2 hz hy2
        rw [c2.dg _ ip] at hv
        cases hv
        have : y2 ≤ -x := l2
        omega
    rw [hr1, hin]
    rfl
  | true =>
    cases hr1 : r1 with
    | true => rfl
    | false =>
      obtain ⟨_, D1, c1, e1⟩ := d1 hr1
      cases hin : isIn (stM (tabM bds [p, q]) p q) x with
      | false => rfl
      | true =>
        exfalso
        obtain ⟨i1, i2⟩ := isIn_iff.mp hin
        -- the table over all seven points
        have nd7 : ptsL.Nodup := ndP
        obtain ⟨g0', z0⟩ := addAll_gd ptsL ⟨[], [], true⟩ nd7 (by show 0 + ptsL.length ≤ 40; omega) TbGd.nil (fun i j c h => absurd h (Nat.not_lt_zero i))
        have p0 : (ptsL.foldl addM ⟨[], [], true⟩).pts = ptsL := addAll_pts ptsL ⟨[], [], true⟩
        have o0 : (ptsL.foldl addM ⟨[], [], true⟩).ok = true := addAll_ok ptsL ⟨[], [], true⟩
        generalize ptsL.foldl addM ⟨[], [], true⟩ = T0 at *
        rw [p0] at z0
        have c0 : ClD (cellM T0.d) ptsL.length [] := ⟨by rw [← p0]; exact g0'.dg, by rw [← p0]; exact g0'.tr, fun z hz => (by cases hz), fun i j hi hj c hc => by
          obtain ⟨e1, e2⟩ := z0 i j c hi hj hc
          subst e1
          subst e2
          exact .nil _⟩
        obtain ⟨cn, T', cle, pT', gT', pR, dR, okR, clR, noR, yesR⟩ := run_ring ptsL bds T0 [] p0 g0' o0 c0 hm
        simp only [List.nil_append] at clR noR yesR
        have ecn : cn = bds.length := by
          by_cases e : cn = bds.length
          · exact e
          · obtain ⟨_, yes⟩ := yesR (by omega)
            obtain ⟨sb, ee, s, y, w, h1, h2, h3, h4⟩ := yes rfl
            have inn : (bds.take (cn + 1)).map (arcM ptsL) ⊆ bds.map (arcM ptsL) := fun z hz => by
              rw [List.map_take] at hz
              exact List.mem_of_mem_take hz
            exact (no_ring c1 h1 h2 (inn h3) fun z hz => inn (h4 hz)).elim
        rw [ecn, List.take_length] at clR
        have l7 : T'.pts.length = ptsL.length := by rw [pT']
        have u1 := ClD.uniq clR c1 (i := ptsL.idxOf q) (j := ptsL.idxOf p) iq ip
        have u2 := ClD.uniq clR c1 (i := ptsL.idxOf p) (j := ptsL.idxOf q) ip iq
        rw [e1 q p nq np] at u1
        rw [e1 p q np nq] at u2
        have hs : ptsL.idxOf p < T'.pts.length := by rw [l7]; exact ip
        have he : ptsL.idxOf q < T'.pts.length := by rw [l7]; exact iq
        have nn1 : ¬ negB (cellM T'.d (ptsL.idxOf q) (ptsL.idxOf p)) x = true := fun h => by
          rw [u1] at h
          cases hd : distM (tabM bds [p, q]) q p with
          | none => rw [hd] at h; cases h
          | some c =>
            rw [hd] at h
            have lt : c + x < 0 := of_decide_eq_true h
            have := i1 (-c) (by show (distM (tabM bds [p, q]) q p).map (fun b => -b) = _; rw [hd]; rfl)
            omega
        have k1 := ClD.put gT' (by rw [pT']; exact clR) hs he nn1
        obtain ⟨g3, _, _, _⟩ := put_cell gT' hs he nn1
        have p3 := putM_pts T' (ptsL.idxOf p) (ptsL.idxOf q) x
        have nn2 : ¬ negB (cellM (putM T' (ptsL.idxOf p) (ptsL.idxOf q) x).d (ptsL.idxOf p) (ptsL.idxOf q)) (-x) = true := fun h => by
          cases hd : cellM (putM T' (ptsL.idxOf p) (ptsL.idxOf q) x).d (ptsL.idxOf p) (ptsL.idxOf q) with
          | none => rw [hd] at h; cases h
          | some c =>
            rw [hd] at h
            have lt : c + -x < 0 := of_decide_eq_true h
            rcases put_iff gT' hs he nn1 hs he hd with h' | ⟨a, b, ha, hb, hc⟩
            · rw [u2] at h'
              have := i2 c h'
              omega
            · rw [gT'.dg _ hs] at ha
              rw [gT'.dg _ he] at hb
              cases ha
              cases hb
              omega
        rw [← p3] at k1
        have k2 := ClD.put g3 k1 (by rw [p3]; exact he) (by rw [p3]; exact hs) nn2
        have e7 : (putM T' (ptsL.idxOf p) (ptsL.idxOf q) x).pts.length = ptsL.length := by rw [p3]; exact l7
        rw [e7, List.append_assoc, show ([⟨ptsL.idxOf p, ptsL.idxOf q, x⟩] ++ [⟨ptsL.idxOf q, ptsL.idxOf p, -x⟩] : List Ar) = [⟨ptsL.idxOf p, ptsL.idxOf q, x⟩, ⟨ptsL.idxOf q, ptsL.idxOf p, -x⟩] from rfl, ← ea] at k2
        have := ring_no k2 g2
        rw [hr2] at this
        cases this
omit ndP lP in
theorem tab_met {bds : List Bd} {ps : List Pt} (few : (namesM ps bds).length ≤ 40) (ok : (tabM bds ps).ok = true) : TbGd (tabM bds ps) ∧ ∀ z ∈ bds, z.one ∈ (tabM bds ps).pts ∧ z.two ∈ (tabM bds ps).pts ∧ DLe (distM (tabM bds ps) z.one z.two) z.amount := by
  obtain ⟨ep, r, o, _, d⟩ := tab_ringN (big := namesM ps bds) (names_nd ps bds) names_all (fun p h => names_has h) few
  have hr : r = false := by
    cases r with
    | false => rfl
    | true => rw [o] at ok; cases ok
  obtain ⟨g, D, c, e⟩ := d hr
  refine ⟨g, fun z hz => ?_⟩
  have m := foldB_mem bds (ps.foldl insP []) hz
  have m1 : z.one ∈ namesM ps bds := m.1
  have m2 : z.two ∈ namesM ps bds := m.2
  obtain ⟨_, _, h⟩ := c.ar _ (List.mem_map.mpr ⟨z, hz, rfl⟩)
  have h' : DLe (D ((namesM ps bds).idxOf z.one) ((namesM ps bds).idxOf z.two)) z.amount := h
  rw [e _ _ m1 m2] at h'
  exact ⟨by rw [ep]; exact m1, by rw [ep]; exact m2, h'⟩
end
/-! ### guilt -/
/-- the events and the beginning among points -/
def evtP (ps : List Pt) : List Pt := ps.filter fun p => decide (p.c = -1)
/-- one distance says more than another one -/
def moreB : Option Int → Option Int → Bool
  | none, _ => false
  | some _, none => true
  | some d, some r => decide (r > d)
theorem evtP_mem {ps : List Pt} {p : Pt} : p ∈ evtP ps ↔ p ∈ ps ∧ p.c = -1 := by
  unfold evtP
  rw [List.mem_filter, decide_eq_true_iff]
def nothB (T U : TbM) : Bool := T.ok && !(evtP T.pts).any fun p => (evtP T.pts).any fun q => moreB (distM T p q) (distM U p q)
def ownB (bs : List Bd) (pa : Int) : List Bd := bs.filter fun b => decide (b.part = pa)
theorem own_mem {bs : List Bd} {pa : Int} {b : Bd} (h : b ∈ ownB bs pa) : b ∈ bs := (List.mem_filter.mp h).1
theorem own_len (bs : List Bd) (pa : Int) : (ownB bs pa).length ≤ bs.length := List.length_filter_le _ _
theorem own_step {bs : List Bd} {pa : Int} {i : Nat} {b : Bd} (hb : bs[i]? = some b) : ownB (bs.take (i + 1)) pa = ownB (bs.take i) pa ++ (if decide (b.part = pa) = true then [b] else []) := by
  unfold ownB
  rw [List.take_add_one, hb, List.filter_append]
  congr 1
  show List.filter _ [b] = _
  rw [List.filter_cons]
  rfl
def okC (ptsL : List Pt) (bds : List Bd) (ch : List Int) : Bool := (tabM (leftB bds ch) ptsL).ok
def posC (ptsL : List Pt) (bds : List Bd) (chs : List (List Int)) : List (List Int) := chs.filter (okC ptsL bds)
def folB (ptsL : List Pt) (own left : List Bd) : Bool := nothB (tabM own []) (tabM left ptsL)
def prM (bds : List Bd) (ps : List Pt) (ch : List Int) : Option (List Int × TbM) := (leftT bds ps ch).map fun T => (ch, T)
def prsM (bds : List Bd) (chs : List (List Int)) (ps : List Pt) : List (List Int × TbM) := chs.filterMap (prM bds ps)
theorem prs_step {bds : List Bd} {chs : List (List Int)} {ps : List Pt} {i : Nat} {ch : List Int} (h : chs[i]? = some ch) : prsM bds (chs.take (i + 1)) ps = prsM bds (chs.take i) ps ++ (prM bds ps ch).toList := by
  unfold prsM
  rw [List.take_add_one, h, List.filterMap_append]
  have e : List.filterMap (prM bds ps) [ch] = (prM bds ps ch).toList := by
    cases e : prM bds ps ch with
    | none => simp [e]
    | some T => simp [e]
  exact congrArg _ e
section
variable {ptsL : List Pt} (ndP : ptsL.Nodup) (lP : ptsL.length ≤ 40) {left : List Bd} {ps : List Pt} (hm : ∀ b ∈ left, b.one ∈ ptsL ∧ b.two ∈ ptsL) (hp : ∀ p ∈ ps, p ∈ ptsL)
include ndP lP hm hp
theorem ok_same : (tabM left ps).ok = (tabM left ptsL).ok := by
  obtain ⟨_, r1, o1, g1, _⟩ := tab_ringN (big := ptsL) ndP hm hp (Nat.le_trans (names_few hm hp) lP)
  obtain ⟨_, r2, o2, g2, _⟩ := tab_ringN (big := ptsL) ndP hm (fun p h => h) (Nat.le_trans (names_few hm fun p h => h) lP)
  rw [o1, o2]
  congr 1
  cases r1 with
  | false =>
    obtain ⟨D, c⟩ := g1.1 rfl
    exact (ring_no c g2).symm
  | true => cases r2 with
    | true => rfl
    | false =>
      obtain ⟨D, c⟩ := g2.1 rfl
      exact ring_no c g1
theorem dist_same (ok : (tabM left ps).ok = true) {p q : Pt} (mp : p ∈ namesM ps left) (mq : q ∈ namesM ps left) : distM (tabM left ps) p q = distM (tabM left ptsL) p q := by
  have ok2 := ok_same ndP lP hm hp ▸ ok
  obtain ⟨_, r1, o1, _, d1⟩ := tab_ringN (big := ptsL) ndP hm hp (Nat.le_trans (names_few hm hp) lP)
  obtain ⟨_, r2, o2, _, d2⟩ := tab_ringN (big := ptsL) ndP hm (fun p h => h) (Nat.le_trans (names_few hm fun p h => h) lP)
  have e1 : r1 = false := by cases r1 with
    | false => rfl
    | true => rw [ok] at o1; cases o1
  have e2 : r2 = false := by cases r2 with
    | false => rfl
    | true => rw [ok2] at o2; cases o2
  have inn : ∀ r ∈ namesM ps left, r ∈ ptsL := fun r m => by
    rcases names_in m with h | ⟨b, hb, h | h⟩
    · exact hp r h
    · rw [h]; exact (hm b hb).1
    · rw [h]; exact (hm b hb).2
  obtain ⟨_, D1, c1, f1⟩ := d1 e1
  obtain ⟨_, D2, c2, f2⟩ := d2 e2
  rw [← f1 p q mp mq, ← f2 p q (names_has (inn p mp)) (names_has (inn q mq))]
  exact ClD.uniq c1 c2 (idx_lt (inn p mp)) (idx_lt (inn q mq))
end
theorem any_same {α : Type} {f g : α → Bool} : ∀ {l : List α}, (∀ x ∈ l, f x = g x) → l.any f = l.any g
  | [], _ => rfl
  | x :: r, h => by
    rw [List.any_cons, List.any_cons, h x List.mem_cons_self, any_same fun y hy => h y (List.mem_cons_of_mem _ hy)]
theorem noth_same {ptsL : List Pt} (ndP : ptsL.Nodup) (lP : ptsL.length ≤ 40) {own left : List Bd} {ps : List Pt} (hm : ∀ b ∈ left, b.one ∈ ptsL ∧ b.two ∈ ptsL) (hp : ∀ p ∈ ps, p ∈ ptsL) (ok : (tabM left ps).ok = true) (sub : ∀ p ∈ evtP (tabM own []).pts, p ∈ ps) : nothB (tabM own []) (keepM (tabM left ps) ps) = folB ptsL own left := by
  unfold folB nothB
  congr 2
  refine any_same fun p mp => any_same fun q mq => ?_
  rw [keep_dist (kept_has (sub p mp)) (kept_has (sub q mq)), dist_same ndP lP hm hp ok (names_has (sub p mp)) (names_has (sub q mq))]
theorem pos_prs {ptsL : List Pt} (ndP : ptsL.Nodup) (lP : ptsL.length ≤ 40) {bds : List Bd} {ps : List Pt} (hm : ∀ b ∈ bds, b.one ∈ ptsL ∧ b.two ∈ ptsL) (hp : ∀ p ∈ ps, p ∈ ptsL) : ∀ chs : List (List Int), (prsM bds chs ps).map (·.1) = posC ptsL bds chs
  | [] => rfl
  | ch :: r => by
    have ih := pos_prs ndP lP hm hp r
    have e := ok_same ndP lP (left := leftB bds ch) (fun b h => hm b (left_mem h)) hp
    unfold prsM posC at *
    rw [List.filterMap_cons, List.filter_cons]
    unfold prM leftT okC at *
    cases ok : (tabM (leftB bds ch) ps).ok with
    | true =>
      rw [← e, ok, if_pos rfl, if_pos rfl]
      show (_ :: _ : List (List Int)) = _
      rw [ih]
    | false =>
      rw [← e, ok, if_neg (by decide), if_neg (by decide)]
      exact ih
theorem all_prs {ptsL : List Pt} (ndP : ptsL.Nodup) (lP : ptsL.length ≤ 40) {bds : List Bd} {ps : List Pt} {pa : Int} (hm : ∀ b ∈ bds, b.one ∈ ptsL ∧ b.two ∈ ptsL) (hp : ∀ p ∈ ps, p ∈ ptsL) (sub : ∀ p ∈ evtP (tabM (ownB bds pa) []).pts, p ∈ ps) : ∀ chs : List (List Int), ((prsM bds chs ps).all fun z => !z.1.contains pa || nothB (tabM (ownB bds pa) []) z.2) = (posC ptsL bds chs).all fun ch => !ch.contains pa || folB ptsL (ownB bds pa) (leftB bds ch)
  | [] => rfl
  | ch :: r => by
    have ih := all_prs ndP lP hm hp sub r
    have e := ok_same ndP lP (left := leftB bds ch) (fun b h => hm b (left_mem h)) hp
    have g := fun ok => noth_same ndP lP (own := ownB bds pa) (left := leftB bds ch) (fun b h => hm b (left_mem h)) hp ok sub
    unfold prsM posC at *
    rw [List.filterMap_cons, List.filter_cons]
    unfold prM leftT okC at *
    cases ok : (tabM (leftB bds ch) ps).ok with
    | true =>
      rw [← e, ok, if_pos rfl, if_pos rfl]
      show (List.all (_ :: _) _ : Bool) = _
      rw [List.all_cons, List.all_cons, ih]
      show ((!ch.contains pa || nothB _ (keepM (tabM (leftB bds ch) ps) ps)) && _) = _
      rw [g ok]
    | false =>
      rw [← e, ok, if_neg (by decide), if_neg (by decide)]
      exact ih
def broM (n : Nat) (ps : List (List Int)) : List Int := ((List.range n).map fun (i : Nat) => (i : Int)).filter fun i => ps.all fun ch => ch.contains i
def rigM (ptsL : List Pt) (bds : List Bd) (n : Nat) (ps : List (List Int)) : List Int := ((List.range n).map fun (i : Nat) => (i : Int)).filter fun i => ps.all fun ch => !ch.contains i || folB ptsL (ownB bds i) (leftB bds ch)
theorem rng_take {n i : Nat} (h : i < n) : ((List.range n).map fun (i : Nat) => (i : Int)).take (i + 1) = ((List.range n).map fun (i : Nat) => (i : Int)).take i ++ [(i : Int)] := by
  rw [List.take_add_one, List.getElem?_map, List.getElem?_range h]
  rfl
theorem rng_fil {n i : Nat} {f : Int → Bool} (h : i < n) : (((List.range n).map fun (i : Nat) => (i : Int)).take (i + 1)).filter f = (((List.range n).map fun (i : Nat) => (i : Int)).take i).filter f ++ (if f (i : Int) = true then [(i : Int)] else []) := by
  rw [rng_take h, List.filter_append]
  congr 1
  show List.filter _ [(i : Int)] = _
  rw [List.filter_cons]
  rfl
def chI (c : List Nat) : List Int := c.map fun (i : Nat) => (i : Int)
theorem chI_V (c : List Nat) : (chI c).map V.int = Cb.nV c := by
  unfold chI
  rw [List.map_map]
  rfl
theorem CsL.ch {H : Hp} {l : Addr} {es : List Addr} {cs : List (List Nat)} (h : CsL H l es cs) : ChL H l es (cs.map chI) := ⟨h.l, by rw [List.length_map]; exact h.e.1, fun i e ch he hc => by
  rw [List.getElem?_map] at hc
  cases g : cs[i]? with
  | none => rw [g] at hc; cases hc
  | some c =>
    rw [g] at hc
    cases hc
    rw [chI_V]
    exact h.e.2 i e c he g⟩
theorem own_evt {bds : List Bd} {pa : Int} {p : Pt} (h : p ∈ evtP (tabM (ownB bds pa) []).pts) : p ∈ evtP (bds.flatMap fun b => [b.one, b.two]) := by
  obtain ⟨m, e⟩ := evtP_mem.mp h
  rw [tabM_pts] at m
  refine evtP_mem.mpr ⟨?_, e⟩
  rcases names_in m with h | ⟨b, hb, h⟩
  · cases h
  · refine List.mem_flatMap.mpr ⟨b, own_mem hb, ?_⟩
    rcases h with h | h <;> rw [h] <;> simp
/-- pairs of a choice and a table, with the choice -/
structure PrC (P : Program) (wd : World) (K : PySem.W.Frag) (CT : Addr) (H : Hp) (l : Addr) (es : List Addr) (zs : List (List Int × TbM)) : Prop where
  l : H l = some (.lst (es.map V.ref))
  e : Each (fun e z => ∃ c t pl rw rs, H e = some (.tup [.ref c, .ref t]) ∧ H c = some (.tup (z.1.map V.int)) ∧ TbAt P wd K CT H t z.2 pl rw rs) es zs
theorem PrC.keep {P : Program} {wd : World} {K : PySem.W.Frag} {CT : Addr} {H H' : Hp} {l : Addr} {es : List Addr} {Ts : List (List Int × TbM)} (s : Same H H') (h : PrC P wd K CT H l es Ts) : PrC P wd K CT H' l es Ts :=
  ⟨s _ _ h.l, h.e.keep fun _ _ ⟨c, t, pl, rw, rs, a, d, b⟩ => ⟨c, t, pl, rw, rs, s _ _ a, s _ _ d, b.keep s⟩⟩
theorem prs_has {bds : List Bd} {chs : List (List Int)} {ps : List Pt} {z : List Int × TbM} (h : z ∈ prsM bds chs ps) : ∀ r ∈ ps, r ∈ z.2.pts := by
  obtain ⟨ch, hc, e⟩ := List.mem_filterMap.mp h
  unfold prM at e
  cases l : leftT bds ps ch with
  | none => rw [l] at e; cases e
  | some T =>
    rw [l] at e
    cases e
    exact tabs_has (bds := bds) (chs := chs) (List.mem_filterMap.mpr ⟨ch, hc, l⟩)
/-- what is told of guilt: nothing, or a pair of fresh lists -/
def GuR (ptsL : List Pt) (bds : List Bd) (n : Nat) (chs : List (List Int)) (H H' : Hp) (v : V) : Prop := (posC ptsL bds chs = [] ∧ v = .non) ∨ (posC ptsL bds chs ≠ [] ∧ ∃ p l1 l2, v = .ref p ∧ H l1 = none ∧ H l2 = none ∧ l1 ≠ l2 ∧ H' p = some (.tup [.ref l1, .ref l2]) ∧ H' l1 = some (.lst ((broM n (posC ptsL bds chs)).map V.int)) ∧ H' l2 = some (.lst ((rigM ptsL bds n (posC ptsL bds chs)).map V.int)))
theorem prs_tabs {bds : List Bd} {ps : List Pt} : ∀ chs : List (List Int), (prsM bds chs ps).map (·.2) = tabsM bds chs ps
  | [] => rfl
  | ch :: r => by
    have ih := prs_tabs (bds := bds) (ps := ps) r
    unfold prsM tabsM at *
    rw [List.filterMap_cons, List.filterMap_cons]
    unfold prM at *
    cases e : leftT bds ps ch with
    | none => exact ih
    | some T =>
      show T :: _ = T :: _
      rw [← ih]
theorem PrC.prl {P : Program} {wd : World} {K : PySem.W.Frag} {CT : Addr} {H : Hp} {l : Addr} {es : List Addr} {zs : List (List Int × TbM)} (h : PrC P wd K CT H l es zs) : PrL P wd K CT H l es (zs.map (·.2)) := ⟨h.l, by rw [List.length_map]; exact h.e.1, fun i e T he hT => by
  rw [List.getElem?_map] at hT
  cases g : zs[i]? with
  | none => rw [g] at hT; cases hT
  | some z =>
    rw [g] at hT
    cases hT
    obtain ⟨c, t, pl, rw, rs, a, _, b⟩ := h.e.2 i e z he g
    exact ⟨c, t, pl, rw, rs, a, b⟩⟩
def vwP (F : Fm) (vw : List (List Ev)) : List Pt := namesM (stP :: (evtI vw vw.length).map evPt) (vwB F vw)
/-- the times of points, from that of the beginning on -/
def Tms (T : TbM) (ps : List Pt) (ts : List Int) : Prop := ∃ z, IsTm T stP z ∧ ts.length = ps.length ∧ ∀ (i : Nat) p t, ps[i]? = some p → ts[i]? = some t → IsTm T p (t + z)
theorem Tms.uniq {T : TbM} {ps : List Pt} {ts us : List Int} (h : Tms T ps ts) (g : Tms T ps us) : ts = us := by
  obtain ⟨z, hz, hl, hx⟩ := h
  obtain ⟨w, gz, gl, gx⟩ := g
  have e := hz.one gz
  subst e
  apply List.ext_getElem? 
  intro i
  by_cases c : i < ps.length
  · have h1 : ps[i]? = some ps[i] := List.getElem?_eq_getElem c
    have h2 : ts[i]? = some (ts[i]'(by omega)) := List.getElem?_eq_getElem _
    have h3 : us[i]? = some (us[i]'(by omega)) := List.getElem?_eq_getElem _
    have := (hx i _ _ h1 h2).one (gx i _ _ h1 h3)
    rw [h2, h3]
    congr 1
    omega
  · rw [List.getElem?_eq_none (by omega), List.getElem?_eq_none (by omega)]
/-- the first choice whose table is possible, with its times -/
def CrR (bds : List Bd) (chs : List (List Int)) (ps : List Pt) : Option (List Int × List Int) → Prop
  | none => chs.any (fun ch => (tabM (leftB bds ch) ps).ok) = false
  | some r => ∃ i, chs[i]? = some r.1 ∧ (chs.take i).any (fun ch => (tabM (leftB bds ch) ps).ok) = false ∧ (tabM (leftB bds r.1) ps).ok = true ∧ Tms (tabM (leftB bds r.1) ps) ps r.2
theorem take_any {α : Type} {f : α → Bool} {l : List α} {i j : Nat} {x : α} (h : (l.take i).any f = false) (g : l[j]? = some x) (e : f x = true) : i ≤ j := by
  by_cases c : i ≤ j
  · exact c
  · exfalso
    have hm : x ∈ l.take i := List.mem_of_getElem? (i := j) (by rw [List.getElem?_take, if_pos (by omega)]; exact g)
    rw [List.any_eq_false] at h
    exact h x hm e
theorem CrR.isSome {bds : List Bd} {chs : List (List Int)} {ps : List Pt} {r : Option (List Int × List Int)} (h : CrR bds chs ps r) : r.isSome = chs.any fun ch => (tabM (leftB bds ch) ps).ok := by
  cases r with
  | none => exact h.symm
  | some r =>
    obtain ⟨i, h1, h2, h3, h4⟩ := h
    exact (List.any_eq_true.mpr ⟨r.1, List.mem_of_getElem? h1, h3⟩).symm
theorem CrR.uniq {bds : List Bd} {chs : List (List Int)} {ps : List Pt} {r s : Option (List Int × List Int)} (h : CrR bds chs ps r) (g : CrR bds chs ps s) : r = s := by
  have e := h.isSome.trans g.isSome.symm
  cases r with
  | none =>
    cases s with
    | none => rfl
    | some s => cases e
  | some r =>
    cases s with
    | none => cases e
    | some s =>
      obtain ⟨i, h1, h2, h3, h4⟩ := h
      obtain ⟨j, g1, g2, g3, g4⟩ := g
      have a := take_any (f := fun ch => (tabM (leftB bds ch) ps).ok) h2 g1 g3
      have b := take_any (f := fun ch => (tabM (leftB bds ch) ps).ok) g2 h1 h3
      have e : i = j := by omega
      subst e
      rw [h1] at g1
      obtain ⟨r1, r2⟩ := r
      obtain ⟨s1, s2⟩ := s
      cases g1
      exact congrArg (fun z => some (r1, z)) (h4.uniq g4)
/-- a course in the heap -/
def CrAt (H : Hp) (v : V) : Option (List Int × List Int) → Prop
  | none => v = .non
  | some r => ∃ t c l, v = .ref t ∧ H t = some (.tup [.ref c, .ref l]) ∧ H c = some (.tup (r.1.map V.int)) ∧ H l = some (.lst (r.2.map V.int))
theorem CrAt.keep {H H' : Hp} {v : V} {r : Option (List Int × List Int)} (s : Same H H') (h : CrAt H v r) : CrAt H' v r := by
  cases r with
  | none => exact h
  | some r =>
    obtain ⟨t, c, l, h1, h2, h3, h4⟩ := h
    exact ⟨t, c, l, h1, s _ _ h2, s _ _ h3, s _ _ h4⟩
theorem vwP_le {F : Fm} {vw : List (List Ev)} (hf : VwFit F vw) (ne : ∀ d, d < vw.length → 0 < (vw.getD d []).length) : (vwP F vw).length ≤ (ptAll F vw).length := names_few (vwB_pts hf ne) fun p hp => by
  rcases List.mem_cons.mp hp with h | h
  · rw [h]; exact ptAll_st
  · obtain ⟨z, hz, rfl⟩ := List.mem_map.mp h
    exact evt_all hz
theorem two_le {F : Fm} {vw : List (List Ev)} {d1 n1 d2 n2 : Int} (hf : VwFit F vw) (ne : ∀ d, d < vw.length → 0 < (vw.getD d []).length) (h1 : InV vw d1 n1) (h2 : InV vw d2 n2) : (namesM [⟨d1, n1, -1⟩, ⟨d2, n2, -1⟩] (vwB F vw)).length ≤ (ptAll F vw).length := names_few (vwB_pts hf ne) fun p hp => by
  simp only [List.mem_cons, List.not_mem_nil, or_false] at hp
  rcases hp with rfl | rfl
  · exact inV_all h1
  · exact inV_all h2
theorem told_len {bds : List Bd} {chs : List (List Int)} {p q : Pt} : (joinS (toldM bds chs p q)).length ≤ chs.length := by
  refine Nat.le_trans (joinS_len _) ?_
  unfold toldM tabsM
  rw [List.length_map]
  exact List.length_filterMap_le _ _
def crP : Option (List Int × List Int) → PyData
  | none => .none
  | some r => .tuple [.tuple (r.1.map .int), .list (r.2.map .int)]
theorem ints_dps {K : PySem.W.Frag} {H : Hp} : ∀ ns : List Int, DpAll K H (ns.map V.int) (ns.map PyData.int)
  | [] => .nil
  | n :: r => .cons (.int n) (ints_dps r)
theorem CrAt.dp {K : PySem.W.Frag} {H : Hp} {v : V} {r : Option (List Int × List Int)} (h : CrAt H v r) : Dp K H v (crP r) := by
  cases r with
  | none =>
    have h : v = .non := h
    rw [h]
    exact .non
  | some r =>
    obtain ⟨t, c, l, h1, h2, h3, h4⟩ := h
    rw [h1]
    exact .tup (SqT.of h2) (.cons (.tup (SqT.of h3) (ints_dps _)) (.cons (.lst (SqL.of h4) (ints_dps _)) .nil))
theorem cr_plain (r : Option (List Int × List Int)) : (crP r).plain = true := by
  cases r with
  | none => rfl
  | some r =>
    have e1 : (PyData.tuple (r.1.map PyData.int)).plain = true := all_plain (f := PyData.int) (fun _ => rfl) r.1
    have e2 : (PyData.list (r.2.map PyData.int)).plain = true := all_plain (f := PyData.int) (fun _ => rfl) r.2
    show ((PyData.tuple (r.1.map PyData.int)).plain && ((PyData.list (r.2.map PyData.int)).plain && true)) = true
    rw [e1, e2]
    rfl
theorem cr_depth (r : Option (List Int × List Int)) : (crP r).depth ≤ 64 := by
  cases r with
  | none => decide
  | some r =>
    have h1 := ints_depth r.1
    have h2 := ldepth (f := PyData.int) (n := 1) (fun x => by simp [PyData.depth]) r.2
    unfold intsP at h1
    simp only [crP, PyData.depth, PyData.depthAll] at *
    omega
theorem CrAt.neP {K : PySem.W.Frag} {H : Hp} {v u : V} {r : Option (List Int × List Int)} {Q : VK} (h : CrAt H v r) (g : CrAt H u r) (q : Q (.bl false) H) : rNeP K v u H Q := by
  refine ⟨_, _, h.dp, g.dp, cr_plain r, cr_plain r, cr_depth r, ?_⟩
  rw [SeqAt.eqv_refl_plain _ (cr_plain r)]
  exact q
section
variable {P : Program} {w : World} {K : PySem.W.Frag} {mg : Str → Option Value} {base : Heap}
def sp_Frame_clocks_of (K : PySem.W.Frag) (CF : Addr) : Sp := fun vs H Q _ => ∃ (p : Addr) (F : Fm) (own : List Addr) (j : Int), vs = [.ref p, .int j] ∧ FrI K CF H p F own ∧ F.clocks.length ≤ 100 ∧ ∀ (l : Addr) (H' : Hp), Same H H' → H l = none → H' l = some (.lst ((cks F j).map V.int)) → Q (.ref l) H'
theorem ok_Frame_clocks_of {f : Addr} {fd : FuncData} {CF : Addr} (TF : Ck_Frame K mg CF) (D : Mt K CF "clocks_of" "Frame.clocks_of" s_Frame_clocks_of ["self", "device"] f fd) (T : Txt K mg) : FnOk P w K mg base CX0 1 f fd ["self", "device"] (sp_Frame_clocks_of K CF) := by
  refine D.F.ok sc_Frame_clocks_of (fun vs H Q E h => ?_) (fun cdv A outer s H vs Q E hr h => ?_)
  · obtain ⟨p, F, own, j, rfl, _⟩ := h
    rfl
  obtain ⟨p, F, own, j, rfl, ⟨dx, d, c, l, s, _, hp, _, ⟨vs, hc, hI⟩, _, _⟩, h100, q⟩ := h
  refine ⟨_, (pss_one (ps_ret (pe_lc (own := [("number", 2), ("clock", 3)]) (g := (gTup K 2 (gCons (gName 2) (gCons (gName 3) gNil)))) (tt := _) rfl sc_Frame_clocks_of.nd (pi_enum rfl T.enumerate (pa_cons (pe_fld (pv 0) rfl) pa_nil)) (blkOk_by (own := [("number", 2), ("clock", 3)]) (N := nm_Frame_clocks_of) (sc := defScope s_Frame_clocks_of) (by decide +kernel)) (fun _ _ _ _ _ => (pg_tup rfl (pgs_cons (pg_name (i := 2) sc_Frame_clocks_of.nd rfl (Or.inl rfl)) (pgs_cons (pg_name (i := 3) sc_Frame_clocks_of.nd rfl (Or.inl rfl)) pgs_nil)))) (fun _ _ _ _ _ => (pts_one (pt_cmpR op_eq (pe_ix (r := rIxT K) ix_tup (pv 3) pe_int (fun _ _ => rfl)) (pv 1) (nomark _)))) (fun _ _ _ _ _ => (pv 2))))), ?_⟩
  have e1 : vs.length = F.clocks.length := by rw [hI.len, List.length_map]
  refine ⟨_, rfl, p, CF, dx, _, _, rfl, hp, TF.cl, TF.n_clocks, lk_Frame_clocks, c, _, rfl, SqL.of hc, fun D hD => lc_it (walk_enum (K := K) (a := c) (xs := vs)) (fun i H' => Same H H' ∧ H' D = some (.lst ((ckN F.clocks j i).map V.int))) ⟨same_upd hD, upd_same⟩ (fun i H' _ p => SqL.of (p.1 _ _ hc)) ?_ ?_⟩
  · rintro i x H1 H2 hi ⟨sm, eD⟩ ⟨T, x1, x2, rfl, nT, rfl, h1, h2⟩
    cases h1
    obtain ⟨d2, hd2, hi2⟩ := hI.get' h2
    obtain ⟨C, hc1, rfl⟩ := map_get hd2
    have s2 : Same H1 (upd H1 T (.tup [.int (i : Nat), x2])) := same_upd nT
    have e2 : (upd H1 T (.tup [.int (i : Nat), x2])) T = some (.tup [.int (i : Nat), x2]) := upd_same
    have nDT : D ≠ T := ne_of_none eD nT
    generalize upd H1 T (.tup [.int (i : Nat), x2]) = H2 at *
    obtain ⟨ac, tc, ws, rfl, hct, _, _⟩ := Im.uncl (Im.mono (.of (fun b u h => s2 _ _ (sm b u h))) _ hi2)
    have hcl := ckN_len F.clocks j i
    refine ⟨T, _, rfl, SqT.of e2, rfl, _, _, rfl, _, _, rfl, rfl, rfl, _, rfl, _, _, _, _, rfl, rfl, hct, at_of (j := 1) rfl rfl, _, rfl, rfl, _, rfl, ite2 (fun g => ?_) (fun g => ?_)⟩
    · have ge : C.dev = j := vint_eq g
      refine ⟨_, rfl, _, s2 _ _ eD, by rw [List.length_map]; exact sizes' (by omega), fun b u h => ?_, ?_⟩
      · rw [upd_ne (ne_of_none h hD)]
        exact s2 _ _ (sm b u h)
      · rw [upd_same, ckN_yes hc1 ge, List.map_append]
        rfl
    · have ge : C.dev ≠ j := vint_ne g
      refine ⟨fun b u h => s2 _ _ (sm b u h), ?_⟩
      rw [ckN_no hc1 ge]
      exact s2 _ _ eD
  · rintro H' ⟨sm, e⟩
    rw [e1] at e
    exact q D H' sm hD e
def sp_first_hands (K : PySem.W.Frag) (CF : Addr) : Sp := fun vs H Q _ => ∃ (p : Addr) (F : Fm) (own : List Addr) (j : Int), vs = [.ref p, .int j] ∧ FrI K CF H p F own ∧ F.clocks.length ≤ 100 ∧ ∀ (l : Addr) (H' : Hp), Same H H' → H l = none → LsI K H' l ((List.replicate (cks F j).length dfH).map hdP) → Q (.ref l) H'
theorem ok_first_hands {f : Addr} {fd : FuncData} {CF : Addr} (TF : Ck_Frame K mg CF) (D : Df K mg "first_hands" s_first_hands ["frame", "device"] f fd) (T : Txt K mg) {f_Frame_clocks_of : Addr} {fd_Frame_clocks_of : FuncData} (M_Frame_clocks_of : Mt K CF "clocks_of" "Frame.clocks_of" s_Frame_clocks_of ["self", "device"] f_Frame_clocks_of fd_Frame_clocks_of) (G_Frame_clocks_of : FnOk P w K mg base CX0 1 f_Frame_clocks_of fd_Frame_clocks_of ["self", "device"] (sp_Frame_clocks_of K CF)) : FnOk P w K mg base CX0 2 f fd ["frame", "device"] (sp_first_hands K CF) := by
  refine D.F.ok sc_first_hands (fun vs H Q E h => ?_) (fun cdv A outer s H vs Q E hr h => ?_)
  · obtain ⟨p, F, own, j, rfl, _⟩ := h
    rfl
  obtain ⟨p, F, own, j, rfl, hF, h100, q⟩ := h
  refine ⟨_, (pss_one (ps_ret (pe_lc (own := [("_", 2)]) (g := gName 2) (tt := tYes) rfl sc_first_hands.nd (pi_list (pe_meth (pv 0) TF.cl M_Frame_clocks_of.m G_Frame_clocks_of (hr.mono (by decide)) M_Frame_clocks_of.b .nil pass0 (pa_cons (pv 1) pa_nil))) (blkOk_by (own := [("_", 2)]) (N := nm_first_hands) (sc := defScope s_first_hands) (by decide +kernel)) (fun _ _ _ _ _ => (pg_name (i := 2) sc_first_hands.nd rfl (Or.inl rfl))) (fun _ _ _ _ _ => pts_nil) (fun _ _ _ _ _ => (pe_tup (pa_cons pe_non (pa_cons pe_int (pa_cons pe_int pa_nil)))))))), ?_⟩
  have hF0 := hF
  obtain ⟨dx, d, c, l, s, _, hp, _⟩ := hF
  refine ⟨_, rfl, p, dx, _, rfl, hp, no_Frame, _, rfl, p, F, own, j, rfl, hF0, h100, fun l1 H1 s1 n1 e1 => ?_⟩
  have hcl : (cks F j).length ≤ 100 := Nat.le_trans (ckN_len _ _ _) h100
  refine ⟨_, rfl, ⟨_, SqL.of e1⟩, fun D hD => lc_list (K := K) (a := l1) (xs := (cks F j).map V.int) (fun i H' => Same H1 H' ∧ LsI K H' D ((List.replicate i dfH).map hdP)) ⟨same_upd hD, _, upd_same, ImL.nil_⟩ (fun i H' _ p => SqL.of (p.1 _ _ e1)) ?_ ?_⟩
  · rintro i x H2 hx ⟨sm, hL⟩
    have hi : i < (cks F j).length := by
      have := (List.getElem?_eq_some_iff.mp hx).1
      rwa [List.length_map] at this
    refine ⟨rfl, (by show 3 ≤ sizeLine; decide), fun a3 n3 => ?_⟩
    generalize e3 : upd H2 a3 _ = H3
    obtain ⟨s3, h3⟩ := fr e3 n3
    clear e3
    obtain ⟨ws, hw, hwl, hL2⟩ := (hL.keep s3).snoc (hdI (h := dfH) (SqT.of h3) Im.non_)
    rw [List.length_map, List.length_replicate] at hwl
    refine ⟨ws, hw, sizes' (by omega), fun b u h => ?_, ?_⟩
    · rw [upd_ne (ne_of_none h hD)]
      exact s3 _ _ (sm b u h)
    · rw [List.replicate_succ', List.map_append]
      exact hL2
  · rintro H2 ⟨sm, hL⟩
    rw [List.length_map] at hL
    exact q D H2 (s1.trans sm) (s1.free hD) hL
def sp_event_point (K : PySem.W.Frag) : Sp := fun vs H Q _ => ∃ (a : Addr) (d n : Int), vs = [.ref a] ∧ SqT K H a [.int d, .int n] ∧ ∀ (v : V) (H' : Hp), Same H H' → Im K H' (ptP ⟨d, n, -1⟩) v → Q v H'
theorem ok_event_point {f : Addr} {fd : FuncData} (D : Df K mg "event_point" s_event_point ["event"] f fd) (T : Txt K mg) {t_NO_CLOCK : Tok} (g_NO_CLOCK : mg "NO_CLOCK" = some (.int (-1) t_NO_CLOCK)) : FnOk P w K mg base CX0 1 f fd ["event"] (sp_event_point K) := by
  refine D.F.ok sc_event_point (fun vs H Q E h => ?_) (fun cdv A outer s H vs Q E hr h => ?_)
  · obtain ⟨a, d, n, rfl, _⟩ := h
    rfl
  obtain ⟨a, d, n, rfl, h, q⟩ := h
  refine ⟨_, (pss_cons (ps_asg (pv 0) (pg_tup rfl (pgs_cons (pg_name (i := 1) sc_event_point.nd rfl (Or.inl rfl)) (pgs_cons (pg_name (i := 2) sc_event_point.nd rfl (Or.inl rfl)) pgs_nil))))
    (pss_one (ps_ret (pe_tup (pa_cons (pv 1) (pa_cons (pv 2) (pa_cons (pe_glob (v := V.int (-1)) rfl g_NO_CLOCK ⟨_, rfl⟩) pa_nil))))))), ?_⟩
  refine ⟨_, rfl, _, _, rfl, h, rfl, _, _, rfl, _, _, rfl, rfl, ?_⟩
  refine ⟨_, rfl, _, rfl, (by show 3 ≤ sizeLine; decide), fun a1 n1 => ?_⟩
  generalize e1 : upd H a1 _ = H1
  obtain ⟨s1, h1⟩ := fr e1 n1
  clear e1
  exact q _ H1 s1 (ptI (p := ⟨d, n, -1⟩) (SqT.of h1))
def sp_at_least_later (K : PySem.W.Frag) : Sp := fun vs H Q _ => ∃ (x y : V) (p q : Pt) (lo pa : Int), vs = [x, y, .int lo, .int pa] ∧ Im K H (ptP p) x ∧ Im K H (ptP q) y ∧ ∀ (v : V) (H' : Hp), Same H H' → Im K H' (bdP ⟨q, p, -lo, pa⟩) v → Q v H'
theorem ok_at_least_later {f : Addr} {fd : FuncData} (D : Df K mg "at_least_later" s_at_least_later ["first", "second", "least", "part"] f fd) (T : Txt K mg) : FnOk P w K mg base CX0 1 f fd ["first", "second", "least", "part"] (sp_at_least_later K) := by
  refine D.F.ok sc_at_least_later (fun vs H Q E h => ?_) (fun cdv A outer s H vs Q E hr h => ?_)
  · obtain ⟨x, y, p, q, lo, pa, rfl, _⟩ := h
    rfl
  obtain ⟨x, y, p, qq, lo, pa, rfl, hx, hy, q⟩ := h
  refine ⟨_, (pss_one (ps_ret (pe_tup (pa_cons (pv 1) (pa_cons (pv 0) (pa_cons (pe_un un_neg (pv 2)) (pa_cons (pv 3) pa_nil))))))), ?_⟩
  refine ⟨_, rfl, _, rfl, _, rfl, _, rfl, _, rfl, (by show 4 ≤ sizeLine; decide), fun a1 n1 => ?_⟩
  generalize e1 : upd H a1 _ = H1
  obtain ⟨s1, h1⟩ := fr e1 n1
  clear e1
  exact q _ H1 s1 (bdI (b := ⟨qq, p, -lo, pa⟩) (SqT.of h1) (Im.mono (.of s1) _ hy) (Im.mono (.of s1) _ hx))
def sp_from_to_later (K : PySem.W.Frag) : Sp := fun vs H Q _ => ∃ (x y : V) (p q : Pt) (lo hi pa : Int), vs = [x, y, .int lo, .int hi, .int pa] ∧ Im K H (ptP p) x ∧ Im K H (ptP q) y ∧ ∀ (a : Addr) (H' : Hp), Same H H' → H a = none → LsI K H' a ((ftl p q lo hi pa).map bdP) → Q (.ref a) H'
theorem ok_from_to_later {f : Addr} {fd : FuncData} (D : Df K mg "from_to_later" s_from_to_later ["first", "second", "least", "most", "part"] f fd) (T : Txt K mg) {f_at_least_later : Addr} {fd_at_least_later : FuncData} (D_at_least_later : Df K mg "at_least_later" s_at_least_later ["first", "second", "least", "part"] f_at_least_later fd_at_least_later) (G_at_least_later : FnOk P w K mg base CX0 1 f_at_least_later fd_at_least_later ["first", "second", "least", "part"] (sp_at_least_later K)) : FnOk P w K mg base CX0 2 f fd ["first", "second", "least", "most", "part"] (sp_from_to_later K) := by
  refine D.F.ok sc_from_to_later (fun vs H Q E h => ?_) (fun cdv A outer s H vs Q E hr h => ?_)
  · obtain ⟨x, y, p, q, lo, hi, pa, rfl, _⟩ := h
    rfl
  obtain ⟨x, y, p, qq, lo, hi, pa, rfl, hx, hy, q⟩ := h
  refine ⟨_, (pss_one (ps_ret (pe_lst (pa_cons (pe_tup (pa_cons (pv 0) (pa_cons (pv 1) (pa_cons (pv 3) (pa_cons (pv 4) pa_nil))))) (pa_cons (pe_call G_at_least_later (hr.mono (by decide)) rfl D_at_least_later.m D_at_least_later.F.kp D_at_least_later.b .nil pass0 (pa_cons (pv 0) (pa_cons (pv 1) (pa_cons (pv 2) (pa_cons (pv 4) pa_nil))))) pa_nil))))), ?_⟩
  refine ⟨_, rfl, _, rfl, _, rfl, _, rfl, (by show 4 ≤ sizeLine; decide), fun a1 n1 => ?_⟩
  generalize e1 : upd H a1 _ = H1
  obtain ⟨s1, h1⟩ := fr e1 n1
  clear e1
  have k1 := TupK.of s1
  refine ⟨_, rfl, _, rfl, _, rfl, _, rfl, x, y, p, qq, lo, pa, rfl, Im.mono k1 _ hx, Im.mono k1 _ hy, fun v H2 s2 i2 => ⟨(by show 2 ≤ sizeLine; decide), fun a3 n3 => ?_⟩⟩
  generalize e3 : upd H2 a3 _ = H3
  obtain ⟨s3, h3⟩ := fr e3 n3
  clear e3
  have s23 := s2.trans s3
  have k23 := TupK.of s23
  exact q a3 H3 (s1.trans s23) ((s1.trans s2).free n3) ⟨_, h3, ImL.cons_ (bdI (b := ⟨p, qq, hi, pa⟩) (SqT.of (s23 _ _ h1)) (Im.mono k23 _ (Im.mono k1 _ hx)) (Im.mono k23 _ (Im.mono k1 _ hy))) (ImL.cons_ (Im.mono (.of s3) _ i2) ImL.nil_)⟩
def sp_running_since (K : PySem.W.Frag) (CF : Addr) : Sp := fun vs H Q _ => ∃ (p : Addr) (F : Fm) (own : List Addr) (c : Int) (e : Ev) (h : HdM) (v x : V), vs = [.ref p, .int c, v, x] ∧ FrI K CF H p F own ∧ 0 ≤ c ∧ c < F.clocks.length ∧ Im K H (evP e) v ∧ e.deed.place < 9 ∧ Im K H (hdP h) x ∧ ∀ u, Im K H (opP (sinceM (clOf F c).goes e h)) u → Q u H
theorem ok_running_since {f : Addr} {fd : FuncData} {CF : Addr} (TF : Ck_Frame K mg CF) (D : Df K mg "running_since" s_running_since ["frame", "clock", "event", "hand"] f fd) (T : Txt K mg) : FnOk P w K mg base CX0 1 f fd ["frame", "clock", "event", "hand"] (sp_running_since K CF) := by
  refine D.F.ok sc_running_since (fun vs H Q E h => ?_) (fun cdv A outer s H vs Q E hr h => ?_)
  · obtain ⟨p, F, own, c, e, h, v, x, rfl, _⟩ := h
    rfl
  obtain ⟨p, F, own, c, e, h, v, x, rfl, ⟨dx, dd, cc, l, s, _, hp, _, ⟨vs, hc, hI⟩, _, _⟩, c0, c1, hv, h9, hx, q⟩ := h
  refine ⟨_, (pss_cons (ps_set (i := 4) sc_running_since.nd rfl (Or.inl rfl) (pe_ix ix_tup (pv 2) pe_int (fun _ _ => rfl)))
    (pss_cons (ps_set (i := 5) sc_running_since.nd rfl (Or.inl rfl) (pe_ix ix_tup (pv 2) pe_int (fun _ _ => rfl)))
    (pss_cons (ps_set (i := 6) sc_running_since.nd rfl (Or.inl rfl) (pe_ix ix_tup (pe_ix ix_list (pe_fld (pv 0) rfl) (pv 1) (fun _ _ => rfl)) pe_int (fun _ _ => rfl)))
    (pss_cons (ps_set (i := 7) sc_running_since.nd rfl (Or.inl rfl) (pe_or (pe_cmpR op_eq (pe_ix ix_tup (pv 5) pe_int (fun _ _ => rfl)) pe_str (nomark _)) (pe_one (pe_and (pv 4) (pe_one (pe_not (pv 6)))))))
    (pss_one (ps_ret (pe_ifExp (pt_val (pv 7)) pe_non (pe_ix ix_tup (pv 3) pe_int (fun _ _ => rfl))))))))), ?_⟩
  obtain ⟨ea, e1, e2, ed, e3, rfl, het, _, _, hdd, _⟩ := Im.unev hv
  obtain ⟨da, z, rest, rfl, hz, hdt, _⟩ := Im.undd h9 hdd
  obtain ⟨ha, hx1, rfl, hht, hpt⟩ := Im.unhd hx
  obtain ⟨d2, v2, g1, g2, g3⟩ := list_at hI c0 (by rw [List.length_map]; exact c1)
  obtain ⟨C, hC, rfl⟩ := map_get g1
  have eC : C = clOf F c := by
    have := getD_at (d := (⟨Str.empty, 0, false, []⟩ : Cl)) c0 c1
    rw [hC] at this
    exact Option.some.inj this
  obtain ⟨ca, ta, ws, rfl, hct, _, _⟩ := Im.uncl g3
  refine ⟨_, rfl, _, _, _, _, rfl, rfl, het, at_of (j := 0) rfl rfl, _, rfl, _, _, _, _, rfl, rfl, het, at_of (j := 3) rfl rfl, _, rfl, p, CF, dx, _, _, rfl, hp, TF.cl, TF.n_clocks, lk_Frame_clocks, _, rfl, _, _, _, _, rfl, rfl, SqL.of hc, g2, _, _, _, _, rfl, rfl, hct, at_of (j := 2) rfl rfl, ?_⟩
  refine ⟨_, rfl, _, _, _, _, rfl, rfl, hdt, at_of (j := 0) rfl rfl, rfl, _, rfl, ?_⟩
  rw [dn_is hz (show deedNames[8]? = some (Str.ofString "anew") from rfl)]
  rw [← eC] at q
  unfold sinceM at q
  cases h8 : decide (e.deed.place = 8) with
  | true =>
    rw [h8] at q
    refine iteT ⟨_, rfl, _, rfl, iteT ?_⟩
    exact q _ Im.non_
  | false =>
    rw [h8] at q
    refine iteF ⟨_, rfl, _, rfl, ?_⟩
    cases ha : e.asleep with
    | false =>
      rw [ha] at q
      refine iteF ⟨_, rfl, _, rfl, iteF ⟨_, rfl, _, _, _, _, rfl, rfl, hht, at_of (j := 0) rfl rfl, ?_⟩⟩
      exact q _ hpt
    | true =>
      rw [ha] at q
      refine iteT ⟨_, rfl, _, rfl, _, rfl, _, rfl, ?_⟩
      cases hg : C.goes with
      | true =>
        rw [hg] at q
        refine iteF ⟨_, rfl, _, _, _, _, rfl, rfl, hht, at_of (j := 0) rfl rfl, ?_⟩
        exact q _ hpt
      | false =>
        rw [hg] at q
        refine iteT ?_
        exact q _ Im.non_
def sp_clock_bounds (K : PySem.W.Frag) (CF : Addr) : Sp := fun vs H Q _ => ∃ (p ra : Addr) (F : Fm) (own : List Addr) (dev n c : Int) (e : Ev) (i : Nat) (h : HdM) (v x : V), vs = [.ref p, .ref ra, .int c, .int (i : Int), x] ∧ FrI K CF H p F own ∧ SqT K H ra [.int dev, .int n, v] ∧ 0 ≤ c ∧ c < F.clocks.length ∧ Im K H (evP e) v ∧ e.deed.place < 9 ∧ i < e.shown.length ∧ Im K H (hdP h) x ∧ Six (clOf F c).kinds h.kind ∧ KdC (kdOf (clOf F c).kinds h.kind) ∧
  ∀ (a : Addr) (H' : Hp), Same H H' → H a = none → LsI K H' a ((clockM (clOf F c) c dev n e (e.shown.getD i 0) h).map bdP) → Q (.ref a) H'
set_option maxHeartbeats 4000000 in
theorem ok_clock_bounds {f : Addr} {fd : FuncData} {CF : Addr} (TF : Ck_Frame K mg CF) (D : Df K mg "clock_bounds" s_clock_bounds ["frame", "record", "clock", "place", "hand"] f fd) (T : Txt K mg) {f_event_point : Addr} {fd_event_point : FuncData} (D_event_point : Df K mg "event_point" s_event_point ["event"] f_event_point fd_event_point) (G_event_point : FnOk P w K mg base CX0 1 f_event_point fd_event_point ["event"] (sp_event_point K)) {f_at_least_later : Addr} {fd_at_least_later : FuncData} (D_at_least_later : Df K mg "at_least_later" s_at_least_later ["first", "second", "least", "part"] f_at_least_later fd_at_least_later) (G_at_least_later : FnOk P w K mg base CX0 1 f_at_least_later fd_at_least_later ["first", "second", "least", "part"] (sp_at_least_later K)) {f_from_to_later : Addr} {fd_from_to_later : FuncData} (D_from_to_later : Df K mg "from_to_later" s_from_to_later ["first", "second", "least", "most", "part"] f_from_to_later fd_from_to_later) (G_from_to_later : FnOk P w K mg base CX0 2 f_from_to_later fd_from_to_later ["first", "second", "least", "most", "part"] (sp_from_to_later K)) {f_running_since : Addr} {fd_running_since : FuncData} (D_running_since : Df K mg "running_since" s_running_since ["frame", "clock", "event", "hand"] f_running_since fd_running_since) (G_running_since : FnOk P w K mg base CX0 1 f_running_since fd_running_since ["frame", "clock", "event", "hand"] (sp_running_since K CF)) : FnOk P w K mg base CX0 3 f fd ["frame", "record", "clock", "place", "hand"] (sp_clock_bounds K CF) := by
  refine D.F.ok sc_clock_bounds (fun vs H Q E h => ?_) (fun cdv A outer s H vs Q E hr h => ?_)
  · obtain ⟨p, ra, F, own, dev, n, c, e, i, h, v, x, rfl, _⟩ := h
    rfl
  obtain ⟨p, ra, F, own, dev, n, c, e, i, h, v, x, rfl, hF, hra, c0, c1, hv, h9, hi, hx, h6, hkd, q⟩ := h
  refine ⟨_, (pss_cons (ps_asg (pv 1) (pg_tup rfl (pgs_cons (pg_name (i := 10) sc_clock_bounds.nd rfl (Or.inl rfl)) (pgs_cons (pg_name (i := 11) sc_clock_bounds.nd rfl (Or.inl rfl)) (pgs_cons (pg_name (i := 12) sc_clock_bounds.nd rfl (Or.inl rfl)) pgs_nil)))))
    (pss_cons (ps_set (i := 5) sc_clock_bounds.nd rfl (Or.inl rfl) (pe_call G_event_point (hr.mono (by decide)) rfl D_event_point.m D_event_point.F.kp D_event_point.b .nil pass0 (pa_cons (pe_tup (pa_cons (pv 10) (pa_cons (pv 11) pa_nil))) pa_nil)))
    (pss_cons (ps_set (i := 6) sc_clock_bounds.nd rfl (Or.inl rfl) (pe_tup (pa_cons (pv 10) (pa_cons (pv 11) (pa_cons (pv 2) pa_nil)))))
    (C8.pss_cut (ps_asg (pe_ix ix_tup (pe_ix ix_tup (pe_ix ix_list (pe_fld (pv 0) rfl) (pv 2) (fun _ _ => rfl)) pe_int (fun _ _ => rfl)) (pe_ix ix_tup (pv 4) pe_int (fun _ _ => rfl)) (fun _ _ => rfl)) (pg_tup rfl (pgs_cons (pg_name (i := 13) sc_clock_bounds.nd rfl (Or.inl rfl)) (pgs_cons (pg_name (i := 14) sc_clock_bounds.nd rfl (Or.inl rfl)) (pgs_cons (pg_name (i := 15) sc_clock_bounds.nd rfl (Or.inl rfl)) pgs_nil)))))
    (pss_cons (ps_set (i := 7) sc_clock_bounds.nd rfl (Or.inl rfl) (pe_call G_running_since (hr.mono (by decide)) rfl D_running_since.m D_running_since.F.kp D_running_since.b .nil pass0 (pa_cons (pv 0) (pa_cons (pv 2) (pa_cons (pv 12) (pa_cons (pv 4) pa_nil))))))
    (pss_cons (ps_if (pt_cmpR op_isN (pv 7) pe_non (nomark _))
      (pss_one (ps_ret (pe_call G_from_to_later (hr.mono (by decide)) rfl D_from_to_later.m D_from_to_later.F.kp D_from_to_later.b .nil pass0 (pa_cons (pv 6) (pa_cons (pv 5) (pa_cons pe_int (pa_cons (pv 15) (pa_cons (pv 2) pa_nil))))))))
      pss_nil)
    (C8.pss_cut (ps_set (i := 8) sc_clock_bounds.nd rfl (Or.inl rfl) (pe_op op_sub (pe_ix ix_tup (pe_ix ix_tup (pv 12) pe_int (fun _ _ => rfl)) (pv 3) (fun _ _ => rfl)) (pe_ix ix_tup (pv 4) pe_int (fun _ _ => rfl))))
    (pss_cons (ps_if (pt_cmpR op_eq (pv 8) pe_int (nomark _))
      (pss_one (ps_ret (pe_call G_from_to_later (hr.mono (by decide)) rfl D_from_to_later.m D_from_to_later.F.kp D_from_to_later.b .nil pass0 (pa_cons (pv 7) (pa_cons (pv 5) (pa_cons pe_int (pa_cons (pv 15) (pa_cons (pv 2) pa_nil))))))))
      pss_nil)
    (pss_cons (ps_set (i := 9) sc_clock_bounds.nd rfl (Or.inl rfl) (pe_call G_from_to_later (hr.mono (by decide)) rfl D_from_to_later.m D_from_to_later.F.kp D_from_to_later.b .nil pass0 (pa_cons (pv 7) (pa_cons (pv 6) (pa_cons (pe_op op_mul (pv 14) (pv 8)) (pa_cons (pe_op op_mul (pv 15) (pv 8)) (pa_cons (pv 2) pa_nil)))))))
    (pss_cons (ps_expr (pe_bm PySem.F.plainAttrs_list PySem.F.slot_list_append PySem.F.type_list_append mt_append (pv 9) (pa_cons (pe_call G_at_least_later (hr.mono (by decide)) rfl D_at_least_later.m D_at_least_later.F.kp D_at_least_later.b .nil pass0 (pa_cons (pv 7) (pa_cons (pv 6) (pa_cons pe_int (pa_cons (pv 2) pa_nil))))) pa_nil)))
    (pss_cons (ps_expr (pe_bm PySem.F.plainAttrs_list PySem.F.slot_list_append PySem.F.type_list_append mt_append (pv 9) (pa_cons (pe_call G_at_least_later (hr.mono (by decide)) rfl D_at_least_later.m D_at_least_later.F.kp D_at_least_later.b .nil pass0 (pa_cons (pe_call G_event_point (hr.mono (by decide)) rfl D_event_point.m D_event_point.F.kp D_event_point.b .nil pass0 (pa_cons (pe_tup (pa_cons (pv 10) (pa_cons (pe_op op_sub (pv 11) pe_int) pa_nil))) pa_nil)) (pa_cons (pv 6) (pa_cons (pe_op op_mul (pv 14) (pe_op op_sub (pv 8) pe_int)) (pa_cons (pv 2) pa_nil))))) pa_nil)))
    (pss_cons (ps_expr (pe_bm PySem.F.plainAttrs_list PySem.F.slot_list_extend PySem.F.type_list_extend mt_extend (pv 9) (pa_cons (pe_call G_from_to_later (hr.mono (by decide)) rfl D_from_to_later.m D_from_to_later.F.kp D_from_to_later.b .nil pass0 (pa_cons (pv 6) (pa_cons (pv 5) (pa_cons pe_int (pa_cons (pv 15) (pa_cons (pv 2) pa_nil)))))) pa_nil)))
    (pss_one (ps_ret (pv 9))))))))))))))), ?_⟩
  have hF0 := hF
  have hv0 := hv
  have hx0 := hx
  obtain ⟨dx, dd, cc, l, s, _, hp, _, ⟨vs, hc, hI⟩, _, _⟩ := hF
  obtain ⟨ea, e1, e2, ed, e3, rfl, het, i1, _, _, _⟩ := Im.unev hv
  obtain ⟨sa, rfl, hst⟩ := Im.unints i1
  obtain ⟨ha, hx1, rfl, hht, hpt⟩ := Im.unhd hx
  obtain ⟨ca, ta, ws, hca, hct, htt, hks⟩ := cl_at hI c0 c1
  obtain ⟨ka, hka, hkt⟩ := kd_at hks h6
  obtain ⟨klo, hi2, hhi, khi⟩ := hkd
  have ehi : hiOf (kdOf (clOf F c).kinds h.kind) = hi2 := by unfold hiOf; rw [hhi]; rfl
  unfold clockM at q
  rw [ehi] at q
  rw [hhi] at hkt
  refine ⟨_, rfl, _, _, rfl, hra, rfl, _, _, rfl, _, _, rfl, _, _, rfl, rfl, ?_⟩
  refine ⟨_, rfl, _, rfl, (by show 2 ≤ sizeLine; decide), fun a1 n1 => ?_⟩
  generalize e1 : upd H a1 _ = H1
  obtain ⟨s1, h1⟩ := fr e1 n1
  clear e1
  refine ⟨a1, dev, n, rfl, SqT.of h1, fun hv2 H2 s2 ih2 => ?_⟩
  refine ⟨_, rfl, _, rfl, _, rfl, (by show 3 ≤ sizeLine; decide), fun a3 n3 => ?_⟩
  generalize e3 : upd H2 a3 _ = H3
  obtain ⟨s3, h3⟩ := fr e3 n3
  clear e3
  have it3 : Im K H3 (ptP ⟨dev, n, c⟩) (.ref a3) := ptI (SqT.of h3)
  have ih3 := Im.mono (.of s3) _ ih2
  have s03 := s1.trans (s2.trans s3)
  have k03 := TupK.of s03
  refine ⟨fun σ H' => ∃ z : V, σ = [some (.ref p), some (.ref ra), some (.int c), some (.int (i : Int)), some (.ref ha), some hv2, some (.ref a3), none, none, none, some (.int dev), some (.int n), some (.ref ea), some z, some (.int (kdOf (clOf F c).kinds h.kind).low), some (.int hi2)] ∧ H3 = H', ?_, ?_⟩
  · refine ⟨_, rfl, p, CF, dx, _, _, rfl, s03 _ _ hp, TF.cl, TF.n_clocks, lk_Frame_clocks, _, rfl, _, _, _, _, rfl, rfl, SqL.of (s03 _ _ hc), hca, _, _, _, _, rfl, rfl, k03.sq hct, at_of (j := 3) rfl rfl, _, rfl, _, _, _, _, rfl, rfl, k03.sq hht, at_of (j := 2) rfl rfl, _, _, _, _, rfl, rfl, k03.sq htt, hka, _, _, rfl, k03.sq hkt, rfl, _, _, rfl, _, _, rfl, _, _, rfl, rfl, ?_⟩
    exact ⟨_, rfl, rfl⟩
  rintro σ H' ⟨z, rfl, rfl⟩
  refine ⟨_, rfl, _, rfl, _, rfl, _, rfl, p, F, own, c, e, h, _, _, rfl, hF0.keep s03, c0, c1, Im.mono k03 _ hv0, h9, Im.mono k03 _ hx0, fun u hu => ?_⟩
  generalize sinceM (clOf F c).goes e h = o at hu q
  cases o with
  | none =>
    dsimp only at q
    have eu := Im.unn hu
    refine ⟨_, rfl, rfl, _, rfl, ite2 (fun _ => ?_) (fun g => absurd (decide_eq_true eu) g)⟩
    exact ⟨_, rfl, _, rfl, _, rfl, _, rfl, _, _, ⟨dev, n, c⟩, ⟨dev, n, -1⟩, 0, _, c, rfl, it3, ih3, fun a4 H4 s4 n4 i4 => q a4 H4 (s03.trans s4) (s03.free n4) i4⟩
  | some t =>
    dsimp only at q
    have hu : Im K H3 (ptP t) u := hu
    obtain ⟨ua, eu, _⟩ := Im.unpt hu
    refine ⟨_, rfl, rfl, _, rfl, ite2 (fun g => absurd (of_decide_eq_true g) (by rw [eu]; intro z; cases z)) (fun _ => ?_)⟩
    refine ⟨fun σ H' => σ = [some (.ref p), some (.ref ra), some (.int c), some (.int (i : Int)), some (.ref ha), some hv2, some (.ref a3), some u, some (.int (e.shown.getD i 0 - h.shown)), none, some (.int dev), some (.int n), some (.ref ea), some z, some (.int (kdOf (clOf F c).kinds h.kind).low), some (.int hi2)] ∧ H3 = H', ?_, ?_⟩
    · refine ⟨_, rfl, _, _, _, _, rfl, rfl, k03.sq het, at_of (j := 1) rfl rfl, _, rfl, _, _, _, _, rfl, rfl, k03.sq hst, int_at hi, _, rfl, _, _, _, _, rfl, rfl, k03.sq hht, at_of (j := 1) rfl rfl, _, _, rfl, rfl, rfl, rfl⟩
    rintro σ H' ⟨rfl, rfl⟩
    refine ⟨_, rfl, rfl, _, rfl, ite2 (fun g => ?_) (fun g => ?_)⟩
    · have ge : e.shown.getD i 0 - h.shown = 0 := vint_eq g
      simp only [if_pos ge] at q
      exact ⟨_, rfl, _, rfl, _, rfl, _, rfl, _, _, t, ⟨dev, n, -1⟩, 0, _, c, rfl, hu, ih3, fun a4 H4 s4 n4 i4 => q a4 H4 (s03.trans s4) (s03.free n4) i4⟩
    · have ge : e.shown.getD i 0 - h.shown ≠ 0 := vint_ne g
      simp only [if_neg ge] at q
      refine ⟨_, rfl, _, rfl, _, rfl, _, rfl, _, _, rfl, rfl, mul64 klo, _, rfl, _, rfl, _, _, rfl, rfl, mul64 khi, _, rfl, _, _, t, ⟨dev, n, c⟩, _, _, c, rfl, hu, it3, fun a4 H4 s4 n4 i4 => ?_⟩
      have hu4 := Im.mono (.of s4) _ hu
      have it4 := Im.mono (.of s4) _ it3
      obtain ⟨w4, hw4⟩ := i4.lst
      refine ⟨_, rfl, .inl ⟨rfl, _, SqL.of hw4⟩, _, rfl, _, rfl, _, rfl, _, _, t, ⟨dev, n, c⟩, 0, c, rfl, hu4, it4, fun v5 H5 s5 i5 => ?_⟩
      obtain ⟨w5, hw5, hl5, i6⟩ := (i4.keep s5).snoc i5
      refine ⟨_, _, _, rfl, rfl, hw5, by rw [hl5]; exact sizes' (by show 2 ≤ 100000; decide), ?_⟩
      have s35 := s4.trans s5
      have n4' := s03.free n4
      have k56 : TupK H5 (upd H5 a4 (.lst (w5 ++ [v5]))) := .set hw5
      generalize e6 : upd H5 a4 _ = H6 at *
      obtain ⟨b6, h6⟩ := stt e6
      clear e6
      obtain ⟨w6, hw6, _⟩ := id i6
      refine ⟨_, rfl, .inl ⟨rfl, _, SqL.of hw6⟩, _, rfl, _, rfl, _, _, rfl, rfl, (by show 2 ≤ sizeLine; decide), fun a7 n7 => ?_⟩
      generalize e7 : upd H6 a7 _ = H7
      obtain ⟨s7, h7⟩ := fr e7 n7
      clear e7
      refine ⟨a7, dev, n - 1, rfl, SqT.of h7, fun v8 H8 s8 i8 => ?_⟩
      have k38 := (TupK.of s35).trans (k56.trans ((TupK.of s7).trans (TupK.of s8)))
      refine ⟨_, rfl, _, rfl, _, rfl, _, _, rfl, rfl, _, _, rfl, rfl, mul64 klo, _, rfl, _, _, ⟨dev, n - 1, -1⟩, ⟨dev, n, c⟩, _, c, rfl, i8, Im.mono k38 _ it3, fun v9 H9 s9 i9 => ?_⟩
      have s69 := s7.trans (s8.trans s9)
      obtain ⟨w9, hw9, hl9, i10⟩ := (i6.keep s69).snoc i9
      refine ⟨_, _, _, rfl, rfl, hw9, by rw [hl9]; exact sizes' (by show 3 ≤ 100000; decide), ?_⟩
      have k9 : TupK H9 (upd H9 a4 (.lst (w9 ++ [v9]))) := .set hw9
      generalize e10 : upd H9 a4 _ = H10 at *
      obtain ⟨b10, h10⟩ := stt e10
      clear e10
      obtain ⟨w10, hw10, _⟩ := id i10
      have k310 := k38.trans ((TupK.of s9).trans k9)
      refine ⟨_, rfl, .inl ⟨rfl, _, SqL.of hw10⟩, _, rfl, _, rfl, _, rfl, _, rfl, _, _, ⟨dev, n, c⟩, ⟨dev, n, -1⟩, 0, _, c, rfl, Im.mono k310 _ it3, Im.mono k310 _ ih3, fun a11 H11 s11 n11 i11 => ?_⟩
      obtain ⟨w11, u11, hw11, hu11, hl11, hm11, i12⟩ := (i10.keep s11).app i11
      refine ⟨_, _, _, _, rfl, rfl, hw11, hu11, by rw [hl11, hm11]; exact sizes (by show 4 + 2 ≤ 100000; decide), ?_⟩
      refine ⟨_, rfl, q a4 _ (fun b o hb => ?_) n4' ?_⟩
      · have nb : b ≠ a4 := ne_of_none hb n4'
        rw [upd_ne nb]
        exact s11 _ _ (b10 _ _ nb (s69 _ _ (b6 _ _ nb (s35 _ _ (s03 _ _ hb)))))
      · simp only [List.map_append]
        exact i12
def sp_kind_given (K : PySem.W.Frag) : Sp := fun vs H Q _ => ∃ (d : Dd) (c : Int) (i : Nat) (v : V), vs = [v, .int c, .int (i : Int)] ∧ Im K H (ddP d) v ∧ d.place < 9 ∧ (d.place ≠ 8 → d.nums.length = arity d.place) ∧ (d.place = 8 → i < d.nums.length) ∧ Q (hiV (givenM d c i)) H
theorem ok_kind_given {f : Addr} {fd : FuncData} (D : Df K mg "kind_given" s_kind_given ["deed", "clock", "place"] f fd) (T : Txt K mg) : FnOk P w K mg base CX0 1 f fd ["deed", "clock", "place"] (sp_kind_given K) := by
  refine D.F.ok sc_kind_given (fun vs H Q E h => ?_) (fun cdv A outer s H vs Q E hr h => ?_)
  · obtain ⟨d, c, i, v, rfl, _⟩ := h
    rfl
  obtain ⟨d, c, i, v, rfl, hd, h9, har, h8, q⟩ := h
  refine ⟨_, (pss_cons (ps_if (pt_cmpR op_eq (pe_ix ix_tup (pv 0) pe_int (fun _ _ => rfl)) pe_str (nomark _))
      (pss_one (ps_ret (pe_ix ix_tup (pe_ix ix_tup (pv 0) pe_int (fun _ _ => rfl)) (pv 2) (fun _ _ => rfl))))
      pss_nil)
    (pss_cons (ps_if (PW.pt (pw_and (pt_cmpR op_eq (pe_ix ix_tup (pv 0) pe_int (fun _ _ => rfl)) pe_str (nomark _)) (pw_and1 (pt_cmpR op_eq (pe_ix ix_tup (pv 0) pe_int (fun _ _ => rfl)) (pv 1) (nomark _)))))
      (pss_one (ps_ret (pe_ix ix_tup (pv 0) pe_int (fun _ _ => rfl))))
      pss_nil)
    (pss_one (ps_ret pe_non)))), ?_⟩
  obtain ⟨da, z, rest, rfl, hz, hdt, hrest⟩ := Im.undd h9 hd
  unfold givenM at q
  refine ⟨_, rfl, _, _, _, _, rfl, rfl, hdt, at_of (j := 0) rfl rfl, rfl, _, rfl, ?_⟩
  rw [dn_is hz (show deedNames[8]? = some (Str.ofString "anew") from rfl)]
  refine ite2 (fun g => ?_) (fun g => ?_)
  · have g8 := of_decide_eq_true g
    rw [if_pos g8] at q
    rcases hrest with ⟨_, b, rfl, hb⟩ | ⟨n8, _⟩
    · have hi := h8 g8
      rw [List.getElem?_eq_getElem hi] at q
      refine ⟨_, rfl, _, _, _, _, rfl, rfl, hdt, at_of (j := 1) rfl rfl, _, rfl, _, _, _, _, rfl, rfl, hb, at_of (j := i) (v := V.int d.nums[i]) rfl (by rw [List.getElem?_map, List.getElem?_eq_getElem hi]; rfl), ?_⟩
      exact q
    · exact absurd g8 n8
  have n8 : d.place ≠ 8 := fun e => g (decide_eq_true e)
  rw [if_neg n8] at q
  rcases hrest with ⟨e8, _⟩ | ⟨_, rfl⟩
  · exact absurd e8 n8
  refine ⟨_, rfl, _, _, _, _, rfl, rfl, hdt, at_of (j := 0) rfl rfl, rfl, _, rfl, ?_⟩
  rw [dn_is hz (show deedNames[1]? = some (Str.ofString "kind") from rfl)]
  refine ite2 (fun g1 => ?_) (fun g1 => iteF ?_)
  · have e1 := of_decide_eq_true g1
    have hl := har n8
    rw [e1] at hl
    obtain ⟨x, y, hxy⟩ := two_of hl
    rw [hxy] at hdt q
    refine ⟨_, rfl, _, _, _, _, rfl, rfl, hdt, at_of (j := 1) rfl rfl, _, rfl, rfl, _, rfl, ite2 (fun g2 => ?_) (fun g2 => ?_)⟩
    · have e2 := vint_eq g2
      subst e2
      rw [if_pos ⟨e1, rfl⟩] at q
      refine ⟨_, rfl, _, _, _, _, rfl, rfl, hdt, at_of (j := 2) rfl rfl, ?_⟩
      exact q
    · have e2 := vint_ne g2
      rw [if_neg (fun h => e2 (Option.some.inj h.2))] at q
      exact q
  · have e1 : d.place ≠ 1 := fun e => g1 (decide_eq_true e)
    rw [if_neg (fun h => e1 h.1)] at q
    exact q
def sp_hand_after (K : PySem.W.Frag) (CF : Addr) : Sp := fun vs H Q _ => ∃ (p ra : Addr) (F : Fm) (own : List Addr) (dev n c : Int) (e : Ev) (i : Nat) (h : HdM) (v x : V), vs = [.ref p, .ref ra, .int c, .int (i : Int), x] ∧ FrI K CF H p F own ∧ SqT K H ra [.int dev, .int n, v] ∧ 0 ≤ c ∧ c < F.clocks.length ∧ Im K H (evP e) v ∧ e.deed.place < 9 ∧ (e.deed.place ≠ 8 → e.deed.nums.length = arity e.deed.place) ∧ (e.deed.place = 8 → i < e.deed.nums.length) ∧ i < e.shown.length ∧ i < e.after.length ∧ Im K H (hdP h) x ∧
  ∀ (y : V) (H' : Hp), Same H H' → Im K H' (hdP (handM (clOf F c) c dev n e i h)) y → Q y H'
set_option maxHeartbeats 1000000 in
theorem ok_hand_after {f : Addr} {fd : FuncData} {CF : Addr} (TF : Ck_Frame K mg CF) (D : Df K mg "hand_after" s_hand_after ["frame", "record", "clock", "place", "hand"] f fd) (T : Txt K mg) {f_event_point : Addr} {fd_event_point : FuncData} (D_event_point : Df K mg "event_point" s_event_point ["event"] f_event_point fd_event_point) (G_event_point : FnOk P w K mg base CX0 1 f_event_point fd_event_point ["event"] (sp_event_point K)) {f_running_since : Addr} {fd_running_since : FuncData} (D_running_since : Df K mg "running_since" s_running_since ["frame", "clock", "event", "hand"] f_running_since fd_running_since) (G_running_since : FnOk P w K mg base CX0 1 f_running_since fd_running_since ["frame", "clock", "event", "hand"] (sp_running_since K CF)) {f_kind_given : Addr} {fd_kind_given : FuncData} (D_kind_given : Df K mg "kind_given" s_kind_given ["deed", "clock", "place"] f_kind_given fd_kind_given) (G_kind_given : FnOk P w K mg base CX0 1 f_kind_given fd_kind_given ["deed", "clock", "place"] (sp_kind_given K)) : FnOk P w K mg base CX0 2 f fd ["frame", "record", "clock", "place", "hand"] (sp_hand_after K CF) := by
  refine D.F.ok sc_hand_after (fun vs H Q E h => ?_) (fun cdv A outer s H vs Q E hr h => ?_)
  · obtain ⟨p, ra, F, own, dev, n, c, e, i, h, v, x, rfl, _⟩ := h
    rfl
  obtain ⟨p, ra, F, own, dev, n, c, e, i, h, v, x, rfl, hF, hra, c0, c1, hv, h9, har, h8, hi, hia, hx, q⟩ := h
  refine ⟨_, (pss_cons (ps_asg (pv 1) (pg_tup rfl (pgs_cons (pg_name (i := 9) sc_hand_after.nd rfl (Or.inl rfl)) (pgs_cons (pg_name (i := 10) sc_hand_after.nd rfl (Or.inl rfl)) (pgs_cons (pg_name (i := 11) sc_hand_after.nd rfl (Or.inl rfl)) pgs_nil)))))
    (C8.pss_cut (ps_set (i := 5) sc_hand_after.nd rfl (Or.inl rfl) (pe_ix ix_tup (pe_ix ix_tup (pv 11) pe_int (fun _ _ => rfl)) (pv 3) (fun _ _ => rfl)))
    (pss_cons (ps_set (i := 6) sc_hand_after.nd rfl (Or.inl rfl) (pe_ix ix_tup (pe_ix ix_tup (pv 11) pe_int (fun _ _ => rfl)) (pv 3) (fun _ _ => rfl)))
    (C8.pss_cut (ps_set (i := 7) sc_hand_after.nd rfl (Or.inl rfl) (pe_call G_kind_given (hr.mono (by decide)) rfl D_kind_given.m D_kind_given.F.kp D_kind_given.b .nil pass0 (pa_cons (pe_ix ix_tup (pv 11) pe_int (fun _ _ => rfl)) (pa_cons (pv 2) (pa_cons (pv 3) pa_nil)))))
    (pss_cons (ps_if (pt_cmpR op_notN (pv 7) pe_non (nomark _))
      (pss_one (ps_ret (pe_tup (pa_cons (pe_call G_event_point (hr.mono (by decide)) rfl D_event_point.m D_event_point.F.kp D_event_point.b .nil pass0 (pa_cons (pe_tup (pa_cons (pv 9) (pa_cons (pv 10) pa_nil))) pa_nil)) (pa_cons (pv 6) (pa_cons (pv 7) pa_nil))))))
      pss_nil)
    (pss_cons (ps_if (pt_cmpR op_ne (pv 6) (pv 5) (nomark _))
      (pss_one (ps_ret (pe_tup (pa_cons (pe_call G_event_point (hr.mono (by decide)) rfl D_event_point.m D_event_point.F.kp D_event_point.b .nil pass0 (pa_cons (pe_tup (pa_cons (pv 9) (pa_cons (pv 10) pa_nil))) pa_nil)) (pa_cons (pv 6) (pa_cons (pe_ix ix_tup (pv 4) pe_int (fun _ _ => rfl)) pa_nil))))))
      pss_nil)
    (C8.pss_cut (ps_set (i := 8) sc_hand_after.nd rfl (Or.inl rfl) (pe_call G_running_since (hr.mono (by decide)) rfl D_running_since.m D_running_since.F.kp D_running_since.b .nil pass0 (pa_cons (pv 0) (pa_cons (pv 2) (pa_cons (pv 11) (pa_cons (pv 4) pa_nil))))))
    (pss_cons (ps_if (PW.pt (pw_and (pt_cmpR op_notN (pv 8) pe_non (nomark _)) (pw_and1 (pt_cmpR op_eq (pv 5) (pe_ix ix_tup (pv 4) pe_int (fun _ _ => rfl)) (nomark _)))))
      (pss_one (ps_ret (pv 4)))
      pss_nil)
    (pss_one (ps_ret (pe_tup (pa_cons (pe_tup (pa_cons (pv 9) (pa_cons (pv 10) (pa_cons (pv 2) pa_nil)))) (pa_cons (pv 5) (pa_cons (pe_ix ix_tup (pv 4) pe_int (fun _ _ => rfl)) pa_nil)))))))))))))), ?_⟩
  have hv0 := hv
  have hx0 := hx
  obtain ⟨ea, e1, e2, ed, e3, rfl, het, i1, i2, i3, _⟩ := Im.unev hv
  obtain ⟨sa, rfl, hst⟩ := Im.unints i1
  obtain ⟨aa, rfl, hat⟩ := Im.unints i2
  obtain ⟨ha, hx1, rfl, hht, hpt⟩ := Im.unhd hx
  unfold handM at q
  refine ⟨_, rfl, _, _, rfl, hra, rfl, _, _, rfl, _, _, rfl, _, _, rfl, rfl, ?_⟩
  refine ⟨fun σ H' => σ = [some (.ref p), some (.ref ra), some (.int c), some (.int (i : Int)), some (.ref ha), some (.int (e.shown.getD i 0)), none, none, none, some (.int dev), some (.int n), some (.ref ea)] ∧ H = H', ?_, ?_⟩
  · exact ⟨_, rfl, _, _, _, _, rfl, rfl, het, at_of (j := 1) rfl rfl, _, rfl, _, _, _, _, rfl, rfl, hst, int_at hi, rfl, rfl⟩
  rintro σ H' ⟨rfl, rfl⟩
  refine ⟨_, rfl, _, _, _, _, rfl, rfl, het, at_of (j := 2) rfl rfl, _, rfl, _, _, _, _, rfl, rfl, hat, int_at hia, ?_⟩
  refine ⟨fun σ H' => σ = [some (.ref p), some (.ref ra), some (.int c), some (.int (i : Int)), some (.ref ha), some (.int (e.shown.getD i 0)), some (.int (e.after.getD i 0)), some (hiV (givenM e.deed c i)), none, some (.int dev), some (.int n), some (.ref ea)] ∧ H = H', ?_, ?_⟩
  · exact ⟨_, rfl, _, _, _, _, rfl, rfl, het, at_of (j := 3) rfl rfl, _, rfl, _, rfl, e.deed, c, i, ed, rfl, i3, h9, har, h8, rfl, rfl⟩
  rintro σ H' ⟨rfl, rfl⟩
  generalize givenM e.deed c i = o at *
  cases o with
  | some k =>
    dsimp only at q
    refine ⟨_, rfl, rfl, _, rfl, ite2 (fun g => ?_) (fun g => absurd (by rw [decide_eq_false (show ¬ (hiV (some k)) = V.non from by intro z; cases z)]; rfl) g)⟩
    refine ⟨_, rfl, _, rfl, (by show 2 ≤ sizeLine; decide), fun a1 n1 => ?_⟩
    generalize e1 : upd H a1 _ = H1
    obtain ⟨s1, h1⟩ := fr e1 n1
    clear e1
    refine ⟨a1, dev, n, rfl, SqT.of h1, fun v2 H2 s2 i2 => ?_⟩
    refine ⟨_, rfl, _, rfl, (by show 3 ≤ sizeLine; decide), fun a3 n3 => ?_⟩
    generalize e3 : upd H2 a3 _ = H3
    obtain ⟨s3, h3⟩ := fr e3 n3
    clear e3
    exact q _ H3 (s1.trans (s2.trans s3)) (hdI (h := ⟨some ⟨dev, n, -1⟩, e.after.getD i 0, k⟩) (SqT.of h3) (Im.mono (.of s3) _ i2))
  | none =>
    dsimp only at q
    refine ⟨_, rfl, rfl, _, rfl, ite2 (fun g => absurd g (by rw [decide_eq_true (show (hiV none) = V.non from rfl)]; decide)) (fun g => ?_)⟩
    refine ⟨_, rfl, _, rfl, rfl, _, rfl, ite2 (fun g => ?_) (fun g => ?_)⟩
    · have ne : e.after.getD i 0 ≠ e.shown.getD i 0 := vne_int g
      rw [if_pos ne] at q
      refine ⟨_, rfl, _, rfl, (by show 2 ≤ sizeLine; decide), fun a1 n1 => ?_⟩
      generalize e1 : upd H a1 _ = H1
      obtain ⟨s1, h1⟩ := fr e1 n1
      clear e1
      refine ⟨a1, dev, n, rfl, SqT.of h1, fun v2 H2 s2 i2 => ?_⟩
      have k2 := TupK.of (s1.trans s2)
      refine ⟨_, rfl, _, rfl, _, _, _, _, rfl, rfl, k2.sq hht, at_of (j := 2) rfl rfl, (by show 3 ≤ sizeLine; decide), fun a3 n3 => ?_⟩
      generalize e3 : upd H2 a3 _ = H3
      obtain ⟨s3, h3⟩ := fr e3 n3
      clear e3
      exact q _ H3 (s1.trans (s2.trans s3)) (hdI (h := ⟨some ⟨dev, n, -1⟩, e.after.getD i 0, h.kind⟩) (SqT.of h3) (Im.mono (.of s3) _ i2))
    · have eq : e.after.getD i 0 = e.shown.getD i 0 := by
        by_cases h : e.after.getD i 0 = e.shown.getD i 0
        · exact h
        · exact absurd (by rw [decide_eq_false (show ¬ V.int (e.after.getD i 0) = V.int (e.shown.getD i 0) from fun z => h (by injection z))]; rfl) g
      rw [if_neg (fun z => z eq)] at q
      refine ⟨fun σ H' => ∃ u, σ = [some (.ref p), some (.ref ra), some (.int c), some (.int (i : Int)), some (.ref ha), some (.int (e.shown.getD i 0)), some (.int (e.after.getD i 0)), some (hiV none), some u, some (.int dev), some (.int n), some (.ref ea)] ∧ Im K H (opP (sinceM (clOf F c).goes e h)) u ∧ H = H', ?_, ?_⟩
      · exact ⟨_, rfl, _, rfl, _, rfl, _, rfl, p, F, own, c, e, h, _, _, rfl, hF, c0, c1, hv0, h9, hx0, fun u hu => ⟨u, rfl, hu, rfl⟩⟩
      rintro σ H' ⟨u, rfl, hu, rfl⟩
      generalize sinceM (clOf F c).goes e h = o at *
      have last : ∀ (y : HdM), y = ⟨some ⟨dev, n, c⟩, e.shown.getD i 0, h.kind⟩ → (∀ (w : V) (H' : Hp), Same H H' → Im K H' (hdP y) w → Q w H') → ∀ (a1 : Addr) (H1 : Hp), Same H H1 → H1 a1 = some (.tup [V.int dev, V.int n, V.int c]) → ∀ a3, H1 a3 = none → Q (.ref a3) (upd H1 a3 (.tup [V.ref a1, V.int (e.shown.getD i 0), V.int h.kind])) := by
        intro y ey q a1 H1 s1 h1 a3 n3
        subst ey
        generalize e3 : upd H1 a3 _ = H3
        obtain ⟨s3, h3⟩ := fr e3 n3
        clear e3
        exact q _ H3 (s1.trans s3) (hdI (h := ⟨some ⟨dev, n, c⟩, e.shown.getD i 0, h.kind⟩) (SqT.of h3) (ptI (SqT.of (s3 _ _ h1))))
      cases o with
      | none =>
        have eu := Im.unn hu
        rw [if_neg (fun z => absurd z.1 (by decide))] at q
        refine ⟨_, rfl, rfl, _, rfl, ite2 (fun g => absurd g (by rw [decide_eq_true eu]; decide)) (fun _ => iteF ?_)⟩
        refine ⟨_, rfl, _, rfl, _, rfl, (by show 3 ≤ sizeLine; decide), fun a1 n1 => ?_⟩
        generalize e1 : upd H a1 _ = H1
        obtain ⟨s1, h1⟩ := fr e1 n1
        clear e1
        exact ⟨_, rfl, _, rfl, _, _, _, _, rfl, rfl, sTup s1 hht, at_of (j := 2) rfl rfl, (by show 3 ≤ sizeLine; decide), fun a3 n3 => last _ rfl q a1 H1 s1 h1 a3 n3⟩
      | some t =>
        obtain ⟨ua, eu, _⟩ := Im.unpt (show Im K H (ptP t) u from hu)
        refine ⟨_, rfl, rfl, _, rfl, ite2 (fun _ => ?_) (fun g => absurd (by rw [decide_eq_false (show ¬ u = V.non from by rw [eu]; intro z; cases z)]; rfl) g)⟩
        refine ⟨_, rfl, _, rfl, _, _, _, _, rfl, rfl, hht, at_of (j := 1) rfl rfl, rfl, _, rfl, ite2 (fun g => ?_) (fun g => ?_)⟩
        · have ge := vint_eq g
          rw [if_pos ⟨rfl, ge⟩] at q
          exact ⟨_, rfl, q _ H (fun _ _ z => z) hx0⟩
        · have ge := vint_ne g
          rw [if_neg (fun z => ge z.2)] at q
          refine ⟨_, rfl, _, rfl, _, rfl, (by show 3 ≤ sizeLine; decide), fun a1 n1 => ?_⟩
          generalize e1 : upd H a1 _ = H1
          obtain ⟨s1, h1⟩ := fr e1 n1
          clear e1
          exact ⟨_, rfl, _, rfl, _, _, _, _, rfl, rfl, sTup s1 hht, at_of (j := 2) rfl rfl, (by show 3 ≤ sizeLine; decide), fun a3 n3 => last _ rfl q a1 H1 s1 h1 a3 n3⟩
def sp_hands_after (K : PySem.W.Frag) (CF : Addr) : Sp := fun vs H Q _ => ∃ (p ra hl : Addr) (F : Fm) (own : List Addr) (dev n : Int) (e : Ev) (hs : List HdM) (k : Option Int) (v : V), vs = [.ref p, .ref ra, .ref hl] ∧ FrI K CF H p F own ∧ F.clocks.length ≤ 100 ∧ SqT K H ra [.int dev, .int n, v] ∧ Im K H (evP e) v ∧ LsI K H hl (hs.map hdP) ∧ EvFit F dev e hs k ∧
  ∀ (h : Addr) (H' : Hp), Same H H' → H h = none → LsI K H' h ((evH F dev n e hs).map hdP) → Q (.ref h) H'
theorem ok_hands_after {f : Addr} {fd : FuncData} {CF : Addr} (TF : Ck_Frame K mg CF) (D : Df K mg "hands_after" s_hands_after ["frame", "record", "hands"] f fd) (T : Txt K mg) {f_hand_after : Addr} {fd_hand_after : FuncData} (D_hand_after : Df K mg "hand_after" s_hand_after ["frame", "record", "clock", "place", "hand"] f_hand_after fd_hand_after) (G_hand_after : FnOk P w K mg base CX0 2 f_hand_after fd_hand_after ["frame", "record", "clock", "place", "hand"] (sp_hand_after K CF)) {f_Frame_clocks_of : Addr} {fd_Frame_clocks_of : FuncData} (M_Frame_clocks_of : Mt K CF "clocks_of" "Frame.clocks_of" s_Frame_clocks_of ["self", "device"] f_Frame_clocks_of fd_Frame_clocks_of) (G_Frame_clocks_of : FnOk P w K mg base CX0 1 f_Frame_clocks_of fd_Frame_clocks_of ["self", "device"] (sp_Frame_clocks_of K CF)) : FnOk P w K mg base CX0 3 f fd ["frame", "record", "hands"] (sp_hands_after K CF) := by
  refine D.F.ok sc_hands_after (fun vs H Q E h => ?_) (fun cdv A outer s H vs Q E hr h => ?_)
  · obtain ⟨p, ra, hl, F, own, dev, n, e, hs, k, v, rfl, _⟩ := h
    rfl
  obtain ⟨p, ra, hl, F, own, dev, n, e, hs, k, v, rfl, hF, h100, hra, hv, hhl, hfit, q⟩ := h
  refine ⟨_, (pss_cons (ps_set (i := 3) sc_hands_after.nd rfl (Or.inl rfl) (pe_meth (pv 0) TF.cl M_Frame_clocks_of.m G_Frame_clocks_of (hr.mono (by decide)) M_Frame_clocks_of.b .nil pass0 (pa_cons (pe_ix ix_tup (pv 1) pe_int (fun _ _ => rfl)) pa_nil)))
    (pss_one (ps_ret (pe_lc (own := [("place", 4), ("clock", 5)]) (g := (gTup K 2 (gCons (gName 4) (gCons (gName 5) gNil)))) (tt := tYes) rfl sc_hands_after.nd (pi_enum rfl T.enumerate (pa_cons (pv 3) pa_nil)) (blkOk_by (own := [("place", 4), ("clock", 5)]) (N := nm_hands_after) (sc := defScope s_hands_after) (by decide +kernel)) (fun _ _ _ _ _ => (pg_tup rfl (pgs_cons (pg_name (i := 4) sc_hands_after.nd rfl (Or.inl rfl)) (pgs_cons (pg_name (i := 5) sc_hands_after.nd rfl (Or.inl rfl)) pgs_nil)))) (fun _ _ _ _ _ => pts_nil) (fun _ _ _ _ _ => (pe_call G_hand_after (hr.mono (by decide)) rfl D_hand_after.m D_hand_after.F.kp D_hand_after.b .nil pass0 (pa_cons (pv 0) (pa_cons (pv 1) (pa_cons (pv 5) (pa_cons (pv 4) (pa_cons (pe_ix (r := rIxL K) ix_list (pv 2) (pv 4) (fun _ _ => rfl)) pa_nil))))))))))), ?_⟩
  have hF0 := hF
  have hv0 := hv
  obtain ⟨dx, d_, c_, l_, s_, _, hp, _⟩ := hF
  refine ⟨_, rfl, p, dx, _, rfl, hp, no_Frame, _, rfl, _, _, _, _, rfl, rfl, hra, at_of (j := 0) rfl rfl, p, F, own, dev, rfl, hF0, h100, fun l8 H8 s8 n8 h8 => ?_⟩
  have ncl : (cks F dev).length ≤ 100 := Nat.le_trans (ckN_len _ _ _) h100
  refine ⟨_, rfl, l8, _, rfl, SqL.of h8, fun D hD => lc_it (walk_enum (K := K) (a := l8) (xs := (cks F dev).map V.int)) (fun i H' => Same H8 H' ∧ LsI K H' D (((List.range i).map (cH F dev n e hs)).map hdP)) ⟨same_upd hD, _, upd_same, ImL.nil_⟩ (fun i H' _ p => SqL.of (p.1 _ _ h8)) ?_ ?_⟩
  · rintro i x H9 H10 hi ⟨sm, hL⟩ ⟨T, x1, x2, rfl, nT, rfl, hx1, hx2⟩
    cases hx1
    rw [List.length_map] at hi
    have hx2 : ((cks F dev).map V.int)[i]? = some x2 := hx2
    rw [List.getElem?_map, getD_ix (d := 0) hi] at hx2
    cases hx2
    obtain ⟨sT, hT⟩ := fr (rfl : upd H9 T (.tup [.int (i : Nat), .int ((cks F dev).getD i 0)]) = _) nT
    generalize upd H9 T (.tup [.int (i : Nat), .int ((cks F dev).getD i 0)]) = H10 at *
    have s010 : Same H H10 := s8.trans (sm.trans sT)
    have k010 := TupK.of s010
    obtain ⟨c0, c1⟩ := cks_in (F := F) (dev := dev) hi
    obtain ⟨ws, hws, hwi⟩ := id hhl
    have hsl : (hs.map hdP).length = (cks F dev).length := by rw [List.length_map]; exact hfit.hl
    obtain ⟨dd, vv, hd1, hd2, hd3⟩ := list_at (j := (i : Int)) hwi (by omega) (by rw [hsl]; omega)
    obtain ⟨hm, hhm, rfl⟩ := map_get hd1
    have ehm : hm = hs.getD i dfH := by
      have := getD_ix (d := dfH) (xs := hs) (i := i) (by rw [hfit.hl]; exact hi)
      rw [show ((i : Int)).toNat = i from by omega] at hhm
      rw [hhm] at this
      exact Option.some.inj this
    subst ehm
    refine ⟨T, _, rfl, SqT.of hT, rfl, _, _, rfl, _, _, rfl, rfl, rfl, _, rfl, _, rfl, _, rfl, _, rfl, _, rfl, _, rfl, _, _, _, _, rfl, rfl, SqL.of (s010 _ _ hws), hd2, p, ra, F, own, dev, n, (cks F dev).getD i 0, e, i, hs.getD i dfH, _, _, rfl, hF0.keep s010, k010.sq hra, c0, c1, Im.mono k010 _ hv0, hfit.pl, hfit.ar, fun h8 => by rw [hfit.an h8]; exact hi, by rw [hfit.sh]; exact hi, by rw [hfit.af]; exact hi, Im.mono k010 _ hd3, fun y H12 s12 i12 => ?_⟩
    obtain ⟨x7, g7, m7, i13⟩ := ((hL.keep sT).keep s12).snoc i12
    refine ⟨x7, g7, by rw [m7, List.length_map, List.length_map, List.length_range]; exact sizes' (by omega), fun b u h => ?_, ?_⟩
    · rw [upd_ne (ne_of_none h hD)]
      exact s12 _ _ (sT _ _ (sm _ _ h))
    · rw [rangeH, List.map_append]
      exact i13
  · rintro H9 ⟨sm, hL⟩
    rw [List.length_map] at hL
    exact q D H9 (s8.trans sm) (s8.free hD) hL
def sp_Frame_source_part (K : PySem.W.Frag) (CF : Addr) : Sp := fun vs H Q _ => ∃ (p : Addr) (F : Fm) (own : List Addr) (i : Int), vs = [.ref p, .int i] ∧ FrI K CF H p F own ∧ Q (.int ((F.clocks.length : Int) + F.links.length + i)) H
theorem ok_Frame_source_part {f : Addr} {fd : FuncData} {CF : Addr} (TF : Ck_Frame K mg CF) (D : Mt K CF "source_part" "Frame.source_part" s_Frame_source_part ["self", "source"] f fd) (T : Txt K mg) : FnOk P w K mg base CX0 1 f fd ["self", "source"] (sp_Frame_source_part K CF) := by
  refine D.F.ok sc_Frame_source_part (fun vs H Q E h => ?_) (fun cdv A outer s H vs Q E hr h => ?_)
  · obtain ⟨p, F, own, i, rfl, _⟩ := h
    rfl
  obtain ⟨p, F, own, i, rfl, ⟨dx, d, c, l, s, _, hp, _, ⟨vs, hc, hI⟩, ⟨ws, hl, hJ⟩, _⟩, q⟩ := h
  refine ⟨_, (pss_one (ps_ret (pe_op op_add (pe_op op_add (pe_callB call_len_seq rfl T.len PySem.boot_len (pa_cons (pe_fld (pv 0) rfl) pa_nil)) (pe_callB call_len_seq rfl T.len PySem.boot_len (pa_cons (pe_fld (pv 0) rfl) pa_nil))) (pv 1)))), ?_⟩
  refine ⟨_, rfl, p, CF, dx, _, _, rfl, hp, TF.cl, TF.n_clocks, lk_Frame_clocks, _, _, rfl, .inl (SqL.of hc), _, rfl, p, CF, dx, _, _, rfl, hp, TF.cl, TF.n_links, lk_Frame_links, _, _, rfl, .inl (SqL.of hl), _, _, rfl, rfl, _, rfl, _, _, rfl, rfl, ?_⟩
  rw [hI.len, List.length_map, hJ.len, List.length_map]
  exact q
theorem three_of {ns : List Int} (h : ns.length = 3) : ∃ x y z, ns = [x, y, z] := by
  match ns, h with
  | [x, y, z], _ => exact ⟨x, y, z, rfl⟩
def sp_mark_bounds (K : PySem.W.Frag) (CF : Addr) : Sp := fun vs H Q _ => ∃ (p : Addr) (F : Fm) (own : List Addr) (here : Pt) (d : Dd) (x v : V), vs = [.ref p, x, v] ∧ FrI K CF H p F own ∧ Im K H (ptP here) x ∧ Im K H (ddP d) v ∧ d.place = 2 ∧ d.nums.length = 3 ∧ 0 ≤ d.nums.getD 0 0 ∧ d.nums.getD 0 0 < F.sources.length ∧ Six (srOf F (d.nums.getD 0 0)).kinds (d.nums.getD 1 0) ∧ (kdOf (srOf F (d.nums.getD 0 0)).kinds (d.nums.getD 1 0)).high.isSome = true ∧
  ∀ (a : Addr) (H' : Hp), Same H H' → H a = none → LsI K H' a ((markM F here d).map bdP) → Q (.ref a) H'
set_option maxHeartbeats 1000000 in
theorem ok_mark_bounds {f : Addr} {fd : FuncData} {CF : Addr} (TF : Ck_Frame K mg CF) (D : Df K mg "mark_bounds" s_mark_bounds ["frame", "here", "deed"] f fd) (T : Txt K mg) {a_START : Addr} (c_START : TupC K mg "START" a_START [(-1), 0, (-1)]) {f_from_to_later : Addr} {fd_from_to_later : FuncData} (D_from_to_later : Df K mg "from_to_later" s_from_to_later ["first", "second", "least", "most", "part"] f_from_to_later fd_from_to_later) (G_from_to_later : FnOk P w K mg base CX0 2 f_from_to_later fd_from_to_later ["first", "second", "least", "most", "part"] (sp_from_to_later K)) {f_Frame_source_part : Addr} {fd_Frame_source_part : FuncData} (M_Frame_source_part : Mt K CF "source_part" "Frame.source_part" s_Frame_source_part ["self", "source"] f_Frame_source_part fd_Frame_source_part) (G_Frame_source_part : FnOk P w K mg base CX0 1 f_Frame_source_part fd_Frame_source_part ["self", "source"] (sp_Frame_source_part K CF)) : FnOk P w K mg base CX0 3 f fd ["frame", "here", "deed"] (sp_mark_bounds K CF) := by
  refine D.F.ok sc_mark_bounds (fun vs H Q E h => ?_) (fun cdv A outer s H vs Q E hr h => ?_)
  · obtain ⟨p, F, own, here, d, x, v, rfl, _⟩ := h
    rfl
  obtain ⟨p, F, own, here, d, x, v, rfl, hF, hx, hd, h2, h3, s0, s1, hs, hsome, q⟩ := h
  refine ⟨_, (pss_cons (ps_asg (pv 2) (pg_tup rfl (pgs_cons (pg_name (i := 3) sc_mark_bounds.nd rfl (Or.inl rfl)) (pgs_cons (pg_name (i := 4) sc_mark_bounds.nd rfl (Or.inl rfl)) (pgs_cons (pg_name (i := 5) sc_mark_bounds.nd rfl (Or.inl rfl)) (pgs_cons (pg_name (i := 6) sc_mark_bounds.nd rfl (Or.inl rfl)) pgs_nil))))))
    (C8.pss_cut (ps_asg (pe_ix ix_tup (pe_ix ix_tup (pe_ix ix_list (pe_fld (pv 0) rfl) (pv 4) (fun _ _ => rfl)) pe_int (fun _ _ => rfl)) (pv 5) (fun _ _ => rfl)) (pg_tup rfl (pgs_cons (pg_name (i := 3) sc_mark_bounds.nd rfl (Or.inl rfl)) (pgs_cons (pg_name (i := 7) sc_mark_bounds.nd rfl (Or.inl rfl)) (pgs_cons (pg_name (i := 8) sc_mark_bounds.nd rfl (Or.inl rfl)) pgs_nil)))))
    (pss_one (ps_ret (pe_call G_from_to_later (hr.mono (by decide)) rfl D_from_to_later.m D_from_to_later.F.kp D_from_to_later.b .nil pass0 (pa_cons (pe_glob (v := V.ref a_START) rfl c_START.m rfl) (pa_cons (pv 1) (pa_cons (pe_op op_sub (pv 6) (pv 7)) (pa_cons (pe_op op_add (pv 6) (pv 8)) (pa_cons (pe_meth (pv 0) TF.cl M_Frame_source_part.m G_Frame_source_part (hr.mono (by decide)) M_Frame_source_part.b .nil pass0 (pa_cons (pv 4) pa_nil)) pa_nil)))))))))), ?_⟩
  have hF0 := hF
  obtain ⟨dx, dd, cc, l, s, _, hp, _, _, _, ⟨ss, hss, hI⟩⟩ := hF
  obtain ⟨da, z, rest, rfl, hz, hdt, hrest⟩ := Im.undd (by omega) hd
  rcases hrest with ⟨e8, _⟩ | ⟨_, rfl⟩
  · exact absurd (h2.symm.trans e8) (by decide)
  obtain ⟨so, ki, va, hn⟩ := three_of h3
  unfold markM at q
  rw [hn] at hdt s0 s1 hs hsome q
  have s0 : 0 ≤ so := s0
  have s1 : so < (F.sources.length : Int) := s1
  have hs : Six (srOf F so).kinds ki := hs
  obtain ⟨ca, ta, ws, hca, hct, htt, hks⟩ := sr_at hI s0 s1
  obtain ⟨ka, hka, hkt⟩ := kd_at hks hs
  obtain ⟨hi, hhi⟩ := Option.isSome_iff_exists.mp hsome
  have hhi : (kdOf (srOf F so).kinds ki).high = some hi := hhi
  have ehi : hiOf (kdOf (srOf F so).kinds ki) = hi := by unfold hiOf; rw [hhi]; rfl
  have q : ∀ (a : Addr) (H' : Hp), Same H H' → H a = none → LsI K H' a ((ftl stP here (va - (kdOf (srOf F so).kinds ki).low) (va + hiOf (kdOf (srOf F so).kinds ki)) ((F.clocks.length : Int) + F.links.length + so)).map bdP) → Q (.ref a) H' := q
  rw [ehi] at q
  rw [hhi] at hkt
  refine ⟨_, rfl, _, _, rfl, hdt, rfl, _, _, rfl, _, _, rfl, _, _, rfl, _, _, rfl, rfl, ?_⟩
  refine ⟨fun σ H' => ∃ z, σ = [some (.ref p), some x, some (.ref da), some z, some (.int so), some (.int ki), some (.int va), some (.int (kdOf (srOf F so).kinds ki).low), some (.int hi)] ∧ H = H', ?_, ?_⟩
  · exact ⟨_, rfl, p, CF, dx, _, _, rfl, hp, TF.cl, TF.n_sources, lk_Frame_sources, _, rfl, _, _, _, _, rfl, rfl, SqL.of hss, hca, _, _, _, _, rfl, rfl, hct, at_of (j := 2) rfl rfl, _, rfl, _, _, _, _, rfl, rfl, htt, hka, _, _, rfl, hkt, rfl, _, _, rfl, _, _, rfl, _, _, rfl, rfl, _, rfl, rfl⟩
  rintro σ H' ⟨z, rfl, rfl⟩
  exact ⟨_, rfl, _, rfl, _, rfl, _, _, rfl, rfl, _, rfl, _, rfl, _, _, rfl, rfl, _, rfl, p, dx, _, rfl, hp, no_Frame, _, rfl, p, F, own, so, rfl, hF0, V.ref a_START, x, stP, here, va - (kdOf (srOf F so).kinds ki).low, va + hi, (F.clocks.length : Int) + F.links.length + so, rfl, ptI (c_START.sq H), hx, q⟩
def sp_Frame_link_part (K : PySem.W.Frag) (CF : Addr) : Sp := fun vs H Q _ => ∃ (p : Addr) (F : Fm) (own : List Addr) (i : Int), vs = [.ref p, .int i] ∧ FrI K CF H p F own ∧ Q (.int ((F.clocks.length : Int) + i)) H
theorem ok_Frame_link_part {f : Addr} {fd : FuncData} {CF : Addr} (TF : Ck_Frame K mg CF) (D : Mt K CF "link_part" "Frame.link_part" s_Frame_link_part ["self", "link"] f fd) (T : Txt K mg) : FnOk P w K mg base CX0 1 f fd ["self", "link"] (sp_Frame_link_part K CF) := by
  refine D.F.ok sc_Frame_link_part (fun vs H Q E h => ?_) (fun cdv A outer s H vs Q E hr h => ?_)
  · obtain ⟨p, F, own, i, rfl, _⟩ := h
    rfl
  obtain ⟨p, F, own, i, rfl, ⟨dx, d, c, l, s, _, hp, _, ⟨vs, hc, hI⟩, _, _⟩, q⟩ := h
  refine ⟨_, (pss_one (ps_ret (pe_op op_add (pe_callB call_len_seq rfl T.len PySem.boot_len (pa_cons (pe_fld (pv 0) rfl) pa_nil)) (pv 1)))), ?_⟩
  refine ⟨_, rfl, p, CF, dx, _, _, rfl, hp, TF.cl, TF.n_clocks, lk_Frame_clocks, _, _, rfl, .inl (SqL.of hc), _, rfl, _, _, rfl, rfl, ?_⟩
  rw [hI.len, List.length_map]
  exact q
def sp_hear_bounds (K : PySem.W.Frag) (CF : Addr) : Sp := fun vs H Q _ => ∃ (p : Addr) (F : Fm) (own : List Addr) (here : Pt) (d : Dd) (k : Option Int) (x v : V), vs = [.ref p, x, v, hiV k] ∧ FrI K CF H p F own ∧ Im K H (ptP here) x ∧ Im K H (ddP d) v ∧ d.place = 5 ∧ d.nums.length = 2 ∧ 0 ≤ d.nums.getD 0 0 ∧ d.nums.getD 0 0 < F.links.length ∧ (∀ j, k = some j → Six (lkOf F (d.nums.getD 0 0)).kinds j) ∧
  ∀ (a : Addr) (H' : Hp), Same H H' → H a = none → LsI K H' a ((hearM F here d k).map bdP) → Q (.ref a) H'
set_option maxHeartbeats 1000000 in
theorem ok_hear_bounds {f : Addr} {fd : FuncData} {CF : Addr} (TF : Ck_Frame K mg CF) (D : Df K mg "hear_bounds" s_hear_bounds ["frame", "here", "deed", "kind"] f fd) (T : Txt K mg) {t_NO_PART : Tok} (g_NO_PART : mg "NO_PART" = some (.int (-1) t_NO_PART)) {f_event_point : Addr} {fd_event_point : FuncData} (D_event_point : Df K mg "event_point" s_event_point ["event"] f_event_point fd_event_point) (G_event_point : FnOk P w K mg base CX0 1 f_event_point fd_event_point ["event"] (sp_event_point K)) {f_at_least_later : Addr} {fd_at_least_later : FuncData} (D_at_least_later : Df K mg "at_least_later" s_at_least_later ["first", "second", "least", "part"] f_at_least_later fd_at_least_later) (G_at_least_later : FnOk P w K mg base CX0 1 f_at_least_later fd_at_least_later ["first", "second", "least", "part"] (sp_at_least_later K)) {f_Frame_link_part : Addr} {fd_Frame_link_part : FuncData} (M_Frame_link_part : Mt K CF "link_part" "Frame.link_part" s_Frame_link_part ["self", "link"] f_Frame_link_part fd_Frame_link_part) (G_Frame_link_part : FnOk P w K mg base CX0 1 f_Frame_link_part fd_Frame_link_part ["self", "link"] (sp_Frame_link_part K CF)) : FnOk P w K mg base CX0 2 f fd ["frame", "here", "deed", "kind"] (sp_hear_bounds K CF) := by
  refine D.F.ok sc_hear_bounds (fun vs H Q E h => ?_) (fun cdv A outer s H vs Q E hr h => ?_)
  · obtain ⟨p, F, own, here, d, k, x, v, rfl, _⟩ := h
    rfl
  obtain ⟨p, F, own, here, d, k, x, v, rfl, hF, hx, hd, h5, h2, l0, l1, hk, q⟩ := h
  refine ⟨_, (pss_cons (ps_asg (pv 2) (pg_tup rfl (pgs_cons (pg_name (i := 6) sc_hear_bounds.nd rfl (Or.inl rfl)) (pgs_cons (pg_name (i := 7) sc_hear_bounds.nd rfl (Or.inl rfl)) (pgs_cons (pg_name (i := 8) sc_hear_bounds.nd rfl (Or.inl rfl)) pgs_nil)))))
    (C8.pss_cut (ps_set (i := 4) sc_hear_bounds.nd rfl (Or.inl rfl) (pe_call G_event_point (hr.mono (by decide)) rfl D_event_point.m D_event_point.F.kp D_event_point.b .nil pass0 (pa_cons (pe_tup (pa_cons (pe_ix ix_tup (pe_ix ix_list (pe_fld (pv 0) rfl) (pv 7) (fun _ _ => rfl)) pe_int (fun _ _ => rfl)) (pa_cons (pv 8) pa_nil))) pa_nil)))
    (pss_cons (ps_set (i := 5) sc_hear_bounds.nd rfl (Or.inl rfl) (pe_lst (pa_cons (pe_call G_at_least_later (hr.mono (by decide)) rfl D_at_least_later.m D_at_least_later.F.kp D_at_least_later.b .nil pass0 (pa_cons (pv 4) (pa_cons (pv 1) (pa_cons pe_int (pa_cons (pe_glob (v := V.int (-1)) rfl g_NO_PART ⟨_, rfl⟩) pa_nil))))) pa_nil)))
    (pss_cons (ps_if (pt_cmpR op_notN (pv 3) pe_non (nomark _))
      (C8.pss_cut (ps_asg (pe_ix ix_tup (pe_ix ix_tup (pe_ix ix_list (pe_fld (pv 0) rfl) (pv 7) (fun _ _ => rfl)) pe_int (fun _ _ => rfl)) (pv 3) (fun _ _ => rfl)) (pg_tup rfl (pgs_cons (pg_name (i := 6) sc_hear_bounds.nd rfl (Or.inl rfl)) (pgs_cons (pg_name (i := 10) sc_hear_bounds.nd rfl (Or.inl rfl)) (pgs_cons (pg_name (i := 11) sc_hear_bounds.nd rfl (Or.inl rfl)) pgs_nil)))))
    (pss_cons (ps_set (i := 9) sc_hear_bounds.nd rfl (Or.inl rfl) (pe_meth (pv 0) TF.cl M_Frame_link_part.m G_Frame_link_part (hr.mono (by decide)) M_Frame_link_part.b .nil pass0 (pa_cons (pv 7) pa_nil)))
    (pss_cons (ps_expr (pe_bm PySem.F.plainAttrs_list PySem.F.slot_list_append PySem.F.type_list_append mt_append (pv 5) (pa_cons (pe_call G_at_least_later (hr.mono (by decide)) rfl D_at_least_later.m D_at_least_later.F.kp D_at_least_later.b .nil pass0 (pa_cons (pv 4) (pa_cons (pv 1) (pa_cons (pv 10) (pa_cons (pv 9) pa_nil))))) pa_nil)))
    (pss_one (ps_if (pt_cmpR op_notN (pv 11) pe_non (nomark _))
      (pss_one (ps_expr (pe_bm PySem.F.plainAttrs_list PySem.F.slot_list_append PySem.F.type_list_append mt_append (pv 5) (pa_cons (pe_tup (pa_cons (pv 4) (pa_cons (pv 1) (pa_cons (pv 11) (pa_cons (pv 9) pa_nil))))) pa_nil))))
      pss_nil)))))
      pss_nil)
    (pss_one (ps_ret (pv 5))))))), ?_⟩
  have hF0 := hF
  obtain ⟨dx, dd, cc, l, s, _, hp, _, _, ⟨ls, hls, hI⟩, _⟩ := hF
  obtain ⟨da, z, rest, rfl, hz, hdt, hrest⟩ := Im.undd (by omega) hd
  rcases hrest with ⟨e8, _⟩ | ⟨_, rfl⟩
  · exact absurd (h5.symm.trans e8) (by decide)
  obtain ⟨li, nu, hn⟩ := two_of h2
  unfold hearM at q
  rw [hn] at hdt l0 l1 hk q
  have l0 : 0 ≤ li := l0
  have l1 : li < (F.links.length : Int) := l1
  have hk : ∀ j, k = some j → Six (lkOf F li).kinds j := hk
  obtain ⟨ca, ta, ws, hca, hct, htt, hks⟩ := lk_at hI l0 l1
  dsimp only at q
  have e0 : ([li, nu] : List Int).getD 0 0 = li := rfl
  have e1 : ([li, nu] : List Int).getD 1 0 = nu := rfl
  rw [e0, e1] at q
  refine ⟨_, rfl, _, _, rfl, hdt, rfl, _, _, rfl, _, _, rfl, _, _, rfl, rfl, ?_⟩
  refine ⟨fun σ H' => ∃ z w, σ = [some (.ref p), some x, some (.ref da), some (hiV k), some w, none, some z, some (.int li), some (.int nu), none, none, none] ∧ Same H H' ∧ Im K H' (ptP ⟨(lkOf F li).s, nu, -1⟩) w, ?_, ?_⟩
  · refine ⟨_, rfl, p, CF, dx, _, _, rfl, hp, TF.cl, TF.n_links, lk_Frame_links, _, rfl, _, _, _, _, rfl, rfl, SqL.of hls, hca, _, _, _, _, rfl, rfl, hct, at_of (j := 1) rfl rfl, _, rfl, (by show 2 ≤ sizeLine; decide), fun a1 n1 => ?_⟩
    generalize e1 : upd H a1 _ = H1
    obtain ⟨s1, h1⟩ := fr e1 n1
    clear e1
    exact ⟨a1, _, nu, rfl, SqT.of h1, fun w H2 s2 i2 => ⟨_, w, rfl, s1.trans s2, i2⟩⟩
  rintro σ H2 ⟨z, w, rfl, s2, i2⟩
  have k2 := TupK.of s2
  refine ⟨_, rfl, _, rfl, _, _, _, here, 0, -1, rfl, i2, Im.mono k2 _ hx, fun v3 H3 s3 i3 => ⟨(by show 1 ≤ sizeLine; decide), fun a4 n4 => ?_⟩⟩
  generalize e4 : upd H3 a4 _ = H4
  obtain ⟨s4, h4⟩ := fr e4 n4
  clear e4
  have s34 := s3.trans s4
  have s04 := s2.trans s34
  have k04 := TupK.of s04
  have n40 : H a4 = none := (s2.trans s3).free n4
  have hL4 : LsI K H4 a4 ([(⟨here, ⟨(lkOf F li).s, nu, -1⟩, -0, -1⟩ : Bd)].map bdP) := ⟨_, h4, ImL.cons_ (Im.mono (.of s4) _ i3) ImL.nil_⟩
  cases k with
  | none =>
    dsimp only at q
    refine ⟨_, rfl, rfl, _, rfl, ite2 (fun g => absurd g (by rw [decide_eq_true (show (hiV none) = V.non from rfl)]; decide)) (fun g => ⟨_, rfl, q a4 H4 s04 n40 ?_⟩)⟩
    rw [List.append_nil]
    exact hL4
  | some j =>
    dsimp only at q
    have hsj := hk j rfl
    obtain ⟨ka, hka, hkt⟩ := kd_at hks hsj
    refine ⟨_, rfl, rfl, _, rfl, ite2 (fun g => ?_) (fun g => absurd (by rw [decide_eq_false (show ¬ (hiV (some j)) = V.non from by intro z; cases z)]; rfl) g)⟩
    refine ⟨fun σ H' => ∃ z, σ = [some (.ref p), some x, some (.ref da), some (.int j), some w, some (.ref a4), some z, some (.int li), some (.int nu), none, some (.int (kdOf (lkOf F li).kinds j).low), some (hiV (kdOf (lkOf F li).kinds j).high)] ∧ H4 = H', ?_, ?_⟩
    · exact ⟨_, rfl, p, CF, dx, _, _, rfl, s04 _ _ hp, TF.cl, TF.n_links, lk_Frame_links, _, rfl, _, _, _, _, rfl, rfl, SqL.of (s04 _ _ hls), hca, _, _, _, _, rfl, rfl, k04.sq hct, at_of (j := 3) rfl rfl, _, rfl, _, _, _, _, rfl, rfl, k04.sq htt, hka, _, _, rfl, k04.sq hkt, rfl, _, _, rfl, _, _, rfl, _, _, rfl, rfl, _, rfl, rfl⟩
    rintro σ H' ⟨z, rfl, rfl⟩
    refine ⟨_, rfl, p, dx, _, rfl, s04 _ _ hp, no_Frame, _, rfl, p, F, own, li, rfl, hF0.keep s04, ?_⟩
    obtain ⟨w4, hw4, _⟩ := id hL4
    refine ⟨_, rfl, .inl ⟨rfl, _, SqL.of hw4⟩, _, rfl, _, rfl, _, rfl, _, rfl, _, _, _, here, _, _, rfl, Im.mono (.of s34) _ i2, Im.mono k04 _ hx, fun v5 H5 s5 i5 => ?_⟩
    obtain ⟨w5, hw5, hl5, i6⟩ := (hL4.keep s5).snoc i5
    refine ⟨_, _, _, rfl, rfl, hw5, by rw [hl5]; exact sizes' (by show 1 ≤ 100000; decide), ?_⟩
    have k56 : TupK H5 (upd H5 a4 (.lst (w5 ++ [v5]))) := .set hw5
    generalize e6 : upd H5 a4 _ = H6 at *
    obtain ⟨b6, h6⟩ := stt e6
    clear e6
    have k46 := (TupK.of s5).trans k56
    have back : ∀ b o, H b = some o → H6 b = some o := fun b o hb => by
      have nb : b ≠ a4 := ne_of_none hb n40
      exact b6 _ _ nb (s5 _ _ (s04 _ _ hb))
    cases hh : (kdOf (lkOf F li).kinds j).high with
    | none =>
      rw [hh] at q
      dsimp only at q
      refine ⟨_, rfl, rfl, _, rfl, ite2 (fun g => absurd g (by rw [decide_eq_true (show (hiV none) = V.non from rfl)]; decide)) (fun g => ⟨_, rfl, q a4 H6 back n40 ?_⟩)⟩
      simp only [List.map_append, List.append_nil]
      exact i6
    | some m =>
      rw [hh] at q
      dsimp only at q
      refine ⟨_, rfl, rfl, _, rfl, ite2 (fun g => ?_) (fun g => absurd (by rw [decide_eq_false (show ¬ (hiV (some m)) = V.non from by intro z; cases z)]; rfl) g)⟩
      obtain ⟨w6, hw6, _⟩ := id i6
      refine ⟨_, rfl, .inl ⟨rfl, _, SqL.of hw6⟩, _, rfl, _, rfl, _, rfl, _, rfl, (by show 4 ≤ sizeLine; decide), fun a7 n7 => ?_⟩
      generalize e7 : upd H6 a7 _ = H7
      obtain ⟨s7, h7⟩ := fr e7 n7
      clear e7
      have k7 := TupK.of s7
      have hw : Im K H7 (ptP ⟨(lkOf F li).s, nu, -1⟩) w := Im.mono k7 _ (Im.mono k46 _ (Im.mono (.of s34) _ i2))
      have hx7 : Im K H7 (ptP here) x := Im.mono k7 _ (Im.mono k46 _ (Im.mono k04 _ hx))
      obtain ⟨w8, hw8, hl8, i9⟩ := (i6.keep s7).snoc (bdI (b := ⟨⟨(lkOf F li).s, nu, -1⟩, here, m, (F.clocks.length : Int) + li⟩) (SqT.of h7) hw hx7)
      refine ⟨_, _, _, rfl, rfl, hw8, by rw [hl8]; exact sizes' (by show 2 ≤ 100000; decide), ?_⟩
      refine ⟨_, rfl, q a4 _ (fun b o hb => ?_) n40 ?_⟩
      · rw [upd_ne (ne_of_none hb n40)]
        exact s7 _ _ (back b o hb)
      · simp only [List.map_append]
        exact i9
theorem sameBut {a : Addr} {H0 H H' : Hp} (e : Same H0 H) (ha : H0 a = none) (s : But a H H') : Same H0 H' := fun c u h => s c u (ne_of_none h ha) (e c u h)
def sp_event_bounds (K : PySem.W.Frag) (CF : Addr) : Sp := fun vs H Q _ => ∃ (p ra hl : Addr) (F : Fm) (own : List Addr) (dev n : Int) (e : Ev) (hs : List HdM) (k : Option Int) (v : V), vs = [.ref p, .ref ra, .ref hl, hiV k] ∧ FrI K CF H p F own ∧ F.clocks.length ≤ 100 ∧ SqT K H ra [.int dev, .int n, v] ∧ Im K H (evP e) v ∧ LsI K H hl (hs.map hdP) ∧ EvFit F dev e hs k ∧
  ∀ (t b h : Addr) (H' : Hp), Same H H' → H b = none → H h = none → b ≠ h → SqT K H' t [.ref b, .ref h] → LsI K H' b ((evB F dev n e hs k).map bdP) → LsI K H' h ((evH F dev n e hs).map hdP) → Q (.ref t) H'
set_option maxHeartbeats 2000000 in
theorem ok_event_bounds {f : Addr} {fd : FuncData} {CF : Addr} (TF : Ck_Frame K mg CF) (D : Df K mg "event_bounds" s_event_bounds ["frame", "record", "hands", "kind"] f fd) (T : Txt K mg) {t_NO_PART : Tok} (g_NO_PART : mg "NO_PART" = some (.int (-1) t_NO_PART)) {f_event_point : Addr} {fd_event_point : FuncData} (D_event_point : Df K mg "event_point" s_event_point ["event"] f_event_point fd_event_point) (G_event_point : FnOk P w K mg base CX0 1 f_event_point fd_event_point ["event"] (sp_event_point K)) {f_at_least_later : Addr} {fd_at_least_later : FuncData} (D_at_least_later : Df K mg "at_least_later" s_at_least_later ["first", "second", "least", "part"] f_at_least_later fd_at_least_later) (G_at_least_later : FnOk P w K mg base CX0 1 f_at_least_later fd_at_least_later ["first", "second", "least", "part"] (sp_at_least_later K)) {f_clock_bounds : Addr} {fd_clock_bounds : FuncData} (D_clock_bounds : Df K mg "clock_bounds" s_clock_bounds ["frame", "record", "clock", "place", "hand"] f_clock_bounds fd_clock_bounds) (G_clock_bounds : FnOk P w K mg base CX0 3 f_clock_bounds fd_clock_bounds ["frame", "record", "clock", "place", "hand"] (sp_clock_bounds K CF)) {f_hands_after : Addr} {fd_hands_after : FuncData} (D_hands_after : Df K mg "hands_after" s_hands_after ["frame", "record", "hands"] f_hands_after fd_hands_after) (G_hands_after : FnOk P w K mg base CX0 3 f_hands_after fd_hands_after ["frame", "record", "hands"] (sp_hands_after K CF)) {f_mark_bounds : Addr} {fd_mark_bounds : FuncData} (D_mark_bounds : Df K mg "mark_bounds" s_mark_bounds ["frame", "here", "deed"] f_mark_bounds fd_mark_bounds) (G_mark_bounds : FnOk P w K mg base CX0 3 f_mark_bounds fd_mark_bounds ["frame", "here", "deed"] (sp_mark_bounds K CF)) {f_hear_bounds : Addr} {fd_hear_bounds : FuncData} (D_hear_bounds : Df K mg "hear_bounds" s_hear_bounds ["frame", "here", "deed", "kind"] f_hear_bounds fd_hear_bounds) (G_hear_bounds : FnOk P w K mg base CX0 2 f_hear_bounds fd_hear_bounds ["frame", "here", "deed", "kind"] (sp_hear_bounds K CF)) {f_Frame_clocks_of : Addr} {fd_Frame_clocks_of : FuncData} (M_Frame_clocks_of : Mt K CF "clocks_of" "Frame.clocks_of" s_Frame_clocks_of ["self", "device"] f_Frame_clocks_of fd_Frame_clocks_of) (G_Frame_clocks_of : FnOk P w K mg base CX0 1 f_Frame_clocks_of fd_Frame_clocks_of ["self", "device"] (sp_Frame_clocks_of K CF)) : FnOk P w K mg base CX0 4 f fd ["frame", "record", "hands", "kind"] (sp_event_bounds K CF) := by
  refine D.F.ok sc_event_bounds (fun vs H Q E h => ?_) (fun cdv A outer s H vs Q E hr h => ?_)
  · obtain ⟨p, ra, hl, F, own, dev, n, e, hs, k, v, rfl, _⟩ := h
    rfl
  obtain ⟨p, ra, hl, F, own, dev, n, e, hs, k, v, rfl, hF, h100, hra, hv, hhl, hfit, q⟩ := h
  refine ⟨_, (pss_cons (ps_asg (pv 1) (pg_tup rfl (pgs_cons (pg_name (i := 7) sc_event_bounds.nd rfl (Or.inl rfl)) (pgs_cons (pg_name (i := 8) sc_event_bounds.nd rfl (Or.inl rfl)) (pgs_cons (pg_name (i := 9) sc_event_bounds.nd rfl (Or.inl rfl)) pgs_nil)))))
    (pss_cons (ps_set (i := 4) sc_event_bounds.nd rfl (Or.inl rfl) (pe_call G_event_point (hr.mono (by decide)) rfl D_event_point.m D_event_point.F.kp D_event_point.b .nil pass0 (pa_cons (pe_tup (pa_cons (pv 7) (pa_cons (pv 8) pa_nil))) pa_nil)))
    (C8.pss_cut (ps_set (i := 5) sc_event_bounds.nd rfl (Or.inl rfl) (pe_ix ix_tup (pv 9) pe_int (fun _ _ => rfl)))
    (pss_cons (ps_set (i := 6) sc_event_bounds.nd rfl (Or.inl rfl) (pe_lst (pa_cons (pe_call G_at_least_later (hr.mono (by decide)) rfl D_at_least_later.m D_at_least_later.F.kp D_at_least_later.b .nil pass0 (pa_cons (pe_call G_event_point (hr.mono (by decide)) rfl D_event_point.m D_event_point.F.kp D_event_point.b .nil pass0 (pa_cons (pe_tup (pa_cons (pv 7) (pa_cons (pe_op op_sub (pv 8) pe_int) pa_nil))) pa_nil)) (pa_cons (pv 4) (pa_cons pe_int (pa_cons (pe_glob (v := V.int (-1)) rfl g_NO_PART ⟨_, rfl⟩) pa_nil))))) pa_nil)))
    (pss_cons (ps_for PassesOwn.never rfl (pi_enum rfl T.enumerate (pa_cons (pe_meth (pv 0) TF.cl M_Frame_clocks_of.m G_Frame_clocks_of (hr.mono (by decide)) M_Frame_clocks_of.b .nil pass0 (pa_cons (pv 7) pa_nil)) pa_nil)) (pg_tup rfl (pgs_cons (pg_name (i := 10) sc_event_bounds.nd rfl (Or.inl rfl)) (pgs_cons (pg_name (i := 11) sc_event_bounds.nd rfl (Or.inl rfl)) pgs_nil)))
      (pss_one (ps_expr (pe_bm PySem.F.plainAttrs_list PySem.F.slot_list_extend PySem.F.type_list_extend mt_extend (pv 6) (pa_cons (pe_call G_clock_bounds (hr.mono (by decide)) rfl D_clock_bounds.m D_clock_bounds.F.kp D_clock_bounds.b .nil pass0 (pa_cons (pv 0) (pa_cons (pv 1) (pa_cons (pv 11) (pa_cons (pv 10) (pa_cons (pe_ix ix_list (pv 2) (pv 10) (fun _ _ => rfl)) pa_nil)))))) pa_nil)))))
    (C8.pss_cut (ps_if (pt_cmpR op_eq (pe_ix ix_tup (pv 5) pe_int (fun _ _ => rfl)) pe_str (nomark _))
      (pss_one (ps_expr (pe_bm PySem.F.plainAttrs_list PySem.F.slot_list_extend PySem.F.type_list_extend mt_extend (pv 6) (pa_cons (pe_call G_mark_bounds (hr.mono (by decide)) rfl D_mark_bounds.m D_mark_bounds.F.kp D_mark_bounds.b .nil pass0 (pa_cons (pv 0) (pa_cons (pv 4) (pa_cons (pv 5) pa_nil)))) pa_nil))))
      (pss_one (ps_if (pt_cmpR op_eq (pe_ix ix_tup (pv 5) pe_int (fun _ _ => rfl)) pe_str (nomark _))
      (pss_one (ps_expr (pe_bm PySem.F.plainAttrs_list PySem.F.slot_list_extend PySem.F.type_list_extend mt_extend (pv 6) (pa_cons (pe_call G_hear_bounds (hr.mono (by decide)) rfl D_hear_bounds.m D_hear_bounds.F.kp D_hear_bounds.b .nil pass0 (pa_cons (pv 0) (pa_cons (pv 4) (pa_cons (pv 5) (pa_cons (pv 3) pa_nil))))) pa_nil))))
      pss_nil)))
    (pss_one (ps_ret (pe_tup (pa_cons (pv 6) (pa_cons (pe_call G_hands_after (hr.mono (by decide)) rfl D_hands_after.m D_hands_after.F.kp D_hands_after.b .nil pass0 (pa_cons (pv 0) (pa_cons (pv 1) (pa_cons (pv 2) pa_nil)))) pa_nil))))))))))), ?_⟩
  have hF0 := hF
  have hv0 := hv
  obtain ⟨dx, d_, c_, l_, s_, _, hp, _⟩ := hF
  obtain ⟨ea, e1, e2, ed, e3, rfl, het, i1, i2, i3, _⟩ := Im.unev hv
  obtain ⟨da, z, rest, rfl, hz, hdt, _⟩ := Im.undd hfit.pl i3
  refine ⟨_, rfl, _, _, rfl, hra, rfl, _, _, rfl, _, _, rfl, _, _, rfl, rfl, ?_⟩
  refine ⟨_, rfl, _, rfl, (by show 2 ≤ sizeLine; decide), fun a1 n1 => ?_⟩
  generalize e1 : upd H a1 _ = H1
  obtain ⟨s1, h1⟩ := fr e1 n1
  clear e1
  refine ⟨a1, dev, n, rfl, SqT.of h1, fun vh H2 s2 ih2 => ?_⟩
  have s02 := s1.trans s2
  have k02 := TupK.of s02
  refine ⟨fun σ H' => σ = [some (.ref p), some (.ref ra), some (.ref hl), some (hiV k), some vh, some (.ref da), none, some (.int dev), some (.int n), some (.ref ea), none, none] ∧ H2 = H', ?_, ?_⟩
  · exact ⟨_, rfl, _, _, _, _, rfl, rfl, k02.sq het, at_of (j := 3) rfl rfl, rfl, rfl⟩
  rintro σ H' ⟨rfl, rfl⟩
  refine ⟨_, rfl, _, rfl, _, _, rfl, rfl, (by show 2 ≤ sizeLine; decide), fun a3 n3 => ?_⟩
  generalize e3 : upd H2 a3 _ = H3
  obtain ⟨s3, h3⟩ := fr e3 n3
  clear e3
  refine ⟨a3, dev, n - 1, rfl, SqT.of h3, fun vp H4 s4 ip4 => ?_⟩
  refine ⟨_, rfl, _, _, ⟨dev, n - 1, -1⟩, ⟨dev, n, -1⟩, 0, -1, rfl, ip4, Im.mono (.of (s3.trans s4)) _ ih2, fun v5 H5 s5 i5 => ⟨(by show 1 ≤ sizeLine; decide), fun a6 n6 => ?_⟩⟩
  generalize e6 : upd H5 a6 _ = H6
  obtain ⟨s6, h6⟩ := fr e6 n6
  clear e6
  have s05 := s02.trans (s3.trans (s4.trans s5))
  have s06 := s05.trans s6
  have nb : H a6 = none := s05.free n6
  have ih6 : Im K H6 (ptP ⟨dev, n, -1⟩) vh := Im.mono (.of (s3.trans (s4.trans (s5.trans s6)))) _ ih2
  have hB6 : LsI K H6 a6 ([(⟨⟨dev, n, -1⟩, ⟨dev, n - 1, -1⟩, -0, -1⟩ : Bd)].map bdP) := ⟨_, h6, ImL.cons_ (Im.mono (.of s6) _ i5) ImL.nil_⟩
  clear h6 n6 s05 i5 ip4 ih2 s3 s4 s5 s6 h3 n3 h1 n1 s1 s2 s02 k02
  refine ⟨_, rfl, p, dx, _, rfl, s06 _ _ hp, no_Frame, _, rfl, p, F, own, dev, rfl, hF0.keep s06, h100, fun l8 H8 s8 n8 h8 => ?_⟩
  have s08 := s06.trans s8
  obtain ⟨wb, hwb, _⟩ := id (hB6.keep s8)
  have ncl : (cks F dev).length ≤ 100 := Nat.le_trans (ckN_len _ _ _) h100
  have n86 : l8 ≠ a6 := by
    obtain ⟨_, x, _⟩ := id hB6
    exact (ne_of_none x n8).symm
  refine ⟨_, _, rfl, SqL.of h8, for_it (walk_enum (K := K) (a := l8) (xs := (cks F dev).map V.int)) (fun i σ H' => ∃ v11 v12, σ = [some (.ref p), some (.ref ra), some (.ref hl), some (hiV k), some vh, some (.ref da), some (.ref a6), some (.int dev), some (.int n), some (.ref ea), v11, v12] ∧ But a6 H8 H' ∧ LsI K H' a6 ((⟨⟨dev, n, -1⟩, ⟨dev, n - 1, -1⟩, -0, -1⟩ :: (List.range i).flatMap (cB F dev n e hs)).map bdP))
    ⟨none, none, rfl, But.refl _ _, hB6.keep s8⟩ (fun i σ H' _ ⟨_, _, _, b, _⟩ => SqL.of (b _ _ n86 h8)) ?_ ?_⟩
  · rintro i x σ H9 H10 hi ⟨v11, v12, rfl, b9, hB9⟩ ⟨T, x1, x2, rfl, nT, rfl, hx1, hx2⟩
    cases hx1
    rw [List.length_map] at hi
    have hx2 : ((cks F dev).map V.int)[i]? = some x2 := hx2
    rw [List.getElem?_map, getD_ix (d := 0) hi] at hx2
    cases hx2
    obtain ⟨sT, hT⟩ := fr (rfl : upd H9 T (.tup [.int (i : Nat), .int ((cks F dev).getD i 0)]) = _) nT
    generalize upd H9 T (.tup [.int (i : Nat), .int ((cks F dev).getD i 0)]) = H10 at *
    have b10 := b9.trans (But.of sT)
    have s010 := sameBut s08 nb b10
    have k010 := TupK.of s010
    have hB10 := hB9.keep sT
    obtain ⟨c0, c1⟩ := cks_in (F := F) (dev := dev) hi
    obtain ⟨ws, hws, hwi⟩ := id hhl
    have hsl : (hs.map hdP).length = (cks F dev).length := by rw [List.length_map]; exact hfit.hl
    obtain ⟨dd, vv, hd1, hd2, hd3⟩ := list_at (j := (i : Int)) hwi (by omega) (by rw [hsl]; omega)
    obtain ⟨hm, hhm, rfl⟩ := map_get hd1
    have ehm : hm = hs.getD i dfH := by
      have := getD_ix (d := dfH) (xs := hs) (i := i) (by rw [hfit.hl]; exact hi)
      rw [show ((i : Int)).toNat = i from by omega] at hhm
      rw [hhm] at this
      exact Option.some.inj this
    subst ehm
    obtain ⟨w6, hw6, hl6⟩ := id hB10
    refine ⟨T, _, rfl, SqT.of hT, rfl, _, _, rfl, _, _, rfl, rfl, _, rfl, .inl ⟨rfl, _, SqL.of hw6⟩, _, rfl, _, rfl, _, rfl, _, rfl, _, rfl, _, rfl, _, _, _, _, rfl, rfl, SqL.of (s010 _ _ hws), hd2, p, ra, F, own, dev, n, (cks F dev).getD i 0, e, i, hs.getD i dfH, _, _, rfl, hF0.keep s010, k010.sq hra, c0, c1, Im.mono k010 _ hv0, hfit.pl, by rw [hfit.sh]; exact hi, Im.mono k010 _ hd3, hfit.kd i hi, hfit.kc i hi, fun a11 H11 s11 n11 i11 => ?_⟩
    obtain ⟨x6, x11, g6, g11, m6, m11, i12⟩ := (hB10.keep s11).app i11
    have hlen := flatB_len (f := cB F dev n e hs) (fun i => clockM_len _ _ _ _ _ _ _) i
    have hlen2 := clockM_len (clOf F ((cks F dev).getD i 0)) ((cks F dev).getD i 0) dev n e (e.shown.getD i 0) (hs.getD i dfH)
    refine ⟨_, _, _, _, rfl, rfl, g6, g11, by rw [m6, m11, List.length_map, List.length_map, List.length_cons]; exact sizes (by omega), _, _, rfl, b10.trans ((But.of s11).trans But.set), ?_⟩
    rw [rangeB, ← List.cons_append, List.map_append]
    exact i12
  rintro σ H9 ⟨v11, v12, rfl, b9, hB9⟩
  rw [List.length_map] at hB9
  have s09 := sameBut s08 nb b9
  have k09 := TupK.of s09
  have ih9 : Im K H9 (ptP ⟨dev, n, -1⟩) vh := Im.mono ((TupK.of s8).trans (TupK.but b9 hwb)) _ ih6
  have hlen := flatB_len (f := cB F dev n e hs) (fun i => clockM_len _ _ _ _ _ _ _) (cks F dev).length
  obtain ⟨w6, hw6, _⟩ := id hB9
  refine ⟨fun σ H' => σ = [some (.ref p), some (.ref ra), some (.ref hl), some (hiV k), some vh, some (.ref da), some (.ref a6), some (.int dev), some (.int n), some (.ref ea), v11, v12] ∧ Same H H' ∧ LsI K H' a6 ((evB F dev n e hs k).map bdP), ?_, ?_⟩
  · refine ⟨_, rfl, _, _, _, _, rfl, rfl, k09.sq hdt, at_of (j := 0) rfl rfl, rfl, _, rfl, ?_⟩
    rw [dn_is hz (show deedNames[2]? = some (Str.ofString "mark") from rfl)]
    unfold evB restM
    refine ite2 (fun g => ?_) (fun g => ?_)
    · have g2 := of_decide_eq_true g
      rw [if_pos g2]
      obtain ⟨m0, m1, m2, m3⟩ := hfit.ma g2
      refine ⟨_, rfl, .inl ⟨rfl, _, SqL.of hw6⟩, _, rfl, _, rfl, _, rfl, p, F, own, ⟨dev, n, -1⟩, e.deed, _, _, rfl, hF0.keep s09, ih9, Im.mono k09 _ i3, g2, by rw [hfit.ar (by omega), g2]; rfl, m0, m1, m2, m3, fun a10 H10 s10 n10 i10 => ?_⟩
      obtain ⟨x6, x10, g6, g10, l6, l10, i11⟩ := (hB9.keep s10).app i10
      refine ⟨_, _, _, _, rfl, rfl, g6, g10, by rw [l6, l10, List.length_map, List.length_map, List.length_cons]; exact sizes (by show _ + 2 ≤ _; omega), rfl, fun b o hb => ?_, ?_⟩
      · rw [upd_ne (ne_of_none hb nb)]
        exact s10 _ _ (s09 _ _ hb)
      · rw [List.map_append]
        exact i11
    · have g2 : e.deed.place ≠ 2 := fun h => g (decide_eq_true h)
      rw [if_neg g2]
      refine ⟨_, rfl, _, _, _, _, rfl, rfl, k09.sq hdt, at_of (j := 0) rfl rfl, rfl, _, rfl, ?_⟩
      rw [dn_is hz (show deedNames[5]? = some (Str.ofString "hear") from rfl)]
      refine ite2 (fun g => ?_) (fun g => ?_)
      · have g5 := of_decide_eq_true g
        rw [if_pos g5]
        obtain ⟨m0, m1, m2⟩ := hfit.hr g5
        refine ⟨_, rfl, .inl ⟨rfl, _, SqL.of hw6⟩, _, rfl, _, rfl, _, rfl, _, rfl, p, F, own, ⟨dev, n, -1⟩, e.deed, k, _, _, rfl, hF0.keep s09, ih9, Im.mono k09 _ i3, g5, by rw [hfit.ar (by omega), g5]; rfl, m0, m1, m2, fun a10 H10 s10 n10 i10 => ?_⟩
        obtain ⟨x6, x10, g6, g10, l6, l10, i11⟩ := (hB9.keep s10).app i10
        have hl3 := hearM_len F ⟨dev, n, -1⟩ e.deed k
        refine ⟨_, _, _, _, rfl, rfl, g6, g10, by rw [l6, l10, List.length_map, List.length_map, List.length_cons]; exact sizes (by omega), rfl, fun b o hb => ?_, ?_⟩
        · rw [upd_ne (ne_of_none hb nb)]
          exact s10 _ _ (s09 _ _ hb)
        · rw [List.map_append]
          exact i11
      · have g5 : e.deed.place ≠ 5 := fun h => g (decide_eq_true h)
        rw [if_neg g5]
        refine ⟨rfl, s09, ?_⟩
        rw [List.append_nil]
        exact hB9
  rintro σ H10 ⟨rfl, s10, hB10⟩
  refine ⟨_, rfl, _, rfl, _, rfl, _, rfl, p, ra, hl, F, own, dev, n, e, hs, k, _, rfl, hF0.keep s10, h100, (TupK.of s10).sq hra, Im.mono (.of s10) _ hv0, hhl.keep s10, hfit, fun a7 H11 s11 n7 hH => ⟨(by show 2 ≤ sizeLine; decide), fun t nt => ?_⟩⟩
  have st := same_upd (o := .tup [V.ref a6, V.ref a7]) nt
  have nbh : a6 ≠ a7 := by
    obtain ⟨_, x, _⟩ := id hB10
    exact ne_of_none x n7
  exact q t a6 a7 _ (s10.trans (s11.trans st)) nb (s10.free n7) nbh (SqT.of upd_same) ((hB10.keep s11).keep st) (hH.keep st)
def sp_heard_kind (K : PySem.W.Frag) (CF : Addr) : Sp := fun vs H Q _ => ∃ (p v : Addr) (F : Fm) (own : List Addr) (vw : List (List Ev)) (d : Dd) (x : V), vs = [.ref p, .ref v, x] ∧ FrI K CF H p F own ∧ VwI K H v vw ∧ Im K H (ddP d) x ∧ d.place < 9 ∧ (d.place ≠ 8 → d.nums.length = arity d.place) ∧ (d.place = 5 → HeFit F vw d) ∧ Q (hiV (heardM F vw d)) H
set_option maxHeartbeats 1000000 in
theorem ok_heard_kind {f : Addr} {fd : FuncData} {CF : Addr} (TF : Ck_Frame K mg CF) (D : Df K mg "heard_kind" s_heard_kind ["frame", "view", "deed"] f fd) (T : Txt K mg) : FnOk P w K mg base CX0 1 f fd ["frame", "view", "deed"] (sp_heard_kind K CF) := by
  refine D.F.ok sc_heard_kind (fun vs H Q E h => ?_) (fun cdv A outer s H vs Q E hr h => ?_)
  · obtain ⟨p, v, F, own, vw, d, x, rfl, _⟩ := h
    rfl
  obtain ⟨p, v, F, own, vw, d, x, rfl, hF, hV, hd, h9, har, h5, q⟩ := h
  refine ⟨_, (pss_cons (ps_if (pt_cmpR op_ne (pe_ix ix_tup (pv 2) pe_int (fun _ _ => rfl)) pe_str (nomark _))
      (pss_one (ps_ret pe_non))
      pss_nil)
    (C8.pss_cut (ps_set (i := 3) sc_heard_kind.nd rfl (Or.inl rfl) (pe_ix ix_tup (pe_ix ix_list (pe_fld (pv 0) rfl) (pe_ix ix_tup (pv 2) pe_int (fun _ _ => rfl)) (fun _ _ => rfl)) pe_int (fun _ _ => rfl)))
    (C8.pss_cut (ps_set (i := 4) sc_heard_kind.nd rfl (Or.inl rfl) (pe_ix ix_tup (pe_ix ix_list (pe_ix ix_list (pv 1) (pv 3) (fun _ _ => rfl)) (pe_ix ix_tup (pv 2) pe_int (fun _ _ => rfl)) (fun _ _ => rfl)) pe_int (fun _ _ => rfl)))
    (pss_one (ps_ret (pe_ifExp (pt_cmpR op_eq (pe_ix ix_tup (pv 4) pe_int (fun _ _ => rfl)) pe_str (nomark _)) (pe_ix ix_tup (pv 4) pe_int (fun _ _ => rfl)) pe_non)))))), ?_⟩
  obtain ⟨dx, d_, c_, l_, s_, _, hp, _, _, ⟨ls, hls, hI⟩, _⟩ := hF
  obtain ⟨da, z, rest, rfl, hz, hdt, hrest⟩ := Im.undd h9 hd
  unfold heardM at q
  refine ⟨_, rfl, _, _, _, _, rfl, rfl, hdt, at_of (j := 0) rfl rfl, rfl, _, rfl, ?_⟩
  rw [dn_is hz (show deedNames[5]? = some (Str.ofString "hear") from rfl)]
  by_cases e5 : d.place = 5
  · rw [if_pos e5] at q
    rw [decide_eq_true e5]
    refine iteF ?_
    have hl2 := har (by omega)
    rw [e5] at hl2
    obtain ⟨li, nu, hn⟩ := two_of hl2
    rcases hrest with ⟨e8, _⟩ | ⟨_, rfl⟩
    · exact absurd (e5.symm.trans e8) (by decide)
    obtain ⟨l0, l1, s0, s1, n0, n1, wp, war⟩ := h5 e5
    unfold wordOf at q wp war
    rw [hn] at hdt l0 l1 s0 s1 n0 n1 q wp war
    simp only [List.getD_cons_zero, List.getD_cons_succ] at l0 l1 s0 s1 n0 n1 q wp war
    obtain ⟨ca, ta, ws, hca, hct, htt, hks⟩ := lk_at hI l0 l1
    obtain ⟨rows, hv, hE⟩ := hV
    have hrl := hE.1
    have ri : (lkOf F li).s.toNat < rows.length := by omega
    have hrow := hE.2 _ _ _ (List.getElem?_eq_getElem ri) (getD_at (d := []) s0 s1)
    obtain ⟨es, hes, hEs⟩ := hrow
    obtain ⟨dd, ev, g1, g2, g3⟩ := list_at hEs n0 (by rw [List.length_map]; exact n1)
    obtain ⟨e, he, rfl⟩ := map_get g1
    have ee := getD_at (d := dfE) n0 n1
    rw [he] at ee
    have ee := Option.some.inj ee
    subst ee
    obtain ⟨ea, e1, e2, ed, e3, rfl, het, _, _, i3, _⟩ := Im.unev g3
    obtain ⟨wa, w, wrest, rfl, hw, hwt, hwrest⟩ := Im.undd wp i3
    refine ⟨fun σ H' => σ = [some (.ref p), some (.ref v), some (.ref da), some (.int (lkOf F li).s), none] ∧ H = H', ?_, ?_⟩
    · exact ⟨_, rfl, p, CF, dx, _, _, rfl, hp, TF.cl, TF.n_links, lk_Frame_links, _, rfl, _, _, _, _, rfl, rfl, hdt, at_of (j := 1) rfl rfl, _, _, _, _, rfl, rfl, SqL.of hls, hca, _, _, _, _, rfl, rfl, hct, at_of (j := 1) rfl rfl, rfl, rfl⟩
    rintro σ H' ⟨rfl, rfl⟩
    refine ⟨fun σ H' => σ = [some (.ref p), some (.ref v), some (.ref da), some (.int (lkOf F li).s), some (.ref wa)] ∧ H = H', ?_, ?_⟩
    · exact ⟨_, rfl, _, rfl, _, _, _, _, rfl, rfl, SqL.of hv, at_of (j := (lkOf F li).s.toNat) (by omega) (by rw [List.getElem?_map, List.getElem?_eq_getElem ri]; rfl), _, rfl, _, _, _, _, rfl, rfl, hdt, at_of (j := 2) rfl rfl, _, _, _, _, rfl, rfl, SqL.of hes, g2, _, _, _, _, rfl, rfl, het, at_of (j := 3) rfl rfl, rfl, rfl⟩
    rintro σ H' ⟨rfl, rfl⟩
    refine ⟨_, rfl, _, _, _, _, rfl, rfl, hwt, at_of (j := 0) rfl rfl, rfl, _, rfl, ?_⟩
    rw [dn_is hw (show deedNames[3]? = some (Str.ofString "send") from rfl)]
    refine ite2 (fun g => ?_) (fun g => ?_)
    · have g3 := of_decide_eq_true g
      rw [if_pos g3] at q
      obtain ⟨x, y, hxy⟩ := two_of (war g3)
      rcases hwrest with ⟨e8, _⟩ | ⟨_, rfl⟩
      · exact absurd (g3.symm.trans e8) (by decide)
      rw [hxy] at hwt q
      exact ⟨_, rfl, _, _, _, _, rfl, rfl, hwt, at_of (j := 2) rfl rfl, q⟩
    · rw [if_neg (fun h => g (decide_eq_true h))] at q
      exact q
  · rw [if_neg e5] at q
    rw [decide_eq_false e5]
    exact iteT q
def sp_view_bounds (K : PySem.W.Frag) (CF : Addr) : Sp := fun vs H Q _ => ∃ (p v : Addr) (F : Fm) (own : List Addr) (vw : List (List Ev)), vs = [.ref p, .ref v] ∧ FrI K CF H p F own ∧ VwI K H v vw ∧ VwFit F vw ∧
  ∀ (b : Addr) (H' : Hp), Same H H' → H b = none → LsI K H' b ((vwB F vw).map bdP) → Q (.ref b) H'
set_option maxHeartbeats 2000000 in
theorem ok_view_bounds {f : Addr} {fd : FuncData} {CF : Addr} (TF : Ck_Frame K mg CF) (D : Df K mg "view_bounds" s_view_bounds ["frame", "view"] f fd) (T : Txt K mg) {f_first_hands : Addr} {fd_first_hands : FuncData} (D_first_hands : Df K mg "first_hands" s_first_hands ["frame", "device"] f_first_hands fd_first_hands) (G_first_hands : FnOk P w K mg base CX0 2 f_first_hands fd_first_hands ["frame", "device"] (sp_first_hands K CF)) {f_event_bounds : Addr} {fd_event_bounds : FuncData} (D_event_bounds : Df K mg "event_bounds" s_event_bounds ["frame", "record", "hands", "kind"] f_event_bounds fd_event_bounds) (G_event_bounds : FnOk P w K mg base CX0 4 f_event_bounds fd_event_bounds ["frame", "record", "hands", "kind"] (sp_event_bounds K CF)) {f_heard_kind : Addr} {fd_heard_kind : FuncData} (D_heard_kind : Df K mg "heard_kind" s_heard_kind ["frame", "view", "deed"] f_heard_kind fd_heard_kind) (G_heard_kind : FnOk P w K mg base CX0 1 f_heard_kind fd_heard_kind ["frame", "view", "deed"] (sp_heard_kind K CF)) : FnOk P w K mg base CX0 5 f fd ["frame", "view"] (sp_view_bounds K CF) := by
  refine D.F.ok sc_view_bounds (fun vs H Q E h => ?_) (fun cdv A outer s H vs Q E hr h => ?_)
  · obtain ⟨p, v, F, own, vw, rfl, _⟩ := h
    rfl
  obtain ⟨p, v, F, own, vw, rfl, hF, hV, hfit, q⟩ := h
  refine ⟨_, (pss_cons (ps_set (i := 2) sc_view_bounds.nd rfl (Or.inl rfl) (pe_lst pa_nil))
    (pss_cons (ps_for PassesOwn.never rfl (pi_enum rfl T.enumerate (pa_cons (pv 1) pa_nil)) (pg_tup rfl (pgs_cons (pg_name (i := 3) sc_view_bounds.nd rfl (Or.inl rfl)) (pgs_cons (pg_name (i := 4) sc_view_bounds.nd rfl (Or.inl rfl)) pgs_nil)))
      (C8.pss_cut (ps_set (i := 5) sc_view_bounds.nd rfl (Or.inl rfl) (pe_call G_first_hands (hr.mono (by decide)) rfl D_first_hands.m D_first_hands.F.kp D_first_hands.b .nil pass0 (pa_cons (pv 0) (pa_cons (pv 3) pa_nil))))
    (pss_one (ps_for PassesOwn.never rfl (pi_range2 rfl T.range (pa_cons pe_int (pa_cons (pe_callB call_len_seq rfl T.len PySem.boot_len (pa_cons (pv 4) pa_nil)) pa_nil))) (pg_name (i := 6) sc_view_bounds.nd rfl (Or.inl rfl))
      (C8.pss_cut (ps_set (i := 7) sc_view_bounds.nd rfl (Or.inl rfl) (pe_call G_heard_kind (hr.mono (by decide)) rfl D_heard_kind.m D_heard_kind.F.kp D_heard_kind.b .nil pass0 (pa_cons (pv 0) (pa_cons (pv 1) (pa_cons (pe_ix ix_tup (pe_ix ix_list (pv 4) (pv 6) (fun _ _ => rfl)) pe_int (fun _ _ => rfl)) pa_nil)))))
    (C8.pss_cut (ps_asg (pe_call G_event_bounds (hr.mono (by decide)) rfl D_event_bounds.m D_event_bounds.F.kp D_event_bounds.b .nil pass0 (pa_cons (pv 0) (pa_cons (pe_tup (pa_cons (pv 3) (pa_cons (pv 6) (pa_cons (pe_ix ix_list (pv 4) (pv 6) (fun _ _ => rfl)) pa_nil)))) (pa_cons (pv 5) (pa_cons (pv 7) pa_nil))))) (pg_tup rfl (pgs_cons (pg_name (i := 8) sc_view_bounds.nd rfl (Or.inl rfl)) (pgs_cons (pg_name (i := 5) sc_view_bounds.nd rfl (Or.inl rfl)) pgs_nil))))
    (pss_one (ps_expr (pe_bm PySem.F.plainAttrs_list PySem.F.slot_list_extend PySem.F.type_list_extend mt_extend (pv 2) (pa_cons (pv 8) pa_nil))))))))))
    (pss_one (ps_ret (pv 2))))), ?_⟩
  have hV0 := hV
  obtain ⟨rows, hv, hE⟩ := hV
  have hrl := hE.1
  refine ⟨(by show 0 ≤ sizeLine; decide), fun a1 n1 => ?_⟩
  generalize e1 : upd H a1 _ = H1
  obtain ⟨s1, h1⟩ := fr e1 n1
  clear e1
  refine ⟨_, rfl, _, _, rfl, SqL.of (s1 _ _ hv), for_it (walk_enum (K := K) (a := v) (xs := rows.map V.ref)) (fun i σ H' => ∃ v3 v4 v5 v6 v7 v8, σ = [some (.ref p), some (.ref v), some (.ref a1), v3, v4, v5, v6, v7, v8] ∧ Same H H' ∧ LsI K H' a1 (((List.range i).flatMap fun d => (devS F vw d ((vw.getD d []).length - 1)).1).map bdP))
    ⟨none, none, none, none, none, none, rfl, s1, _, h1, ImL.nil_⟩ (fun i σ H' _ ⟨_, _, _, _, _, _, _, s, _⟩ => SqL.of (s _ _ hv)) ?_ ?_⟩
  · rintro d x σ H2 H3 hi ⟨v3, v4, v5, v6, v7, v8, rfl, s2, hB2⟩ ⟨T, x1, x2, rfl, nT, rfl, hx1, hx2⟩
    cases hx1
    rw [List.length_map] at hi
    have hx2 : (rows.map V.ref)[d]? = some x2 := hx2
    obtain ⟨_, rfl⟩ := ref_get hx2
    have hd : d < vw.length := by omega
    obtain ⟨es, hes, hEs⟩ := hE.2 d _ _ (List.getElem?_eq_getElem hi) (getD_ix (d := []) hd)
    obtain ⟨sT, hT⟩ := fr (rfl : upd H2 T (.tup [.int (d : Nat), .ref rows[d]]) = _) nT
    generalize upd H2 T (.tup [.int (d : Nat), .ref rows[d]]) = H3 at *
    have s3 := s2.trans sT
    have hB3 := hB2.keep sT
    have hesl : es.length = (vw.getD d []).length := by rw [hEs.len, List.length_map]
    refine ⟨T, _, rfl, SqT.of hT, rfl, _, _, rfl, _, _, rfl, rfl, ?_⟩
    refine ⟨fun σ H' => ∃ h, σ = [some (.ref p), some (.ref v), some (.ref a1), some (.int (d : Nat)), some (.ref rows[d]), some (.ref h), v6, v7, v8] ∧ Same H H' ∧ h ≠ a1 ∧ LsI K H' a1 (((List.range d).flatMap fun d => (devS F vw d ((vw.getD d []).length - 1)).1).map bdP) ∧ LsI K H' h ((devS F vw d 0).2.map hdP), ?_, ?_⟩
    · refine ⟨_, rfl, _, rfl, p, F, own, (d : Nat), rfl, hF.keep s3, Nat.le_trans hfit.cl (by decide), fun l H4 s4 n4 h4 => ⟨l, rfl, s3.trans s4, ?_, hB3.keep s4, h4⟩⟩
      obtain ⟨_, z, _⟩ := id hB3
      exact (ne_of_none z n4).symm
    rintro σ H4 ⟨h, rfl, s4, nh, hB4, hH4⟩
    have hpre := vwN_len hfit d
    have hvl := hfit.vl
    have hel := hfit.el d
    refine ⟨_, rfl, _, _, rfl, .inl (SqL.of (s4 _ _ hes)), _, _, rfl, ⟨by omega, by omega, by omega, by omega⟩, for_range (lo := 1) (n := ((es.length : Int) - 1).toNat) (fun j σ H' => ∃ h v6 v7 v8, σ = [some (.ref p), some (.ref v), some (.ref a1), some (.int (d : Nat)), some (.ref rows[d]), some (.ref h), v6, v7, v8] ∧ Same H H' ∧ h ≠ a1 ∧ LsI K H' a1 ((((List.range d).flatMap fun d => (devS F vw d ((vw.getD d []).length - 1)).1) ++ (devS F vw d j).1).map bdP) ∧ LsI K H' h ((devS F vw d j).2.map hdP)) ⟨h, _, _, _, rfl, s4, nh, by rw [show (devS F vw d 0).1 = [] from rfl, List.append_nil]; exact hB4, hH4⟩ ?_ ?_⟩
    · clear hB4 hH4 nh s4 hB3 hB2 s2 s3 hT sT
      rintro j σ H5 hj ⟨h, v6, v7, v8, rfl, s5, nh, hB5, hH5⟩
      have hj1 : j + 1 < (vw.getD d []).length := by omega
      have k5 := TupK.of s5
      obtain ⟨dd, ev, g1, g2, g3⟩ := list_at (j := (1 : Int) + (j : Int)) hEs (by omega) (by rw [List.length_map]; omega)
      obtain ⟨e, he, rfl⟩ := map_get g1
      have ee := getD_ix (d := dfE) hj1
      rw [show ((1 : Int) + (j : Int)).toNat = j + 1 from by omega] at he
      rw [he] at ee
      have ee := Option.some.inj ee
      have hfe := hfit.fit d j hd hj1
      have hpe := hfit.pl d j hd hj1
      have hhe := hfit.he d j hd hj1
      rw [← ee] at hfe hpe hhe
      obtain ⟨ea, e1, e2, ed, e3, rfl, het, _, _, i3, _⟩ := Im.unev g3
      have s05 := s5
      have e1j : ((j : Int) + 1) = 1 + (j : Int) := by omega
      refine ⟨fun σ H' => σ = [some (.ref p), some (.ref v), some (.ref a1), some (.int (d : Nat)), some (.ref rows[d]), some (.ref h), some (.int (1 + (j : Int))), some (hiV (heardM F vw e.deed)), v8] ∧ H5 = H', ?_, ?_⟩
      · exact ⟨_, rfl, _, rfl, _, rfl, _, rfl, _, _, _, _, rfl, rfl, SqL.of (s5 _ _ hes), g2, _, _, _, _, rfl, rfl, k5.sq het, at_of (j := 3) rfl rfl, p, v, F, own, vw, e.deed, _, rfl, hF.keep s5, hV0.keep s5, Im.mono k5 _ i3, hpe, hfe.ar, hhe, rfl, rfl⟩
      rintro σ H' ⟨rfl, rfl⟩
      refine ⟨fun σ H' => ∃ (h2 m : Addr), σ = [some (.ref p), some (.ref v), some (.ref a1), some (.int (d : Nat)), some (.ref rows[d]), some (.ref h2), some (.int (1 + (j : Int))), some (hiV (heardM F vw e.deed)), some (.ref m)] ∧ Same H5 H' ∧ h2 ≠ a1 ∧ LsI K H' m ((evB F d ((j : Int) + 1) e (devS F vw d j).2 (heardM F vw e.deed)).map bdP) ∧ LsI K H' h2 ((evH F d ((j : Int) + 1) e (devS F vw d j).2).map hdP), ?_, ?_⟩
      · refine ⟨_, rfl, _, rfl, _, rfl, _, rfl, _, rfl, _, _, _, _, rfl, rfl, SqL.of (s5 _ _ hes), g2, (by show 3 ≤ sizeLine; decide), fun a6 n6 => ?_⟩
        generalize e6 : upd H5 a6 _ = H6
        obtain ⟨s6, h6⟩ := fr e6 n6
        clear e6
        have s06 := s5.trans s6
        refine ⟨_, rfl, _, rfl, p, a6, h, F, own, (d : Nat), 1 + (j : Int), e, (devS F vw d j).2, heardM F vw e.deed, _, rfl, hF.keep s06, Nat.le_trans hfit.cl (by decide), SqT.of h6, Im.mono (.of s06) _ g3, hH5.keep s6, hfe, fun t b h2 H7 s7 nb nh2 nbh ht hb hh => ?_⟩
        refine ⟨_, _, rfl, ht, rfl, _, _, rfl, _, _, rfl, rfl, h2, b, rfl, s6.trans s7, ?_, ?_, ?_⟩
        · obtain ⟨_, z, _⟩ := id (hB5.keep s6)
          exact (ne_of_none z nh2).symm
        · rw [e1j]
          exact hb
        · rw [e1j]
          exact hh
      rintro σ H6 ⟨h2, m, rfl, s6, nh2, hm, hh2⟩
      obtain ⟨w1, w2, g11, g12, l11, l12, hL⟩ := (hB5.keep s6).app hm
      have hd1 := devS_len hfit.cl vw d j
      have hd2 := evB_len hfit.cl (d : Nat) ((j : Int) + 1) e (devS F vw d j).2 (heardM F vw e.deed)
      rw [List.length_map, List.length_append] at l11
      rw [List.length_map] at l12
      refine ⟨_, rfl, .inl ⟨rfl, _, SqL.of g11⟩, _, rfl, _, _, _, _, rfl, rfl, g11, g12, by rw [l11, l12]; exact sizes (by omega), ?_⟩
      refine ⟨h2, _, _, _, rfl, fun b o hb => ?_, nh2, ?_, ?_⟩
      · rw [upd_ne (ne_of_none hb n1)]
        exact s6 _ _ (s5 _ _ hb)
      · rw [← List.map_append, List.append_assoc] at hL
        rw [devS, ← ee]
        exact hL
      · rw [devS, ← ee]
        exact hh2.but But.set g11 nh2
    · rintro σ H5 ⟨h, v6, v7, v8, rfl, s5, nh, hB5, hH5⟩
      rw [show ((es.length : Int) - 1).toNat = (vw.getD d []).length - 1 from by omega] at hB5
      refine ⟨_, _, _, _, _, _, rfl, s5, ?_⟩
      rw [rangeB]
      exact hB5
  rintro σ H2 ⟨v3, v4, v5, v6, v7, v8, rfl, s2, hB2⟩
  rw [List.length_map, hrl] at hB2
  exact ⟨_, rfl, q a1 H2 s2 n1 hB2⟩
open Dk in
/-- a dict whose keys are these points -/
structure NmE (P : Program) (w : World) (K : PySem.W.Frag) (H : Hp) (D : Addr) (xs : List En) (ns : List Pt) : Prop where
  o : H D = some (DkO P w D xs)
  k : Keys K H xs
  t : xs.map two = nmK ns
open Dk in
theorem NmE.len {P : Program} {w : World} {K : PySem.W.Frag} {H : Hp} {D : Addr} {xs : List En} {ns : List Pt} (h : NmE P w K H D xs ns) : xs.length = ns.length := by
  have := congrArg List.length h.t
  rw [List.length_map] at this
  rw [this]
  unfold nmK
  exact List.length_map _
theorem ext_no {H : Hp} {D b : Addr} {φ : Heap → Prop} {xs : List V} (h : H D = some (.ext φ)) (g : H b = some (.tup xs)) : b ≠ D := fun e => by
  rw [e, h] at g
  cases g
open Dk in
theorem tk_ext {H : Hp} {D : Addr} {φ : Heap → Prop} {o : HO} (h : H D = some (.ext φ)) : TupK H (upd H D o) := ⟨fun a xs g => by rw [upd_ne (ext_no h g)]; exact g, fun a q xs g => by
  have : a ≠ D := fun e => by
    rw [e, h] at g
    cases g
  rw [upd_ne this]
  exact g⟩
open Dk in
theorem NmE.put {P : Program} {w : World} {K : PySem.W.Frag} {H : Hp} {D b : Addr} {xs : List En} {ns : List Pt} {p : Pt} (h : NmE P w K H D xs ns) (hb : PtA K H b p) : NmE P w K (upd H D (DkO P w D (putE xs (ptK p) b (.bl true)))) D (putE xs (ptK p) b (.bl true)) (insP ns p) :=
  ⟨upd_same, keys_tk (tk_ext h.o) (keys_put h.k hb), by rw [putE_two, h.t, nmK_put]⟩
open Dk in
def sp_points_named (K : PySem.W.Frag) : Sp := fun vs H Q _ => ∃ (b a : Addr) (es cs : List Addr) (bds : List Bd) (ps : List Pt), vs = [.ref b, .ref a] ∧ BnLA K H b es bds ∧ PtLA K H a cs ps ∧ ps.length + 2 * bds.length ≤ 1000 ∧ ∀ (l : Addr) (bs : List Addr) (H' : Hp), Same H H' → H l = none → PtLA K H' l bs (namesM ps bds) → Q (.ref l) H'
set_option maxHeartbeats 1000000 in
theorem ok_points_named {f : Addr} {fd : FuncData} (D : Df K mg "points_named" s_points_named ["bounds", "points"] f fd) (T : Txt K mg) : FnOk P w K mg base CX0 1 f fd ["bounds", "points"] (sp_points_named K) := by
  refine D.F.ok sc_points_named (fun vs H Q E h => ?_) (fun cdv A outer s H vs Q E hr h => ?_)
  · obtain ⟨b, a, es, cs, bds, ps, rfl, _⟩ := h
    rfl
  obtain ⟨b, a, es, cs, bds, ps, rfl, hB, hP, few, q⟩ := h
  refine ⟨_, (pss_cons (Dk.ps_setDcE (i := 2) (own := [("point", 6)]) (g := gName 6) (tt := tYes) rfl rfl (sw_trueD rfl rfl rfl (by decide +kernel)) (hu_of hr) rfl sc_points_named.nd (pi_list (pv 1)) (blkOk_by (own := [("point", 6)]) (N := nm_points_named) (sc := defScope s_points_named) (by decide +kernel)) (fun _ _ _ _ _ => (pg_name (i := 6) sc_points_named.nd rfl (Or.inl rfl))) (fun _ _ _ _ _ => pts_nil) (fun _ _ _ _ _ => (pv 6)) (fun _ _ _ _ _ => pe_bl))
    (pss_cons (ps_for PassesOwn.never rfl (pi_list (pv 0)) (pg_tup rfl (pgs_cons (pg_name (i := 3) sc_points_named.nd rfl (Or.inl rfl)) (pgs_cons (pg_name (i := 4) sc_points_named.nd rfl (Or.inl rfl)) (pgs_cons (pg_name (i := 5) sc_points_named.nd rfl (Or.inl rfl)) (pgs_cons (pg_name (i := 5) sc_points_named.nd rfl (Or.inl rfl)) pgs_nil)))))
      (pss_cons (Dk.ps_eput (hu_of hr) (pv 2) (pv 3) pe_bl rfl)
    (pss_one (Dk.ps_eput (hu_of hr) (pv 2) (pv 4) pe_bl rfl))))
    (pss_one (ps_ret (pe_callTy (Dk.call_list_E rfl) rfl T.list (by decide +kernel) (pa_cons (pv 2) pa_nil)))))), ?_⟩
  refine ⟨_, rfl, a, rfl, ⟨_, SqL.of hP.l⟩, fun D hD => Dk.dcE_it (walk_list (K := K) (a := a) (xs := cs.map V.ref)) (fun i H' => Same H H' ∧ ∃ xs, NmE P w K H' D xs ((ps.take i).foldl insP []) ∧ ((ps.take i).foldl insP []).length ≤ i) ⟨same_upd hD, [], ⟨upd_same, (fun x h => by cases h), rfl⟩, Nat.le_refl _⟩ (fun i H' _ z => SqL.of (z.1 _ _ hP.l)) ?_ ?_⟩
  · rintro i x H1 H2 hi ⟨sm, xs, hN, len⟩ ⟨rfl, hx⟩
    obtain ⟨c, hc, rfl⟩ := ref_of hx
    obtain ⟨p, hpp, hq⟩ := hP.e.get hc
    have hq1 : Dk.PtA K H2 c p := Dk.sq_tk (.of sm) hq
    have st : (ps.take (i + 1)).foldl insP [] = insP ((ps.take i).foldl insP []) p := by
      rw [List.take_add_one, hpp, List.foldl_append]
      rfl
    have hi2 : i < ps.length := (List.getElem?_eq_some_iff.mp hpp).1
    have xl := hN.len
    refine ⟨rfl, _, rfl, xs, ptK p, c, rfl, hq1, hN.o, hN.k, sizes' (by omega), ?_⟩
    rw [st]
    exact ⟨fun c u hc => by rw [upd_ne (ne_of_none hc hD)]; exact sm _ _ hc, _, hN.put hq1, Nat.le_trans (insP_len _ _) (by omega)⟩
  rintro H1 ⟨s1, xs1, N1, len1⟩
  rw [List.length_map, hP.e.1, List.take_length] at N1 len1
  refine ⟨_, rfl, _, rfl, ⟨_, SqL.of (hB.keep s1).l⟩, for_list (K := K) (a := b) (xs := es.map V.ref) (fun i σ H' => ∃ v3 v4 v5 xs, σ = [some (.ref b), some (.ref a), some (.ref D), v3, v4, v5, none] ∧ Same H H' ∧ NmE P w K H' D xs ((bds.take i).foldl insB (ps.foldl insP [])) ∧ ((bds.take i).foldl insB (ps.foldl insP [])).length ≤ ps.length + 2 * i) ⟨none, none, none, xs1, rfl, s1, N1, by show (ps.foldl insP []).length ≤ _; omega⟩ (fun i σ H' _ ⟨_, _, _, _, _, s, _⟩ => SqL.of (s _ _ hB.l)) ?_ ?_⟩
  · rintro i x σ H2 hx ⟨v3, v4, v5, xs, rfl, s2, N2, len2⟩
    obtain ⟨e, he, rfl⟩ := ref_of hx
    obtain ⟨z, hz, x1, x2, h1, h2, h3⟩ := (hB.keep s2).e.get he
    have hi2 : i < bds.length := (List.getElem?_eq_some_iff.mp hz).1
    have st : (bds.take (i + 1)).foldl insB (ps.foldl insP []) = insB ((bds.take i).foldl insB (ps.foldl insP [])) z := by
      rw [List.take_add_one, hz, List.foldl_append]
      rfl
    rw [st]
    generalize (bds.take i).foldl insB (ps.foldl insP []) = ns at *
    have l1 := insP_len ns z.one
    have l2 := insP_len (insP ns z.one) z.two
    have up : ∀ {o : HO}, Same H (upd H2 D o) := fun {o} c u h => by
      rw [upd_ne (ne_of_none h hD)]
      exact s2 _ _ h
    have n2 := N2.len
    have N3 := N2.put h2
    have n3 := N3.len
    have h3' : Dk.PtA K (upd H2 D (Dk.DkO P w D (Dk.putE xs (ptK z.one) x1 (.bl true)))) x2 z.two := Dk.sq_tk (tk_ext N2.o) h3
    refine ⟨_, _, rfl, h1, rfl, _, _, rfl, _, _, rfl, _, _, rfl, _, _, rfl, rfl, ?_⟩
    refine ⟨_, rfl, _, rfl, D, x1, xs, ptK z.one, rfl, rfl, N2.o, N2.k, h2, sizes' (by omega), ?_⟩
    refine ⟨_, rfl, _, rfl, D, x2, _, ptK z.two, rfl, rfl, N3.o, N3.k, h3', sizes' (by omega), ?_⟩
    refine ⟨_, _, _, _, rfl, fun c u h => ?_, N3.put h3', by show (insB ns z).length ≤ _; unfold insB; omega⟩
    rw [upd_ne (ne_of_none h hD)]
    exact up _ _ h
  rintro σ H2 ⟨v3, v4, v5, xs, rfl, s2, N2, len2⟩
  rw [List.length_map, hB.e.1, List.take_length] at N2 len2
  refine ⟨_, rfl, D, xs, rfl, N2.o, fun l hl => ?_⟩
  have s3 := same_upd (o := .lst (xs.map fun x => V.ref x.2.1)) hl
  have tt : xs.map Dk.two = nmK (namesM ps bds) := N2.t
  refine q l (xs.map fun x => x.2.1) _ (s2.trans s3) (s2.free hl) ⟨by rw [upd_same, List.map_map]; rfl, by rw [List.length_map]; exact N2.len, fun i c p h1 h2 => ?_⟩
  rw [List.getElem?_map] at h1
  cases g : xs[i]? with
  | none => rw [g] at h1; cases h1
  | some x =>
    rw [g] at h1
    cases h1
    have e1 : (xs.map Dk.two)[i]? = some (Dk.two x) := by rw [List.getElem?_map, g]; rfl
    rw [tt] at e1
    have e2 : (nmK (namesM ps bds))[i]? = some (ptK p, .bl true) := by unfold nmK; rw [List.getElem?_map, h2]; rfl
    rw [e2] at e1
    have e3 : ptK p = x.1 := congrArg Prod.fst (Option.some.inj e1)
    have kx := N2.k x (List.mem_of_getElem? g)
    rw [← e3] at kx
    exact sTup s3 kx
def sp_Table___init__ (K : PySem.W.Frag) (P : Program) (w : World) (CT : Addr) : Sp := fun vs H Q _ => ∃ (t dx : Addr), vs = [.ref t] ∧ H t = some (.ins CT dx []) ∧ ∀ (pl rw : Addr) (H' : Hp), But t H H' → H' t = some (.ins CT dx (ff_Table (.ref pl) (.ref rw) (.bl true))) → H' pl = some (Dk.DkO P w pl []) → H' rw = some (.lst []) → H pl = none → H rw = none → Q .non H'
theorem ok_Table___init__ {f : Addr} {fd : FuncData} {CT : Addr} (TTb : Ck_Table K mg CT) (D : Mt K CT "__init__" "Table.__init__" s_Table___init__ ["self"] f fd) (T : Txt K mg) : FnOk P w K mg base CX0 1 f fd ["self"] (sp_Table___init__ K P w CT) := by
  refine D.F.ok sc_Table___init__ (fun vs H Q E h => ?_) (fun cdv A outer s H vs Q E hr h => ?_)
  · obtain ⟨t, dx, rfl, _⟩ := h
    rfl
  obtain ⟨t, dx, rfl, hp, q⟩ := h
  refine ⟨_, (pss_cons (ps_fld (pv 0) (show PE _ _ (Dk.tENew P w) from Dk.pe_enew) rfl)
    (pss_cons (ps_fld (pv 0) (pe_lst pa_nil) rfl)
    (pss_one (ps_fld (pv 0) pe_bl rfl)))), ?_⟩
  refine fun pl n1 => ?_
  obtain ⟨s1, h1⟩ := fr (rfl : upd H pl (Dk.DkO P w pl []) = _) n1
  generalize upd H pl (Dk.DkO P w pl []) = H1 at *
  have p1 := s1 _ _ hp
  refine ⟨_, rfl, t, CT, dx, [], rfl, p1, TTb.cl, TTb.n__places, (by show 0 < 1000; decide), ?_⟩
  obtain ⟨b2, h2⟩ := stt (rfl : upd H1 t (.ins CT dx (putF "_places" (.ref pl) [])) = _)
  have f2 := b2 _ _ (ne_of h1 p1 (by intro z; cases z)) h1
  generalize upd H1 t (.ins CT dx (putF "_places" (.ref pl) [])) = H2 at *
  refine ⟨(by show 0 ≤ sizeLine; decide), fun rw n3 => ?_⟩
  obtain ⟨s3, h3⟩ := fr (rfl : upd H2 rw (.lst []) = _) n3
  generalize upd H2 rw (.lst []) = H3 at *
  have p3 := s3 _ _ h2
  refine ⟨_, rfl, t, CT, dx, _, rfl, p3, TTb.cl, TTb.n__rows, (by show 1 < 1000; decide), ?_⟩
  obtain ⟨b4, h4⟩ := stt (rfl : upd H3 t (.ins CT dx (putF "_rows" (.ref rw) (putF "_places" (.ref pl) []))) = _)
  have g4 := b4 _ _ (ne_of h3 p3 (by intro z; cases z)) h3
  have f4 := b4 _ _ (ne_of f2 h2 (by intro z; cases z)) (s3 _ _ f2)
  generalize upd H3 t (.ins CT dx (putF "_rows" (.ref rw) (putF "_places" (.ref pl) []))) = H4 at *
  refine ⟨_, rfl, t, CT, dx, _, rfl, h4, TTb.cl, TTb.n__possible, (by show 2 < 1000; decide), ?_⟩
  have b : But t H (upd H4 t (.ins CT dx (putF "_possible" (.bl true) (putF "_rows" (.ref rw) (putF "_places" (.ref pl) []))))) := ((((But.of s1).trans b2).trans (But.of s3)).trans b4).trans But.set
  refine q pl rw _ b upd_same (But.set _ _ (ne_of f4 h4 (by intro z; cases z)) f4) (But.set _ _ (ne_of g4 h4 (by intro z; cases z)) g4) n1 ?_
  cases e : H rw with
  | none => rfl
  | some u =>
    by_cases hb : rw = t
    · rw [hb, h2] at n3; cases n3
    · rw [b2 _ _ hb (s1 _ _ e)] at n3; cases n3
def sp_Table_add_point (K : PySem.W.Frag) (P : Program) (w : World) (CT : Addr) : Sp := fun vs H Q _ => ∃ (t pl rw a : Addr) (T : TbM) (rs : List Addr) (p : Pt), vs = [.ref t, .ref a] ∧ TbAt P w K CT H t T pl rw rs ∧ Dk.PtA K H a p ∧ p ∉ T.pts ∧ T.pts.length < 40 ∧ ∀ (x : Addr) (H' : Hp), H x = none → Outs (pl :: rw :: rs) H H' → TbAt P w K CT H' t (addM T p) pl rw (rs ++ [x]) → Q .non H'
theorem ok_Table_add_point {f : Addr} {fd : FuncData} {CT : Addr} (TTb : Ck_Table K mg CT) (D : Mt K CT "add_point" "Table.add_point" s_Table_add_point ["self", "point"] f fd) (T : Txt K mg) : FnOk P w K mg base CX0 1 f fd ["self", "point"] (sp_Table_add_point K P w CT) := by
  refine D.F.ok sc_Table_add_point (fun vs H Q E h => ?_) (fun cdv A outer s H vs Q E hr h => ?_)
  · obtain ⟨t, pl, rw, a, T, rs, p, rfl, _⟩ := h
    rfl
  obtain ⟨t, pl, rw, a, Tm, rs, p, rfl, hT, ha, np, few, q⟩ := h
  refine ⟨_, (pss_cons (ps_for PassesOwn.never rfl (pi_list (pe_fld (pv 0) rfl)) (pg_name (i := 2) sc_Table_add_point.nd rfl (Or.inl rfl))
      (pss_one (ps_expr (pe_bm PySem.F.plainAttrs_list PySem.F.slot_list_append PySem.F.type_list_append mt_append (pv 2) (pa_cons pe_non pa_nil)))))
    (pss_cons (ps_expr (pe_bm PySem.F.plainAttrs_list PySem.F.slot_list_append PySem.F.type_list_append mt_append (pe_fld (pv 0) rfl) (pa_cons (pe_op op_cat (pe_op op_rep (pe_lst (pa_cons pe_non pa_nil)) (pe_callB call_len_seq rfl T.len PySem.boot_len (pa_cons (pe_fld (pv 0) rfl) pa_nil))) (pe_lst (pa_cons pe_int pa_nil))) pa_nil)))
    (pss_one (Dk.ps_eputP (P := P) (w := w) (K := K) rfl rfl rfl (hu_of hr) (pe_fld (pv 0) rfl) (pv 1) (pe_callB (Dk.call_len_P (P := P) (w := w) (K := K) rfl rfl rfl) rfl T.len PySem.boot_len (pa_cons (pe_fld (pv 0) rfl) pa_nil)) rfl)))), ?_⟩
  obtain ⟨dx, hp⟩ := hT.ins
  obtain ⟨xs, hx⟩ := id hT.hpl
  have rl := hT.rl
  refine ⟨_, rfl, _, _, _, _, _, rfl, hp, TTb.cl, TTb.n__rows, lk_Table__rows, _, rfl, ⟨_, SqL.of hT.hrw⟩, for_list (K := K) (a := rw) (xs := rs.map V.ref) (fun i σ H' => ∃ v2, σ = [some (.ref t), some (.ref a), v2] ∧ Outs rs H H' ∧ Each (fun a r => H' a = some (rowO r)) rs ((Tm.d.take i).map (· ++ [none]) ++ Tm.d.drop i)) ⟨none, rfl, fun _ _ _ h => h, by rw [List.take_zero, List.drop_zero]; exact hT.ro⟩ (fun i σ H' _ ⟨_, _, b, _⟩ => SqL.of (b _ _ hT.nr hT.hrw)) ?_ ?_⟩
  · rintro i x σ H1 hx ⟨v2, rfl, b1, ro1⟩
    rw [List.getElem?_map] at hx
    obtain ⟨r, hr, rfl⟩ : ∃ a, rs[i]? = some a ∧ x = V.ref a := by
      cases h : rs[i]? with
      | none => rw [h] at hx; cases hx
      | some a => rw [h] at hx; exact ⟨a, rfl, (Option.some.inj hx).symm⟩
    have hi : i < Tm.d.length := by
      have := (List.getElem?_eq_some_iff.mp hr).1
      rw [hT.ro.1] at this
      exact this
    have hd : Tm.d[i]? = some (Tm.d.getD i []) := getD_ix hi
    have r0l := hT.ok.rl _ (List.mem_of_getElem? hd)
    rw [mid_set (f := (· ++ [none])) hd]
    have md := mid_get (f := (· ++ [none])) hd
    generalize Tm.d.getD i [] = r0 at *
    generalize (Tm.d.take i).map (· ++ [none]) ++ Tm.d.drop i = D at *
    have hrow := ro1.2 i r r0 hr md
    have e5 : HO.lst (r0.map hiV ++ [V.non]) = rowO (r0 ++ [none]) := by
      unfold rowO
      rw [List.map_append]
      rfl
    refine ⟨_, rfl, .inl ⟨rfl, _, rowAt hrow⟩, _, _, _, rfl, rfl, hrow, by rw [List.length_map, r0l]; exact sizes' (by omega), _, rfl, b1.trans (Outs.but But.set (List.mem_of_getElem? hr)), ?_⟩
    rw [e5]
    exact rows_put ro1 hT.nd hr
  rintro σ H1 ⟨v2, rfl, b1, ro1⟩
  rw [List.length_map, hT.ro.1, List.take_length, List.drop_length, List.append_nil] at ro1
  have hp1 := b1 _ _ hT.tn hp
  have hw1 := b1 _ _ hT.nr hT.hrw
  have k1 : TupK H H1 := tk_out b1 hT.rk
  have hx1 := hx.tk k1 fun u => b1 _ u hT.pn
  have ha1 : Dk.PtA K H1 a p := Dk.sq_tk k1 ha
  refine ⟨_, rfl, _, _, _, _, _, rfl, hp1, TTb.cl, TTb.n__rows, lk_Table__rows, .inl ⟨rfl, _, SqL.of hw1⟩, (by show 1 ≤ sizeLine; decide), fun a2 n2 => ?_⟩
  generalize e2 : upd H1 a2 _ = H2
  obtain ⟨s2, h2⟩ := fr e2 n2
  clear e2
  have hw2 := s2 _ _ hw1
  have rlen : (((rs.map V.ref).length : Int)).toNat = Tm.pts.length := by rw [List.length_map, rl]; omega
  refine ⟨_, rfl, _, _, _, _, _, rfl, s2 _ _ hp1, TTb.cl, TTb.n__rows, lk_Table__rows, _, _, rfl, .inl (SqL.of hw2), _, _, _, rfl, rfl, h2, by rw [List.length_map, rl]; omega, by rw [List.length_map, rl]; omega, by rw [rlen]; exact sizes (by show 1 * Tm.pts.length ≤ _; omega), fun a3 n3 => ?_⟩
  rw [rlen]
  generalize e3 : upd H2 a3 _ = H3
  obtain ⟨s3, h3⟩ := fr e3 n3
  clear e3
  refine ⟨(by show 1 ≤ sizeLine; decide), fun a4 n4 => ?_⟩
  generalize e4 : upd H3 a4 _ = H4
  obtain ⟨s4, h4⟩ := fr e4 n4
  clear e4
  refine ⟨_, _, _, _, rfl, rfl, s4 _ _ h3, h4, by rw [rep_len]; exact sizes (by show Tm.pts.length + 1 ≤ _; omega), fun a5 n5 => ?_⟩
  rw [rep_row]
  generalize e5 : upd H4 a5 _ = H5
  obtain ⟨s5, h5⟩ := fr e5 n5
  clear e5
  have s15 := s2.trans (s3.trans (s4.trans s5))
  have s25 := s3.trans (s4.trans s5)
  have hw5 := s15 _ _ hw1
  refine ⟨_, _, _, rfl, rfl, hw5, by rw [List.length_map, rl]; exact sizes' (by omega), ?_⟩
  have ewr : HO.lst (rs.map V.ref ++ [V.ref a5]) = .lst ((rs ++ [a5]).map V.ref) := by rw [List.map_append]; rfl
  rw [ewr]
  obtain ⟨b6, h6⟩ := stt (rfl : upd H5 rw (.lst ((rs ++ [a5]).map V.ref)) = _)
  generalize upd H5 rw (.lst ((rs ++ [a5]).map V.ref)) = H6 at *
  have hp6 := b6 _ _ hT.tw (s15 _ _ hp1)
  have k6 : TupK H5 H6 := tk_out (Outs.but b6 (List.mem_singleton.mpr rfl)) fun b m => ⟨.lst (rs.map V.ref), (by have e := List.mem_singleton.mp m; subst e; exact hw5), rfl⟩
  have hx6 := (hx1.tk (.of s15) fun u => s15 _ u).tk k6 fun u => b6 _ u hT.pw
  have ha6 : Dk.PtA K H6 a p := Dk.sq_tk k6 (Dk.sq_tk (.of s15) ha1)
  have xl := hx6.len
  have na5 : a5 ≠ rw := fun z => by rw [z, s2.trans (s3.trans s4) _ _ hw1] at n5; cases n5
  have h56 := b6 _ _ na5 h5
  refine ⟨_, rfl, _, _, _, _, _, rfl, hp6, TTb.cl, TTb.n__places, lk_Table__places, pl, xs, rfl, hx6.o, hx6.k, _, rfl, _, _, _, _, _, rfl, hp6, TTb.cl, TTb.n__places, lk_Table__places, _, rfl, pl, a, xs, ptK p, rfl, rfl, hx6.o, hx6.k, ha6, sizes' (by omega), ?_⟩
  have k7 : TupK H6 (upd H6 pl (Dk.DkO P w pl (Dk.putE xs (ptK p) a (.int (xs.length : Int))))) := tk_ext hx6.o
  have hx7 : PlE P w K (upd H6 pl (Dk.DkO P w pl (Dk.putE xs (ptK p) a (.int (xs.length : Int))))) pl (Dk.putE xs (ptK p) a (.int (xs.length : Int))) (Tm.pts ++ [p]) := ⟨upd_same, Dk.keys_tk k7 (Dk.keys_put hx6.k ha6), by rw [Dk.putE_two, hx6.t, xl, plK_put np]⟩
  obtain ⟨b7, h7⟩ := stt (rfl : upd H6 pl (Dk.DkO P w pl (Dk.putE xs (ptK p) a (.int (xs.length : Int)))) = _)
  generalize upd H6 pl (Dk.DkO P w pl (Dk.putE xs (ptK p) a (.int (xs.length : Int)))) = H7 at *
  have n1 : H1 a5 = none := s2.trans (s3.trans s4) |>.free n5
  have mrs : ∀ b ∈ rs, ∃ r, H1 b = some (rowO r) := fun b hb => by
    obtain ⟨i, hi⟩ := List.getElem?_of_mem hb
    obtain ⟨x, _, y⟩ := ro1.get hi
    exact ⟨x, y⟩
  have nrs : a5 ∉ rs := fun m => by
    obtain ⟨r, h⟩ := mrs _ m
    rw [n1] at h
    cases h
  have n0 : H a5 = none := by
    cases h : H a5 with
    | none => rfl
    | some u => rw [b1 _ _ nrs h] at n1; cases n1
  have m0 : ∀ b ∈ rs, b ∈ pl :: rw :: rs := fun b hb => by simp [hb]
  have up : ∀ b u, b ≠ rw → b ≠ pl → H1 b = some u → H7 b = some u := fun b u h1 h2 h => b7 _ _ h2 (b6 _ _ h1 (s15 _ _ h))
  refine q a5 H7 n0 ((((b1.mono m0).trans (Outs.of s15)).trans (Outs.but b6 (by simp))).trans (Outs.but b7 (by simp))) ⟨⟨dx, b7 _ _ hT.tp hp6⟩, ⟨_, hx7⟩, b7 _ _ hT.pw.symm h6, ?_, fun m => ?_, ?_, hT.ok.add np few⟩
  · refine Each.snoc ((ro1.imp fun b r hb z => up _ _ (fun e => hT.nr (e ▸ hb)) (fun e => hT.pn (e ▸ hb)) z)) ?_
    have a5p : a5 ≠ pl := fun z => by rw [z, hx1.o] at n1; cases n1
    exact b7 _ _ a5p h56
  · rcases List.mem_append.mp m with m | m
    · exact hT.nr m
    · exact na5 (List.mem_singleton.mp m).symm
  · rw [List.nodup_append]
    exact ⟨hT.nd, by simp, fun x hx y hy e => nrs (by rw [List.mem_singleton.mp hy] at e; rw [← e]; exact hx)⟩
def sp_is_nearer (K : PySem.W.Frag) : Sp := fun vs H Q _ => ∃ (a : Int) (o : Option Int), vs = [.int a, hiV o] ∧ Q (.bl (nearB a o)) H
theorem ok_is_nearer {f : Addr} {fd : FuncData} (D : Df K mg "is_nearer" s_is_nearer ["amount", "distance"] f fd) (T : Txt K mg) : FnOk P w K mg base CX0 1 f fd ["amount", "distance"] (sp_is_nearer K) := by
  refine D.F.ok sc_is_nearer (fun vs H Q E h => ?_) (fun cdv A outer s H vs Q E hr h => ?_)
  · obtain ⟨a, o, rfl, _⟩ := h
    rfl
  obtain ⟨a, o, rfl, q⟩ := h
  refine ⟨_, (pss_one (ps_ret (pe_or (pe_cmpR op_isN (pv 1) pe_non (nomark _)) (pe_one (pe_cmpR op_lt (pv 0) (pv 1) (nomark _)))))), ?_⟩
  cases o with
  | none => exact ⟨_, rfl, rfl, _, rfl, ite2 (fun _ => q) (fun g => absurd (by rw [decide_eq_true (show hiV none = V.non from rfl)]) g)⟩
  | some b => exact ⟨_, rfl, rfl, _, rfl, ite2 (fun g => absurd g (by rw [decide_eq_false (show ¬ (hiV (some b)) = V.non from by intro z; cases z)]; decide)) (fun _ => ⟨_, rfl, _, rfl, _, _, rfl, rfl, q⟩)⟩
def sp_Table__shorten (K : PySem.W.Frag) (P : Program) (w : World) (CT : Addr) : Sp := fun vs H Q _ => ∃ (t pl rw : Addr) (T : TbM) (rs : List Addr) (s e : Nat) (c : Int), vs = [.ref t, .int (s : Int), .int (e : Int), .int c] ∧ TbAt P w K CT H t T pl rw rs ∧ s < T.pts.length ∧ e < T.pts.length ∧ ∀ (H' : Hp), Outs rs H H' → TbAt P w K CT H' t ⟨T.pts, shortM T.d s e c, T.ok⟩ pl rw rs → Q .non H'
set_option maxHeartbeats 2000000 in
theorem ok_Table__shorten {f : Addr} {fd : FuncData} {CT : Addr} (TTb : Ck_Table K mg CT) (D : Mt K CT "_shorten" "Table._shorten" s_Table__shorten ["self", "start", "end", "amount"] f fd) (T : Txt K mg) {f_is_nearer : Addr} {fd_is_nearer : FuncData} (D_is_nearer : Df K mg "is_nearer" s_is_nearer ["amount", "distance"] f_is_nearer fd_is_nearer) (G_is_nearer : FnOk P w K mg base CX0 1 f_is_nearer fd_is_nearer ["amount", "distance"] (sp_is_nearer K)) : FnOk P w K mg base CX0 2 f fd ["self", "start", "end", "amount"] (sp_Table__shorten K P w CT) := by
  refine D.F.ok sc_Table__shorten (fun vs H Q E h => ?_) (fun cdv A outer s H vs Q E hr h => ?_)
  · obtain ⟨t, pl, rw, T, rs, s, e, w, rfl, _⟩ := h
    rfl
  obtain ⟨t, pl, rw, Tm, rs, s_, e, w_, rfl, hT, hs, he, q⟩ := h
  refine ⟨_, (pss_cons (ps_set (i := 4) sc_Table__shorten.nd rfl (Or.inl rfl) (pe_ix ix_list (pe_fld (pv 0) rfl) (pv 1) (fun _ _ => rfl)))
    (pss_cons (ps_set (i := 5) sc_Table__shorten.nd rfl (Or.inl rfl) (pe_lst pa_nil))
    (pss_cons (ps_for PassesOwn.never rfl (pi_enum rfl T.enumerate (pa_cons (pe_ix ix_list (pe_fld (pv 0) rfl) (pv 2) (fun _ _ => rfl)) pa_nil)) (pg_tup rfl (pgs_cons (pg_name (i := 7) sc_Table__shorten.nd rfl (Or.inl rfl)) (pgs_cons (pg_name (i := 8) sc_Table__shorten.nd rfl (Or.inl rfl)) pgs_nil)))
      (pss_one (ps_if (PW.pt (pw_and (pt_cmpR op_notN (pv 8) pe_non (nomark _)) (pw_and1 (pt_val (pe_call G_is_nearer (hr.mono (by decide)) rfl D_is_nearer.m D_is_nearer.F.kp D_is_nearer.b .nil pass0 (pa_cons (pe_op op_add (pv 3) (pv 8)) (pa_cons (pe_ix ix_list (pv 4) (pv 7) (fun _ _ => rfl)) pa_nil)))))))
      (pss_one (ps_expr (pe_bm PySem.F.plainAttrs_list PySem.F.slot_list_append PySem.F.type_list_append mt_append (pv 5) (pa_cons (pe_tup (pa_cons (pv 7) (pa_cons (pe_op op_add (pv 3) (pv 8)) pa_nil))) pa_nil))))
      pss_nil)))
    (pss_one (ps_for PassesOwn.never rfl (pi_list (pe_fld (pv 0) rfl)) (pg_name (i := 6) sc_Table__shorten.nd rfl (Or.inl rfl))
      (pss_cons (ps_set (i := 9) sc_Table__shorten.nd rfl (Or.inl rfl) (pe_ix ix_list (pv 6) (pv 1) (fun _ _ => rfl)))
    (pss_one (ps_if (PW.pt (pw_and (pt_cmpR op_notN (pv 9) pe_non (nomark _)) (pw_and1 (pt_val (pe_call G_is_nearer (hr.mono (by decide)) rfl D_is_nearer.m D_is_nearer.F.kp D_is_nearer.b .nil pass0 (pa_cons (pe_op op_add (pv 9) (pv 3)) (pa_cons (pe_ix ix_list (pv 6) (pv 2) (fun _ _ => rfl)) pa_nil)))))))
      (pss_one (ps_for PassesOwn.never rfl (pi_list (pv 5)) (pg_tup rfl (pgs_cons (pg_name (i := 7) sc_Table__shorten.nd rfl (Or.inl rfl)) (pgs_cons (pg_name (i := 8) sc_Table__shorten.nd rfl (Or.inl rfl)) pgs_nil)))
      (pss_one (ps_if (PW.pt (pw_or (pt_cmpR op_isN (pe_ix ix_list (pv 6) (pv 7) (fun _ _ => rfl)) pe_non (nomark _)) (pw_or1 (pt_cmpR op_lt (pe_op op_add (pv 9) (pv 8)) (pe_ix ix_list (pv 6) (pv 7) (fun _ _ => rfl)) (nomark _)))))
      (pss_one (ps_asg (pe_op op_add (pv 9) (pv 8)) (pg_sub (pv 6) (pv 7) set_list)))
      pss_nil))))
      pss_nil)))))))), ?_⟩
  obtain ⟨dx, hp⟩ := hT.ins
  obtain ⟨ra, a1, a2, a3⟩ := hT.row hs
  obtain ⟨re, e1, e2, e3⟩ := hT.row he
  have few := hT.ok.few
  refine ⟨_, rfl, _, _, _, _, _, rfl, hp, TTb.cl, TTb.n__rows, lk_Table__rows, _, rfl, _, _, _, _, rfl, rfl, SqL.of hT.hrw, at_of (j := s_) rfl (by rw [List.getElem?_map, a1]; rfl), ?_⟩
  refine ⟨(by show 0 ≤ sizeLine; decide), fun o no => ?_⟩
  obtain ⟨s1, h1⟩ := fr (rfl : upd H o (.lst []) = _) no
  generalize upd H o (.lst []) = H1 at *
  have hT1 := hT.keep s1
  have ofree := hT.free no
  have ne_re : re ≠ o := fun z => ofree (by rw [← z]; simp [List.mem_of_getElem? e1])
  have ne_ra : ra ≠ o := fun z => ofree (by rw [← z]; simp [List.mem_of_getElem? a1])
  refine ⟨_, rfl, _, _, _, _, _, rfl, s1 _ _ hp, TTb.cl, TTb.n__rows, lk_Table__rows, _, rfl, _, _, _, _, rfl, rfl, SqL.of hT1.hrw, at_of (j := e) rfl (by rw [List.getElem?_map, e1]; rfl), _, _, rfl, SqL.of (s1 _ _ e2), for_it (walk_enum (K := K) (a := re) (xs := (Tm.d.getD e []).map hiV)) (fun i σ H' => ∃ v7 v8, σ = [some (.ref t), some (.int (s_ : Int)), some (.int (e : Int)), some (.int w_), some (.ref ra), some (.ref o), none, v7, v8, none] ∧ But o H1 H' ∧ LsI K H' o ((onwN (Tm.d.getD e []) (Tm.d.getD s_ []) w_ i).map onP)) ⟨none, none, rfl, But.refl _ _, _, h1, ImL.nil_⟩ (fun i σ H' _ ⟨_, _, _, b, _⟩ => SqL.of (b _ _ ne_re (s1 _ _ e2))) ?_ ?_⟩
  · rintro i x σ H2 H3 hi ⟨v7, v8, rfl, b2, l2⟩ ⟨Tt, x1, x2, rfl, nT, rfl, hx1, hx2⟩
    cases hx1
    rw [List.length_map] at hi
    have hx2 : ((Tm.d.getD e []).map hiV)[i]? = some x2 := hx2
    rw [List.getElem?_map, getD_ix (d := none) hi] at hx2
    cases hx2
    obtain ⟨sT, hTt⟩ := fr (rfl : upd H2 Tt (.tup [.int (i : Nat), hiV ((Tm.d.getD e []).getD i none)]) = _) nT
    generalize upd H2 Tt (.tup [.int (i : Nat), hiV ((Tm.d.getD e []).getD i none)]) = H3 at *
    have b3 := b2.trans (But.of sT)
    have l3 := l2.keep sT
    refine ⟨Tt, _, rfl, SqT.of hTt, rfl, _, _, rfl, _, _, rfl, rfl, _, rfl, rfl, _, rfl, ?_⟩
    rw [onwN_succ]
    generalize hr0 : (Tm.d.getD e []).getD i none = oi at *
    cases oi with
    | none =>
      rw [onw1_of_none hr0]
      refine ite2 (fun g => absurd g (by rw [decide_eq_true (show hiV none = V.non from rfl)]; decide)) (fun _ => iteF ⟨_, _, rfl, b3, ?_⟩)
      show LsI K H3 o ((onwN _ _ _ i ++ []).map onP)
      rw [List.append_nil]
      exact l3
    | some r =>
      rw [onw1_of_some hr0]
      refine ite2 (fun _ => ?_) (fun g => absurd (by rw [decide_eq_false (show ¬ (hiV (some r)) = V.non from by intro z; cases z)]; rfl) g)
      refine ⟨_, rfl, _, rfl, _, _, rfl, rfl, _, rfl, _, rfl, _, _, _, _, rfl, rfl, rowAt (b3 _ _ ne_ra (s1 _ _ a2)), row_at (by rw [a3, ← e3]; exact hi), w_ + r, _, rfl, _, rfl, ?_⟩
      dsimp only
      refine ite2 (fun g => ?_) (fun g => ?_)
      · rw [if_pos g]
        obtain ⟨vs, hvs, _⟩ := id l3
        refine ⟨_, rfl, .inl ⟨rfl, _, SqL.of hvs⟩, _, rfl, _, rfl, _, rfl, _, _, rfl, rfl, (by show 2 ≤ sizeLine; decide), fun c nc => ?_⟩
        obtain ⟨s4, h4⟩ := fr (rfl : upd H3 c (.tup [.int (i : Int), .int (w_ + r)]) = _) nc
        generalize upd H3 c (.tup [.int (i : Int), .int (w_ + r)]) = H4 at *
        obtain ⟨ws, gw, lw, l5⟩ := (l3.keep s4).snoc (onI (x := (i, w_ + r)) (SqT.of h4))
        have hlen := onwN_len (Tm.d.getD e []) (Tm.d.getD s_ []) w_ i
        refine ⟨_, _, _, rfl, rfl, gw, by rw [lw, List.length_map]; exact sizes' (by omega), _, _, rfl, b3.trans ((But.of s4).trans But.set), ?_⟩
        rw [List.map_append]
        exact l5
      · rw [if_neg g]
        refine ⟨_, _, rfl, b3, ?_⟩
        show LsI K H3 o ((onwN _ _ _ i ++ []).map onP)
        rw [List.append_nil]
        exact l3
  rintro σ H2 ⟨v7, v8, rfl, b2, l2⟩
  rw [List.length_map] at l2
  have sm2 : Same H H2 := fun c u h => b2 _ _ (ne_of_none h no) (s1 _ _ h)
  have hT2 := hT.keep sm2
  have rwo : rw ≠ o := fun z => ofree (by rw [← z]; simp)
  generalize hon : onwN (Tm.d.getD e []) (Tm.d.getD s_ []) w_ (Tm.d.getD e []).length = on at *
  have onlt : ∀ x ∈ on, x.1 < Tm.pts.length := fun x hx => by rw [← hon] at hx; have := onwN_lt _ _ _ _ x hx; omega
  obtain ⟨ov, hov, hoi⟩ := id l2
  have nrs : o ∉ rs := fun m => ofree (by simp [m])
  refine ⟨_, rfl, _, _, _, _, _, rfl, sm2 _ _ hp, TTb.cl, TTb.n__rows, lk_Table__rows, _, rfl, ⟨_, SqL.of hT2.hrw⟩, for_list (K := K) (a := rw) (xs := rs.map V.ref) (fun i σ H' => ∃ v6 v7 v8 v9, σ = [some (.ref t), some (.int (s_ : Int)), some (.int (e : Int)), some (.int w_), some (.ref ra), some (.ref o), v6, v7, v8, v9] ∧ Outs rs H2 H' ∧ TupK H2 H' ∧ Each (fun a r => H' a = some (rowO r)) rs ((Tm.d.take i).map (rowM s_ e w_ on) ++ Tm.d.drop i)) ⟨none, v7, v8, none, rfl, fun _ _ _ h => h, TupK.refl _, by rw [List.take_zero, List.drop_zero]; exact hT2.ro⟩ (fun i σ H' _ ⟨_, _, _, _, _, b, _⟩ => SqL.of (b _ _ hT.nr hT2.hrw)) ?_ ?_⟩
  · rintro i x σ H3 hx ⟨v6, v7, v8, v9, rfl, b3, k3, ro3⟩
    rw [List.getElem?_map] at hx
    obtain ⟨a, ha, rfl⟩ : ∃ a, rs[i]? = some a ∧ x = V.ref a := by
      cases h : rs[i]? with
      | none => rw [h] at hx; cases hx
      | some a => rw [h] at hx; exact ⟨a, rfl, (Option.some.inj hx).symm⟩
    have hi : i < Tm.d.length := by
      have := (List.getElem?_eq_some_iff.mp ha).1
      rw [hT.ro.1] at this
      exact this
    have hr : Tm.d[i]? = some (Tm.d.getD i []) := getD_ix hi
    have r0l := hT.ok.rl _ (List.mem_of_getElem? hr)
    rw [mid_set hr]
    have md := mid_get (f := rowM s_ e w_ on) hr
    generalize Tm.d.getD i [] = r0 at *
    generalize (Tm.d.take i).map (rowM s_ e w_ on) ++ Tm.d.drop i = D at *
    have hrow := ro3.2 i a r0 ha md
    refine ⟨_, rfl, _, rfl, _, _, _, _, rfl, rfl, rowAt hrow, row_at (by rw [r0l]; exact hs), _, rfl, rfl, _, rfl, ?_⟩
    generalize hah : r0.getD s_ none = oa at *
    cases oa with
    | none =>
      refine ite2 (fun g => absurd g (by rw [decide_eq_true (show hiV none = V.non from rfl)]; decide)) (fun _ => iteF ⟨_, _, _, _, rfl, b3, k3, ?_⟩)
      rw [rowM_none hah, set_self md]
      exact ro3
    | some ah =>
      refine ite2 (fun _ => ?_) (fun g => absurd (by rw [decide_eq_false (show ¬ (hiV (some ah)) = V.non from by intro z; cases z)]; rfl) g)
      rw [rowM_some hah]
      refine ⟨_, rfl, _, rfl, _, _, rfl, rfl, _, rfl, _, rfl, _, _, _, _, rfl, rfl, rowAt hrow, row_at (by rw [r0l]; exact he), ah + w_, _, rfl, _, rfl, ite2 (fun g => ?_) (fun g => ?_)⟩
      · rw [if_pos g]
        refine ⟨_, rfl, o, rfl, ⟨_, SqL.of (b3 _ _ nrs hov)⟩, for_list (K := K) (a := o) (xs := ov) (fun j σ H' => ∃ v7 v8, σ = [some (.ref t), some (.int (s_ : Int)), some (.int (e : Int)), some (.int w_), some (.ref ra), some (.ref o), some (.ref a), v7, v8, some (.int ah)] ∧ Outs rs H2 H' ∧ TupK H2 H' ∧ Each (fun a r => H' a = some (rowO r)) rs (D.set i ((on.take j).foldl (rowM1 ah) r0))) ⟨v7, v8, rfl, b3, k3, by rw [List.take_zero]; show Each _ rs (D.set i r0); rw [set_self md]; exact ro3⟩ (fun j σ H' _ ⟨_, _, _, b, _⟩ => SqL.of (b _ _ nrs hov)) ?_ ?_⟩
        · rintro j x σ H4 hx ⟨v7, v8, rfl, b4, k4, ro4⟩
          obtain ⟨d, hd, him⟩ := hoi.get' hx
          obtain ⟨y, hy, rfl⟩ := map_get hd
          obtain ⟨at_, rfl, hat⟩ := Im.unon (Im.mono k4 _ him)
          have ylt := onlt y (List.mem_of_getElem? hy)
          have hD : i < D.length := (List.getElem?_eq_some_iff.mp md).1
          have hcur := ro4.2 i a _ ha (List.getElem?_set_self hD)
          have curl : ((on.take j).foldl (rowM1 ah) r0).length = Tm.pts.length := by rw [fold1_len]; exact r0l
          have nxt : (on.take (j + 1)).foldl (rowM1 ah) r0 = rowM1 ah ((on.take j).foldl (rowM1 ah) r0) y := by
            rw [List.take_add_one, hy, List.foldl_append]
            rfl
          rw [nxt]
          generalize (on.take j).foldl (rowM1 ah) r0 = cur at *
          refine ⟨_, _, rfl, hat, rfl, _, _, rfl, _, _, rfl, rfl, _, rfl, _, rfl, _, _, _, _, rfl, rfl, rowAt hcur, row_at (by rw [curl]; exact ylt), rfl, _, rfl, ?_⟩
          have put : nearB (ah + y.2) (cur.getD y.1 none) = true → ∀ H5, H5 = upd H4 a (.lst ((cur.map hiV).set y.1 (.int (ah + y.2)))) → Outs rs H2 H5 ∧ TupK H2 H5 ∧ Each (fun a r => H5 a = some (rowO r)) rs (D.set i (rowM1 ah cur y)) := by
            rintro g2 H5 rfl
            have e5 : HO.lst ((cur.map hiV).set y.1 (.int (ah + y.2))) = rowO (rowM1 ah cur y) := by
              unfold rowM1 rowO
              rw [if_pos g2, List.map_set]
              rfl
            have ro5 := rows_put (r := rowM1 ah cur y) ro4 hT.nd ha
            rw [List.set_set] at ro5
            rw [e5]
            exact ⟨b4.trans (Outs.but But.set (List.mem_of_getElem? ha)), k4.trans (TupK.set hcur), ro5⟩
          have skip : ¬ nearB (ah + y.2) (cur.getD y.1 none) = true → Each (fun a r => H4 a = some (rowO r)) rs (D.set i (rowM1 ah cur y)) := by
            intro g2
            have : rowM1 ah cur y = cur := by
              unfold rowM1
              rw [if_neg g2]
            rw [this]
            exact ro4
          generalize hcv : cur.getD y.1 none = ov1 at *
          cases ov1 with
          | none =>
            refine ite2 (fun _ => iteT ?_) (fun g => absurd (by rw [decide_eq_true (show hiV none = V.non from rfl)]) g)
            obtain ⟨p1, p2, p3⟩ := put rfl _ rfl
            exact ⟨_, rfl, _, rfl, _, _, rfl, rfl, _, rfl, _, rfl, _, _, _, y.1, rfl, rfl, hcur, ixn (by rw [List.length_map, curl]; exact ylt), _, _, rfl, p1, p2, p3⟩
          | some b =>
            refine ite2 (fun g => absurd g (by rw [decide_eq_false (show ¬ (hiV (some b)) = V.non from by intro z; cases z)]; decide)) (fun _ => ?_)
            refine ⟨_, rfl, _, rfl, _, _, rfl, rfl, _, rfl, _, rfl, _, _, _, _, rfl, rfl, rowAt hcur, (row_at (by rw [curl]; exact ylt)).trans (by rw [hcv]; rfl), _, _, rfl, rfl, _, rfl, ite2 (fun g2 => ?_) (fun g2 => ?_)⟩
            · obtain ⟨p1, p2, p3⟩ := put g2 _ rfl
              exact ⟨_, rfl, _, rfl, _, _, rfl, rfl, _, rfl, _, rfl, _, _, _, y.1, rfl, rfl, hcur, ixn (by rw [List.length_map, curl]; exact ylt), _, _, rfl, p1, p2, p3⟩
            · exact ⟨_, _, rfl, b4, k4, skip g2⟩
        · rintro σ H4 ⟨v7, v8, rfl, b4, k4, ro4⟩
          have ll := hoi.len
          rw [List.length_map] at ll
          rw [ll, List.take_length] at ro4
          exact ⟨_, _, _, _, rfl, b4, k4, ro4⟩
      · rw [if_neg g]
        refine ⟨_, _, _, _, rfl, b3, k3, ?_⟩
        rw [set_self md]
        exact ro3
  rintro σ H3 ⟨v6, v7, v8, v9, rfl, b3, k3, ro3⟩
  rw [List.length_map, hT.ro.1, List.take_length, List.drop_length, List.append_nil] at ro3
  have e3 : Tm.d.map (rowM s_ e w_ on) = shortM Tm.d s_ e w_ := by
    unfold shortM
    rw [hon]
  rw [e3] at ro3
  exact q H3 ((Outs.of sm2).trans b3) (hT2.rows b3 ro3 (hT.ok.short _ _ _))
def sp_Table_put_bound (K : PySem.W.Frag) (P : Program) (w : World) (CT : Addr) : Sp := fun vs H Q _ => ∃ (t pl rw a b : Addr) (T : TbM) (rs : List Addr) (p q : Pt) (c : Int), vs = [.ref t, .ref a, .ref b, .int c] ∧ TbAt P w K CT H t T pl rw rs ∧ SqT K H a [.int p.d, .int p.n, .int p.c] ∧ SqT K H b [.int q.d, .int q.n, .int q.c] ∧ p ∈ T.pts ∧ q ∈ T.pts ∧ ∀ (H' : Hp), Outs (t :: rs) H H' → TbAt P w K CT H' t (putM T (T.pts.idxOf p) (T.pts.idxOf q) c) pl rw rs → Q (.bl (putM T (T.pts.idxOf p) (T.pts.idxOf q) c).ok) H'
theorem ok_Table_put_bound {f : Addr} {fd : FuncData} {CT : Addr} (TTb : Ck_Table K mg CT) (D : Mt K CT "put_bound" "Table.put_bound" s_Table_put_bound ["self", "first", "second", "amount"] f fd) (T : Txt K mg) {f_is_nearer : Addr} {fd_is_nearer : FuncData} (D_is_nearer : Df K mg "is_nearer" s_is_nearer ["amount", "distance"] f_is_nearer fd_is_nearer) (G_is_nearer : FnOk P w K mg base CX0 1 f_is_nearer fd_is_nearer ["amount", "distance"] (sp_is_nearer K)) {f_Table__shorten : Addr} {fd_Table__shorten : FuncData} (M_Table__shorten : Mt K CT "_shorten" "Table._shorten" s_Table__shorten ["self", "start", "end", "amount"] f_Table__shorten fd_Table__shorten) (G_Table__shorten : FnOk P w K mg base CX0 2 f_Table__shorten fd_Table__shorten ["self", "start", "end", "amount"] (sp_Table__shorten K P w CT)) : FnOk P w K mg base CX0 3 f fd ["self", "first", "second", "amount"] (sp_Table_put_bound K P w CT) := by
  refine D.F.ok sc_Table_put_bound (fun vs H Q E h => ?_) (fun cdv A outer s H vs Q E hr h => ?_)
  · obtain ⟨t, pl, rw, a, b, T, rs, p, q, w, rfl, _⟩ := h
    rfl
  obtain ⟨t, pl, rw, a, b, Tm, rs, p, q_, w_, rfl, hT, ha, hb, mp, mq, q⟩ := h
  refine ⟨_, (pss_cons (ps_set (i := 4) sc_Table_put_bound.nd rfl (Or.inl rfl) (Dk.pe_eget (hu_of hr) (pe_fld (pv 0) rfl) (pv 1) (fun _ _ => rfl)))
    (pss_cons (ps_set (i := 5) sc_Table_put_bound.nd rfl (Or.inl rfl) (Dk.pe_eget (hu_of hr) (pe_fld (pv 0) rfl) (pv 2) (fun _ _ => rfl)))
    (pss_cons (ps_set (i := 6) sc_Table_put_bound.nd rfl (Or.inl rfl) (pe_ix ix_list (pe_ix ix_list (pe_fld (pv 0) rfl) (pv 5) (fun _ _ => rfl)) (pv 4) (fun _ _ => rfl)))
    (C8.pss_cut (ps_if (PW.pt (pw_and (pt_cmpR op_notN (pv 6) pe_non (nomark _)) (pw_and1 (pt_cmpR op_lt (pe_op op_add (pv 6) (pv 3)) pe_int (nomark _)))))
      (pss_one (ps_fld (pv 0) pe_bl rfl))
      (pss_one (ps_if (pt_val (pe_call G_is_nearer (hr.mono (by decide)) rfl D_is_nearer.m D_is_nearer.F.kp D_is_nearer.b .nil pass0 (pa_cons (pv 3) (pa_cons (pe_ix ix_list (pe_ix ix_list (pe_fld (pv 0) rfl) (pv 4) (fun _ _ => rfl)) (pv 5) (fun _ _ => rfl)) pa_nil))))
      (pss_one (ps_expr (pe_meth (pv 0) TTb.cl M_Table__shorten.m G_Table__shorten (hr.mono (by decide)) M_Table__shorten.b .nil pass0 (pa_cons (pv 4) (pa_cons (pv 5) (pa_cons (pv 3) pa_nil))))))
      pss_nil)))
    (pss_one (ps_ret (pe_fld (pv 0) rfl))))))), ?_⟩
  obtain ⟨dx, hp⟩ := hT.ins
  obtain ⟨xs, hx⟩ := id hT.hpl
  have ip := idx_get mp
  have iq := idx_get mq
  have lp := List.idxOf_lt_length_iff.mpr mp
  have lq := List.idxOf_lt_length_iff.mpr mq
  have vp := plK_val hT.ok.nd ip
  have vq := plK_val hT.ok.nd iq
  generalize Tm.pts.idxOf p = s_ at *
  generalize Tm.pts.idxOf q_ = e at *
  obtain ⟨ra, a1, a2, a3⟩ := hT.row lp
  obtain ⟨re, e1, e2, e3⟩ := hT.row lq
  refine ⟨_, rfl, _, _, _, _, _, rfl, hp, TTb.cl, TTb.n__places, lk_Table__places, _, rfl, pl, a, xs, ptK p, _, rfl, rfl, hx.o, hx.k, ha, hx.val vp, ?_⟩
  refine ⟨_, rfl, _, _, _, _, _, rfl, hp, TTb.cl, TTb.n__places, lk_Table__places, _, rfl, pl, b, xs, ptK q_, _, rfl, rfl, hx.o, hx.k, hb, hx.val vq, ?_⟩
  refine ⟨_, rfl, _, _, _, _, _, rfl, hp, TTb.cl, TTb.n__rows, lk_Table__rows, _, rfl, _, _, _, _, rfl, rfl, SqL.of hT.hrw, at_of (j := e) rfl (by rw [List.getElem?_map, e1]; rfl), _, rfl, _, _, _, _, rfl, rfl, rowAt e2, row_at (by rw [e3]; exact lp), ?_⟩
  refine ⟨fun σ H' => σ = [some (.ref t), some (.ref a), some (.ref b), some (.int w_), some (.int (s_ : Int)), some (.int (e : Int)), some (hiV (cellM Tm.d e s_))] ∧ Outs (t :: rs) H H' ∧ TbAt P w K CT H' t (putM Tm s_ e w_) pl rw rs, ?_, ?_⟩
  · have no : putM Tm s_ e w_ = if negB (cellM Tm.d e s_) w_ = true then ⟨Tm.pts, Tm.d, false⟩ else if nearB w_ (cellM Tm.d s_ e) = true then ⟨Tm.pts, shortM Tm.d s_ e w_, Tm.ok⟩ else Tm := rfl
    rw [no]
    refine ⟨_, rfl, rfl, _, rfl, ?_⟩
    have hc : (Tm.d.getD e []).getD s_ none = cellM Tm.d e s_ := rfl
    rw [hc]
    cases hcell : cellM Tm.d e s_ with
    | none =>
      refine ite2 (fun g => absurd g (by rw [decide_eq_true (show hiV none = V.non from rfl)]; decide)) (fun _ => iteF ?_)
      rw [if_neg (show ¬ negB none w_ = true from by intro z; cases z)]
      have hc2 : (Tm.d.getD s_ []).getD e none = cellM Tm.d s_ e := rfl
      refine ⟨_, rfl, _, rfl, _, _, _, _, _, rfl, hp, TTb.cl, TTb.n__rows, lk_Table__rows, _, rfl, _, _, _, _, rfl, rfl, SqL.of hT.hrw, at_of (j := s_) rfl (by rw [List.getElem?_map, a1]; rfl), _, rfl, _, _, _, _, rfl, rfl, rowAt a2, row_at (by rw [a3]; exact lq), w_, _, rfl, _, rfl, ?_⟩
      rw [hc2]
      refine ite2 (fun g3 => ?_) (fun g3 => ?_)
      · rw [if_pos g3]
        exact ⟨_, rfl, t, dx, _, rfl, hp, no_Table, _, rfl, _, rfl, _, rfl, t, pl, rw, Tm, rs, s_, e, w_, rfl, hT, lp, lq, fun H' o1 hT1 => ⟨rfl, o1.mono (fun b hb => List.mem_cons_of_mem _ hb), hT1⟩⟩
      · rw [if_neg g3]
        exact ⟨rfl, Outs.of (fun _ _ h => h), hT⟩
    | some b0 =>
      refine ite2 (fun _ => ?_) (fun g => absurd (by rw [decide_eq_false (show ¬ (hiV (some b0)) = V.non from by intro z; cases z)]; rfl) g)
      refine ⟨_, rfl, _, rfl, _, _, rfl, rfl, _, _, rfl, rfl, _, rfl, ite2 (fun g => ?_) (fun g => ?_)⟩
      · rw [if_pos (show negB (some b0) w_ = true from g)]
        refine ⟨_, rfl, t, CT, dx, _, rfl, hp, TTb.cl, TTb.n__possible, len_Table, ?_⟩
        rw [put_possible]
        exact ⟨rfl, Outs.but But.set (by simp), hT.flag But.set upd_same⟩
      · rw [if_neg (show ¬ negB (some b0) w_ = true from g)]
        have hc2 : (Tm.d.getD s_ []).getD e none = cellM Tm.d s_ e := rfl
        refine ⟨_, rfl, _, rfl, _, _, _, _, _, rfl, hp, TTb.cl, TTb.n__rows, lk_Table__rows, _, rfl, _, _, _, _, rfl, rfl, SqL.of hT.hrw, at_of (j := s_) rfl (by rw [List.getElem?_map, a1]; rfl), _, rfl, _, _, _, _, rfl, rfl, rowAt a2, row_at (by rw [a3]; exact lq), w_, _, rfl, _, rfl, ?_⟩
        rw [hc2]
        refine ite2 (fun g3 => ?_) (fun g3 => ?_)
        · rw [if_pos g3]
          exact ⟨_, rfl, t, dx, _, rfl, hp, no_Table, _, rfl, _, rfl, _, rfl, t, pl, rw, Tm, rs, s_, e, w_, rfl, hT, lp, lq, fun H' o1 hT1 => ⟨rfl, o1.mono (fun b hb => List.mem_cons_of_mem _ hb), hT1⟩⟩
        · rw [if_neg g3]
          exact ⟨rfl, Outs.of (fun _ _ h => h), hT⟩
  rintro σ H' ⟨rfl, o1, hT2⟩
  obtain ⟨dx2, hp2⟩ := hT2.ins
  exact ⟨_, rfl, _, _, _, _, _, rfl, hp2, TTb.cl, TTb.n__possible, lk_Table__possible, q H' o1 hT2⟩
def sp_table_of (K : PySem.W.Frag) (P : Program) (w : World) (CT : Addr) : Sp := fun vs H Q _ => ∃ (b a : Addr) (es cs : List Addr) (bds : List Bd) (ps : List Pt), vs = [.ref b, .ref a] ∧ Dk.BnLA K H b es bds ∧ Dk.PtLA K H a cs ps ∧ (namesM ps bds).length ≤ 39 ∧ ps.length + 2 * bds.length ≤ 1000 ∧ ∀ (t pl rw : Addr) (rs : List Addr) (H' : Hp), Same H H' → (∀ x ∈ t :: pl :: rw :: rs, H x = none) → TbAt P w K CT H' t (runB ((namesM ps bds).foldl addM ⟨[], [], true⟩) bds) pl rw rs → Q (.ref t) H'
set_option maxHeartbeats 2000000 in
theorem ok_table_of {f : Addr} {fd : FuncData} {CT : Addr} (TTb : Ck_Table K mg CT) {f_Table___init__ : Addr} (MTb : Mk K CT f_Table___init__) (D : Df K mg "table_of" s_table_of ["bounds", "points"] f fd) (T : Txt K mg) {f_points_named : Addr} {fd_points_named : FuncData} (D_points_named : Df K mg "points_named" s_points_named ["bounds", "points"] f_points_named fd_points_named) (G_points_named : FnOk P w K mg base CX0 1 f_points_named fd_points_named ["bounds", "points"] (sp_points_named K)) {fd_Table___init__ : FuncData} (M_Table___init__ : Mt K CT "__init__" "Table.__init__" s_Table___init__ ["self"] f_Table___init__ fd_Table___init__) (G_Table___init__ : FnOk P w K mg base CX0 1 f_Table___init__ fd_Table___init__ ["self"] (sp_Table___init__ K P w CT)) {f_Table_add_point : Addr} {fd_Table_add_point : FuncData} (M_Table_add_point : Mt K CT "add_point" "Table.add_point" s_Table_add_point ["self", "point"] f_Table_add_point fd_Table_add_point) (G_Table_add_point : FnOk P w K mg base CX0 1 f_Table_add_point fd_Table_add_point ["self", "point"] (sp_Table_add_point K P w CT)) {f_Table_put_bound : Addr} {fd_Table_put_bound : FuncData} (M_Table_put_bound : Mt K CT "put_bound" "Table.put_bound" s_Table_put_bound ["self", "first", "second", "amount"] f_Table_put_bound fd_Table_put_bound) (G_Table_put_bound : FnOk P w K mg base CX0 3 f_Table_put_bound fd_Table_put_bound ["self", "first", "second", "amount"] (sp_Table_put_bound K P w CT)) : FnOk P w K mg base CX0 4 f fd ["bounds", "points"] (sp_table_of K P w CT) := by
  refine D.F.ok sc_table_of (fun vs H Q E h => ?_) (fun cdv A outer s H vs Q E hr h => ?_)
  · obtain ⟨b, a, es, cs, bds, ps, rfl, _⟩ := h
    rfl
  obtain ⟨b, a, es, cs, bds, ps, rfl, hB, hP, nlen, few, q⟩ := h
  refine ⟨_, (pss_cons (ps_set (i := 2) sc_table_of.nd rfl (Or.inl rfl) (pe_make0 MTb G_Table___init__ (hr.mono (by decide)) rfl TTb.mg M_Table___init__.b .nil pass0))
    (pss_cons (ps_for PassesOwn.never rfl (pi_list (pe_call G_points_named (hr.mono (by decide)) rfl D_points_named.m D_points_named.F.kp D_points_named.b .nil pass0 (pa_cons (pv 0) (pa_cons (pv 1) pa_nil)))) (pg_name (i := 3) sc_table_of.nd rfl (Or.inl rfl))
      (pss_one (ps_expr (pe_meth (pv 2) TTb.cl M_Table_add_point.m G_Table_add_point (hr.mono (by decide)) M_Table_add_point.b .nil pass0 (pa_cons (pv 3) pa_nil)))))
    (pss_cons (ps_for PassesOwn.never rfl (pi_list (pv 0)) (pg_tup rfl (pgs_cons (pg_name (i := 4) sc_table_of.nd rfl (Or.inl rfl)) (pgs_cons (pg_name (i := 5) sc_table_of.nd rfl (Or.inl rfl)) (pgs_cons (pg_name (i := 6) sc_table_of.nd rfl (Or.inl rfl)) (pgs_cons (pg_name (i := 7) sc_table_of.nd rfl (Or.inl rfl)) pgs_nil)))))
      (pss_one (ps_if (pt_not (pt_truth (pe_meth (pv 2) TTb.cl M_Table_put_bound.m G_Table_put_bound (hr.mono (by decide)) M_Table_put_bound.b .nil pass0 (pa_cons (pv 4) (pa_cons (pv 5) (pa_cons (pv 6) pa_nil)))) (by intro _; rfl)))
      (pss_one ps_break)
      pss_nil)))
    (pss_one (ps_ret (pv 2)))))), ?_⟩
  refine fun x dx nx ndx nex => ⟨x, dx, rfl, upd_same, fun pl rw H2 b2 h2 h3 h4 n3 n4 => ⟨rfl, ?_⟩⟩
  have s2 : Same H H2 := fun c u hc => b2 _ _ (ne_of_none hc nx) (mk_sameT (C := CT) nx ndx _ _ hc)
  have nn : ∀ {y}, upd (upd H dx (.own x)) x (.ins CT dx []) y = none → H y = none := fun {y} h => by
    cases e : H y with
    | none => rfl
    | some u => rw [mk_sameT (C := CT) nx ndx _ _ e] at h; cases h
  have t2 : TbAt P w K CT H2 x ⟨[], [], true⟩ pl rw [] := ⟨⟨dx, h2⟩, ⟨[], ⟨h3, (fun x h => by cases h), rfl⟩⟩, h4, Each.nil, by simp, List.nodup_nil, ⟨List.nodup_nil, by decide, rfl, fun r h => by cases h⟩⟩
  have fr0 : ∀ y ∈ [x, pl, rw], H y = none := fun y hy => by
    simp only [List.mem_cons, List.not_mem_nil, or_false] at hy
    rcases hy with e | e | e
    · rw [e]; exact nx
    · rw [e]; exact nn n3
    · rw [e]; exact nn n4
  clear h2 h3 h4 n3 n4 b2 nex nn
  have nnd := names_nd ps bds
  have bmem := fun (z : Bd) (m : z ∈ bds) => foldB_mem bds (ps.foldl insP []) m
  refine ⟨_, rfl, _, rfl, b, a, es, cs, bds, ps, rfl, hB.keep s2, hP.keep s2, by omega, fun l bs H3 s3 nl P3 => ?_⟩
  have bmem : ∀ z ∈ bds, z.one ∈ namesM ps bds ∧ z.two ∈ namesM ps bds := bmem
  generalize namesM ps bds = ns at *
  have t3 := t2.keep s3
  have s03 := s2.trans s3
  have nlp : l ∉ [x, pl, rw] := t2.free nl
  have blen : bs.length = ns.length := P3.e.1
  refine ⟨_, rfl, ⟨_, SqL.of P3.l⟩, for_list (K := K) (a := l) (xs := bs.map V.ref) (fun i σ H' => ∃ v3 rs, σ = [some (.ref b), some (.ref a), some (.ref x), v3, none, none, none, none] ∧ Same H H' ∧ TbAt P w K CT H' x ((ns.take i).foldl addM ⟨[], [], true⟩) pl rw rs ∧ (∀ y ∈ x :: pl :: rw :: rs, H y = none) ∧ l ∉ x :: pl :: rw :: rs ∧ Dk.PtLA K H' l bs ns) ⟨none, [], rfl, s03, t3, fr0, nlp, P3⟩ (fun i σ H' _ ⟨_, _, _, _, _, _, _, z⟩ => SqL.of z.l) ?_ ?_⟩
  · rintro i v σ H4 hv ⟨v3, rs, rfl, s4, t4, fr4, nl4, P4⟩
    obtain ⟨c, hc, rfl⟩ := ref_of hv
    obtain ⟨p, hpp, hq⟩ := P4.e.get hc
    have hi : i < ns.length := (List.getElem?_eq_some_iff.mp hpp).1
    obtain ⟨dx4, hx4⟩ := t4.ins
    have pts4 := addAll_pts (ns.take i) ⟨[], [], true⟩
    have pts4 : ((ns.take i).foldl addM ⟨[], [], true⟩).pts = ns.take i := pts4
    have st : (ns.take (i + 1)).foldl addM ⟨[], [], true⟩ = addM ((ns.take i).foldl addM ⟨[], [], true⟩) p := by
      rw [List.take_add_one, hpp, List.foldl_append]
      rfl
    rw [st]
    generalize (ns.take i).foldl addM ⟨[], [], true⟩ = Tm at *
    have np : p ∉ Tm.pts := fun m => by
      rw [pts4] at m
      obtain ⟨k, hk⟩ := List.getElem?_of_mem m
      have hk2 := (List.getElem?_eq_some_iff.mp hk).1
      rw [List.length_take] at hk2
      rw [List.getElem?_take_of_lt (by omega)] at hk
      have := nd_ix nnd hk hpp
      omega
    refine ⟨_, rfl, _, _, _, rfl, hx4, no_Table, _, rfl, x, pl, rw, c, Tm, rs, p, rfl, t4, hq, np, by rw [pts4, List.length_take]; omega, fun y H5 ny o5 t5 => ?_⟩
    have sub : ∀ z ∈ pl :: rw :: rs, z ∈ x :: pl :: rw :: rs := fun z hz => List.mem_cons_of_mem _ hz
    have tk := o5.tups t4 sub
    refine ⟨_, rs ++ [y], rfl, o5.same s4 (fun z hz => fr4 z (sub z hz)), t5, fun z hz => ?_, fun m => ?_, P4.tk tk (o5 _ _ (fun m => nl4 (sub _ m)) P4.l)⟩
    · simp only [List.mem_cons, List.mem_append, List.not_mem_nil, or_false] at hz
      rcases hz with h | h | h | h | h
      · exact fr4 z (by simp [h])
      · exact fr4 z (by simp [h])
      · exact fr4 z (by simp [h])
      · exact fr4 z (by simp [h])
      · rw [h]; exact s4.free ny
    · simp only [List.mem_cons, List.mem_append, List.not_mem_nil, or_false] at nl4 m
      rcases m with h | h | h | h | h
      · exact nl4 (.inl h)
      · exact nl4 (.inr (.inl h))
      · exact nl4 (.inr (.inr (.inl h)))
      · exact nl4 (.inr (.inr (.inr h)))
      · have hl := P4.l
        rw [h, ny] at hl; cases hl
  rintro σ H4 ⟨v3, rs, rfl, s4, t4, fr4, nl4, P4⟩
  rw [List.length_map, blen, List.take_length] at t4
  have pts0 : (ns.foldl addM ⟨[], [], true⟩).pts = ns := addAll_pts ns ⟨[], [], true⟩
  have ok0 : (ns.foldl addM ⟨[], [], true⟩).ok = true := addAll_ok ns ⟨[], [], true⟩
  generalize ns.foldl addM ⟨[], [], true⟩ = T0 at *
  refine ⟨_, rfl, _, rfl, ⟨_, SqL.of (hB.keep s4).l⟩, for_list (K := K) (a := b) (xs := es.map V.ref) (fun i σ H' => ∃ v4 v5 v6 v7 T, σ = [some (.ref b), some (.ref a), some (.ref x), v3, v4, v5, v6, v7] ∧ Same H H' ∧ TbAt P w K CT H' x T pl rw rs ∧ T.pts = ns ∧ runB T0 bds = runB T (bds.drop i)) ⟨none, none, none, none, _, rfl, s4, t4, pts0, rfl⟩ (fun i σ H' _ ⟨_, _, _, _, _, _, s, _⟩ => SqL.of (s _ _ hB.l)) ?_ ?_⟩
  · rintro i v σ H5 hv ⟨v4, v5, v6, v7, T, rfl, s5, t5, ep, run⟩
    obtain ⟨e, he, rfl⟩ := ref_of hv
    obtain ⟨z, hz, x1, x2, h1, h2, h3⟩ := (hB.keep s5).e.get he
    obtain ⟨m1, m2⟩ := bmem z (List.mem_of_getElem? hz)
    rw [← ep] at m1 m2
    have hi : i < bds.length := (List.getElem?_eq_some_iff.mp hz).1
    have dr : bds.drop i = z :: bds.drop (i + 1) := by
      rw [List.drop_eq_getElem_cons hi]
      congr 1
      have := List.getElem?_eq_getElem hi
      rw [hz] at this
      exact (Option.some.inj this).symm
    rw [dr, runB_cons] at run
    obtain ⟨dx5, hx5⟩ := t5.ins
    refine ⟨_, _, rfl, h1, rfl, _, _, rfl, _, _, rfl, _, _, rfl, _, _, rfl, rfl, ?_⟩
    refine ⟨_, rfl, _, _, _, rfl, hx5, no_Table, _, rfl, _, rfl, _, rfl, x, pl, rw, x1, x2, T, rs, z.one, z.two, z.amount, rfl, t5, h2, h3, m1, m2, fun H6 o6 t6 => ?_⟩
    have s6 : Same H H6 := o6.same s5 (fun y hy => by
      simp only [List.mem_cons] at hy
      rcases hy with h | h
      · exact fr4 y (by simp [h])
      · exact fr4 y (by simp [h]))
    have ep6 := putM_pts T (T.pts.idxOf z.one) (T.pts.idxOf z.two) z.amount
    generalize hT6 : putM T (T.pts.idxOf z.one) (T.pts.idxOf z.two) z.amount = T6 at *
    refine ⟨_, rfl, ite2 (fun c => ?_) (fun c => ?_)⟩
    · have ok6 : T6.ok = false := by
        cases h : T6.ok with
        | false => rfl
        | true => rw [h] at c; cases c
      rw [if_neg (by rw [ok6]; decide)] at run
      refine ⟨_, rfl, q x pl rw rs H6 s6 fr4 ?_⟩
      rw [run]
      exact t6
    · have ok6 : T6.ok = true := by
        cases h : T6.ok with
        | true => rfl
        | false => rw [h] at c; exact absurd rfl c
      rw [if_pos ok6] at run
      exact ⟨_, _, _, _, T6, rfl, s6, t6, ep6.trans ep, run⟩
  rintro σ H5 ⟨v4, v5, v6, v7, T, rfl, s5, t5, ep, run⟩
  rw [List.length_map, hB.e.1, List.drop_length] at run
  have run : runB T0 bds = T := run
  refine ⟨_, rfl, q x pl rw rs H5 s5 fr4 ?_⟩
  rw [run]
  exact t5
def sp__law_draws (K : PySem.W.Frag) : Sp := fun vs H Q _ => ∃ (a : Addr) (ns : List Int) (c : Int), vs = [.ref a, .int c] ∧ SqL K H a (ns.map V.int) ∧ 0 ≤ c ∧ c ≤ 100 ∧ ∀ (p : Addr) (H' : Hp) (rs : List Int), Same H H' → H p = none → H' p = some (.lst (rs.map V.int)) → rs.length = c.toNat → Q (.ref p) H'
theorem ok__law_draws {f : Addr} {fd : FuncData} (D : Df K mg "_law_draws" s__law_draws ["script", "count"] f fd) (T : Txt K mg) : FnOk P w K mg base CX0 1 f fd ["script", "count"] (sp__law_draws K) := by
  refine D.F.ok sc__law_draws (fun vs H Q E h => ?_) (fun cdv A outer s H vs Q E hr h => ?_)
  · obtain ⟨a, ns, c, rfl, _⟩ := h
    rfl
  obtain ⟨a, ns, c, rfl, hS, h0, h1, q⟩ := h
  refine ⟨_, (pss_cons (ps_set (i := 2) sc__law_draws.nd rfl (Or.inl rfl) (pe_lst pa_nil))
    (pss_cons (ps_for PassesOwn.never rfl (pi_range1 rfl T.range (pa_cons (pv 1) pa_nil)) (pg_name (i := 3) sc__law_draws.nd rfl (Or.inl rfl))
      (pss_cons (ps_set (i := 4) sc__law_draws.nd rfl (Or.inl rfl) pe_int)
    (C8.pss_cut (ps_if (pt_cmpR op_lt (pv 3) (pe_callB call_len_seq rfl T.len PySem.boot_len (pa_cons (pv 0) pa_nil)) (nomark _))
      (pss_one (ps_set (i := 4) sc__law_draws.nd rfl (Or.inl rfl) (pe_callTy call_int1 rfl T.int (by decide +kernel) (pa_cons (pe_ix ix_list (pv 0) (pv 3) (fun _ _ => rfl)) pa_nil))))
      pss_nil)
    (C8.pss_cut (ps_if (pt_cmpR op_lt (pv 4) pe_int (nomark _))
      (pss_one (ps_set (i := 4) sc__law_draws.nd rfl (Or.inl rfl) (pe_op op_sub pe_int (pe_op op_mul pe_int (pv 4)))))
      pss_nil)
    (C8.pss_cut (ps_if (pt_cmpR op_lt (pv 4) pe_int (nomark _))
      (pss_cons (ps_set (i := 4) sc__law_draws.nd rfl (Or.inl rfl) (pe_op op_mod (pe_callTy call_int1 rfl T.int (by decide +kernel) (pa_cons (pe_op op_add (pe_op op_mul (pe_op op_add (pe_op op_add (pv 4) (pe_op op_mul pe_int (pv 3))) pe_int) pe_int) (pe_op op_mul (pe_op op_mul (pv 3) (pv 3)) pe_int)) pa_nil)) pe_int))
    (pss_one (ps_set (i := 4) sc__law_draws.nd rfl (Or.inl rfl) (pe_op op_mod (pe_callTy call_int1 rfl T.int (by decide +kernel) (pa_cons (pe_op op_add (pe_op op_mul (pv 4) pe_int) pe_int) pa_nil)) pe_int))))
      pss_nil)
    (pss_one (ps_expr (pe_bm PySem.F.plainAttrs_list PySem.F.slot_list_append PySem.F.type_list_append mt_append (pv 2) (pa_cons (pv 4) pa_nil)))))))))
    (pss_one (ps_ret (pv 2))))), ?_⟩
  refine ⟨(by show 0 ≤ sizeLine; decide), fun p hp => ?_⟩
  refine ⟨_, rfl, _, rfl, by omega, by omega, for_range (lo := 0) (n := c.toNat) (fun i σ H' => ∃ k v, ∃ rs : List Int, σ = [some (.ref a), some (.int c), some (.ref p), k, v] ∧ Same H H' ∧ H' p = some (.lst (rs.map V.int)) ∧ rs.length = i) ⟨none, none, [], rfl, same_upd hp, upd_same, rfl⟩ ?_ ?_⟩
  · rintro i σ H' hi ⟨k, v, rs, rfl, sm, ep, hl⟩
    have hi' : i ≤ 100 := by omega
    refine ⟨fun σ H2 => ∃ c2 : Int, σ = [some (.ref a), some (.int c), some (.ref p), some (.int (0 + (i : Int))), some (.int c2)] ∧ H2 = H', ?_, ?_⟩
    · refine ⟨_, rfl, _, rfl, _, _, rfl, .inl (sm.seq hS), _, _, rfl, rfl, _, rfl, ite2 (fun c' => ?_) (fun c' => ⟨_, rfl, rfl⟩)⟩
      have c2 := of_decide_eq_true c'
      rw [List.length_map] at c2
      exact ⟨_, rfl, _, rfl, _, _, _, _, rfl, rfl, sm.seq hS, at_of (j := i) (v := V.int (ns[i]'(by omega))) (by omega) (by rw [List.getElem?_map, List.getElem?_eq_getElem (by omega)]; rfl), .inl ⟨_, rfl, _, rfl, rfl⟩⟩
    rintro σ H2 ⟨c2, rfl, rfl⟩
    refine ⟨fun σ H3 => ∃ c2 : Int, σ = [some (.ref a), some (.int c), some (.ref p), some (.int (0 + (i : Int))), some (.int c2)] ∧ H3 = H2, ?_, ?_⟩
    · refine ⟨_, rfl, _, _, rfl, rfl, _, rfl, ite2 (fun c' => ?_) (fun c' => ⟨_, rfl, rfl⟩)⟩
      exact ⟨_, rfl, _, _, rfl, rfl, (.inl (by decide)), _, _, rfl, rfl, _, rfl, rfl⟩
    rintro σ H3 ⟨c3, rfl, rfl⟩
    refine ⟨fun σ H4 => ∃ c2 : Int, σ = [some (.ref a), some (.int c), some (.ref p), some (.int (0 + (i : Int))), some (.int c2)] ∧ H4 = H3, ?_, ?_⟩
    · refine ⟨_, rfl, _, _, rfl, rfl, _, rfl, ite2 (fun c' => ?_) (fun c' => ⟨_, rfl, rfl⟩)⟩
      refine ⟨_, rfl, _, rfl, _, _, rfl, rfl, (.inl (by decide)), _, _, rfl, rfl, _, _, rfl, rfl, _, _, rfl, rfl, (.inr (by decide)), _, rfl, _, rfl, _, _, rfl, rfl, (.inl ⟨by omega, by omega⟩), _, _, rfl, rfl, (.inr (by decide)), _, _, rfl, rfl, .inl ⟨_, rfl, _, _, rfl, rfl, (posJ rfl), ?_⟩⟩
      exact ⟨_, rfl, _, _, rfl, rfl, (.inr (by decide)), _, _, rfl, rfl, .inl ⟨_, rfl, _, _, rfl, rfl, (posJ rfl), _, rfl, rfl⟩⟩
    rintro σ H4 ⟨c4, rfl, rfl⟩
    refine ⟨_, rfl, .inl ⟨rfl, _, SqL.of ep⟩, _, rfl, _, _, _, rfl, rfl, ep, by rw [List.length_map, hl]; exact sizes' (by omega), ?_⟩
    refine ⟨_, _, rs ++ [c4], rfl, fun b u h => ?_, by rw [upd_same, List.map_append]; rfl, by rw [List.length_append, List.length_singleton, hl]⟩
    rw [upd_ne (ne_of_none h hp)]
    exact sm _ _ h
  · rintro σ H' ⟨k, v, rs, rfl, sm, ep, hl⟩
    exact ⟨_, rfl, q p H' rs sm hp ep hl⟩
def sp__law_take (K : PySem.W.Frag) : Sp := fun vs H Q _ => ∃ (r : Addr) (at_ m : Int) (n : Nat), vs = [.ref r, .int at_, .int m] ∧ RwAt H r n ∧ 0 ≤ at_ ∧ at_ < n ∧ 0 < m ∧ m ≤ 10 ^ 18 ∧ ∀ (g : Int) (H' : Hp), 0 ≤ g → g < m → But r H H' → RwAt H' r n → Q (.int g) H'
theorem ok__law_take {f : Addr} {fd : FuncData} (D : Df K mg "_law_take" s__law_take ["rows", "at", "many"] f fd) (T : Txt K mg) : FnOk P w K mg base CX0 1 f fd ["rows", "at", "many"] (sp__law_take K) := by
  refine D.F.ok sc__law_take (fun vs H Q E h => ?_) (fun cdv A outer s H vs Q E hr h => ?_)
  · obtain ⟨r, at_, m, n, rfl, _⟩ := h
    rfl
  obtain ⟨r, at_, m, n, rfl, ⟨ns, hr1, hl⟩, h0, h1, hm, hm2, q⟩ := h
  refine ⟨_, (pss_cons (ps_set (i := 3) sc__law_take.nd rfl (Or.inl rfl) (pe_op op_modN (pe_callTy call_int1 rfl T.int (by decide +kernel) (pa_cons (pe_ix ix_list (pv 0) (pv 1) (fun _ _ => rfl)) pa_nil)) (pv 2)))
    (pss_cons (ps_asg (pe_op op_fdivW (pe_callTy call_int1 rfl T.int (by decide +kernel) (pa_cons (pe_ix ix_list (pv 0) (pv 1) (fun _ _ => rfl)) pa_nil)) (pv 2)) (pg_sub (pv 0) (pv 1) set_list))
    (pss_one (ps_ret (pv 3))))), ?_⟩
  obtain ⟨j, rfl⟩ : ∃ j : Nat, at_ = (j : Int) := ⟨at_.toNat, by omega⟩
  have hj : j < ns.length := by omega
  have hat : atI (ns.map V.int) (j : Int) = some (.int ns[j]) := at_of (j := j) rfl (by rw [List.getElem?_map, List.getElem?_eq_getElem hj]; rfl)
  refine ⟨_, rfl, _, rfl, _, _, _, _, rfl, rfl, SqL.of hr1, hat, .inl ⟨_, rfl, _, rfl, _, _, rfl, rfl, by omega, ?_⟩⟩
  refine ⟨_, rfl, _, rfl, _, _, _, _, rfl, rfl, SqL.of hr1, hat, .inl ⟨_, rfl, _, rfl, _, _, rfl, rfl, wide_div (b := 60) hm (by omega) (by decide) (by decide), _, rfl, _, rfl, _, _, _, j, rfl, rfl, hr1, ixn (by rw [List.length_map]; exact hj), ?_⟩⟩
  refine ⟨_, rfl, q _ _ (Int.fmod_nonneg_of_pos _ hm) (Int.fmod_lt_of_pos _ hm) But.set ⟨ns.set j (ns[j] / m), ?_, by rw [List.length_set]; exact hl⟩⟩
  rw [upd_same, List.map_set]
def sp__law_kinds (K : PySem.W.Frag) : Sp := fun vs H Q _ => ∃ (r : Addr) (at_ : Int) (n : Nat), vs = [.ref r, .int at_] ∧ RwAt H r n ∧ 0 ≤ at_ ∧ at_ < n ∧ ∀ (t : Addr) (H' : Hp) (ks : List Kd), But r H H' → RwAt H' r n → Im K H' (ksP ks) (.ref t) → Ks24 ks → Q (.ref t) H'
set_option maxHeartbeats 1000000 in
theorem ok__law_kinds {f : Addr} {fd : FuncData} (D : Df K mg "_law_kinds" s__law_kinds ["rows", "at"] f fd) (T : Txt K mg) {f__law_take : Addr} {fd__law_take : FuncData} (D__law_take : Df K mg "_law_take" s__law_take ["rows", "at", "many"] f__law_take fd__law_take) (G__law_take : FnOk P w K mg base CX0 1 f__law_take fd__law_take ["rows", "at", "many"] (sp__law_take K)) : FnOk P w K mg base CX0 2 f fd ["rows", "at"] (sp__law_kinds K) := by
  refine D.F.ok sc__law_kinds (fun vs H Q E h => ?_) (fun cdv A outer s H vs Q E hr h => ?_)
  · obtain ⟨r, at_, n, rfl, _⟩ := h
    rfl
  obtain ⟨r, at_, n, rfl, hr0, h0, h1, q⟩ := h
  refine ⟨_, (pss_cons (ps_set (i := 2) sc__law_kinds.nd rfl (Or.inl rfl) (pe_lst pa_nil))
    (pss_cons (ps_for PassesOwn.never rfl (pi_range1 rfl T.range (pa_cons pe_int pa_nil)) (pg_name (i := 3) sc__law_kinds.nd rfl (Or.inl rfl))
      (pss_cons (ps_set (i := 4) sc__law_kinds.nd rfl (Or.inl rfl) (pe_op op_add pe_int (pe_call G__law_take (hr.mono (by decide)) rfl D__law_take.m D__law_take.F.kp D__law_take.b .nil pass0 (pa_cons (pv 0) (pa_cons (pv 1) (pa_cons pe_int pa_nil))))))
    (pss_one (ps_expr (pe_bm PySem.F.plainAttrs_list PySem.F.slot_list_append PySem.F.type_list_append mt_append (pv 2) (pa_cons (pe_tup (pa_cons (pe_op op_add_str pe_str (pe_callTy call_str_int rfl T.str (by decide +kernel) (pa_cons (pv 3) pa_nil))) (pa_cons (pv 4) (pa_cons (pe_op op_add (pv 4) (pe_call G__law_take (hr.mono (by decide)) rfl D__law_take.m D__law_take.F.kp D__law_take.b .nil pass0 (pa_cons (pv 0) (pa_cons (pv 1) (pa_cons pe_int pa_nil))))) pa_nil)))) pa_nil))))))
    (pss_one (ps_ret (pe_callTy call_tuple_of rfl T.tuple (by decide +kernel) (pa_cons (pv 2) pa_nil)))))), ?_⟩
  refine ⟨(by show 0 ≤ sizeLine; decide), fun a3 n3 => ?_⟩
  generalize e3 : upd H a3 _ = H3
  obtain ⟨s3, h3⟩ := fr e3 n3
  clear e3
  have w3 : Wd K H3 r n [(a3, [])] [] := (Wd.one hr0).new s3 n3 ⟨_, h3, ImL.nil_⟩
  refine ⟨_, rfl, by decide, by decide, for_range (lo := 0) (n := 2) (fun j σ H' => ∃ v3 v4, ∃ ks : List Kd, σ = [some (.ref r), some (.int at_), some (.ref a3), v3, v4] ∧ But r H H' ∧ Wd K H' r n [(a3, ks.map kdP)] [] ∧ ks.length = j ∧ ∀ k ∈ ks, ∃ h, k.high = some h ∧ 1 ≤ k.low ∧ k.low ≤ h ∧ h ≤ 13) ⟨_, _, [], rfl, But.of s3, w3, rfl, fun k h => by simp at h⟩ ?_ ?_⟩
  · rintro j σ H5 hj ⟨v3, v4, ks, rfl, b5, w5, hkl, hks⟩
    refine ⟨_, rfl, _, rfl, r, _, 6, n, rfl, w5.rows, h0, h1, by decide, by decide, fun e H6 e0 e1 b6 r6 => ⟨_, _, rfl, rfl, ?_⟩⟩
    have w6 := w5.take b6 r6
    obtain ⟨x6, hx6, _⟩ := w6.at 0 rfl
    have hw := word_len (numT (i := j) (by omega))
    refine ⟨_, rfl, .inl ⟨rfl, _, SqL.of hx6⟩, _, rfl, _, rfl, (numT (i := j) (by omega)).log, _, _, rfl, rfl, sizes (by rw [show (Str.ofString "k").length = 1 by decide +kernel]; omega), _, rfl, _, rfl, _, rfl, _, rfl, r, _, 8, n, rfl, w6.rows, h0, h1, by decide, by decide, fun f H7 f0 f1 b7 r7 => ⟨_, _, rfl, rfl, (by show 3 ≤ sizeLine; decide), fun a8 n8 => ?_⟩⟩
    have w7 := w6.take b7 r7
    generalize e8 : upd H7 a8 _ = H8
    obtain ⟨s8, h8⟩ := fr e8 n8
    clear e8
    obtain ⟨x9, g9, l9, w9⟩ := (w7.keep s8).snoc 0 rfl (kdI (k := ⟨_, 1 + e, some (1 + e + f)⟩) (SqT.of h8))
    rw [List.length_map] at l9
    refine ⟨_, _, _, rfl, rfl, g9, by rw [l9]; exact sizes' (by omega), _, _, ks ++ [⟨_, 1 + e, some (1 + e + f)⟩], rfl, (((b5.trans b6).trans b7).trans (But.of s8)).upd n3, by rw [List.map_append]; exact w9, by rw [List.length_append, List.length_singleton, hkl], fun k hk => ?_⟩
    rcases List.mem_append.mp hk with hk | hk
    · exact hks k hk
    · rw [List.mem_singleton.mp hk]
      exact ⟨_, rfl, by show 1 ≤ 1 + e; omega, by show 1 + e ≤ 1 + e + f; omega, by omega⟩
  rintro σ H5 ⟨v3, v4, ks, rfl, b5, w5, hkl, hks⟩
  obtain ⟨y5, hy5, iy5⟩ := w5.at 0 rfl
  refine ⟨_, rfl, _, _, rfl, .inl ⟨SqL.of hy5, fun a6 n6 => ?_⟩⟩
  generalize e6 : upd H5 a6 _ = H6
  obtain ⟨s6, h6⟩ := fr e6 n6
  clear e6
  exact q a6 H6 ks (b5.trans (But.of s6)) (w5.rows.keep s6) (Im.tup_ (SqT.of h6) (ImL.mono (.of s6) _ iy5)) ⟨hkl, hks⟩
def sp__law_begin (K : PySem.W.Frag) : Sp := fun vs H Q _ => ∃ (cl r kt : Addr) (n : Nat) (ls : List (Addr × List PyData)) (is : List (Addr × HO)) (c : Cs) (ks : List Kd), vs = [.ref cl, .ref r, .ref kt] ∧ Wd K H r n ((cl, c.ns.map PyData.int) :: ls) is ∧ Im K H (ksP ks) (.ref kt) ∧ Ks24 ks ∧ Six ks c.k ∧ 0 ≤ c.m ∧ 59 ≤ n ∧
  ∀ (v : V) (H' : Hp) (l : Int), Wd K H' r n ((cl, (Cs.ns ⟨c.v, c.k, 0, l, c.m + 1⟩).map PyData.int) :: ls) is → TupK H H' → CsOk ks ⟨c.v, c.k, 0, l, c.m + 1⟩ → Q v H'
set_option maxHeartbeats 2000000 in
theorem ok__law_begin {f : Addr} {fd : FuncData} (D : Df K mg "_law_begin" s__law_begin ["clock", "rows", "kinds"] f fd) (T : Txt K mg) {f__law_take : Addr} {fd__law_take : FuncData} (D__law_take : Df K mg "_law_take" s__law_take ["rows", "at", "many"] f__law_take fd__law_take) (G__law_take : FnOk P w K mg base CX0 1 f__law_take fd__law_take ["rows", "at", "many"] (sp__law_take K)) : FnOk P w K mg base CX0 2 f fd ["clock", "rows", "kinds"] (sp__law_begin K) := by
  refine D.F.ok sc__law_begin (fun vs H Q E h => ?_) (fun cdv A outer s H vs Q E hr h => ?_)
  · obtain ⟨cl, r, kt, n, ls, is, c, ks, rfl, _⟩ := h
    rfl
  obtain ⟨cl, r, kt, n, ls, is, c, ks, rfl, w0, ik, hks, h6, hm0, hn, q⟩ := h
  refine ⟨_, (pss_cons (ps_asg pe_int (pg_sub (pv 0) pe_int set_list))
    (C8.pss_cut (ps_set (i := 3) sc__law_begin.nd rfl (Or.inl rfl) (pe_ix ix_tup (pe_ix ix_tup (pv 2) (pe_ix ix_list (pv 0) pe_int (fun _ _ => rfl)) (fun _ _ => rfl)) pe_int (fun _ _ => rfl)))
    (pss_cons (ps_asg (pe_op op_add (pv 3) (pe_call G__law_take (hr.mono (by decide)) rfl D__law_take.m D__law_take.F.kp D__law_take.b .nil pass0 (pa_cons (pv 1) (pa_cons (pe_op op_add pe_int (pe_op op_mod (pe_callTy call_int1 rfl T.int (by decide +kernel) (pa_cons (pe_ix ix_list (pv 0) pe_int (fun _ _ => rfl)) pa_nil)) pe_int)) (pa_cons (pe_op op_add (pe_op op_sub (pe_ix ix_tup (pe_ix ix_tup (pv 2) (pe_ix ix_list (pv 0) pe_int (fun _ _ => rfl)) (fun _ _ => rfl)) pe_int (fun _ _ => rfl)) (pv 3)) pe_int) pa_nil))))) (pg_sub (pv 0) pe_int set_list))
    (pss_one (ps_asg (pe_op op_add (pe_ix ix_list (pv 0) pe_int (fun _ _ => rfl)) pe_int) (pg_sub (pv 0) pe_int set_list)))))), ?_⟩
  have hc0 := (w0.at 0 rfl).toInts
  refine ⟨_, rfl, _, _, _, 3, rfl, rfl, hc0, ixn (by show 3 < 6; decide), ?_⟩
  have w1 := w0.cs (ns' := Cs.ns ⟨c.v, c.k, 0, c.l, c.m⟩) (ws := (c.ns.map V.int).set 3 (.int 0)) rfl
  have k1 : TupK H (upd H cl (.lst ((c.ns.map V.int).set 3 (.int 0)))) := .set hc0
  generalize upd H cl (.lst ((c.ns.map V.int).set 3 (.int 0))) = H1 at *
  have ik1 := Im.mono k1 _ ik
  obtain ⟨_, ws, e0, hkt, iks⟩ := Im.unks ik1
  cases e0
  obtain ⟨ka, hka, hkd⟩ := kd_at iks h6
  obtain ⟨hi, h1, h2, h3, h4, h5⟩ := hks.at h6
  have hc1 := (w1.at 0 rfl).toInts
  refine ⟨fun σ H' => σ = [some (.ref cl), some (.ref r), some (.ref kt), some (.int (loK ks c.k))] ∧ H1 = H', ?_, ?_⟩
  · exact ⟨_, rfl, _, rfl, _, _, _, _, rfl, rfl, SqL.of hc1, at_of (j := 1) rfl rfl, _, _, _, _, rfl, rfl, hkt, hka, _, _, _, _, rfl, rfl, hkd, at_of (j := 1) rfl rfl, rfl, rfl⟩
  rintro σ H' ⟨rfl, rfl⟩
  have mm : 0 ≤ c.m.fmod 50 ∧ c.m.fmod 50 < 50 := ⟨Int.fmod_nonneg_of_pos _ (by decide), Int.fmod_lt_of_pos _ (by decide)⟩
  refine ⟨_, rfl, _, rfl, _, rfl, _, _, _, _, rfl, rfl, SqL.of hc1, at_of (j := 5) rfl rfl, .inl ⟨_, rfl, ?_⟩⟩
  refine ⟨_, _, rfl, rfl, (by show (0 : Int) < 50; decide), _, _, rfl, rfl, _, rfl, _, rfl, _, _, _, _, rfl, rfl, SqL.of hc1, at_of (j := 1) rfl rfl, _, _, _, _, rfl, rfl, hkt, hka, _, _, _, _, rfl, rfl, hkd, at_of (j := 2) rfl (by rw [h1]; rfl), _, rfl, _, _, rfl, rfl, _, _, rfl, rfl, r, _, _, n, rfl, w1.rows, ?_, ?_, ?_, ?_, fun g H2 g0 g1 b2 r2 => ?_⟩
  · omega
  · omega
  · omega
  · omega
  have w2 := w1.take b2 r2
  have k2 := k1.trans (w1.tk b2)
  have hc2 := (w2.at 0 rfl).toInts
  refine ⟨_, _, rfl, rfl, _, rfl, _, _, _, 4, rfl, rfl, hc2, ixn (by show 4 < 6; decide), ?_⟩
  have w3 := w2.cs (ns' := Cs.ns ⟨c.v, c.k, 0, loK ks c.k + g, c.m⟩) (ws := ((Cs.ns ⟨c.v, c.k, 0, c.l, c.m⟩).map V.int).set 4 (.int (loK ks c.k + g))) rfl
  have k3 := k2.trans (.set hc2 (o := .lst (((Cs.ns ⟨c.v, c.k, 0, c.l, c.m⟩).map V.int).set 4 (.int (loK ks c.k + g)))))
  generalize upd H2 cl (.lst (((Cs.ns ⟨c.v, c.k, 0, c.l, c.m⟩).map V.int).set 4 (.int (loK ks c.k + g)))) = H3 at *
  have hc3 := (w3.at 0 rfl).toInts
  refine ⟨_, rfl, _, _, _, _, rfl, rfl, SqL.of hc3, at_of (j := 5) rfl rfl, _, _, rfl, rfl, _, rfl, _, _, _, 5, rfl, rfl, hc3, ixn (by show 5 < 6; decide), ?_⟩
  have w4 := w3.cs (ns' := Cs.ns ⟨c.v, c.k, 0, loK ks c.k + g, c.m + 1⟩) (ws := ((Cs.ns ⟨c.v, c.k, 0, loK ks c.k + g, c.m⟩).map V.int).set 5 (.int (c.m + 1))) rfl
  exact q _ _ _ w4 (k3.trans (.set hc3)) ⟨Int.le_refl _, by show 0 < loK ks c.k + g; omega, by show loK ks c.k ≤ loK ks c.k + g; omega, by show loK ks c.k + g ≤ hiK ks c.k; omega, h6, by show 0 ≤ c.m + 1; omega⟩
def sp__law_run (K : PySem.W.Frag) : Sp := fun vs H Q _ => ∃ (cl r kt : Addr) (n : Nat) (ls : List (Addr × List PyData)) (is : List (Addr × HO)) (c : Cs) (ks : List Kd) (a : Int), vs = [.ref cl, .ref r, .int a, .ref kt] ∧ Wd K H r n ((cl, c.ns.map PyData.int) :: ls) is ∧ Im K H (ksP ks) (.ref kt) ∧ Ks24 ks ∧ CsOk ks c ∧ 0 ≤ a ∧ a ≤ 200 ∧ 59 ≤ n ∧
  ∀ (v : V) (H' : Hp) (d : Cs), Wd K H' r n ((cl, d.ns.map PyData.int) :: ls) is → TupK H H' → Ran ks c d a → Q v H'
set_option maxHeartbeats 2000000 in
theorem ok__law_run {f : Addr} {fd : FuncData} (D : Df K mg "_law_run" s__law_run ["clock", "rows", "amount", "kinds"] f fd) (T : Txt K mg) {f__law_begin : Addr} {fd__law_begin : FuncData} (D__law_begin : Df K mg "_law_begin" s__law_begin ["clock", "rows", "kinds"] f__law_begin fd__law_begin) (G__law_begin : FnOk P w K mg base CX0 2 f__law_begin fd__law_begin ["clock", "rows", "kinds"] (sp__law_begin K)) : FnOk P w K mg base CX0 3 f fd ["clock", "rows", "amount", "kinds"] (sp__law_run K) := by
  refine D.F.ok sc__law_run (fun vs H Q E h => ?_) (fun cdv A outer s H vs Q E hr h => ?_)
  · obtain ⟨cl, r, kt, n, ls, is, c, ks, a, rfl, _⟩ := h
    rfl
  obtain ⟨cl, r, kt, n, ls, is, c, ks, a, rfl, w0, ik, hks, ok, ha0, ha1, hn, q⟩ := h
  refine ⟨_, (pss_one (ps_for PassesOwn.never rfl (pi_range1 rfl T.range (pa_cons (pv 2) pa_nil)) (pg_name (i := 4) sc__law_run.nd rfl (Or.inl rfl))
      (C8.pss_cut (ps_asg (pe_op op_add (pe_ix ix_list (pv 0) pe_int (fun _ _ => rfl)) pe_int) (pg_sub (pv 0) pe_int set_list))
    (pss_one (ps_if (pt_cmpR op_ge (pe_ix ix_list (pv 0) pe_int (fun _ _ => rfl)) (pe_ix ix_list (pv 0) pe_int (fun _ _ => rfl)) (nomark _))
      (pss_cons (ps_asg (pe_op op_add (pe_ix ix_list (pv 0) pe_int (fun _ _ => rfl)) pe_int) (pg_sub (pv 0) pe_int set_list))
    (pss_one (ps_expr (pe_call G__law_begin (hr.mono (by decide)) rfl D__law_begin.m D__law_begin.F.kp D__law_begin.b .nil pass0 (pa_cons (pv 0) (pa_cons (pv 1) (pa_cons (pv 3) pa_nil)))))))
      pss_nil))))), ?_⟩
  refine ⟨_, rfl, _, rfl, by omega, by omega, for_range (lo := 0) (n := a.toNat) (fun j σ H' => ∃ v4, ∃ d : Cs, σ = [some (.ref cl), some (.ref r), some (.int a), some (.ref kt), v4] ∧ Wd K H' r n ((cl, d.ns.map PyData.int) :: ls) is ∧ TupK H H' ∧ Ran ks c d (j : Int)) ⟨_, c, rfl, w0, TupK.refl _, Ran.refl ok⟩ ?_ ?_⟩
  · rintro j σ H1 hj ⟨v4, d, rfl, w1, k1, hr⟩
    have hc1 := (w1.at 0 rfl).toInts
    refine ⟨fun σ H' => ∃ d2 : Cs, σ = [some (.ref cl), some (.ref r), some (.int a), some (.ref kt), some (.int (0 + (j : Int)))] ∧ d2 = ⟨d.v, d.k, d.e + 1, d.l, d.m⟩ ∧ Wd K H' r n ((cl, d2.ns.map PyData.int) :: ls) is ∧ TupK H H', ?_, ?_⟩
    · refine ⟨_, rfl, _, _, _, _, rfl, rfl, SqL.of hc1, at_of (j := 3) rfl rfl, _, _, rfl, rfl, _, rfl, _, _, _, 3, rfl, rfl, hc1, ixn (by show 3 < 6; decide), _, rfl, rfl, ?_, k1.trans (.set hc1)⟩
      exact w1.cs (ns' := Cs.ns ⟨d.v, d.k, d.e + 1, d.l, d.m⟩) rfl
    clear w1 k1 hc1
    rintro σ H2 ⟨d2, rfl, hd2, w2, k2⟩
    have hc2 := (w2.at 0 rfl).toInts
    refine ⟨_, rfl, _, _, _, _, rfl, rfl, SqL.of hc2, at_of (j := 3) rfl rfl, _, rfl, _, _, _, _, rfl, rfl, SqL.of hc2, at_of (j := 4) rfl rfl, _, _, rfl, rfl, _, rfl, ite2 (fun g2 => ?_) (fun g2 => ?_)⟩
    · have g3 : d.l ≤ d.e + 1 := by have := of_decide_eq_true g2; rw [hd2] at this; exact this
      have ok2 := hr.ok
      have h6 : Six ks d2.k := by rw [hd2]; exact ok2.k6
      refine ⟨_, rfl, _, _, _, _, rfl, rfl, SqL.of hc2, at_of (j := 0) rfl rfl, _, _, rfl, rfl, _, rfl, _, _, _, 0, rfl, rfl, hc2, ixn (by show 0 < 6; decide), ?_⟩
      have w3 := w2.cs (ns' := Cs.ns ⟨d2.v + 1, d2.k, d2.e, d2.l, d2.m⟩) (ws := (d2.ns.map V.int).set 0 (.int (d2.v + 1))) rfl
      have k3 := k2.trans (.set hc2 (o := .lst ((d2.ns.map V.int).set 0 (.int (d2.v + 1)))))
      generalize upd H2 cl (.lst ((d2.ns.map V.int).set 0 (.int (d2.v + 1)))) = H3 at *
      refine ⟨_, rfl, _, rfl, _, rfl, cl, r, kt, n, ls, is, ⟨d2.v + 1, d2.k, d2.e, d2.l, d2.m⟩, ks, rfl, w3, Im.mono k3 _ ik, hks, h6, by rw [hd2]; exact ok2.m0, hn, fun v H4 l w4 k4 okl => ?_⟩
      refine ⟨_, ⟨d2.v + 1, d2.k, 0, l, d2.m + 1⟩, rfl, w4, k3.trans k4, ?_⟩
      have ek := hr.k
      have l1 := okl.ll
      have l2 := okl.lh
      have l3 := okl.el
      subst hd2
      have l1 : loK ks d.k ≤ l := l1
      have l2 : l ≤ hiK ks d.k := l2
      have l3 : 0 < l := l3
      rw [ek] at l1 l2
      exact hr.next (by omega) l1 l2 l3
    · have g2 : ¬ d2.l ≤ d2.e := fun z => g2 (decide_eq_true z)
      subst hd2
      have g2 : ¬ d.l ≤ d.e + 1 := g2
      exact ⟨_, _, rfl, w2, k2, hr.one (by omega)⟩
  · rintro σ H1 ⟨v4, d, rfl, w1, k1, hr⟩
    have e : ((a.toNat : Nat) : Int) = a := by omega
    rw [e] at hr
    exact q _ _ d w1 k1 hr
def sp__law_view (K : PySem.W.Frag) : Sp := fun vs H Q _ => ∃ (r kt : Addr) (ks : List Kd) (go : Bool), vs = [.ref r, .ref kt, .bl go] ∧ RwAt H r 60 ∧ Im K H (ksP ks) (.ref kt) ∧ Ks24 ks ∧
  ∀ (ev : Addr) (H' : Hp) (es : List Ev) (kvs : List (List Key × V)) (T : Int) (c : Cs), TupK H H' → RwAt H' r 60 → ev ≠ r → LsI K H' ev ((ev0 :: es).map evP) → es.length ≤ 8 → J24 ⟨"c", 0, go, ks⟩ es kvs T c → Gn ⟨"c", 0, go, ks⟩ es → Q (.ref ev) H'
set_option maxHeartbeats 8000000 in
theorem ok__law_view {f : Addr} {fd : FuncData} (D : Df K mg "_law_view" s__law_view ["rows", "kinds", "goes_on"] f fd) (T : Txt K mg) {f__law_take : Addr} {fd__law_take : FuncData} (D__law_take : Df K mg "_law_take" s__law_take ["rows", "at", "many"] f__law_take fd__law_take) (G__law_take : FnOk P w K mg base CX0 1 f__law_take fd__law_take ["rows", "at", "many"] (sp__law_take K)) {f__law_begin : Addr} {fd__law_begin : FuncData} (D__law_begin : Df K mg "_law_begin" s__law_begin ["clock", "rows", "kinds"] f__law_begin fd__law_begin) (G__law_begin : FnOk P w K mg base CX0 2 f__law_begin fd__law_begin ["clock", "rows", "kinds"] (sp__law_begin K)) {f__law_run : Addr} {fd__law_run : FuncData} (D__law_run : Df K mg "_law_run" s__law_run ["clock", "rows", "amount", "kinds"] f__law_run fd__law_run) (G__law_run : FnOk P w K mg base CX0 3 f__law_run fd__law_run ["clock", "rows", "amount", "kinds"] (sp__law_run K)) : FnOk P w K mg base CX0 4 f fd ["rows", "kinds", "goes_on"] (sp__law_view K) := by
  refine D.F.ok sc__law_view (fun vs H Q E h => ?_) (fun cdv A outer s H vs Q E hr h => ?_)
  · obtain ⟨r, kt, ks, go, rfl, _⟩ := h
    rfl
  obtain ⟨r, kt, ks, go, rfl, r0, ik0, hks, q⟩ := h
  refine ⟨_, (pss_cons (ps_set (i := 3) sc__law_view.nd rfl (Or.inl rfl) (pe_lst (pa_cons (pe_op op_sub (pe_call G__law_take (hr.mono (by decide)) rfl D__law_take.m D__law_take.F.kp D__law_take.b .nil pass0 (pa_cons (pv 0) (pa_cons pe_int (pa_cons pe_int pa_nil)))) pe_int) (pa_cons pe_int (pa_cons pe_int (pa_cons pe_int (pa_cons pe_int (pa_cons pe_int pa_nil))))))))
    (pss_cons (ps_expr (pe_call G__law_begin (hr.mono (by decide)) rfl D__law_begin.m D__law_begin.F.kp D__law_begin.b .nil pass0 (pa_cons (pv 3) (pa_cons (pv 0) (pa_cons (pv 1) pa_nil)))))
    (C8.pss_cut (ps_set (i := 4) sc__law_view.nd rfl (Or.inl rfl) (pe_lst (pa_cons (pe_tup (pa_cons pe_bl (pa_cons (pe_tup pa_nil) (pa_cons (pe_tup pa_nil) (pa_cons (pe_tup (pa_cons pe_str pa_nil)) (pa_cons (pe_tup (pa_cons pe_int pa_nil)) pa_nil)))))) pa_nil)))
    (pss_cons (ps_for PassesOwn.never rfl (pi_range2 rfl T.range (pa_cons pe_int (pa_cons (pe_op op_add pe_int (pe_call G__law_take (hr.mono (by decide)) rfl D__law_take.m D__law_take.F.kp D__law_take.b .nil pass0 (pa_cons (pv 0) (pa_cons pe_int (pa_cons pe_int pa_nil))))) pa_nil))) (pg_name (i := 5) sc__law_view.nd rfl (Or.inl rfl))
      (C8.pss_cut (ps_set (i := 6) sc__law_view.nd rfl (Or.inl rfl) (pe_cmpR op_eq (pe_call G__law_take (hr.mono (by decide)) rfl D__law_take.m D__law_take.F.kp D__law_take.b .nil pass0 (pa_cons (pv 0) (pa_cons (pv 5) (pa_cons pe_int pa_nil)))) pe_int (nomark _)))
    (C8.pss_cut (ps_set (i := 7) sc__law_view.nd rfl (Or.inl rfl) (pe_call G__law_take (hr.mono (by decide)) rfl D__law_take.m D__law_take.F.kp D__law_take.b .nil pass0 (pa_cons (pv 0) (pa_cons (pv 5) (pa_cons pe_int pa_nil)))))
    (C8.pss_cut (ps_if (PW.pt (pw_or (pt_val (pv 2)) (pw_or1 (pt_not (pt_val (pv 6))))))
      (pss_one (ps_expr (pe_call G__law_run (hr.mono (by decide)) rfl D__law_run.m D__law_run.F.kp D__law_run.b .nil pass0 (pa_cons (pv 3) (pa_cons (pv 0) (pa_cons (pv 7) (pa_cons (pv 1) pa_nil)))))))
      pss_nil)
    (C8.pss_cut (ps_set (i := 8) sc__law_view.nd rfl (Or.inl rfl) (pe_ix ix_list (pv 3) pe_int (fun _ _ => rfl)))
    (C8.pss_cut (ps_set (i := 9) sc__law_view.nd rfl (Or.inl rfl) (pe_call G__law_take (hr.mono (by decide)) rfl D__law_take.m D__law_take.F.kp D__law_take.b .nil pass0 (pa_cons (pv 0) (pa_cons (pv 5) (pa_cons pe_int pa_nil)))))
    (pss_cons (ps_set (i := 10) sc__law_view.nd rfl (Or.inl rfl) (pe_tup (pa_cons pe_str pa_nil)))
    (C8.pss_cut (ps_if (pt_cmpR op_eq (pv 9) pe_int (nomark _))
      (pss_cons (ps_set (i := 10) sc__law_view.nd rfl (Or.inl rfl) (pe_tup (pa_cons pe_str (pa_cons pe_int (pa_cons (pe_call G__law_take (hr.mono (by decide)) rfl D__law_take.m D__law_take.F.kp D__law_take.b .nil pass0 (pa_cons (pv 0) (pa_cons (pv 5) (pa_cons pe_int pa_nil)))) pa_nil)))))
    (pss_one (ps_asg (pe_ix ix_tup (pv 10) pe_int (fun _ _ => rfl)) (pg_sub (pv 3) pe_int set_list))))
      pss_nil)
    (C8.pss_cut (ps_if (pt_cmpR op_eq (pv 9) pe_int (nomark _))
      (pss_one (ps_asg (pe_op op_sub (pe_call G__law_take (hr.mono (by decide)) rfl D__law_take.m D__law_take.F.kp D__law_take.b .nil pass0 (pa_cons (pv 0) (pa_cons (pv 5) (pa_cons pe_int pa_nil)))) pe_int) (pg_sub (pv 3) pe_int set_list)))
      pss_nil)
    (C8.pss_cut (ps_if (PW.pt (pw_or (pt_cmpR op_eq (pv 9) pe_int (nomark _)) (pw_or1 (pt_cmpR op_ne (pe_ix ix_list (pv 3) pe_int (fun _ _ => rfl)) (pv 8) (nomark _)))))
      (pss_one (ps_expr (pe_call G__law_begin (hr.mono (by decide)) rfl D__law_begin.m D__law_begin.F.kp D__law_begin.b .nil pass0 (pa_cons (pv 3) (pa_cons (pv 0) (pa_cons (pv 1) pa_nil))))))
      pss_nil)
    (pss_one (ps_expr (pe_bm PySem.F.plainAttrs_list PySem.F.slot_list_append PySem.F.type_list_append mt_append (pv 4) (pa_cons (pe_tup (pa_cons (pv 6) (pa_cons (pe_tup (pa_cons (pv 8) pa_nil)) (pa_cons (pe_tup (pa_cons (pe_ix ix_list (pv 3) pe_int (fun _ _ => rfl)) pa_nil)) (pa_cons (pv 10) (pa_cons (pe_tup (pa_cons (pe_op op_add (pv 5) pe_int) pa_nil)) pa_nil)))))) pa_nil))))))))))))))
    (pss_one (ps_ret (pv 4))))))), ?_⟩
  have w0 : Wd K H r 60 [] [] := Wd.one r0
  refine ⟨_, rfl, r, 0, 21, 60, rfl, w0.rows, by decide, by decide, by decide, by decide, fun v0 H1 _ _ b1 r1 => ⟨_, _, rfl, rfl, (by show 6 ≤ sizeLine; decide), fun cl ncl => ?_⟩⟩
  have k1 := w0.tk b1
  have w1 := w0.take b1 r1
  obtain ⟨s2, h2⟩ := fr (rfl : upd H1 cl (.lst [V.int (v0 - 10), V.int 0, V.int 0, V.int 0, V.int 0, V.int 0]) = _) ncl
  have w2 := w1.new s2 ncl (ds := (Cs.ns ⟨v0 - 10, 0, 0, 0, 0⟩).map PyData.int) (LsI.ofInts (ns := Cs.ns ⟨v0 - 10, 0, 0, 0, 0⟩) h2)
  have k2 := k1.trans (.of s2)
  generalize upd H1 cl (.lst [V.int (v0 - 10), V.int 0, V.int 0, V.int 0, V.int 0, V.int 0]) = H2 at *
  clear w1 k1
  refine ⟨_, rfl, _, rfl, _, rfl, cl, r, kt, 60, _, _, ⟨v0 - 10, 0, 0, 0, 0⟩, ks, rfl, w2, Im.mono k2 _ ik0, hks, ⟨by show (0 : Int) ≤ 0; decide, by rw [hks.len]; show (0 : Int) < 2; decide⟩, by show (0 : Int) ≤ 0; decide, by decide, fun v H3 l w3 k3' ok0 => ?_⟩
  have k3 := k2.trans k3'
  clear w2 k3' k2
  obtain ⟨c0, hc0⟩ : ∃ c0 : Cs, c0 = ⟨v0 - 10, 0, 0, l, 0 + 1⟩ := ⟨_, rfl⟩
  have e0 : c0.e = 0 := by rw [hc0]
  have ek0 : c0.k = 0 := by rw [hc0]
  have w3 : Wd K H3 r 60 ((cl, c0.ns.map PyData.int) :: []) [] := by rw [hc0]; exact w3
  have ok0 : CsOk ks c0 := by rw [hc0]; exact ok0
  clear hc0
  obtain ⟨C, hC⟩ : ∃ C : Cl, C = ⟨"c", 0, go, ks⟩ := ⟨_, rfl⟩
  have hck : C.kinds = ks := by rw [hC]
  have hcg : C.goes = go := by rw [hC]
  refine ⟨fun σ H' => ∃ (ev : Addr), σ = [some (.ref r), some (.ref kt), some (.bl go), some (.ref cl), some (.ref ev), none, none, none, none, none, none] ∧ Wd K H' r 60 ((ev, (ev0 :: []).map evP) :: (cl, c0.ns.map PyData.int) :: []) [] ∧ TupK H H', ?_, ?_⟩
  · refine ⟨(by show 0 ≤ sizeLine; decide), fun a11 n11 => ?_⟩
    generalize e11 : upd H3 a11 _ = H11
    obtain ⟨s11, h11⟩ := fr e11 n11
    clear e11
    refine ⟨(by show 0 ≤ sizeLine; decide), fun a12 n12 => ?_⟩
    generalize e12 : upd H11 a12 _ = H12
    obtain ⟨s12, h12⟩ := fr e12 n12
    clear e12
    refine ⟨(by show 1 ≤ sizeLine; decide), fun a13 n13 => ?_⟩
    generalize e13 : upd H12 a13 _ = H13
    obtain ⟨s13, h13⟩ := fr e13 n13
    clear e13
    refine ⟨(by show 1 ≤ sizeLine; decide), fun a14 n14 => ?_⟩
    generalize e14 : upd H13 a14 _ = H14
    obtain ⟨s14, h14⟩ := fr e14 n14
    clear e14
    refine ⟨(by show 5 ≤ sizeLine; decide), fun a19 n19 => ?_⟩
    generalize e19 : upd H14 a19 _ = H19
    obtain ⟨s19, h19⟩ := fr e19 n19
    clear e19
    refine ⟨(by show 1 ≤ sizeLine; decide), fun ev n16 => ?_⟩
    obtain ⟨s16, h16⟩ := fr (rfl : upd H19 ev (.lst [V.ref a19]) = _) n16
    have t19 := s19.trans s16
    have t14 := s14.trans t19
    have t13 := s13.trans t14
    have t12 := s12.trans t13
    have ie0 : Im K _ (evP ev0) (.ref a19) := evI (e := ev0) (SqT.of (s16 _ _ h19)) (intsI (ns := []) (SqT.of (t12 _ _ h11))) (intsI (ns := []) (SqT.of (t13 _ _ h12))) (ddI (d := ⟨0, []⟩) (z := "note") rfl (show (0 : Nat) ≠ 8 by decide) (SqT.of (t14 _ _ h13))) (intsI (ns := [1]) (SqT.of (t19 _ _ h14)))
    exact ⟨ev, rfl, (w3.keep (s11.trans (s12.trans (s13.trans (s14.trans s19))))).new s16 n16 ⟨_, h16, ImL.cons_ ie0 ImL.nil_⟩, k3.trans (.of (s11.trans t12))⟩
  clear w3 k3
  rintro σ H16 ⟨ev, rfl, w16, k16⟩
  have hcs : ∀ c ∈ [C], ClK23 c := fun c h => by
    rw [List.mem_singleton.mp h, hC]
    exact ⟨rfl, by show 0 < ks.length ∧ ks.length ≤ 2; rw [hks.len]; decide, fun k hk => by
      obtain ⟨z, z1, z2, z3, z4⟩ := hks.ks k hk
      exact ⟨in18 (by omega) (by omega), z, z1, in18 (by omega) (by omega)⟩⟩
  have hlo : ∀ c : Cs, CsOk ks c → 0 ≤ loK C.kinds c.k := fun c h => by
    obtain ⟨_, _, _, z, _⟩ := hks.at h.k6
    rw [hck]; omega
  have j0 : J24 C [] [(keyP ⟨0, 0, -1⟩, .int 0)] 0 c0 := by
    have ck : cks (fm23 [C]) 0 = [0] := cks23 hcs
    have v0 : ∀ q, tOf [(keyP ⟨0, 0, -1⟩, .int 0)] q = if q = ⟨0, 0, -1⟩ then some 0 else none := fun q => by
      unfold tOf
      by_cases e2 : q = ⟨0, 0, -1⟩
      · rw [e2, valV_pos rfl, if_pos rfl]
      · rw [if_neg e2, valV_neg (fun z => e2 (keyP_inj z).symm)]
        rfl
    refine ⟨by show 1 ≤ 2 + 2 * 0; decide, fun q z hq => ?_, ?_, fun b hb => (by cases hb), ⟨dfH, ?_, ⟨ek0.symm, fun q hq => (by cases hq)⟩⟩, by rw [hck]; exact ok0, fun e h => (by cases h)⟩
    · rw [v0] at hq
      split at hq
      · rename_i e1; rw [e1]; decide
      · cases hq
    · rw [v0]
      rfl
    · show List.replicate (cks (fm23 [C]) 0).length dfH = _
      rw [ck]
      rfl
  have g0 : Gn C [] := fun j hj => absurd hj (Nat.not_lt_zero _)
  refine ⟨_, rfl, r, 1, 9, 60, rfl, w16.rows, by decide, by decide, by decide, by decide, fun cnt H17 c0' c9 b17 r17 => ?_⟩
  have w17 := w16.take b17 r17
  have k17 := k16.trans (w16.tk b17)
  clear w16 k16
  have w17 := w17.perm (List.Perm.swap _ _ _)
  refine ⟨_, _, rfl, rfl, _, _, rfl, ⟨by omega, by omega, by omega, by omega⟩, for_range (lo := 1) (n := (1 + cnt - 1).toNat) (fun i σ H' => ∃ (es : List Ev) (kvs : List (List Key × V)) (T : Int) (c : Cs), ∃ v5 v6 v7 v8 v9 v10, σ = [some (.ref r), some (.ref kt), some (.bl go), some (.ref cl), some (.ref ev), v5, v6, v7, v8, v9, v10] ∧ Wd K H' r 60 ((cl, (c).ns.map PyData.int) :: (ev, (ev0 :: es).map evP) :: []) [] ∧ TupK H H' ∧ es.length = i ∧ J24 C es kvs T c ∧ Gn C es) ⟨[], _, 0, c0, _, _, _, _, _, _, rfl, w17, k17, rfl, j0, g0⟩ ?_ ?_⟩
  · clear w17 j0 k17 g0
    rintro i σ H20 hi ⟨es, kvs, T, c, v5, v6, v7, v8, v9, v10, rfl, w20, k20, hel, j, G⟩
    subst hel
    have hi8 : es.length < 9 := by omega
    have hat0 : 0 ≤ 1 + (es.length : Int) := by omega
    have hat1 : 1 + (es.length : Int) < ((60 : Nat) : Int) := by omega
    refine ⟨fun σ H' => ∃ as : Bool, σ = [some (.ref r), some (.ref kt), some (.bl go), some (.ref cl), some (.ref ev), some (.int (1 + (es.length : Int))), some (.bl as), v7, v8, v9, v10] ∧ Wd K H' r 60 ((cl, (c).ns.map PyData.int) :: (ev, (ev0 :: es).map evP) :: []) [] ∧ TupK H H', ?_, ?_⟩
    · exact ⟨_, rfl, _, rfl, r, _, 4, 60, rfl, w20.rows, hat0, hat1, by decide, by decide, fun q H' _ _ b rr => ⟨rfl, _, rfl, w20.take b rr, k20.trans (w20.tk b)⟩⟩
    clear w20 k20
    rintro σ H21 ⟨as, rfl, w21, k21⟩
    refine ⟨fun σ H' => ∃ g : Int, σ = [some (.ref r), some (.ref kt), some (.bl go), some (.ref cl), some (.ref ev), some (.int (1 + (es.length : Int))), some (.bl as), some (.int g), v8, v9, v10] ∧ Wd K H' r 60 ((cl, (c).ns.map PyData.int) :: (ev, (ev0 :: es).map evP) :: []) [] ∧ TupK H H' ∧ 0 ≤ g ∧ g < 31, ?_, ?_⟩
    · exact ⟨_, rfl, _, rfl, r, _, 31, 60, rfl, w21.rows, hat0, hat1, by decide, by decide, fun q H' q0 q1 b rr => ⟨_, rfl, w21.take b rr, k21.trans (w21.tk b), q0, q1⟩⟩
    clear w21 k21
    rintro σ H22 ⟨g, rfl, w22, k22, g0, g31⟩
    have okc : CsOk ks c := by rw [← hck]; exact j.ok
    refine ⟨fun σ H' => ∃ d : Cs, σ = [some (.ref r), some (.ref kt), some (.bl go), some (.ref cl), some (.ref ev), some (.int (1 + (es.length : Int))), some (.bl as), some (.int g), v8, v9, v10] ∧ Wd K H' r 60 ((cl, (d).ns.map PyData.int) :: (ev, (ev0 :: es).map evP) :: []) [] ∧ TupK H H' ∧ Went ks go as c d g, ?_, ?_⟩
    · have run : ∀ (hb : (go || !as) = true) (v : V) (H' : Hp) (d : Cs), Wd K H' r 60 ((cl, (d).ns.map PyData.int) :: (ev, (ev0 :: es).map evP) :: []) [] → TupK H22 H' → Ran ks c d g → ∃ d : Cs, [some (.ref r), some (.ref kt), some (.bl go), some (.ref cl), some (.ref ev), some (.int (1 + (es.length : Int))), some (.bl as), some (.int g), v8, v9, v10] = [some (.ref r), some (.ref kt), some (.bl go), some (.ref cl), some (.ref ev), some (.int (1 + (es.length : Int))), some (.bl as), some (.int g), v8, v9, v10] ∧ Wd K H' r 60 ((cl, (d).ns.map PyData.int) :: (ev, (ev0 :: es).map evP) :: []) [] ∧ TupK H H' ∧ Went ks go as c d g := fun hb v H' d x1 x2 x3 => ⟨d, rfl, x1, k22.trans x2, by unfold Went; rw [if_pos hb]; exact x3⟩
      cases go with
      | true =>
        refine ⟨_, rfl, true, rfl, ?_⟩
        refine iteT ?_
        exact ⟨_, rfl, _, rfl, _, rfl, _, rfl, cl, r, kt, 60, _, _, c, ks, g, rfl, w22, Im.mono k22 _ ik0, hks, okc, g0, by omega, by decide, run rfl⟩
      | false =>
        cases as with
        | true =>
          refine ⟨_, rfl, false, rfl, ?_⟩
          refine iteF ?_
          refine ⟨_, rfl, true, rfl, ?_⟩
          first | exact iteT ⟨c, rfl, w22, k22, rfl⟩ | exact iteF ⟨c, rfl, w22, k22, rfl⟩
        | false =>
          refine ⟨_, rfl, false, rfl, ?_⟩
          refine iteF ?_
          refine ⟨_, rfl, false, rfl, ?_⟩
          first | refine iteF ?_ | refine iteT ?_
          exact ⟨_, rfl, _, rfl, _, rfl, _, rfl, cl, r, kt, 60, _, _, c, ks, g, rfl, w22, Im.mono k22 _ ik0, hks, okc, g0, by omega, by decide, run rfl⟩
    clear w22 k22
    rintro σ H23 ⟨d, rfl, w23, k23, went⟩
    have okd : CsOk ks d := by
      unfold Went at went
      split at went
      · exact went.ok
      · rw [went]; exact okc
    have hc := (w23.at 0 rfl).toInts
    refine ⟨fun σ H' => σ = [some (.ref r), some (.ref kt), some (.bl go), some (.ref cl), some (.ref ev), some (.int (1 + (es.length : Int))), some (.bl as), some (.int g), some (.int d.v), v9, v10] ∧ H23 = H', ?_, ?_⟩
    · exact ⟨_, rfl, _, _, _, _, rfl, rfl, SqL.of hc, at_of (j := 0) rfl rfl, rfl, rfl⟩
    rintro σ H' ⟨rfl, rfl⟩
    refine ⟨fun σ H' => ∃ wy : Int, σ = [some (.ref r), some (.ref kt), some (.bl go), some (.ref cl), some (.ref ev), some (.int (1 + (es.length : Int))), some (.bl as), some (.int g), some (.int d.v), some (.int wy), v10] ∧ Wd K H' r 60 ((cl, (d).ns.map PyData.int) :: (ev, (ev0 :: es).map evP) :: []) [] ∧ TupK H H', ?_, ?_⟩
    · exact ⟨_, rfl, _, rfl, r, _, 6, 60, rfl, w23.rows, hat0, hat1, by decide, by decide, fun q H' _ _ b rr => ⟨_, rfl, w23.take b rr, k23.trans (w23.tk b)⟩⟩
    clear w23 k23 hc
    rintro σ H24 ⟨wy, rfl, w24, k24⟩
    refine ⟨(by show 1 ≤ sizeLine; decide), fun dn0 ndn => ?_⟩
    obtain ⟨s25, h25⟩ := fr (rfl : upd H24 dn0 (.tup [V.str "note"]) = _) ndn
    have w25 := w24.keep s25
    have k25 := k24.trans (.of s25)
    have ind : Im K (upd H24 dn0 (.tup [V.str "note"])) (ddP ⟨0, []⟩) (.ref dn0) := ddI (d := ⟨0, []⟩) (z := "note") rfl (show (0 : Nat) ≠ 8 by decide) (SqT.of h25)
    generalize upd H24 dn0 (.tup [V.str "note"]) = H25 at *
    clear w24 k24
    -- a kind is given, or not
    refine ⟨fun σ H' => ∃ (da : Addr) (k : Int), σ = [some (.ref r), some (.ref kt), some (.bl go), some (.ref cl), some (.ref ev), some (.int (1 + (es.length : Int))), some (.bl as), some (.int g), some (.int d.v), some (.int wy), some (.ref da)] ∧ Six ks k ∧ Wd K H' r 60 ((cl, (Cs.ns ⟨d.v, k, d.e, d.l, d.m⟩).map PyData.int) :: (ev, (ev0 :: es).map evP) :: []) [] ∧ TupK H H' ∧ (if wy = 0 then Im K H' (ddP ⟨1, [0, k]⟩) (.ref da) else Im K H' (ddP ⟨0, []⟩) (.ref da) ∧ k = d.k), ?_, ?_⟩
    · refine ⟨_, rfl, rfl, _, rfl, ite2 (fun c0 => ?_) (fun c0 => ?_)⟩
      · refine ⟨_, rfl, _, rfl, r, _, 2, 60, rfl, w25.rows, hat0, hat1, by decide, by decide, fun kk H26 kk0 kk1 b26 r26 => ⟨(by show 3 ≤ sizeLine; decide), fun a27 n27 => ?_⟩⟩
        have w26 := w25.take b26 r26
        have k26 := k25.trans (w25.tk b26)
        generalize e27 : upd H26 a27 _ = H27
        obtain ⟨s27, h27⟩ := fr e27 n27
        clear e27
        have w27 := w26.keep s27
        have k27 := k26.trans (.of s27)
        have hc := (w27.at 0 rfl).toInts
        refine ⟨_, rfl, _, _, _, _, rfl, rfl, SqT.of h27, at_of (j := 2) rfl rfl, _, rfl, _, _, _, 1, rfl, rfl, hc, ixn (by show 1 < 6; decide), a27, kk, rfl, ⟨kk0, by rw [hks.len]; exact kk1⟩, ?_, k27.trans (.set hc), ?_⟩
        · exact w27.cs (ns' := Cs.ns ⟨d.v, kk, d.e, d.l, d.m⟩) rfl
        · have e : wy = 0 := by
            have := of_decide_eq_true c0
            injection this
          rw [if_pos e]
          exact Im.mono (.set hc) _ (ddI (d := ⟨1, [0, kk]⟩) (z := "kind") rfl (show (1 : Nat) ≠ 8 by decide) (SqT.of h27))
      · have e : ¬ wy = 0 := fun e => c0 (decide_eq_true (by rw [e]))
        exact ⟨dn0, d.k, rfl, okd.k6, w25, k25, by rw [if_neg e]; exact ⟨ind, rfl⟩⟩
    clear w25 k25 ind
    rintro σ H28 ⟨da, k, rfl, k6, w28, k28, idd⟩
    -- the clock is set, or not
    refine ⟨fun σ H' => ∃ (v : Int), σ = [some (.ref r), some (.ref kt), some (.bl go), some (.ref cl), some (.ref ev), some (.int (1 + (es.length : Int))), some (.bl as), some (.int g), some (.int d.v), some (.int wy), some (.ref da)] ∧ Wd K H' r 60 ((cl, (Cs.ns ⟨v, k, d.e, d.l, d.m⟩).map PyData.int) :: (ev, (ev0 :: es).map evP) :: []) [] ∧ TupK H28 H' ∧ (wy ≠ 1 → v = d.v), ?_, ?_⟩
    · refine ⟨_, rfl, rfl, _, rfl, ite2 (fun c1 => ?_) (fun c1 => ?_)⟩
      · refine ⟨_, rfl, _, rfl, r, _, 41, 60, rfl, w28.rows, hat0, hat1, by decide, by decide, fun vv H29 _ _ b29 r29 => ?_⟩
        have w29 := w28.take b29 r29
        have k29 := w28.tk b29
        have hc := (w29.at 0 rfl).toInts
        refine ⟨_, _, rfl, rfl, _, rfl, _, _, _, 0, rfl, rfl, hc, ixn (by show 0 < 6; decide), vv - 20, rfl, ?_, k29.trans (.set hc), fun e => absurd (by have := of_decide_eq_true c1; injection this) e⟩
        exact w29.cs (ns' := Cs.ns ⟨vv - 20, k, d.e, d.l, d.m⟩) rfl
      · exact ⟨d.v, rfl, w28, TupK.refl _, fun _ => rfl⟩
    clear w28
    rintro σ H30 ⟨v, rfl, w30, k30', hv⟩
    have k30 := k28.trans k30'
    have idd30 : if wy = 0 then Im K H30 (ddP ⟨1, [0, k]⟩) (.ref da) else Im K H30 (ddP ⟨0, []⟩) (.ref da) ∧ k = d.k := by
      split
      · rename_i e; rw [if_pos e] at idd; exact Im.mono k30' _ idd
      · rename_i e; rw [if_neg e] at idd; exact ⟨Im.mono k30' _ idd.1, idd.2⟩
    clear idd k30' k28
    -- it begins a unit, or not
    refine ⟨fun σ H' => ∃ (f : Cs) (D : Dd), σ = [some (.ref r), some (.ref kt), some (.bl go), some (.ref cl), some (.ref ev), some (.int (1 + (es.length : Int))), some (.bl as), some (.int g), some (.int d.v), some (.int wy), some (.ref da)] ∧ Wd K H' r 60 ((cl, (f).ns.map PyData.int) :: (ev, (ev0 :: es).map evP) :: []) [] ∧ TupK H H' ∧ Im K H' (ddP D) (.ref da) ∧ Done ks d f D ∧ CsOk ks f, ?_, ?_⟩
    · have hc := (w30.at 0 rfl).toInts
      have begin' : ∀ (D : Dd), Im K H30 (ddP D) (.ref da) → (∀ l m, CsOk ks ⟨v, k, 0, l, m⟩ → Done ks d ⟨v, k, 0, l, m⟩ D) → ∀ (u : V) (H' : Hp) (l : Int), Wd K H' r 60 ((cl, (Cs.ns ⟨v, k, 0, l, d.m + 1⟩).map PyData.int) :: (ev, (ev0 :: es).map evP) :: []) [] → TupK H30 H' → CsOk ks ⟨v, k, 0, l, d.m + 1⟩ → ∃ (f : Cs) (D : Dd), ([some (.ref r), some (.ref kt), some (.bl go), some (.ref cl), some (.ref ev), some (.int (1 + (es.length : Int))), some (.bl as), some (.int g), some (.int d.v), some (.int wy), some (.ref da)] : List (Option V)) = [some (.ref r), some (.ref kt), some (.bl go), some (.ref cl), some (.ref ev), some (.int (1 + (es.length : Int))), some (.bl as), some (.int g), some (.int d.v), some (.int wy), some (.ref da)] ∧ Wd K H' r 60 ((cl, (f).ns.map PyData.int) :: (ev, (ev0 :: es).map evP) :: []) [] ∧ TupK H H' ∧ Im K H' (ddP D) (.ref da) ∧ Done ks d f D ∧ CsOk ks f := fun D i dn u H' l x1 x2 x3 => ⟨⟨v, k, 0, l, d.m + 1⟩, D, rfl, x1, k30.trans x2, Im.mono x2 _ i, dn _ _ x3, x3⟩
      refine ⟨_, rfl, rfl, _, rfl, ?_⟩
      by_cases e0 : wy = 0
      · rw [if_pos e0] at idd30
        have hv0 : v = d.v := hv (by omega)
        refine ite2 (fun _ => ?_) (fun z => absurd (decide_eq_true (by rw [e0])) z)
        refine iteT ?_
        exact ⟨_, rfl, _, rfl, _, rfl, cl, r, kt, 60, _, _, ⟨v, k, d.e, d.l, d.m⟩, ks, rfl, w30, Im.mono k30 _ ik0, hks, k6, okd.m0, by decide, begin' _ idd30 (fun l m o => by rw [hv0] at o ⊢; exact .kind k l m o)⟩
      · rw [if_neg e0] at idd30
        refine ite2 (fun z => absurd (by have := of_decide_eq_true z; injection this) e0) (fun _ => ?_)
        refine ⟨_, rfl, _, _, _, _, rfl, rfl, SqL.of hc, at_of (j := 0) rfl rfl, _, rfl, rfl, _, rfl, ite2 (fun z => ?_) (fun z => ?_)⟩
        · have ne : v ≠ d.v := fun e => by
            have hz : (!decide (V.int v = V.int d.v)) = true := z
            rw [e, decide_eq_true rfl] at hz
            cases hz
          obtain ⟨i1, ek⟩ := idd30
          subst ek
          exact ⟨_, rfl, _, rfl, _, rfl, cl, r, kt, 60, _, _, ⟨v, d.k, d.e, d.l, d.m⟩, ks, rfl, w30, Im.mono k30 _ ik0, hks, k6, okd.m0, by decide, begin' _ i1 (fun l m o => .set v l m ne o)⟩
        · have eq : v = d.v := by
            have hz : ¬ (!decide (V.int v = V.int d.v)) = true := z
            by_cases e : v = d.v
            · exact e
            · exact absurd (by rw [decide_eq_false (fun h => e (by injection h))]; rfl) hz
          obtain ⟨i1, ek⟩ := idd30
          subst ek eq
          exact ⟨d, ⟨0, []⟩, rfl, w30, k30, i1, .note, okd⟩
    clear w30 k30 idd30
    rintro σ H31 ⟨f, D, rfl, w26, k26, id26, dn, okf⟩
    have hc := (w26.at 0 rfl).toInts
    obtain ⟨xe, hxe, ixe⟩ := w26.at 1 rfl
    have hxl := ixe.len
    rw [List.length_map, List.length_cons] at hxl
    refine ⟨_, rfl, .inl ⟨rfl, _, SqL.of hxe⟩, _, rfl, _, rfl, (by show 1 ≤ sizeLine; decide), fun a32 n32 => ?_⟩
    generalize e32 : upd H31 a32 _ = H32
    obtain ⟨s32, h32⟩ := fr e32 n32
    clear e32
    refine ⟨_, rfl, _, _, _, _, rfl, rfl, SqL.of (s32 _ _ hc), at_of (j := 0) rfl rfl, (by show 1 ≤ sizeLine; decide), fun a33 n33 => ?_⟩
    generalize e33 : upd H32 a33 _ = H33
    obtain ⟨s33, h33⟩ := fr e33 n33
    clear e33
    refine ⟨_, rfl, _, rfl, _, _, rfl, rfl, (by show 1 ≤ sizeLine; decide), fun a34 n34 => ?_⟩
    generalize e34 : upd H33 a34 _ = H34
    obtain ⟨s34, h34⟩ := fr e34 n34
    clear e34
    refine ⟨(by show 5 ≤ sizeLine; decide), fun a35 n35 => ?_⟩
    generalize e35 : upd H34 a35 _ = H35
    obtain ⟨s35, h35⟩ := fr e35 n35
    clear e35
    have t34 := s34.trans s35
    have t33 := s33.trans t34
    have t32 := s32.trans t33
    have ie : Im K H35 (evP ⟨as, [d.v], [f.v], D, [1 + (es.length : Int) + 1]⟩) (.ref a35) := evI (e := ⟨as, [d.v], [f.v], D, [1 + (es.length : Int) + 1]⟩) (SqT.of h35) (intsI (ns := [d.v]) (SqT.of (t33 _ _ h32))) (intsI (ns := [f.v]) (SqT.of (t34 _ _ h33))) (Im.mono (.of t32) _ id26) (intsI (ns := [1 + (es.length : Int) + 1]) (SqT.of (s35 _ _ h34)))
    obtain ⟨x36, h36, l36, w36⟩ := (w26.keep t32).snoc 1 rfl ie
    rw [List.length_map, List.length_cons] at l36
    refine ⟨_, _, _, rfl, rfl, h36, by rw [l36]; exact sizes' (by omega), es ++ [⟨as, [d.v], [f.v], D, [1 + (es.length : Int) + 1]⟩], _, _, f, _, _, _, _, _, _, rfl, ?_, (k26.trans (.of t32)).trans (.set h36), by rw [List.length_append, List.length_singleton], J24.step hcs (hlo c okc) j (by rw [hck, hcg]; exact went) (by rw [hck]; exact dn) (by rw [hck]; exact okf) g0, Gn.step j (by rw [hck, hcg]; exact went) (by rw [hck]; exact dn) G⟩
    rw [← List.cons_append, List.map_append]
    exact w36
  rintro σ H20 ⟨es, kvs, T, c, v5, v6, v7, v8, v9, v10, rfl, w20, k20, hel, j, G⟩
  subst hC
  refine ⟨_, rfl, q ev H20 es kvs T c k20 w20.rows ?_ (w20.at 1 rfl) (by omega) j G⟩
  intro e
  have := (List.nodup_cons.mp w20.nd).1
  exact this (by rw [← e]; simp)
def sp__law_fits (K : PySem.W.Frag) : Sp := fun vs H Q _ => ∃ (st lk sp g lo hi : Int), vs = [.int st, .int lk, .int sp, .int g, .int lo, .int hi] ∧ Fit25 st lk sp g lo hi ∧ Q (.bl true) H
set_option maxHeartbeats 1000000 in
theorem ok__law_fits {f : Addr} {fd : FuncData} (D : Df K mg "_law_fits" s__law_fits ["start", "look", "stop", "gain", "low", "high"] f fd) (T : Txt K mg) : FnOk P w K mg base CX0 1 f fd ["start", "look", "stop", "gain", "low", "high"] (sp__law_fits K) := by
  refine D.F.ok sc__law_fits (fun vs H Q E h => ?_) (fun cdv A outer s H vs Q E hr h => ?_)
  · obtain ⟨st, lk, sp, g, lo, hi, rfl, _⟩ := h
    rfl
  obtain ⟨st, lk, sp, g, lo, hi, rfl, ft, q⟩ := h
  refine ⟨_, (pss_cons (ps_if (pt_cmpR op_lt (pv 3) pe_int (nomark _))
      (pss_one (ps_ret pe_bl))
      pss_nil)
    (pss_cons (ps_set (i := 6) sc__law_fits.nd rfl (Or.inl rfl) (pe_callB (call_max3Nu rfl) rfl T.max (by decide +kernel) (pa_cons (pv 1) (pa_cons (pe_op op_add (pv 0) (pv 4)) (pa_cons (pe_op op_sub (pv 2) (pe_op op_mul (pv 5) (pe_op op_sub (pv 3) pe_int))) pa_nil)))))
    (pss_cons (ps_set (i := 7) sc__law_fits.nd rfl (Or.inl rfl) (pe_op op_sub (pv 2) (pv 6)))
    (pss_one (ps_ret (pe_and (pe_chain op_le op_le (pe_op op_add (pv 0) (pv 4)) (pv 6) (pe_op op_add (pv 0) (pv 5))) (pe_one (pe_chain op_le op_le (pe_op op_mul (pv 4) (pe_op op_sub (pv 3) pe_int)) (pv 7) (pe_op op_mul (pv 5) (pe_op op_sub (pv 3) pe_int)))))))))), ?_⟩
  have hg := ft.g1
  have hlo := ft.lo0
  have hlh := ft.lh
  have hh := ft.hi13
  obtain ⟨c1, c2, c3, c4⟩ := ft.all
  refine ⟨_, rfl, _, _, rfl, rfl, _, rfl, ite2 (fun c => absurd (of_decide_eq_true c) (by omega)) (fun _ => ?_)⟩
  refine ⟨_, rfl, _, rfl, _, rfl, _, _, rfl, rfl, _, rfl, _, rfl, _, rfl, _, _, rfl, rfl, _, _, rfl, rfl, mul64 (in18 (by omega) (by omega)), _, _, rfl, rfl, _, _, _, _, rfl, nuMax3_int _ _ _, ?_⟩
  refine ⟨_, rfl, _, rfl, _, _, rfl, rfl, ?_⟩
  generalize max3 lk (st + lo) (sp - hi * (g - 1)) = m at *
  refine ⟨_, rfl, _, rfl, _, _, rfl, rfl, _, rfl, _, _, rfl, rfl, _, rfl, ite2 (fun _ => ?_) (fun z => absurd (decide_eq_true c1) z)⟩
  refine ⟨_, rfl, _, rfl, _, _, rfl, rfl, _, _, rfl, rfl, _, rfl, ite2 (fun _ => ?_) (fun z => absurd (decide_eq_true c2) z)⟩
  refine ⟨_, rfl, _, rfl, _, _, rfl, rfl, _, _, rfl, rfl, mul64 (in18 (by omega) (by omega)), _, rfl, _, _, rfl, rfl, _, rfl, ite2 (fun _ => ?_) (fun z => absurd (decide_eq_true c3) z)⟩
  refine ⟨_, rfl, _, rfl, _, _, rfl, rfl, _, _, rfl, rfl, mul64 (in18 (by omega) (by omega)), _, _, rfl, rfl, ?_⟩
  show Q (V.bl (decide (sp - m ≤ hi * (g - 1)))) H
  rw [decide_eq_true c4]
  exact q
def sp_Table_time_of (K : PySem.W.Frag) (P : Program) (w : World) (CT : Addr) : Sp := fun vs H Q _ => ∃ (t pl rw a : Addr) (T : TbM) (rs : List Addr) (p : Pt), vs = [.ref t, .ref a] ∧ TbAt P w K CT H t T pl rw rs ∧ SqT K H a [.int p.d, .int p.n, .int p.c] ∧ p ∈ T.pts ∧ TbGd T ∧ ∀ (m : Int) (H' : Hp), Same H H' → IsTm T p m → Q (.int m) H'
theorem ok_Table_time_of {f : Addr} {fd : FuncData} {CT : Addr} (TTb : Ck_Table K mg CT) (D : Mt K CT "time_of" "Table.time_of" s_Table_time_of ["self", "point"] f fd) (T : Txt K mg) : FnOk P w K mg base CX0 1 f fd ["self", "point"] (sp_Table_time_of K P w CT) := by
  refine D.F.ok sc_Table_time_of (fun vs H Q E h => ?_) (fun cdv A outer s H vs Q E hr h => ?_)
  · obtain ⟨t, pl, rw, a, T, rs, p, rfl, _⟩ := h
    rfl
  obtain ⟨t, pl, rw, a, Tm, rs, p, rfl, hT, ha, mp, gd, q⟩ := h
  refine ⟨_, (pss_cons (ps_set (i := 2) sc_Table_time_of.nd rfl (Or.inr rfl) (Dk.pe_eget (hu_of hr) (pe_fld (pv 0) rfl) (pv 1) (fun _ _ => rfl)))
    (pss_one (ps_ret (pe_callB (cr_min rfl) rfl T.min (by decide +kernel) (pa_cons (pe_lc (own := [("row", 3)]) (g := gName 3) (tt := _) rfl sc_Table_time_of.nd (pi_list (pe_fld (pv 0) rfl)) (blkOk_by (own := [("row", 3)]) (N := nm_Table_time_of) (sc := defScope s_Table_time_of) (by decide +kernel)) (fun _ _ _ _ _ => (pg_name (i := 3) sc_Table_time_of.nd rfl (Or.inl rfl))) (fun _ _ _ _ _ => (pts_one (pt_cmpR op_notN (pe_ix (r := rIxL K) ix_list (pv 3) (pv 2) (fun _ _ => rfl)) pe_non (nomark _)))) (fun _ _ _ _ _ => (pe_ix (r := rIxL K) ix_list (pv 3) (pv 2) (fun _ _ => rfl)))) pa_nil))))), ?_⟩
  obtain ⟨dx, hp⟩ := hT.ins
  have ip := idx_get mp
  have lp := List.idxOf_lt_length_iff.mpr mp
  have rl := hT.rl
  have few := hT.ok.few
  obtain ⟨xs, hx⟩ := hT.hpl
  refine ⟨_, rfl, _, _, _, _, _, rfl, hp, TTb.cl, TTb.n__places, lk_Table__places, _, rfl, pl, a, xs, ptK p, _, rfl, rfl, hx.o, hx.k, ha, hx.val (plK_val hT.ok.nd ip), ?_⟩
  refine ⟨_, rfl, _, _, _, _, _, rfl, hp, TTb.cl, TTb.n__rows, lk_Table__rows, _, rfl, ⟨_, SqL.of hT.hrw⟩, fun D hD => lc_list (K := K) (a := rw) (xs := rs.map V.ref) (fun i H' => Same H H' ∧ H' D = some (.lst (((Tm.pts.take i).filterMap fun q => distM Tm q p).map V.int))) ⟨same_upd hD, upd_same⟩ (fun i H' _ z => SqL.of (z.1 _ _ hT.hrw)) ?_ ?_⟩
  · rintro i x H1 hx ⟨sm, eD⟩
    obtain ⟨c, hc, rfl⟩ := ref_of hx
    have hi : i < Tm.pts.length := by rw [← rl]; exact (List.getElem?_eq_some_iff.mp hc).1
    obtain ⟨a', h1, h2, h3⟩ := hT.row hi
    rw [hc] at h1
    cases h1
    have hpp : Tm.pts[i]? = some Tm.pts[i] := List.getElem?_eq_getElem hi
    have ei : Tm.pts.idxOf Tm.pts[i] = i := nd_ix hT.ok.nd (idx_get (List.getElem_mem hi)) hpp
    have ed : (Tm.d.getD i []).getD (Tm.pts.idxOf p) none = distM Tm Tm.pts[i] p := by
      unfold distM cellM
      rw [ei]
    have step : (Tm.pts.take (i + 1)).filterMap (fun q => distM Tm q p) = (Tm.pts.take i).filterMap (fun q => distM Tm q p) ++ (distM Tm Tm.pts[i] p).toList := by
      rw [List.take_add_one, hpp, List.filterMap_append]
      congr 1
    rw [step]
    have hrow := row_at (r := Tm.d.getD i []) (i := Tm.pts.idxOf p) (by rw [h3]; exact lp)
    rw [ed] at hrow
    refine ⟨rfl, _, rfl, _, rfl, _, _, _, _, rfl, rfl, rowAt (sm _ _ h2), hrow, rfl, _, rfl, ?_⟩
    rw [hiV_non]
    cases h : distM Tm Tm.pts[i] p with
    | none =>
      show if false = true then _ else _
      refine iteF ⟨sm, ?_⟩
      show _ = some (HO.lst ((_ ++ []).map V.int))
      rw [List.append_nil]
      exact eD
    | some b =>
      show if true = true then _ else _
      rw [h] at hrow
      refine iteT ⟨_, rfl, _, rfl, _, _, _, _, rfl, rfl, rowAt (sm _ _ h2), hrow, _, eD, ?_, ?_, ?_⟩
      · have h5 := List.length_filterMap_le (fun q => distM Tm q p) (Tm.pts.take i)
        rw [List.length_take] at h5
        rw [List.length_map]
        exact sizes' (by omega)
      · intro c u hb'
        rw [upd_ne (ne_of_none hb' hD)]
        exact sm _ _ hb'
      · rw [upd_same, List.map_append]
        rfl
  rintro H1 ⟨sm, eD⟩
  rw [List.length_map, rl, List.take_length] at eD
  have mem : ∀ {m : Int}, m ∈ Tm.pts.filterMap (fun q => distM Tm q p) ↔ ∃ q ∈ Tm.pts, distM Tm q p = some m := fun {m} => List.mem_filterMap
  refine ⟨_, _, rfl, SqL.of eD, List.length_pos_of_mem (mem.mpr ⟨p, mp, gd.self mp⟩), fun m hm hle => q m H1 sm ⟨mem.mp hm, fun q hq c hc => hle c (mem.mpr ⟨q, hq, hc⟩)⟩⟩
theorem eqv_ints (a b : List Int) : PyData.eqv (.tuple (a.map .int)) (.tuple (b.map .int)) = decide (a = b) := by
  rw [PyData.eqv]
  exact eqvA_ints a b
theorem ints_dpa {K : PySem.W.Frag} {H : Hp} : ∀ ns : List Int, DpAll K H (ns.map V.int) (ns.map PyData.int)
  | [] => .nil
  | n :: r => .cons (.int n) (ints_dpa r)
/-- what is known of the moment that a clock came to what it shows -/
def Snc (T : TbM) (C : Cl) (j : Nat) (h : HdM) (v : V) : Prop := (h.pt = none ∧ v = .non) ∨ ∃ t z, h.pt = some t ∧ v = .int z ∧ IsTm T t z ∧ t ∈ T.pts ∧ ∀ l, IsTm T ⟨0, (j : Int), -1⟩ l → l ≤ z + hiOf (kdOf C.kinds h.kind)
def sp__law_walk (K : PySem.W.Frag) (P : Program) (w : World) (CT : Addr) : Sp := fun vs H Q _ => ∃ (ev kt t pl rw : Addr) (rs : List Addr) (ks : List Kd) (go : Bool) (es : List Ev) (T : TbM), vs = [.ref ev, .ref kt, .bl go, .ref t] ∧ LsI K H ev ((ev0 :: es).map evP) ∧ es.length ≤ 8 ∧ Im K H (ksP ks) (.ref kt) ∧ Ks24 ks ∧ TbAt P w K CT H t T pl rw rs ∧ TbGd T ∧ W25 ⟨"c", 0, go, ks⟩ es T ∧ ∀ H', Same H H' → Q (.bl true) H'
set_option maxHeartbeats 8000000 in
theorem ok__law_walk {f : Addr} {fd : FuncData} {CT : Addr} (TTb : Ck_Table K mg CT) (D : Df K mg "_law_walk" s__law_walk ["events", "kinds", "goes_on", "table"] f fd) (T : Txt K mg) {f__law_fits : Addr} {fd__law_fits : FuncData} (D__law_fits : Df K mg "_law_fits" s__law_fits ["start", "look", "stop", "gain", "low", "high"] f__law_fits fd__law_fits) (G__law_fits : FnOk P w K mg base CX0 1 f__law_fits fd__law_fits ["start", "look", "stop", "gain", "low", "high"] (sp__law_fits K)) {f_Table_time_of : Addr} {fd_Table_time_of : FuncData} (M_Table_time_of : Mt K CT "time_of" "Table.time_of" s_Table_time_of ["self", "point"] f_Table_time_of fd_Table_time_of) (G_Table_time_of : FnOk P w K mg base CX0 1 f_Table_time_of fd_Table_time_of ["self", "point"] (sp_Table_time_of K P w CT)) : FnOk P w K mg base CX0 2 f fd ["events", "kinds", "goes_on", "table"] (sp__law_walk K P w CT) := by
  refine D.F.ok sc__law_walk (fun vs H Q E h => ?_) (fun cdv A outer s H vs Q E hr h => ?_)
  · obtain ⟨ev, kt, t, pl, rw, rs, ks, go, es, T, rfl, _⟩ := h
    rfl
  obtain ⟨ev, kt, t, pl, rw, rs, ks, go, es, Tm, rfl, hL, hel, ik, hks, hT, gd, W, q⟩ := h
  refine ⟨_, (pss_cons (ps_set (i := 4) sc__law_walk.nd rfl (Or.inl rfl) pe_non)
    (pss_cons (ps_set (i := 5) sc__law_walk.nd rfl (Or.inl rfl) pe_int)
    (pss_cons (ps_set (i := 6) sc__law_walk.nd rfl (Or.inl rfl) pe_int)
    (pss_cons (ps_for PassesOwn.never rfl (pi_range2 rfl T.range (pa_cons pe_int (pa_cons (pe_callB call_len_seq rfl T.len PySem.boot_len (pa_cons (pv 0) pa_nil)) pa_nil))) (pg_name (i := 7) sc__law_walk.nd rfl (Or.inl rfl))
      (pss_cons (ps_asg (pe_ix ix_list (pv 0) (pv 7) (fun _ _ => rfl)) (pg_tup rfl (pgs_cons (pg_name (i := 12) sc__law_walk.nd rfl (Or.inl rfl)) (pgs_cons (pg_name (i := 13) sc__law_walk.nd rfl (Or.inl rfl)) (pgs_cons (pg_name (i := 14) sc__law_walk.nd rfl (Or.inl rfl)) (pgs_cons (pg_name (i := 15) sc__law_walk.nd rfl (Or.inl rfl)) (pgs_cons (pg_name (i := 16) sc__law_walk.nd rfl (Or.inl rfl)) pgs_nil)))))))
    (pss_cons (ps_set (i := 8) sc__law_walk.nd rfl (Or.inl rfl) (pe_meth (pv 3) TTb.cl M_Table_time_of.m G_Table_time_of (hr.mono (by decide)) M_Table_time_of.b .nil pass0 (pa_cons (pe_tup (pa_cons pe_int (pa_cons (pv 7) (pa_cons (pe_un un_neg pe_int) pa_nil)))) pa_nil)))
    (pss_cons (ps_set (i := 9) sc__law_walk.nd rfl (Or.inl rfl) (pe_meth (pv 3) TTb.cl M_Table_time_of.m G_Table_time_of (hr.mono (by decide)) M_Table_time_of.b .nil pass0 (pa_cons (pe_tup (pa_cons pe_int (pa_cons (pe_op op_sub (pv 7) pe_int) (pa_cons (pe_un un_neg pe_int) pa_nil)))) pa_nil)))
    (pss_cons (ps_if (pt_cmpR op_lt (pv 8) (pv 9) (nomark _))
      (pss_one (ps_ret pe_bl))
      pss_nil)
    (pss_cons (ps_set (i := 10) sc__law_walk.nd rfl (Or.inl rfl) (pe_ix ix_tup (pe_ix ix_tup (pv 1) (pv 6) (fun _ _ => rfl)) pe_int (fun _ _ => rfl)))
    (pss_cons (ps_set (i := 11) sc__law_walk.nd rfl (Or.inl rfl) (pe_ix ix_tup (pe_ix ix_tup (pv 1) (pv 6) (fun _ _ => rfl)) pe_int (fun _ _ => rfl)))
    (C8.pss_cut (ps_if (PW.pt (pw_or (pt_cmpR op_isN (pv 4) pe_non (nomark _)) (pw_or1 (PW.pt (pw_and (pt_val (pv 12)) (pw_and1 (pt_not (pt_val (pv 2)))))))))
      (pss_one (ps_set (i := 4) sc__law_walk.nd rfl (Or.inl rfl) (pe_meth (pv 3) TTb.cl M_Table_time_of.m G_Table_time_of (hr.mono (by decide)) M_Table_time_of.b .nil pass0 (pa_cons (pe_tup (pa_cons pe_int (pa_cons (pv 7) (pa_cons pe_int pa_nil)))) pa_nil))))
      (pss_one (ps_if (pt_cmpR op_ne (pe_ix ix_tup (pv 13) pe_int (fun _ _ => rfl)) (pv 5) (nomark _))
      (pss_cons (ps_set (i := 17) sc__law_walk.nd rfl (Or.inl rfl) (pe_meth (pv 3) TTb.cl M_Table_time_of.m G_Table_time_of (hr.mono (by decide)) M_Table_time_of.b .nil pass0 (pa_cons (pe_tup (pa_cons pe_int (pa_cons (pv 7) (pa_cons pe_int pa_nil)))) pa_nil)))
    (pss_cons (ps_if (pt_not (pt_val (pe_call G__law_fits (hr.mono (by decide)) rfl D__law_fits.m D__law_fits.F.kp D__law_fits.b .nil pass0 (pa_cons (pv 4) (pa_cons (pv 9) (pa_cons (pv 17) (pa_cons (pe_op op_sub (pe_ix ix_tup (pv 13) pe_int (fun _ _ => rfl)) (pv 5)) (pa_cons (pv 10) (pa_cons (pv 11) pa_nil)))))))))
      (pss_one (ps_ret pe_bl))
      pss_nil)
    (pss_one (ps_set (i := 4) sc__law_walk.nd rfl (Or.inl rfl) (pv 17)))))
      pss_nil)))
    (pss_cons (ps_if (pt_not (pt_chain op_le op_le pe_int (pe_op op_sub (pv 8) (pv 4)) (pv 11)))
      (pss_one (ps_ret pe_bl))
      pss_nil)
    (C8.pss_cut (ps_if (PW.pt (pw_or (pt_cmpR op_eq (pe_ix ix_tup (pv 15) pe_int (fun _ _ => rfl)) pe_str (nomark _)) (pw_or1 (pt_cmpR (op_neP hr.units) (pv 14) (pv 13) (nomark _)))))
      (pss_one (ps_set (i := 4) sc__law_walk.nd rfl (Or.inl rfl) (pv 8)))
      pss_nil)
    (pss_cons (ps_if (pt_cmpR op_eq (pe_ix ix_tup (pv 15) pe_int (fun _ _ => rfl)) pe_str (nomark _))
      (pss_one (ps_set (i := 6) sc__law_walk.nd rfl (Or.inl rfl) (pe_ix ix_tup (pv 15) pe_int (fun _ _ => rfl))))
      pss_nil)
    (pss_one (ps_set (i := 5) sc__law_walk.nd rfl (Or.inl rfl) (pe_ix ix_tup (pv 14) pe_int (fun _ _ => rfl)))))))))))))))
    (pss_one (ps_ret pe_bl)))))), ?_⟩
  obtain ⟨C, hC⟩ : ∃ C : Cl, C = ⟨"c", 0, go, ks⟩ := ⟨_, rfl⟩
  have hck : C.kinds = ks := by rw [hC]
  have hcg : C.goes = go := by rw [hC]
  rw [← hC] at W
  have ck : cks (fm23 [C]) 0 = [0] := by rw [hC]; rfl
  have h00 : hnd C es 0 = dfH := by rw [hC]; rfl
  obtain ⟨xe, hxe, ixe⟩ := id hL
  have hxl := ixe.len
  rw [List.length_map, List.length_cons] at hxl
  refine ⟨_, rfl, _, _, rfl, .inl (SqL.of hxe), _, _, rfl, ⟨by omega, by omega, by omega, by omega⟩, for_range (lo := 1) (n := (((xe.length : Nat) : Int) - 1).toNat) (fun j σ H' => ∃ v4 v7 v8 v9 v10 v11 v12 v13 v14 v15 v16 v17, ∃ sc : V, σ = [some (.ref ev), some (.ref kt), some (.bl go), some (.ref t), some sc, some (.int (hnd C es j).shown), some (.int (hnd C es j).kind), v7, v8, v9, v10, v11, v12, v13, v14, v15, v16, v17] ∧ Same H H' ∧ Snc Tm C j (hnd C es j) sc ∧ v4 = some sc) ⟨some .non, none, none, none, none, none, none, none, none, none, none, none, .non, ?_, fun _ _ h => h, .inl ⟨?_, rfl⟩, rfl⟩ ?_ ?_⟩
  · rw [h00]; rfl
  · rw [h00]; rfl
  · rintro j σ H1 hj ⟨v4, v7, v8, v9, v10, v11, v12, v13, v14, v15, v16, v17, sc, rfl, s1, hsc, e4⟩
    clear e4 v4
    have hj : j < es.length := by omega
    have hee : Ev23 [C] (es.getD j dfE) := W.ev _ (List.mem_of_getElem? (getD_ix hj))
    have h8 := (W.gn j hj).1
    have hgn := (W.gn j hj).2
    have wk := wk25 (τ := IsTm Tm) (C := C) (n := 1 + (j : Int)) (e := es.getD j dfE) (h := hnd C es j) (W.met j hj) ck
    have hpt := W.pts j hj
    have k6 := W.k6 j (by omega)
    have nx := W.nx j hj
    rw [hand25 hee h8] at nx
    obtain ⟨dd, v, g1, g2, g3⟩ := list_at (j := 1 + (j : Int)) ixe (by omega) (by rw [List.length_map, List.length_cons]; omega)
    have ed : dd = evP (es.getD j dfE) := by
      rw [show (1 + (j : Int)).toNat = j + 1 by omega, List.map_cons, List.getElem?_cons_succ, List.getElem?_map, getD_ix (d := dfE) hj] at g1
      exact (Option.some.inj g1).symm
    subst ed
    generalize es.getD j dfE = e at *
    generalize hh : hnd C es j = h at *
    generalize hh2 : hnd C es (j + 1) = h2 at *
    obtain ⟨a, p, qa, d, r, rfl, sqe, ip, iq, idd, _⟩ := Im.unev (Im.mono (.of s1) _ g3)
    obtain ⟨pa, rfl, hpa⟩ := ip.unints
    obtain ⟨qa, rfl, hqa⟩ := iq.unints
    have hp9 : e.deed.place < 9 := by rcases hee.d.pl with x | x | x <;> omega
    obtain ⟨da, z, rest, rfl, hz, sqd, hrest⟩ := Im.undd hp9 idd
    have hrest : rest = e.deed.nums.map V.int := by
      rcases hrest with ⟨h, _⟩ | ⟨_, h⟩
      · exact absurd h h8
      · exact h
    subst hrest
    obtain ⟨s0, hs0⟩ : ∃ s0, e.shown = [s0] := by
      have := hee.s
      match e.shown, this with
      | [s0], _ => exact ⟨s0, rfl⟩
    obtain ⟨a0, ha0⟩ : ∃ a0, e.after = [a0] := by
      have := hee.a
      match e.after, this with
      | [a0], _ => exact ⟨a0, rfl⟩
    have hs0' : e.shown.getD 0 0 = s0 := by rw [hs0]; rfl
    have ha0' : e.after.getD 0 0 = a0 := by rw [ha0]; rfl
    rw [hs0] at hpa
    rw [ha0] at hqa
    obtain ⟨dx, hx⟩ := (hT.keep s1).ins
    refine ⟨_, rfl, _, rfl, _, _, _, _, rfl, rfl, SqL.of (s1 _ _ hxe), g2, _, _, rfl, sqe, rfl, _, _, rfl, _, _, rfl, _, _, rfl, _, _, rfl, _, _, rfl, rfl, ?_⟩
    -- here
    refine ⟨_, rfl, _, _, _, rfl, hx, no_Table, _, rfl, _, rfl, (by show 3 ≤ sizeLine; decide), fun a1b n1b => ?_⟩
    generalize e1b : upd H1 a1b _ = H1b
    obtain ⟨s1b, h1b⟩ := fr e1b n1b
    clear e1b
    have s2 := s1.trans s1b
    have hT2 := hT.keep s2
    obtain ⟨i1, i2⟩ := hpt ⟨⟨0, 1 + (j : Int), -1⟩, ⟨0, 1 + (j : Int) - 1, -1⟩, -0, -1⟩ (by unfold evB; simp)
    refine ⟨t, pl, rw, a1b, Tm, rs, ⟨0, 1 + (j : Int), -1⟩, rfl, hT2, SqT.of h1b, i1, gd, fun hr H3 s3' hhr => ?_⟩
    have s3 := s2.trans s3'
    have hT3 := hT.keep s3
    obtain ⟨dx3, hx3⟩ := hT3.ins
    refine ⟨_, rfl, _, _, _, rfl, hx3, no_Table, _, rfl, _, _, rfl, rfl, _, rfl, (by show 3 ≤ sizeLine; decide), fun a4 n4 => ?_⟩
    generalize e4 : upd H3 a4 _ = H4
    obtain ⟨s4, h4⟩ := fr e4 n4
    clear e4
    have s4t := s3.trans s4
    have t14 : Same H1 H4 := s1b.trans (s3'.trans s4)
    refine ⟨t, pl, rw, a4, Tm, rs, ⟨0, 1 + (j : Int) - 1, -1⟩, rfl, hT.keep s4t, SqT.of h4, i2, gd, fun lk H5 s5' hlk => ?_⟩
    have s5 := s4t.trans s5'
    clear h4 n4 s4 s4t hT3 hx3 s3 hT2 s2 h1b n1b hx hxe
    refine ⟨_, rfl, _, rfl, _, _, rfl, rfl, _, rfl, ite2 (fun c => absurd (of_decide_eq_true c) (by have := wk.ord hr lk hhr hlk; omega)) (fun _ => ?_)⟩
    -- the kind's numbers
    obtain ⟨_, kws, ee0, hkt, iks⟩ := Im.unks (Im.mono (.of s5) _ ik)
    cases ee0
    have k6' : Six ks h.kind := by rw [← hck]; exact k6
    obtain ⟨hi, kh1, kh2, kh3, kh4, kh5⟩ := hks.at k6'
    obtain ⟨ka, hka, hkd⟩ := kd_at iks k6'
    refine ⟨_, rfl, _, rfl, _, _, _, _, rfl, rfl, hkt, hka, _, _, _, _, rfl, rfl, hkd, at_of (j := 1) rfl rfl, ?_⟩
    refine ⟨_, rfl, _, rfl, _, _, _, _, rfl, rfl, hkt, hka, _, _, _, _, rfl, rfl, hkd, at_of (j := 2) rfl (by rw [kh1]; rfl), ?_⟩
    have elo : (kdOf C.kinds h.kind).low = loK ks h.kind := by rw [hck]; rfl
    have ehi : hiOf (kdOf C.kinds h.kind) = hi := by rw [hck]; exact kh2
    rw [elo, ehi] at wk
    change loK ks h.kind ≤ hi at kh4
    have hlo : (kdOf ks h.kind).low = loK ks h.kind := rfl
    rw [hlo]
    change 1 ≤ loK ks h.kind at kh3
    generalize loK ks h.kind = lo at *
    obtain ⟨w1, w2, w3, w4⟩ := wk
    rw [hs0'] at w3 w4 hgn
    have s15 : Same H1 H5 := t14.trans s5'
    have hpa5 := sTup s15 hpa
    have hqa5 := sTup s15 hqa
    have sqd5 := sTup s15 sqd
    have hT5 := hT.keep s5
    obtain ⟨dx5, hx5⟩ := hT5.ins
    clear hpa hqa sqd s15 t14 s5' s3' s1b ip iq idd g1 g2 g3 sqe
    have tickin : (∃ b ∈ clockM C 0 0 (1 + (j : Int)) e s0 h, b.one = ⟨0, 1 + (j : Int), 0⟩) → (⟨0, 1 + (j : Int), 0⟩ : Pt) ∈ Tm.pts := fun ⟨b, hb, e1⟩ => by
      rw [← e1]
      refine (hpt b ?_).1
      unfold evB
      rw [ck]
      refine List.mem_append.mpr (.inl (List.mem_append.mpr (.inr ?_)))
      show b ∈ cB (fm23 [C]) 0 (1 + (j : Int)) e [h] 0 ++ []
      rw [List.append_nil]
      unfold cB
      rw [ck]
      show b ∈ clockM C 0 0 (1 + (j : Int)) e (e.shown.getD 0 0) h
      rw [hs0']
      exact hb
    have h8b : decide (e.deed.place = 8) = false := decide_eq_false h8
    refine ⟨fun σ H' => ∃ (v17' : Option V) (zs : Int), σ = [some (.ref ev), some (.ref kt), some (.bl go), some (.ref t), some (.int zs), some (.int h.shown), some (.int h.kind), some (.int (1 + (j : Int))), some (.int hr), some (.int lk), some (.int lo), some (.int hi), some (.bl e.asleep), some (.ref pa), some (.ref qa), some (.ref da), some r, v17'] ∧ Same H5 H' ∧ IsTm Tm (tkP C 0 (1 + (j : Int)) e s0 h) zs ∧ tkP C 0 (1 + (j : Int)) e s0 h ∈ Tm.pts ∧ 0 ≤ hr - zs ∧ hr - zs ≤ hi, ?_, ?_⟩
    · rcases hsc with ⟨hn, rfl⟩ | ⟨t0, z0, hp0, rfl, hz0, mt0, hl0⟩
      · have hsn : sinceM C.goes e h = none := by unfold sinceM; split; rfl; exact hn
        refine ⟨_, rfl, rfl, _, rfl, ?_⟩
        refine iteT (iteT ?_)
        refine ⟨_, rfl, _, _, _, rfl, hx5, no_Table, _, rfl, (by show 3 ≤ sizeLine; decide), fun a6 n6 => ?_⟩
        generalize e6 : upd H5 a6 _ = H6
        obtain ⟨s6, h6⟩ := fr e6 n6
        clear e6
        have htk : tkP C 0 (1 + (j : Int)) e s0 h = ⟨0, 1 + (j : Int), 0⟩ := by unfold tkP; rw [hsn]
        have m6 : (⟨0, 1 + (j : Int), 0⟩ : Pt) ∈ Tm.pts := tickin (by
          unfold clockM
          rw [hsn]
          unfold ftl
          exact ⟨_, List.mem_cons_self, rfl⟩)
        refine ⟨t, pl, rw, a6, Tm, rs, ⟨0, 1 + (j : Int), 0⟩, rfl, hT5.keep s6, SqT.of h6, m6, gd, fun zs H7 s7 hzs => ?_⟩
        have := w2 hsn zs hr hzs hhr
        exact ⟨_, zs, rfl, s6.trans s7, by rw [htk]; exact hzs, by rw [htk]; exact m6, this.1, this.2⟩
      · refine ⟨_, rfl, rfl, _, rfl, ?_⟩
        refine ite2 (fun g => absurd (of_decide_eq_true g) (by intro z; cases z)) (fun _ => ?_)
        cases hb : (e.asleep && !go) with
        | true =>
          rw [Bool.and_eq_true] at hb
          have hsn : sinceM C.goes e h = none := by
            unfold sinceM
            rw [if_pos (by rw [hcg, hb.1, hb.2]; simp)]
          refine ⟨_, rfl, e.asleep, rfl, ite2 (fun _ => ⟨_, rfl, go, rfl, ite2 (fun _ => ?_) (fun z => absurd hb.2 z)⟩) (fun z => absurd hb.1 z)⟩
          refine ⟨_, rfl, _, _, _, rfl, hx5, no_Table, _, rfl, (by show 3 ≤ sizeLine; decide), fun a6 n6 => ?_⟩
          generalize e6 : upd H5 a6 _ = H6
          obtain ⟨s6, h6⟩ := fr e6 n6
          clear e6
          have htk : tkP C 0 (1 + (j : Int)) e s0 h = ⟨0, 1 + (j : Int), 0⟩ := by unfold tkP; rw [hsn]
          have m6 : (⟨0, 1 + (j : Int), 0⟩ : Pt) ∈ Tm.pts := tickin (by
            unfold clockM
            rw [hsn]
            unfold ftl
            exact ⟨_, List.mem_cons_self, rfl⟩)
          refine ⟨t, pl, rw, a6, Tm, rs, ⟨0, 1 + (j : Int), 0⟩, rfl, hT5.keep s6, SqT.of h6, m6, gd, fun zs H7 s7 hzs => ?_⟩
          have := w2 hsn zs hr hzs hhr
          exact ⟨_, zs, rfl, s6.trans s7, by rw [htk]; exact hzs, by rw [htk]; exact m6, this.1, this.2⟩
        | false =>
          have hss : sinceM C.goes e h = some t0 := by
            unfold sinceM
            rw [if_neg (by rw [hcg, h8b, hb]; simp)]
            exact hp0
          refine ⟨_, rfl, e.asleep, rfl, (fun key => ite2 (fun c1 => ⟨_, rfl, go, rfl, ite2 (fun c2 => absurd (show (e.asleep && !go) = true by rw [c1, c2]; rfl) (by rw [hb]; decide)) (fun _ => key)⟩) (fun _ => iteF key)) ?_⟩
          refine ⟨_, rfl, _, _, _, _, rfl, rfl, hpa5, at_of (j := 0) rfl rfl, _, rfl, rfl, _, rfl, ite2 (fun c => ?_) (fun c => ?_)⟩
          · have ne : ¬ s0 - h.shown = 0 := fun z => by
              have e2 : s0 = h.shown := by omega
              have hz : (!decide (V.int s0 = V.int h.shown)) = true := c
              rw [e2, decide_eq_true rfl] at hz
              cases hz
            have ge := hgn t0 hss
            have htk : tkP C 0 (1 + (j : Int)) e s0 h = ⟨0, 1 + (j : Int), 0⟩ := by unfold tkP; rw [hss]; exact if_neg ne
            have m6 : (⟨0, 1 + (j : Int), 0⟩ : Pt) ∈ Tm.pts := tickin (by
              refine ⟨⟨⟨0, 1 + (j : Int), 0⟩, ⟨0, 1 + (j : Int), -1⟩, hiOf (kdOf C.kinds h.kind), 0⟩, ?_, rfl⟩
              unfold clockM
              rw [hss]
              simp only [if_neg ne]
              unfold ftl
              simp)
            refine ⟨_, rfl, _, _, _, rfl, hx5, no_Table, _, rfl, (by show 3 ≤ sizeLine; decide), fun a6 n6 => ?_⟩
            generalize e6 : upd H5 a6 _ = H6
            obtain ⟨s6, h6⟩ := fr e6 n6
            clear e6
            refine ⟨t, pl, rw, a6, Tm, rs, ⟨0, 1 + (j : Int), 0⟩, rfl, hT5.keep s6, SqT.of h6, m6, gd, fun zs H7 s7 hzs => ?_⟩
            have s57 := s6.trans s7
            obtain ⟨f1, f2, f3, f4, f5⟩ := w4 t0 hss ne z0 zs lk hr hz0 hzs hlk hhr
            have hd := hl0 lk (by rw [show (1 + (j : Int) - 1) = (j : Int) by omega] at hlk; exact hlk)
            rw [ehi] at hd
            have ft : Fit25 z0 lk zs (s0 - h.shown) lo hi := ⟨by omega, by omega, kh4, kh5, f1, f2, f3, hd⟩
            refine ⟨_, rfl, _, rfl, _, rfl, _, rfl, _, _, _, _, rfl, rfl, sTup s57 hpa5, at_of (j := 0) rfl rfl, _, rfl, _, _, rfl, rfl, _, rfl, _, rfl, _, _, _, _, _, _, rfl, ft, _, rfl, ?_⟩
            first
              | refine ite2 (fun z => absurd z (by decide)) (fun _ => ?_)
              | refine ite2 (fun _ => ?_) (fun z => absurd rfl z)
            exact ⟨_, rfl, _, zs, rfl, s57, by rw [htk]; exact hzs, by rw [htk]; exact m6, f4, f5⟩
          · have eq : s0 - h.shown = 0 := by
              have hz : ¬ (!decide (V.int s0 = V.int h.shown)) = true := c
              by_cases e2 : s0 = h.shown
              · omega
              · exact absurd (by rw [decide_eq_false (fun q => e2 (by injection q))]; rfl) hz
            have htk : tkP C 0 (1 + (j : Int)) e s0 h = t0 := by unfold tkP; rw [hss]; exact if_pos eq
            have := w3 t0 hss eq z0 hr hz0 hhr
            exact ⟨_, z0, rfl, fun _ _ h => h, by rw [htk]; exact hz0, by rw [htk]; exact mt0, this.1, this.2⟩
    clear tickin hsc w2 w3 w4 hgn
    rintro σ H6 ⟨v17', zs, rfl, s6, hzs, mtk, z1, z2⟩
    have s06 := s5.trans s6
    have hqa6 := sTup s6 hqa5
    have hpa6 := sTup s6 hpa5
    have sqd6 := sTup s6 sqd5
    refine ⟨_, rfl, _, rfl, _, _, rfl, rfl, _, _, rfl, rfl, _, rfl, ite2 (fun _ => ?_) (fun z => absurd (decide_eq_true z1) z)⟩
    refine ⟨_, rfl, _, _, rfl, rfl, _, rfl, ?_⟩
    first
      | refine ite2 (fun _ => ?_) (fun z => absurd (decide_eq_true z2) z)
      | refine ite2 (fun z => absurd (decide_eq_true z2) (by simpa using z)) (fun _ => ?_)
    have cast : (((j + 1 : Nat)) : Int) = 1 + (j : Int) := by omega
    have hi0 : 0 ≤ hi := by omega
    refine ⟨fun σ H' => ∃ sc' : V, σ = [some (.ref ev), some (.ref kt), some (.bl go), some (.ref t), some sc', some (.int h.shown), some (.int h.kind), some (.int (1 + (j : Int))), some (.int hr), some (.int lk), some (.int lo), some (.int hi), some (.bl e.asleep), some (.ref pa), some (.ref qa), some (.ref da), some r, v17'] ∧ H6 = H' ∧ Snc Tm C (j + 1) h2 sc', ?_, ?_⟩
    · refine ⟨_, rfl, _, _, _, _, rfl, rfl, sqd6, at_of (j := 0) rfl rfl, rfl, _, rfl, ?_⟩
      rw [show decide (V.str z = V.str "kind") = decide (e.deed.place = 1) from dn_is hz rfl]
      by_cases p1 : e.deed.place = 1
      · rw [if_pos p1] at nx
        refine ite2 (fun _ => ?_) (fun z => absurd (decide_eq_true p1) z)
        have hk' : 0 ≤ hiOf (kdOf C.kinds (e.deed.nums.getD 1 0)) := by
          rcases hee.d with q | ⟨c, k, q, c0, c1, k6b⟩ | ⟨_, q, _⟩
          · rw [q] at p1; cases p1
          · have c1 : c < 1 := c1
            have c0 : c = 0 := by omega
            subst c0
            have k6b : Six C.kinds k := k6b
            rw [hck] at k6b ⊢
            obtain ⟨hi2, _, x2, x3, x4, _⟩ := hks.at k6b
            rw [q]
            show 0 ≤ hiK ks k
            omega
          · rw [q] at p1; cases p1
        refine iteT ⟨_, rfl, .int hr, rfl, rfl, .inr ⟨_, hr, by rw [nx], rfl, hhr, i1, fun l hl => ?_⟩⟩
        rw [cast] at hl
        have := hl.one hhr
        rw [nx]
        show l ≤ hr + hiOf (kdOf C.kinds (e.deed.nums.getD 1 0))
        omega
      · rw [if_neg p1, ha0'] at nx
        refine ite2 (fun z => absurd (of_decide_eq_true z) p1) (fun _ => ?_)
        rw [hs0'] at nx
        refine ⟨_, rfl, _, rfl, .tuple ([a0].map .int), .tuple ([s0].map .int), .tup hqa6 (ints_dpa [a0]), .tup hpa6 (ints_dpa [s0]), rfl, rfl, by simp [PyData.depth, PyData.depthAll], _, rfl, ?_⟩
        rw [eqv_ints]
        by_cases g : a0 ≠ s0
        · rw [if_pos g] at nx
          refine ite2 (fun _ => ?_) (fun z => absurd (by rw [decide_eq_false (fun q => g (by injection q))]; rfl) z)
          refine ⟨_, rfl, .int hr, rfl, rfl, .inr ⟨_, hr, by rw [nx], rfl, hhr, i1, fun l hl => ?_⟩⟩
          rw [cast] at hl
          have := hl.one hhr
          rw [nx]
          show l ≤ hr + hiOf (kdOf C.kinds h.kind)
          rw [ehi]
          omega
        · rw [if_neg g] at nx
          have g : a0 = s0 := by omega
          refine ite2 (fun z => absurd z (by rw [g, decide_eq_true rfl]; decide)) (fun _ => ?_)
          refine ⟨.int zs, rfl, rfl, .inr ⟨_, zs, by rw [nx], rfl, hzs, mtk, fun l hl => ?_⟩⟩
          rw [cast] at hl
          have := hl.one hhr
          rw [nx]
          show l ≤ zs + hiOf (kdOf C.kinds h.kind)
          rw [ehi]
          omega
    rintro σ H' ⟨sc', rfl, rfl, hsn2⟩
    refine ⟨_, rfl, _, _, _, _, rfl, rfl, sqd6, at_of (j := 0) rfl rfl, rfl, _, rfl, ?_⟩
    rw [show decide (V.str z = V.str "kind") = decide (e.deed.place = 1) from dn_is hz rfl]
    by_cases p1 : e.deed.place = 1
    · have hnn : e.deed.nums = [e.deed.nums.getD 0 0, e.deed.nums.getD 1 0] := by
        rcases hee.d with q | ⟨c, k, q, _⟩ | ⟨_, q, _⟩
        · rw [q] at p1; cases p1
        · rw [q]; rfl
        · rw [q] at p1; cases p1
      rw [if_pos p1, ha0'] at nx
      rw [hnn] at sqd6
      refine ite2 (fun _ => ?_) (fun z => absurd (decide_eq_true p1) z)
      refine ⟨_, rfl, _, _, _, _, rfl, rfl, sqd6, at_of (j := 2) rfl rfl, _, rfl, _, _, _, _, rfl, rfl, hqa6, at_of (j := 0) rfl rfl, ?_⟩
      rw [nx] at hsn2 ⊢
      exact ⟨_, _, _, _, _, _, _, _, _, _, _, _, sc', rfl, s06, hsn2, rfl⟩
    · refine ite2 (fun z => absurd (of_decide_eq_true z) p1) (fun _ => ?_)
      refine ⟨_, rfl, _, _, _, _, rfl, rfl, hqa6, at_of (j := 0) rfl rfl, ?_⟩
      have e1 : h2.shown = a0 ∧ h2.kind = h.kind := by
        rw [if_neg p1, ha0'] at nx
        split at nx <;> rw [nx] <;> exact ⟨rfl, rfl⟩
      rw [e1.1, e1.2]
      exact ⟨_, _, _, _, _, _, _, _, _, _, _, _, sc', rfl, s06, hsn2, rfl⟩
  · rintro σ H1 ⟨v4, v7, v8, v9, v10, v11, v12, v13, v14, v15, v16, v17, sc, rfl, s1, _, _⟩
    exact q _ s1
def sp_Table_possible (K : PySem.W.Frag) (P : Program) (w : World) (CT : Addr) : Sp := fun vs H Q _ => ∃ (t pl rw : Addr) (T : TbM) (rs : List Addr), vs = [.ref t] ∧ TbAt P w K CT H t T pl rw rs ∧ Q (.bl T.ok) H
theorem ok_Table_possible {f : Addr} {fd : FuncData} {CT : Addr} (TTb : Ck_Table K mg CT) (D : Pr K CT "possible" "Table.possible" s_Table_possible ["self"] f fd) (T : Txt K mg) : FnOk P w K mg base CX0 1 f fd ["self"] (sp_Table_possible K P w CT) := by
  refine D.F.ok sc_Table_possible (fun vs H Q E h => ?_) (fun cdv A outer s H vs Q E hr h => ?_)
  · obtain ⟨t, pl, rw, T, rs, rfl, _⟩ := h
    rfl
  obtain ⟨t, pl, rw, Tm, rs, rfl, hT, q⟩ := h
  refine ⟨_, (pss_one (ps_ret (pe_fld (pv 0) rfl))), ?_⟩
  obtain ⟨dx, hp⟩ := hT.ins
  exact ⟨_, rfl, _, _, _, _, _, rfl, hp, TTb.cl, TTb.n__possible, lk_Table__possible, q⟩
theorem insSq {C dx : Addr} {fs : List (Str × V)} {K : PySem.W.Frag} {H H' : Hp} {o a : Addr} {ys : List V} (e : But o H H') (ho : H o = some (.ins C dx fs)) (h : SqL K H a ys) : SqL K H' a ys := by
  rcases h with (h | ⟨ob, h⟩) | h
  · exact .inl (.inl (e _ _ (ne_of h ho (by intro z; cases z)) h))
  · exact .inl (.inr ⟨ob, e _ _ (ne_of h ho (by intro z; cases z)) h⟩)
  · exact .inr h
def sp_Frame___init__ (K : PySem.W.Frag) (CF : Addr) : Sp := fun vs H Q _ => ∃ (p dx a1 a2 a3 a4 : Addr) (x1 x2 x3 x4 : List V) (v5 : V), vs = [.ref p, .ref a1, .ref a2, .ref a3, .ref a4, v5] ∧ H p = some (.ins CF dx []) ∧ SqL K H a1 x1 ∧ SqL K H a2 x2 ∧ SqL K H a3 x3 ∧ SqL K H a4 x4 ∧
  ∀ (d1 d2 d3 d4 : Addr) (H' : Hp), But p H H' → H' p = some (.ins CF dx (ff_Frame (.ref d1) (.ref d2) (.ref d3) (.ref d4) v5)) → H' d1 = some (.lst x1) → H' d2 = some (.lst x2) → H' d3 = some (.lst x3) → H' d4 = some (.lst x4) → H d1 = none → H d2 = none → H d3 = none → H d4 = none → [d1, d2, d3, d4].Nodup → Q .non H'
theorem ok_Frame___init__ {f : Addr} {fd : FuncData} {CF : Addr} (TF : Ck_Frame K mg CF) (D : Mt K CF "__init__" "Frame.__init__" s_Frame___init__ ["self", "devices", "clocks", "links", "sources", "faults"] f fd) (T : Txt K mg) : FnOk P w K mg base CX0 1 f fd ["self", "devices", "clocks", "links", "sources", "faults"] (sp_Frame___init__ K CF) := by
  refine D.F.ok sc_Frame___init__ (fun vs H Q E h => ?_) (fun cdv A outer s H vs Q E hr h => ?_)
  · obtain ⟨p, dx, a1, a2, a3, a4, x1, x2, x3, x4, v5, rfl, _⟩ := h
    rfl
  obtain ⟨p, dx, a1, a2, a3, a4, x1, x2, x3, x4, v5, rfl, hp, h1, h2, h3, h4, q⟩ := h
  refine ⟨_, (pss_cons (ps_fld (pv 0) (pe_callTy call_list_of rfl T.list (by decide +kernel) (pa_cons (pv 1) pa_nil)) rfl)
    (pss_cons (ps_fld (pv 0) (pe_callTy call_list_of rfl T.list (by decide +kernel) (pa_cons (pv 2) pa_nil)) rfl)
    (pss_cons (ps_fld (pv 0) (pe_callTy call_list_of rfl T.list (by decide +kernel) (pa_cons (pv 3) pa_nil)) rfl)
    (pss_cons (ps_fld (pv 0) (pe_callTy call_list_of rfl T.list (by decide +kernel) (pa_cons (pv 4) pa_nil)) rfl)
    (pss_one (ps_fld (pv 0) (pv 5) rfl)))))), ?_⟩
  refine ⟨_, rfl, _, _, rfl, .inl h1, fun d1 n1 => ?_⟩
  have s1 : Same H (upd H d1 (.lst x1)) := same_upd n1
  have e1 : (upd H d1 (.lst x1)) d1 = some (.lst x1) := upd_same
  generalize upd H d1 (.lst x1) = H1 at *
  have p1 := s1 _ _ hp
  refine ⟨_, rfl, p, CF, dx, [], rfl, p1, TF.cl, TF.n_devices, (by show 0 < 1000; decide), ?_⟩
  have b1 : But p H1 (upd H1 p (.ins CF dx (putF "devices" (.ref d1) []))) := But.set
  have q1 : (upd H1 p (.ins CF dx (putF "devices" (.ref d1) []))) p = some (.ins CF dx (putF "devices" (.ref d1) [])) := upd_same
  have f1 := b1 _ _ (ne_of e1 p1 (by intro z; cases z)) e1
  have g2 := insSq b1 p1 (s1.seq h2)
  have g3 := insSq b1 p1 (s1.seq h3)
  have g4 := insSq b1 p1 (s1.seq h4)
  have c1 := (But.of s1).trans b1
  have w1 : ∀ b, (upd H1 p (.ins CF dx (putF "devices" (.ref d1) []))) b = none → H b = none := fun b hb => by
    cases e : H b with
    | none => rfl
    | some u =>
      by_cases hbp : b = p
      · rw [hbp, q1] at hb; cases hb
      · rw [c1 _ _ hbp e] at hb; cases hb
  generalize upd H1 p (.ins CF dx (putF "devices" (.ref d1) [])) = H2 at *
  refine ⟨_, rfl, _, _, rfl, .inl g2, fun d2 n2 => ?_⟩
  have d12 : d1 ≠ d2 := ne_of_none f1 n2
  have s2 : Same H2 (upd H2 d2 (.lst x2)) := same_upd n2
  have e2 : (upd H2 d2 (.lst x2)) d2 = some (.lst x2) := upd_same
  generalize upd H2 d2 (.lst x2) = H3 at *
  have p3 := s2 _ _ q1
  refine ⟨_, rfl, p, CF, dx, _, rfl, p3, TF.cl, TF.n_clocks, (by show 1 < 1000; decide), ?_⟩
  have b3 : But p H3 (upd H3 p (.ins CF dx (putF "clocks" (.ref d2) (putF "devices" (.ref d1) [])))) := But.set
  have q3 : (upd H3 p (.ins CF dx (putF "clocks" (.ref d2) (putF "devices" (.ref d1) [])))) p = some (.ins CF dx (putF "clocks" (.ref d2) (putF "devices" (.ref d1) []))) := upd_same
  have f2 := b3 _ _ (ne_of e2 p3 (by intro z; cases z)) e2
  have f1 := b3 _ _ (ne_of (s2 _ _ f1) p3 (by intro z; cases z)) (s2 _ _ f1)
  have g3 := insSq b3 p3 (s2.seq g3)
  have g4 := insSq b3 p3 (s2.seq g4)
  have c3 := c1.trans ((But.of s2).trans b3)
  have w3 : ∀ b, (upd H3 p (.ins CF dx (putF "clocks" (.ref d2) (putF "devices" (.ref d1) [])))) b = none → H b = none := fun b hb => by
    cases e : H b with
    | none => rfl
    | some u =>
      by_cases hbp : b = p
      · rw [hbp, q3] at hb; cases hb
      · rw [c3 _ _ hbp e] at hb; cases hb
  generalize upd H3 p (.ins CF dx (putF "clocks" (.ref d2) (putF "devices" (.ref d1) []))) = H4 at *
  refine ⟨_, rfl, _, _, rfl, .inl g3, fun d3 n3 => ?_⟩
  have d13 : d1 ≠ d3 := ne_of_none f1 n3
  have d23 : d2 ≠ d3 := ne_of_none f2 n3
  have s4 : Same H4 (upd H4 d3 (.lst x3)) := same_upd n3
  have e3 : (upd H4 d3 (.lst x3)) d3 = some (.lst x3) := upd_same
  generalize upd H4 d3 (.lst x3) = H5 at *
  have p5 := s4 _ _ q3
  refine ⟨_, rfl, p, CF, dx, _, rfl, p5, TF.cl, TF.n_links, (by show 2 < 1000; decide), ?_⟩
  have b5 : But p H5 (upd H5 p (.ins CF dx (putF "links" (.ref d3) (putF "clocks" (.ref d2) (putF "devices" (.ref d1) []))))) := But.set
  have q5 : (upd H5 p (.ins CF dx (putF "links" (.ref d3) (putF "clocks" (.ref d2) (putF "devices" (.ref d1) []))))) p = some (.ins CF dx (putF "links" (.ref d3) (putF "clocks" (.ref d2) (putF "devices" (.ref d1) [])))) := upd_same
  have f3 := b5 _ _ (ne_of e3 p5 (by intro z; cases z)) e3
  have f2 := b5 _ _ (ne_of (s4 _ _ f2) p5 (by intro z; cases z)) (s4 _ _ f2)
  have f1 := b5 _ _ (ne_of (s4 _ _ f1) p5 (by intro z; cases z)) (s4 _ _ f1)
  have g4 := insSq b5 p5 (s4.seq g4)
  have c5 := c3.trans ((But.of s4).trans b5)
  have w5 : ∀ b, (upd H5 p (.ins CF dx (putF "links" (.ref d3) (putF "clocks" (.ref d2) (putF "devices" (.ref d1) []))))) b = none → H b = none := fun b hb => by
    cases e : H b with
    | none => rfl
    | some u =>
      by_cases hbp : b = p
      · rw [hbp, q5] at hb; cases hb
      · rw [c5 _ _ hbp e] at hb; cases hb
  generalize upd H5 p (.ins CF dx (putF "links" (.ref d3) (putF "clocks" (.ref d2) (putF "devices" (.ref d1) [])))) = H6 at *
  refine ⟨_, rfl, _, _, rfl, .inl g4, fun d4 n4 => ?_⟩
  have d14 : d1 ≠ d4 := ne_of_none f1 n4
  have d24 : d2 ≠ d4 := ne_of_none f2 n4
  have d34 : d3 ≠ d4 := ne_of_none f3 n4
  have s6 : Same H6 (upd H6 d4 (.lst x4)) := same_upd n4
  have e4 : (upd H6 d4 (.lst x4)) d4 = some (.lst x4) := upd_same
  generalize upd H6 d4 (.lst x4) = H7 at *
  have p7 := s6 _ _ q5
  refine ⟨_, rfl, p, CF, dx, _, rfl, p7, TF.cl, TF.n_sources, (by show 3 < 1000; decide), ?_⟩
  have b7 : But p H7 (upd H7 p (.ins CF dx (putF "sources" (.ref d4) (putF "links" (.ref d3) (putF "clocks" (.ref d2) (putF "devices" (.ref d1) [])))))) := But.set
  have q7 : (upd H7 p (.ins CF dx (putF "sources" (.ref d4) (putF "links" (.ref d3) (putF "clocks" (.ref d2) (putF "devices" (.ref d1) [])))))) p = some (.ins CF dx (putF "sources" (.ref d4) (putF "links" (.ref d3) (putF "clocks" (.ref d2) (putF "devices" (.ref d1) []))))) := upd_same
  have c7 := c5.trans ((But.of s6).trans b7)
  have f4 := b7 _ _ (ne_of e4 p7 (by intro z; cases z)) e4
  have f3 := b7 _ _ (ne_of (s6 _ _ f3) p7 (by intro z; cases z)) (s6 _ _ f3)
  have f2 := b7 _ _ (ne_of (s6 _ _ f2) p7 (by intro z; cases z)) (s6 _ _ f2)
  have f1 := b7 _ _ (ne_of (s6 _ _ f1) p7 (by intro z; cases z)) (s6 _ _ f1)
  generalize upd H7 p (.ins CF dx (putF "sources" (.ref d4) (putF "links" (.ref d3) (putF "clocks" (.ref d2) (putF "devices" (.ref d1) []))))) = H8 at *
  refine ⟨_, rfl, _, rfl, p, CF, dx, _, rfl, q7, TF.cl, TF.n_faults, (by show 4 < 1000; decide), ?_⟩
  have b9 : But p H8 (upd H8 p (.ins CF dx (ff_Frame (.ref d1) (.ref d2) (.ref d3) (.ref d4) v5))) := But.set
  refine q d1 d2 d3 d4 _ (c7.trans b9) upd_same (b9 _ _ (ne_of f1 q7 (by intro z; cases z)) f1) (b9 _ _ (ne_of f2 q7 (by intro z; cases z)) f2) (b9 _ _ (ne_of f3 q7 (by intro z; cases z)) f3) (b9 _ _ (ne_of f4 q7 (by intro z; cases z)) f4) n1 (w1 _ n2) (w3 _ n3) (w5 _ n4) ?_
  simp only [List.nodup_cons, List.mem_cons, List.not_mem_nil, or_false, not_or, not_false_eq_true, List.nodup_nil, and_true]
  exact ⟨⟨d12, d13, d14⟩, ⟨d23, d24⟩, d34⟩
/-- bounds that some times meet are possible -/
theorem ok_of_met {t : Pt → Int} {bds : List Bd} {ps : List Pt} (few : (namesM ps bds).length ≤ 40) (mt : ∀ b ∈ bds, t b.two ≤ t b.one + b.amount) : (tabM bds ps).ok = true := by
  obtain ⟨_, r, o, g, _⟩ := tab_ringN (big := namesM ps bds) (names_nd ps bds) names_all (fun p h => names_has h) few
  cases r with
  | false => exact o
  | true =>
    exfalso
    obtain ⟨sb, e, s, y, w, h1, h2, h3, h4⟩ := g.2 rfl
    have ar : ∀ z ∈ bds.map (arcM (namesM ps bds)), t ((namesM ps bds).getD z.v stP) ≤ t ((namesM ps bds).getD z.u stP) + z.w := fun z hz => by
      obtain ⟨b, hb, rfl⟩ := List.mem_map.mp hz
      obtain ⟨m1, m2⟩ := names_all (ps := ps) b hb
      have e1 : (namesM ps bds).getD (arcM (namesM ps bds) b).u stP = b.one := by
        rw [List.getD_eq_getElem?_getD]
        show ((namesM ps bds)[(namesM ps bds).idxOf b.one]?).getD stP = _
        rw [idx_get m1]; rfl
      have e2 : (namesM ps bds).getD (arcM (namesM ps bds) b).v stP = b.two := by
        rw [List.getD_eq_getElem?_getD]
        show ((namesM ps bds)[(namesM ps bds).idxOf b.two]?).getD stP = _
        rw [idx_get m2]; rfl
      rw [e1, e2]
      exact mt b hb
    have wk : ∀ {i j : Nat} {a : Int}, Wk sb i j a → t ((namesM ps bds).getD j stP) ≤ t ((namesM ps bds).getD i stP) + a := fun {i j a} h => by
      induction h with
      | nil => omega
      | snoc h m e ih =>
        have := ar _ (h4 m)
        rw [e] at this
        omega
    have q1 := wk h1
    have q2 := ar _ h3
    have q2 : t ((namesM ps bds).getD e stP) ≤ t ((namesM ps bds).getD s stP) + w := q2
    omega
def sp_law (K : PySem.W.Frag) : Sp := fun vs H Q _ => ∃ (a : Addr) (ns : List Int), vs = [.ref a] ∧ SqL K H a (ns.map V.int) ∧ ns.length ≤ 63 ∧ ∀ H', Q (.bl true) H'
set_option maxHeartbeats 8000000 in
theorem ok_law {f : Addr} {fd : FuncData} {CF : Addr} (TF : Ck_Frame K mg CF) {CT : Addr} (TTb : Ck_Table K mg CT) {f_Frame___init__ : Addr} (MF : Mk K CF f_Frame___init__) (D : Df K mg "law" s_law ["script"] f fd) (T : Txt K mg) {f_view_bounds : Addr} {fd_view_bounds : FuncData} (D_view_bounds : Df K mg "view_bounds" s_view_bounds ["frame", "view"] f_view_bounds fd_view_bounds) (G_view_bounds : FnOk P w K mg base CX0 5 f_view_bounds fd_view_bounds ["frame", "view"] (sp_view_bounds K CF)) {f_table_of : Addr} {fd_table_of : FuncData} (D_table_of : Df K mg "table_of" s_table_of ["bounds", "points"] f_table_of fd_table_of) (G_table_of : FnOk P w K mg base CX0 4 f_table_of fd_table_of ["bounds", "points"] (sp_table_of K P w CT)) {f__law_draws : Addr} {fd__law_draws : FuncData} (D__law_draws : Df K mg "_law_draws" s__law_draws ["script", "count"] f__law_draws fd__law_draws) (G__law_draws : FnOk P w K mg base CX0 1 f__law_draws fd__law_draws ["script", "count"] (sp__law_draws K)) {f__law_take : Addr} {fd__law_take : FuncData} (D__law_take : Df K mg "_law_take" s__law_take ["rows", "at", "many"] f__law_take fd__law_take) (G__law_take : FnOk P w K mg base CX0 1 f__law_take fd__law_take ["rows", "at", "many"] (sp__law_take K)) {f__law_kinds : Addr} {fd__law_kinds : FuncData} (D__law_kinds : Df K mg "_law_kinds" s__law_kinds ["rows", "at"] f__law_kinds fd__law_kinds) (G__law_kinds : FnOk P w K mg base CX0 2 f__law_kinds fd__law_kinds ["rows", "at"] (sp__law_kinds K)) {f__law_view : Addr} {fd__law_view : FuncData} (D__law_view : Df K mg "_law_view" s__law_view ["rows", "kinds", "goes_on"] f__law_view fd__law_view) (G__law_view : FnOk P w K mg base CX0 4 f__law_view fd__law_view ["rows", "kinds", "goes_on"] (sp__law_view K)) {f__law_walk : Addr} {fd__law_walk : FuncData} (D__law_walk : Df K mg "_law_walk" s__law_walk ["events", "kinds", "goes_on", "table"] f__law_walk fd__law_walk) (G__law_walk : FnOk P w K mg base CX0 2 f__law_walk fd__law_walk ["events", "kinds", "goes_on", "table"] (sp__law_walk K P w CT)) {f_Table_possible : Addr} {fd_Table_possible : FuncData} (M_Table_possible : Pr K CT "possible" "Table.possible" s_Table_possible ["self"] f_Table_possible fd_Table_possible) (G_Table_possible : FnOk P w K mg base CX0 1 f_Table_possible fd_Table_possible ["self"] (sp_Table_possible K P w CT)) {fd_Frame___init__ : FuncData} (M_Frame___init__ : Mt K CF "__init__" "Frame.__init__" s_Frame___init__ ["self", "devices", "clocks", "links", "sources", "faults"] f_Frame___init__ fd_Frame___init__) (G_Frame___init__ : FnOk P w K mg base CX0 1 f_Frame___init__ fd_Frame___init__ ["self", "devices", "clocks", "links", "sources", "faults"] (sp_Frame___init__ K CF)) : FnOk P w K mg base CX0 6 f fd ["script"] (sp_law K) := by
  refine D.F.ok sc_law (fun vs H Q E h => ?_) (fun cdv A outer s H vs Q E hr h => ?_)
  · obtain ⟨a, ns, rfl, _⟩ := h
    rfl
  obtain ⟨a, ns, rfl, hS, h63, q⟩ := h
  refine ⟨_, (pss_cons (ps_set (i := 1) sc_law.nd rfl (Or.inl rfl) (pe_call G__law_draws (hr.mono (by decide)) rfl D__law_draws.m D__law_draws.F.kp D__law_draws.b .nil pass0 (pa_cons (pv 0) (pa_cons pe_int pa_nil))))
    (pss_cons (ps_set (i := 2) sc_law.nd rfl (Or.inl rfl) (pe_call G__law_kinds (hr.mono (by decide)) rfl D__law_kinds.m D__law_kinds.F.kp D__law_kinds.b .nil pass0 (pa_cons (pv 1) (pa_cons pe_int pa_nil))))
    (pss_cons (ps_set (i := 3) sc_law.nd rfl (Or.inl rfl) (pe_cmpR op_eq (pe_call G__law_take (hr.mono (by decide)) rfl D__law_take.m D__law_take.F.kp D__law_take.b .nil pass0 (pa_cons (pv 1) (pa_cons pe_int (pa_cons pe_int pa_nil)))) pe_int (nomark _)))
    (pss_cons (ps_set (i := 4) sc_law.nd rfl (Or.inl rfl) (pe_call G__law_view (hr.mono (by decide)) rfl D__law_view.m D__law_view.F.kp D__law_view.b .nil pass0 (pa_cons (pv 1) (pa_cons (pv 2) (pa_cons (pv 3) pa_nil)))))
    (pss_cons (ps_if (pt_cmpR op_eq (pe_callB call_len_seq rfl T.len PySem.boot_len (pa_cons (pv 4) pa_nil)) pe_int (nomark _))
      (pss_one (ps_ret pe_bl))
      pss_nil)
    (pss_cons (ps_set (i := 5) sc_law.nd rfl (Or.inl rfl) (pe_make MF G_Frame___init__ (hr.mono (by decide)) rfl TF.mg M_Frame___init__.b .nil pass0 (pa_cons (pe_lst (pa_cons pe_str pa_nil)) (pa_cons (pe_lst (pa_cons (pe_tup (pa_cons pe_str (pa_cons pe_int (pa_cons (pv 3) (pa_cons (pv 2) pa_nil))))) pa_nil)) (pa_cons (pe_lst pa_nil) (pa_cons (pe_lst pa_nil) (pa_cons pe_int pa_nil)))))))
    (pss_cons (ps_set (i := 6) sc_law.nd rfl (Or.inl rfl) (pe_call G_table_of (hr.mono (by decide)) rfl D_table_of.m D_table_of.F.kp D_table_of.b .nil pass0 (pa_cons (pe_call G_view_bounds (hr.mono (by decide)) rfl D_view_bounds.m D_view_bounds.F.kp D_view_bounds.b .nil pass0 (pa_cons (pv 5) (pa_cons (pe_lst (pa_cons (pv 4) pa_nil)) pa_nil))) (pa_cons (pe_lst (pa_cons (pe_tup (pa_cons pe_int (pa_cons pe_int (pa_cons (pe_un un_neg pe_int) pa_nil)))) pa_nil)) pa_nil))))
    (pss_one (ps_ret (pe_and (pe_cmpR op_is_bl (pe_propE (pv 6) TTb.cl M_Table_possible.m G_Table_possible (hr.mono (by decide)) M_Table_possible.b .nil pass0 rfl) pe_bl (nomark _)) (pe_one (pe_call G__law_walk (hr.mono (by decide)) rfl D__law_walk.m D__law_walk.F.kp D__law_walk.b .nil pass0 (pa_cons (pv 4) (pa_cons (pv 2) (pa_cons (pv 3) (pa_cons (pv 6) pa_nil)))))))))))))))), ?_⟩
  refine ⟨_, rfl, a, ns, 60, rfl, hS, by decide, by decide, fun r H1 rs1 s1 nr er lr => ?_⟩
  have r1 : RwAt H1 r 60 := ⟨rs1, er, lr⟩
  refine ⟨_, rfl, r, 0, 60, rfl, r1, by decide, by decide, fun kt H2 ks b2 r2 ik2 hks => ?_⟩
  refine ⟨_, rfl, r, 0, 2, 60, rfl, r2, by decide, by decide, by decide, by decide, fun gg H3 _ _ b3 r3 => ⟨rfl, ?_⟩⟩
  have ik3 := Im.mono (r2.tk b3) _ ik2
  generalize decide (V.int gg = V.int 1) = go
  refine ⟨_, rfl, _, rfl, _, rfl, r, kt, ks, go, rfl, r3, ik3, hks, fun ev H4 es kvs T c k4 r4 ner hL hel j G => ?_⟩
  have ik4 := Im.mono k4 _ ik3
  clear ik3 ik2 r2 r1 er lr b2 b3
  obtain ⟨xe, hxe, ixe⟩ := id hL
  have hxl := ixe.len
  rw [List.length_map, List.length_cons] at hxl
  refine ⟨_, rfl, _, _, rfl, .inl (SqL.of hxe), rfl, _, rfl, ite2 (fun _ => q _) (fun _ => ?_)⟩
  have w3 : Wd K H4 r 60 [(ev, (ev0 :: es).map evP)] [] := Wd.mk1 r4 hL ner
  obtain ⟨_, kws, e0, hkt, iks⟩ := Im.unks ik4
  cases e0
  refine ⟨(by show 1 ≤ sizeLine; decide), fun a4 n4 => ?_⟩
  generalize e4 : upd H4 a4 _ = H4b
  obtain ⟨s4, h4⟩ := fr e4 n4
  clear e4
  refine ⟨_, rfl, _, rfl, (by show 4 ≤ sizeLine; decide), fun a5 n5 => ?_⟩
  generalize e5 : upd H4b a5 _ = H5
  obtain ⟨s5, h5⟩ := fr e5 n5
  clear e5
  refine ⟨(by show 1 ≤ sizeLine; decide), fun a6 n6 => ?_⟩
  generalize e6 : upd H5 a6 _ = H6
  obtain ⟨s6, h6⟩ := fr e6 n6
  clear e6
  refine ⟨(by show 0 ≤ sizeLine; decide), fun a7 n7 => ?_⟩
  generalize e7 : upd H6 a7 _ = H7
  obtain ⟨s7, h7⟩ := fr e7 n7
  clear e7
  refine ⟨(by show 0 ≤ sizeLine; decide), fun a8 n8 => ?_⟩
  generalize e8 : upd H7 a8 _ = H8
  obtain ⟨s8, h8⟩ := fr e8 n8
  clear e8
  have t7 := s7.trans s8
  have t6 := s6.trans t7
  have t5 := s5.trans t6
  have t4 := s4.trans t5
  have w9 := w3.keep t4
  intro x dx nx ndx nex
  have sx := mk_same (C := CF) nx ndx
  refine ⟨x, dx, a4, a6, a7, a8, _, _, _, _, _, rfl, upd_same, SqL.of (sx _ _ (t5 _ _ h4)), SqL.of (sx _ _ (t7 _ _ h6)), SqL.of (sx _ _ (s8 _ _ h7)), SqL.of (sx _ _ h8), fun d1 d2 d3 d4 H9 b9 hx f1 f2 f3 f4 m1 m2 m3 m4 nd => ⟨rfl, ?_⟩⟩
  obtain ⟨C, hC⟩ : ∃ C : Cl, C = ⟨"c", 0, go, ks⟩ := ⟨_, rfl⟩
  rw [← hC] at j G
  obtain ⟨F, hF⟩ : ∃ F : Fm, F = fm23 [C] := ⟨_, rfl⟩
  have hck : C.kinds = ks := by rw [hC]
  have s89 : Same H8 H9 := fun c u hc => b9 _ _ (ne_of_none hc nx) (sx _ _ hc)
  have k9 : TupK H4 H9 := .of (t4.trans s89)
  have ik9 := Im.mono k9 _ ik4
  have w10 : Wd K H9 r 60 [(d1, F.devices.map PyData.str), (d2, F.clocks.map clP), (d3, F.links.map lkP), (d4, F.sources.map srP), (ev, (ev0 :: es).map evP)] [(x, .ins CF dx (ff_Frame (.ref d1) (.ref d2) (.ref d3) (.ref d4) (.int 0)))] := by
    have icl : Im K H9 (clP C) (.ref a5) := by
      rw [hC]
      exact Im.mono (.of ((s6.trans t7).trans s89)) _ (clI (c := ⟨"c", 0, go, ks⟩) (SqT.of h5) ((TupK.of (s4.trans s5)).sq hkt) (ImL.mono (.of (s4.trans s5)) _ iks))
    rw [hF]
    exact (w9.made nx ndx b9 hx ⟨_, f1, ImL.cons_ Im.str_ ImL.nil_⟩ ⟨_, f2, ImL.cons_ icl ImL.nil_⟩ ⟨_, f3, ImL.nil_⟩ ⟨_, f4, ImL.nil_⟩ m1 m2 m3 m4 nd).2
  clear f1 f2 f3 f4 m1 m2 m3 m4 nd sx b9 hx h4 h5 h6 h7 h8 s4 s5 s6 s7 s8 t4 t5 t6 t7 n4 n5 n6 n7 n8 w9 nex ndx nx iks hkt k9 s89 w3 hxe ixe
  have hcs : ∀ c ∈ [C], ClK23 c := fun c h => by
    rw [List.mem_singleton.mp h, hC]
    exact ⟨rfl, by show 0 < ks.length ∧ ks.length ≤ 2; rw [hks.len]; decide, fun k hk => by
      obtain ⟨z, z1, z2, z3, z4⟩ := hks.ks k hk
      exact ⟨in18 (by omega) (by omega), z, z1, in18 (by omega) (by omega)⟩⟩
  have hfit : VwFit (fm23 [C]) [ev0 :: es] := fit23 hcs (by show 1 ≤ 2; decide) j.hes (by omega)
  refine ⟨_, rfl, _, rfl, (by show 1 ≤ sizeLine; decide), fun a21 n21 => ?_⟩
  generalize e21 : upd H9 a21 _ = H21
  obtain ⟨s21, h21⟩ := fr e21 n21
  clear e21
  have w21 := w10.keep s21
  have hvw : VwI K H21 a21 [ev0 :: es] := ⟨[ev], h21, (Each.nil (P := RwI K H21)).snoc (a := ev) (x := ev0 :: es) (show RwI K H21 ev (ev0 :: es) from w21.at 4 rfl)⟩
  have hfr : FrI K CF H21 x F [x, d1, d2, d3, d4] := ⟨dx, d1, d2, d3, d4, rfl, by rw [hF]; exact w21.ati 0 rfl, w21.at 0 rfl, w21.at 1 rfl, w21.at 2 rfl, w21.at 3 rfl⟩
  refine ⟨x, a21, F, _, [ev0 :: es], rfl, hfr, hvw, by rw [hF]; exact hfit, fun tl H22 s22 ntl htl => ?_⟩
  rw [hF] at htl
  obtain ⟨eb, hB⟩ := Dk.BnLA.of htl
  refine ⟨_, rfl, (by show 3 ≤ sizeLine; decide), fun a23 n23 => ?_⟩
  generalize e23 : upd H22 a23 _ = H23
  obtain ⟨s23, h23⟩ := fr e23 n23
  clear e23
  refine ⟨(by show 1 ≤ sizeLine; decide), fun a24 n24 => ?_⟩
  generalize e24 : upd H23 a24 _ = H24
  obtain ⟨s24, h24⟩ := fr e24 n24
  clear e24
  have hP : Dk.PtLA K H24 a24 [a23] [⟨0, 0, -1⟩] := ⟨h24, (Each.nil).snoc (x := (⟨0, 0, -1⟩ : Pt)) (SqT.of (s24 _ _ h23))⟩
  have ne : ∀ d, d < ([ev0 :: es] : List (List Ev)).length → 0 < (([ev0 :: es] : List (List Ev)).getD d []).length := fun d hd => by
    have : d = 0 := by rw [List.length_singleton] at hd; omega
    subst this
    exact Nat.succ_pos _
  have hpa : (ptAll (fm23 [C]) [ev0 :: es]).length ≤ 39 := by
    rw [ptAll_one, show (cks (fm23 [C]) 0).length = 1 by rw [cks23 hcs]; rfl, List.length_cons]
    omega
  have hnm : (namesM [⟨0, 0, -1⟩] (vwB (fm23 [C]) [ev0 :: es])).length ≤ 39 := by
    refine Nat.le_trans (names_few (vwB_pts hfit ne) fun p hp => ?_) hpa
    rw [List.mem_singleton.mp hp]
    exact ptAll_ev (F := fm23 [C]) (d := 0) (j := 0) (by show 0 < 1; decide) (Nat.succ_pos _)
  have hvl : (vwB (fm23 [C]) [ev0 :: es]).length ≤ 490 := by
    have := devS_lenC (fm23 [C]) [ev0 :: es] 0 es.length
    rw [show (cks (fm23 [C]) ((0 : Nat) : Int)).length = 1 by rw [show cks (fm23 [C]) ((0 : Nat) : Int) = _ from cks23 hcs]; rfl] at this
    rw [vwB23]
    omega
  have s2224 := s23.trans s24
  refine ⟨tl, a24, eb, [a23], vwB (fm23 [C]) [ev0 :: es], [⟨0, 0, -1⟩], rfl, hB.keep s2224, hP, hnm, by show 1 + 2 * _ ≤ 1000; omega, fun t pl rw rs H25 s25 n25 t25 => ?_⟩
  have t25 : TbAt P w K CT H25 t (tabM (vwB (fm23 [C]) [ev0 :: es]) [⟨0, 0, -1⟩]) pl rw rs := t25
  have ok : (tabM (vwB (fm23 [C]) [ev0 :: es]) [⟨0, 0, -1⟩]).ok = true := ok_of_met (t := fun p => (tOf kvs p).getD 0) (Nat.le_trans hnm (by decide)) fun b hb => by
    rw [vwB23] at hb
    obtain ⟨x, y, e1, e2, e3⟩ := j.met b hb
    rw [e1, e2]
    exact e3
  obtain ⟨gd, mt⟩ := tab_met (Nat.le_trans hnm (by decide)) ok
  have tp := tabM_pts (vwB (fm23 [C]) [ev0 :: es]) [⟨0, 0, -1⟩]
  have W := w25_of hcs j.hes G (by rw [tp]; exact names_has (by simp)) gd mt
  obtain ⟨dx2, hx2⟩ := t25.ins
  generalize tabM (vwB (fm23 [C]) [ev0 :: es]) [⟨0, 0, -1⟩] = Tm at *
  have s925 := s21.trans (s22.trans (s2224.trans s25))
  have hL25 := (w10.keep s925).at 4 rfl
  have ik25 := Im.mono (.of s925) _ ik9
  rw [hC] at W
  refine ⟨_, rfl, t, dx2, _, rfl, hx2, t, pl, rw, _, rs, rfl, t25, _, _, rfl, rfl, _, rfl, ite2 (fun _ => ?_) (fun z => absurd (decide_eq_true ok) z)⟩
  exact ⟨_, rfl, _, rfl, _, rfl, _, rfl, ev, kt, t, pl, rw, rs, ks, go, es, Tm, rfl, hL25, hel, ik25, hks, t25, gd, W, fun H' _ => q _⟩
end
set_option maxHeartbeats 8000000 in
theorem all_mk {l : PySem.W.OpenLaw} {w : World} {K : PySem.W.Frag} {h : Heap} {mg : Str → Option Value} {fa : Addr} (X : K.In h) (G : h.Ns mainGlobals mg) (hfa : mg "law" = some (.ref fa))
    {CF : Addr} {CT : Addr} {od0 an0 : Option Addr} {sl0 : Array (Option Value)} {oc0 kV0 dc0 pm0 cd0 ct0 : Value} {f0 : Addr} {od1 an1 : Option Addr} {sl1 : Array (Option Value)} {oc1 kV1 dc1 pm1 cd1 ct1 : Value} {f1 : Addr} {od2 an2 : Option Addr} {sl2 : Array (Option Value)} {oc2 kV2 dc2 pm2 cd2 ct2 : Value} {f2 : Addr} {od3 an3 : Option Addr} {sl3 : Array (Option Value)} {oc3 kV3 dc3 pm3 cd3 ct3 : Value} {f3 : Addr} {od4 an4 : Option Addr} {sl4 : Array (Option Value)} {oc4 kV4 dc4 pm4 cd4 ct4 : Value} {f4 : Addr} {od5 an5 : Option Addr} {sl5 : Array (Option Value)} {oc5 kV5 dc5 pm5 cd5 ct5 : Value} {f5 : Addr} {od6 an6 : Option Addr} {sl6 : Array (Option Value)} {oc6 kV6 dc6 pm6 cd6 ct6 : Value} {f6 : Addr} {od7 an7 : Option Addr} {sl7 : Array (Option Value)} {oc7 kV7 dc7 pm7 cd7 ct7 : Value} {f7 : Addr} {od8 an8 : Option Addr} {sl8 : Array (Option Value)} {oc8 kV8 dc8 pm8 cd8 ct8 : Value} {f8 : Addr} {od9 an9 : Option Addr} {sl9 : Array (Option Value)} {oc9 kV9 dc9 pm9 cd9 ct9 : Value} {f9 : Addr} {od10 an10 : Option Addr} {sl10 : Array (Option Value)} {oc10 kV10 dc10 pm10 cd10 ct10 : Value} {f10 : Addr} {od11 an11 : Option Addr} {sl11 : Array (Option Value)} {oc11 kV11 dc11 pm11 cd11 ct11 : Value} {f11 : Addr} {od12 an12 : Option Addr} {sl12 : Array (Option Value)} {oc12 kV12 dc12 pm12 cd12 ct12 : Value} {f12 : Addr} {od13 an13 : Option Addr} {sl13 : Array (Option Value)} {oc13 kV13 dc13 pm13 cd13 ct13 : Value} {f13 : Addr} {od14 an14 : Option Addr} {sl14 : Array (Option Value)} {oc14 kV14 dc14 pm14 cd14 ct14 : Value} {f14 : Addr} {od15 an15 : Option Addr} {sl15 : Array (Option Value)} {oc15 kV15 dc15 pm15 cd15 ct15 : Value} {f15 : Addr} {od16 an16 : Option Addr} {sl16 : Array (Option Value)} {oc16 kV16 dc16 pm16 cd16 ct16 : Value} {f16 : Addr} {od17 an17 : Option Addr} {sl17 : Array (Option Value)} {oc17 kV17 dc17 pm17 cd17 ct17 : Value} {f17 : Addr} {od18 an18 : Option Addr} {sl18 : Array (Option Value)} {oc18 kV18 dc18 pm18 cd18 ct18 : Value} {f18 : Addr} {od19 an19 : Option Addr} {sl19 : Array (Option Value)} {oc19 kV19 dc19 pm19 cd19 ct19 : Value} {f19 : Addr} {od20 an20 : Option Addr} {sl20 : Array (Option Value)} {oc20 kV20 dc20 pm20 cd20 ct20 : Value} {f20 : Addr} {od21 an21 : Option Addr} {sl21 : Array (Option Value)} {oc21 kV21 dc21 pm21 cd21 ct21 : Value} {f21 : Addr} {od22 an22 : Option Addr} {sl22 : Array (Option Value)} {oc22 kV22 dc22 pm22 cd22 ct22 : Value} {f22 : Addr} {od23 an23 : Option Addr} {sl23 : Array (Option Value)} {oc23 kV23 dc23 pm23 cd23 ct23 : Value} {f23 : Addr} {od24 an24 : Option Addr} {sl24 : Array (Option Value)} {oc24 kV24 dc24 pm24 cd24 ct24 : Value} {f24 : Addr} {od25 an25 : Option Addr} {sl25 : Array (Option Value)} {oc25 kV25 dc25 pm25 cd25 ct25 : Value} {f25 : Addr} {od26 an26 : Option Addr} {sl26 : Array (Option Value)} {oc26 kV26 dc26 pm26 cd26 ct26 : Value} {f26 : Addr} {od27 an27 : Option Addr} {sl27 : Array (Option Value)} {oc27 kV27 dc27 pm27 cd27 ct27 : Value} {f27 : Addr} {od28 an28 : Option Addr} {sl28 : Array (Option Value)} {oc28 kV28 dc28 pm28 cd28 ct28 : Value} {f28 : Addr} {od29 an29 : Option Addr} {sl29 : Array (Option Value)} {oc29 kV29 dc29 pm29 cd29 ct29 : Value} {f29 : Addr} {od30 an30 : Option Addr} {sl30 : Array (Option Value)} {oc30 kV30 dc30 pm30 cd30 ct30 : Value} {f30 : Addr} {od31 an31 : Option Addr} {sl31 : Array (Option Value)} {oc31 kV31 dc31 pm31 cd31 ct31 : Value} {f31 : Addr} {od32 an32 : Option Addr} {sl32 : Array (Option Value)} {oc32 kV32 dc32 pm32 cd32 ct32 : Value} {f32 : Addr} {od33 an33 : Option Addr} {sl33 : Array (Option Value)} {oc33 kV33 dc33 pm33 cd33 ct33 : Value} {f33 : Addr} {pp33 : Addr} {rs33 : List Value} {od34 an34 : Option Addr} {sl34 : Array (Option Value)} {oc34 kV34 dc34 pm34 cd34 ct34 : Value} {f34 : Addr} {od35 an35 : Option Addr} {sl35 : Array (Option Value)} {oc35 kV35 dc35 pm35 cd35 ct35 : Value} {f35 : Addr} {t_NO_CLOCK : Tok} {t_NO_PART : Tok} {t_START0 t_START1 t_START2 : Tok} {a_START : Addr} {n_START : Nat} {sl_START : Array (Option Value)}
    (aC_Frame : PySem.W.nsIn K mainGlobals "Frame" = some (some (.ref CF))) (pg_Frame : PySem.W.plainGet K CF Str.empty = true) (hd_Frame : PySem.W.hasDictIn K CF = true) (po_Frame : PySem.W.plainOver K CF = true) (sa_Frame : PySem.W.findIn K (.ref CF) "__setattr__" = some (some (.builtin "object.__setattr__"))) (mk_Frame : PySem.W.makesIn K CF = true) (kc_Frame : PySem.W.keepIn K (.ref CF) = true) (n_Frame_devices : PySem.W.findIn K (.ref CF) "devices" = some none) (n_Frame_clocks : PySem.W.findIn K (.ref CF) "clocks" = some none) (n_Frame_links : PySem.W.findIn K (.ref CF) "links" = some none) (n_Frame_sources : PySem.W.findIn K (.ref CF) "sources" = some none) (n_Frame_faults : PySem.W.findIn K (.ref CF) "faults" = some none)
    (aC_Table : PySem.W.nsIn K mainGlobals "Table" = some (some (.ref CT))) (pg_Table : PySem.W.plainGet K CT Str.empty = true) (hd_Table : PySem.W.hasDictIn K CT = true) (po_Table : PySem.W.plainOver K CT = true) (sa_Table : PySem.W.findIn K (.ref CT) "__setattr__" = some (some (.builtin "object.__setattr__"))) (mk_Table : PySem.W.makesIn K CT = true) (kc_Table : PySem.W.keepIn K (.ref CT) = true) (n_Table__places : PySem.W.findIn K (.ref CT) "_places" = some none) (n_Table__rows : PySem.W.findIn K (.ref CT) "_rows" = some none) (n_Table__possible : PySem.W.findIn K (.ref CT) "_possible" = some none)
    (a0 : PySem.W.findIn K (.ref CF) "clocks_of" = some (some (.ref f0))) (i0 : PySem.W.isFn K (.ref f0) = true)
    (l0 : K.lookup f0 = some ⟨oc0, od0, .func (PySem.W.fnOf "clocks_of" "Frame.clocks_of" (defArgs s_Frame_clocks_of) (defBody s_Frame_clocks_of) (defScope s_Frame_clocks_of) .none kV0 dc0 pm0 an0 cd0 ct0), sl0⟩) (c0 : PySem.W.codeIn K cd0 "Frame.clocks_of" = true) (k0 : PySem.W.keepIn K (.ref f0) = true)
    (a1 : PySem.W.nsIn K mainGlobals "first_hands" = some (some (.ref f1)))
    (l1 : K.lookup f1 = some ⟨oc1, od1, .func (PySem.W.fnOf "first_hands" "first_hands" (defArgs s_first_hands) (defBody s_first_hands) (defScope s_first_hands) .none kV1 dc1 pm1 an1 cd1 ct1), sl1⟩) (c1 : PySem.W.codeIn K cd1 "first_hands" = true) (k1 : PySem.W.keepIn K (.ref f1) = true)
    (a2 : PySem.W.nsIn K mainGlobals "event_point" = some (some (.ref f2)))
    (l2 : K.lookup f2 = some ⟨oc2, od2, .func (PySem.W.fnOf "event_point" "event_point" (defArgs s_event_point) (defBody s_event_point) (defScope s_event_point) .none kV2 dc2 pm2 an2 cd2 ct2), sl2⟩) (c2 : PySem.W.codeIn K cd2 "event_point" = true) (k2 : PySem.W.keepIn K (.ref f2) = true)
    (a3 : PySem.W.nsIn K mainGlobals "at_least_later" = some (some (.ref f3)))
    (l3 : K.lookup f3 = some ⟨oc3, od3, .func (PySem.W.fnOf "at_least_later" "at_least_later" (defArgs s_at_least_later) (defBody s_at_least_later) (defScope s_at_least_later) .none kV3 dc3 pm3 an3 cd3 ct3), sl3⟩) (c3 : PySem.W.codeIn K cd3 "at_least_later" = true) (k3 : PySem.W.keepIn K (.ref f3) = true)
    (a4 : PySem.W.nsIn K mainGlobals "from_to_later" = some (some (.ref f4)))
    (l4 : K.lookup f4 = some ⟨oc4, od4, .func (PySem.W.fnOf "from_to_later" "from_to_later" (defArgs s_from_to_later) (defBody s_from_to_later) (defScope s_from_to_later) .none kV4 dc4 pm4 an4 cd4 ct4), sl4⟩) (c4 : PySem.W.codeIn K cd4 "from_to_later" = true) (k4 : PySem.W.keepIn K (.ref f4) = true)
    (a5 : PySem.W.nsIn K mainGlobals "running_since" = some (some (.ref f5)))
    (l5 : K.lookup f5 = some ⟨oc5, od5, .func (PySem.W.fnOf "running_since" "running_since" (defArgs s_running_since) (defBody s_running_since) (defScope s_running_since) .none kV5 dc5 pm5 an5 cd5 ct5), sl5⟩) (c5 : PySem.W.codeIn K cd5 "running_since" = true) (k5 : PySem.W.keepIn K (.ref f5) = true)
    (a6 : PySem.W.nsIn K mainGlobals "clock_bounds" = some (some (.ref f6)))
    (l6 : K.lookup f6 = some ⟨oc6, od6, .func (PySem.W.fnOf "clock_bounds" "clock_bounds" (defArgs s_clock_bounds) (defBody s_clock_bounds) (defScope s_clock_bounds) .none kV6 dc6 pm6 an6 cd6 ct6), sl6⟩) (c6 : PySem.W.codeIn K cd6 "clock_bounds" = true) (k6 : PySem.W.keepIn K (.ref f6) = true)
    (a7 : PySem.W.nsIn K mainGlobals "kind_given" = some (some (.ref f7)))
    (l7 : K.lookup f7 = some ⟨oc7, od7, .func (PySem.W.fnOf "kind_given" "kind_given" (defArgs s_kind_given) (defBody s_kind_given) (defScope s_kind_given) .none kV7 dc7 pm7 an7 cd7 ct7), sl7⟩) (c7 : PySem.W.codeIn K cd7 "kind_given" = true) (k7 : PySem.W.keepIn K (.ref f7) = true)
    (a8 : PySem.W.nsIn K mainGlobals "hand_after" = some (some (.ref f8)))
    (l8 : K.lookup f8 = some ⟨oc8, od8, .func (PySem.W.fnOf "hand_after" "hand_after" (defArgs s_hand_after) (defBody s_hand_after) (defScope s_hand_after) .none kV8 dc8 pm8 an8 cd8 ct8), sl8⟩) (c8 : PySem.W.codeIn K cd8 "hand_after" = true) (k8 : PySem.W.keepIn K (.ref f8) = true)
    (a9 : PySem.W.nsIn K mainGlobals "hands_after" = some (some (.ref f9)))
    (l9 : K.lookup f9 = some ⟨oc9, od9, .func (PySem.W.fnOf "hands_after" "hands_after" (defArgs s_hands_after) (defBody s_hands_after) (defScope s_hands_after) .none kV9 dc9 pm9 an9 cd9 ct9), sl9⟩) (c9 : PySem.W.codeIn K cd9 "hands_after" = true) (k9 : PySem.W.keepIn K (.ref f9) = true)
    (a10 : PySem.W.findIn K (.ref CF) "source_part" = some (some (.ref f10))) (i10 : PySem.W.isFn K (.ref f10) = true)
    (l10 : K.lookup f10 = some ⟨oc10, od10, .func (PySem.W.fnOf "source_part" "Frame.source_part" (defArgs s_Frame_source_part) (defBody s_Frame_source_part) (defScope s_Frame_source_part) .none kV10 dc10 pm10 an10 cd10 ct10), sl10⟩) (c10 : PySem.W.codeIn K cd10 "Frame.source_part" = true) (k10 : PySem.W.keepIn K (.ref f10) = true)
    (a11 : PySem.W.nsIn K mainGlobals "mark_bounds" = some (some (.ref f11)))
    (l11 : K.lookup f11 = some ⟨oc11, od11, .func (PySem.W.fnOf "mark_bounds" "mark_bounds" (defArgs s_mark_bounds) (defBody s_mark_bounds) (defScope s_mark_bounds) .none kV11 dc11 pm11 an11 cd11 ct11), sl11⟩) (c11 : PySem.W.codeIn K cd11 "mark_bounds" = true) (k11 : PySem.W.keepIn K (.ref f11) = true)
    (a12 : PySem.W.findIn K (.ref CF) "link_part" = some (some (.ref f12))) (i12 : PySem.W.isFn K (.ref f12) = true)
    (l12 : K.lookup f12 = some ⟨oc12, od12, .func (PySem.W.fnOf "link_part" "Frame.link_part" (defArgs s_Frame_link_part) (defBody s_Frame_link_part) (defScope s_Frame_link_part) .none kV12 dc12 pm12 an12 cd12 ct12), sl12⟩) (c12 : PySem.W.codeIn K cd12 "Frame.link_part" = true) (k12 : PySem.W.keepIn K (.ref f12) = true)
    (a13 : PySem.W.nsIn K mainGlobals "hear_bounds" = some (some (.ref f13)))
    (l13 : K.lookup f13 = some ⟨oc13, od13, .func (PySem.W.fnOf "hear_bounds" "hear_bounds" (defArgs s_hear_bounds) (defBody s_hear_bounds) (defScope s_hear_bounds) .none kV13 dc13 pm13 an13 cd13 ct13), sl13⟩) (c13 : PySem.W.codeIn K cd13 "hear_bounds" = true) (k13 : PySem.W.keepIn K (.ref f13) = true)
    (a14 : PySem.W.nsIn K mainGlobals "event_bounds" = some (some (.ref f14)))
    (l14 : K.lookup f14 = some ⟨oc14, od14, .func (PySem.W.fnOf "event_bounds" "event_bounds" (defArgs s_event_bounds) (defBody s_event_bounds) (defScope s_event_bounds) .none kV14 dc14 pm14 an14 cd14 ct14), sl14⟩) (c14 : PySem.W.codeIn K cd14 "event_bounds" = true) (k14 : PySem.W.keepIn K (.ref f14) = true)
    (a15 : PySem.W.nsIn K mainGlobals "heard_kind" = some (some (.ref f15)))
    (l15 : K.lookup f15 = some ⟨oc15, od15, .func (PySem.W.fnOf "heard_kind" "heard_kind" (defArgs s_heard_kind) (defBody s_heard_kind) (defScope s_heard_kind) .none kV15 dc15 pm15 an15 cd15 ct15), sl15⟩) (c15 : PySem.W.codeIn K cd15 "heard_kind" = true) (k15 : PySem.W.keepIn K (.ref f15) = true)
    (a16 : PySem.W.nsIn K mainGlobals "view_bounds" = some (some (.ref f16)))
    (l16 : K.lookup f16 = some ⟨oc16, od16, .func (PySem.W.fnOf "view_bounds" "view_bounds" (defArgs s_view_bounds) (defBody s_view_bounds) (defScope s_view_bounds) .none kV16 dc16 pm16 an16 cd16 ct16), sl16⟩) (c16 : PySem.W.codeIn K cd16 "view_bounds" = true) (k16 : PySem.W.keepIn K (.ref f16) = true)
    (a17 : PySem.W.nsIn K mainGlobals "points_named" = some (some (.ref f17)))
    (l17 : K.lookup f17 = some ⟨oc17, od17, .func (PySem.W.fnOf "points_named" "points_named" (defArgs s_points_named) (defBody s_points_named) (defScope s_points_named) .none kV17 dc17 pm17 an17 cd17 ct17), sl17⟩) (c17 : PySem.W.codeIn K cd17 "points_named" = true) (k17 : PySem.W.keepIn K (.ref f17) = true)
    (a18 : PySem.W.findIn K (.ref CT) "__init__" = some (some (.ref f18))) (i18 : PySem.W.isFn K (.ref f18) = true)
    (l18 : K.lookup f18 = some ⟨oc18, od18, .func (PySem.W.fnOf "__init__" "Table.__init__" (defArgs s_Table___init__) (defBody s_Table___init__) (defScope s_Table___init__) .none kV18 dc18 pm18 an18 cd18 ct18), sl18⟩) (c18 : PySem.W.codeIn K cd18 "Table.__init__" = true) (k18 : PySem.W.keepIn K (.ref f18) = true)
    (a19 : PySem.W.findIn K (.ref CT) "add_point" = some (some (.ref f19))) (i19 : PySem.W.isFn K (.ref f19) = true)
    (l19 : K.lookup f19 = some ⟨oc19, od19, .func (PySem.W.fnOf "add_point" "Table.add_point" (defArgs s_Table_add_point) (defBody s_Table_add_point) (defScope s_Table_add_point) .none kV19 dc19 pm19 an19 cd19 ct19), sl19⟩) (c19 : PySem.W.codeIn K cd19 "Table.add_point" = true) (k19 : PySem.W.keepIn K (.ref f19) = true)
    (a20 : PySem.W.nsIn K mainGlobals "is_nearer" = some (some (.ref f20)))
    (l20 : K.lookup f20 = some ⟨oc20, od20, .func (PySem.W.fnOf "is_nearer" "is_nearer" (defArgs s_is_nearer) (defBody s_is_nearer) (defScope s_is_nearer) .none kV20 dc20 pm20 an20 cd20 ct20), sl20⟩) (c20 : PySem.W.codeIn K cd20 "is_nearer" = true) (k20 : PySem.W.keepIn K (.ref f20) = true)
    (a21 : PySem.W.findIn K (.ref CT) "_shorten" = some (some (.ref f21))) (i21 : PySem.W.isFn K (.ref f21) = true)
    (l21 : K.lookup f21 = some ⟨oc21, od21, .func (PySem.W.fnOf "_shorten" "Table._shorten" (defArgs s_Table__shorten) (defBody s_Table__shorten) (defScope s_Table__shorten) .none kV21 dc21 pm21 an21 cd21 ct21), sl21⟩) (c21 : PySem.W.codeIn K cd21 "Table._shorten" = true) (k21 : PySem.W.keepIn K (.ref f21) = true)
    (a22 : PySem.W.findIn K (.ref CT) "put_bound" = some (some (.ref f22))) (i22 : PySem.W.isFn K (.ref f22) = true)
    (l22 : K.lookup f22 = some ⟨oc22, od22, .func (PySem.W.fnOf "put_bound" "Table.put_bound" (defArgs s_Table_put_bound) (defBody s_Table_put_bound) (defScope s_Table_put_bound) .none kV22 dc22 pm22 an22 cd22 ct22), sl22⟩) (c22 : PySem.W.codeIn K cd22 "Table.put_bound" = true) (k22 : PySem.W.keepIn K (.ref f22) = true)
    (a23 : PySem.W.nsIn K mainGlobals "table_of" = some (some (.ref f23)))
    (l23 : K.lookup f23 = some ⟨oc23, od23, .func (PySem.W.fnOf "table_of" "table_of" (defArgs s_table_of) (defBody s_table_of) (defScope s_table_of) .none kV23 dc23 pm23 an23 cd23 ct23), sl23⟩) (c23 : PySem.W.codeIn K cd23 "table_of" = true) (k23 : PySem.W.keepIn K (.ref f23) = true)
    (a24 : PySem.W.nsIn K mainGlobals "_law_draws" = some (some (.ref f24)))
    (l24 : K.lookup f24 = some ⟨oc24, od24, .func (PySem.W.fnOf "_law_draws" "_law_draws" (defArgs s__law_draws) (defBody s__law_draws) (defScope s__law_draws) .none kV24 dc24 pm24 an24 cd24 ct24), sl24⟩) (c24 : PySem.W.codeIn K cd24 "_law_draws" = true) (k24 : PySem.W.keepIn K (.ref f24) = true)
    (a25 : PySem.W.nsIn K mainGlobals "_law_take" = some (some (.ref f25)))
    (l25 : K.lookup f25 = some ⟨oc25, od25, .func (PySem.W.fnOf "_law_take" "_law_take" (defArgs s__law_take) (defBody s__law_take) (defScope s__law_take) .none kV25 dc25 pm25 an25 cd25 ct25), sl25⟩) (c25 : PySem.W.codeIn K cd25 "_law_take" = true) (k25 : PySem.W.keepIn K (.ref f25) = true)
    (a26 : PySem.W.nsIn K mainGlobals "_law_kinds" = some (some (.ref f26)))
    (l26 : K.lookup f26 = some ⟨oc26, od26, .func (PySem.W.fnOf "_law_kinds" "_law_kinds" (defArgs s__law_kinds) (defBody s__law_kinds) (defScope s__law_kinds) .none kV26 dc26 pm26 an26 cd26 ct26), sl26⟩) (c26 : PySem.W.codeIn K cd26 "_law_kinds" = true) (k26 : PySem.W.keepIn K (.ref f26) = true)
    (a27 : PySem.W.nsIn K mainGlobals "_law_begin" = some (some (.ref f27)))
    (l27 : K.lookup f27 = some ⟨oc27, od27, .func (PySem.W.fnOf "_law_begin" "_law_begin" (defArgs s__law_begin) (defBody s__law_begin) (defScope s__law_begin) .none kV27 dc27 pm27 an27 cd27 ct27), sl27⟩) (c27 : PySem.W.codeIn K cd27 "_law_begin" = true) (k27 : PySem.W.keepIn K (.ref f27) = true)
    (a28 : PySem.W.nsIn K mainGlobals "_law_run" = some (some (.ref f28)))
    (l28 : K.lookup f28 = some ⟨oc28, od28, .func (PySem.W.fnOf "_law_run" "_law_run" (defArgs s__law_run) (defBody s__law_run) (defScope s__law_run) .none kV28 dc28 pm28 an28 cd28 ct28), sl28⟩) (c28 : PySem.W.codeIn K cd28 "_law_run" = true) (k28 : PySem.W.keepIn K (.ref f28) = true)
    (a29 : PySem.W.nsIn K mainGlobals "_law_view" = some (some (.ref f29)))
    (l29 : K.lookup f29 = some ⟨oc29, od29, .func (PySem.W.fnOf "_law_view" "_law_view" (defArgs s__law_view) (defBody s__law_view) (defScope s__law_view) .none kV29 dc29 pm29 an29 cd29 ct29), sl29⟩) (c29 : PySem.W.codeIn K cd29 "_law_view" = true) (k29 : PySem.W.keepIn K (.ref f29) = true)
    (a30 : PySem.W.nsIn K mainGlobals "_law_fits" = some (some (.ref f30)))
    (l30 : K.lookup f30 = some ⟨oc30, od30, .func (PySem.W.fnOf "_law_fits" "_law_fits" (defArgs s__law_fits) (defBody s__law_fits) (defScope s__law_fits) .none kV30 dc30 pm30 an30 cd30 ct30), sl30⟩) (c30 : PySem.W.codeIn K cd30 "_law_fits" = true) (k30 : PySem.W.keepIn K (.ref f30) = true)
    (a31 : PySem.W.findIn K (.ref CT) "time_of" = some (some (.ref f31))) (i31 : PySem.W.isFn K (.ref f31) = true)
    (l31 : K.lookup f31 = some ⟨oc31, od31, .func (PySem.W.fnOf "time_of" "Table.time_of" (defArgs s_Table_time_of) (defBody s_Table_time_of) (defScope s_Table_time_of) .none kV31 dc31 pm31 an31 cd31 ct31), sl31⟩) (c31 : PySem.W.codeIn K cd31 "Table.time_of" = true) (k31 : PySem.W.keepIn K (.ref f31) = true)
    (a32 : PySem.W.nsIn K mainGlobals "_law_walk" = some (some (.ref f32)))
    (l32 : K.lookup f32 = some ⟨oc32, od32, .func (PySem.W.fnOf "_law_walk" "_law_walk" (defArgs s__law_walk) (defBody s__law_walk) (defScope s__law_walk) .none kV32 dc32 pm32 an32 cd32 ct32), sl32⟩) (c32 : PySem.W.codeIn K cd32 "_law_walk" = true) (k32 : PySem.W.keepIn K (.ref f32) = true)
    (a33 : PySem.W.findIn K (.ref CT) "possible" = some (some (.ref pp33))) (g33 : PySem.W.specialIn K (.ref pp33) "__get__" = some (some (.builtin "property.__get__"))) (t33 : PySem.W.takesIn K (.ref pp33) = some true) (r33 : PySem.W.recIn K pp33 "property" = some (.ref f33 :: rs33))
    (l33 : K.lookup f33 = some ⟨oc33, od33, .func (PySem.W.fnOf "possible" "Table.possible" (defArgs s_Table_possible) (defBody s_Table_possible) (defScope s_Table_possible) .none kV33 dc33 pm33 an33 cd33 ct33), sl33⟩) (c33 : PySem.W.codeIn K cd33 "Table.possible" = true) (k33 : PySem.W.keepIn K (.ref f33) = true)
    (a34 : PySem.W.findIn K (.ref CF) "__init__" = some (some (.ref f34))) (i34 : PySem.W.isFn K (.ref f34) = true)
    (l34 : K.lookup f34 = some ⟨oc34, od34, .func (PySem.W.fnOf "__init__" "Frame.__init__" (defArgs s_Frame___init__) (defBody s_Frame___init__) (defScope s_Frame___init__) .none kV34 dc34 pm34 an34 cd34 ct34), sl34⟩) (c34 : PySem.W.codeIn K cd34 "Frame.__init__" = true) (k34 : PySem.W.keepIn K (.ref f34) = true)
    (a35 : PySem.W.nsIn K mainGlobals "law" = some (some (.ref f35)))
    (l35 : K.lookup f35 = some ⟨oc35, od35, .func (PySem.W.fnOf "law" "law" (defArgs s_law) (defBody s_law) (defScope s_law) .none kV35 dc35 pm35 an35 cd35 ct35), sl35⟩) (c35 : PySem.W.codeIn K cd35 "law" = true) (k35 : PySem.W.keepIn K (.ref f35) = true)
    (z_len : PySem.W.nsIn K mainGlobals "len" = some none)
    (z_str : PySem.W.nsIn K mainGlobals "str" = some none)
    (z_int : PySem.W.nsIn K mainGlobals "int" = some none)
    (z_range : PySem.W.nsIn K mainGlobals "range" = some none)
    (z_tuple : PySem.W.nsIn K mainGlobals "tuple" = some none)
    (z_list : PySem.W.nsIn K mainGlobals "list" = some none)
    (z_isinstance : PySem.W.nsIn K mainGlobals "isinstance" = some none)
    (z_bool : PySem.W.nsIn K mainGlobals "bool" = some none)
    (z_all : PySem.W.nsIn K mainGlobals "all" = some none)
    (z_min : PySem.W.nsIn K mainGlobals "min" = some none)
    (z_sum : PySem.W.nsIn K mainGlobals "sum" = some none)
    (z_enumerate : PySem.W.nsIn K mainGlobals "enumerate" = some none)
    (z_set : PySem.W.nsIn K mainGlobals "set" = some none)
    (z_sorted : PySem.W.nsIn K mainGlobals "sorted" = some none)
    (z_max : PySem.W.nsIn K mainGlobals "max" = some none)
    (z_zip : PySem.W.nsIn K mainGlobals "zip" = some none)
    (z_any : PySem.W.nsIn K mainGlobals "any" = some none)
    (z_NO_CLOCK : PySem.W.nsIn K mainGlobals "NO_CLOCK" = some (some (.int (-1) t_NO_CLOCK)))
    (z_NO_PART : PySem.W.nsIn K mainGlobals "NO_PART" = some (some (.int (-1) t_NO_PART)))
    (m_START : PySem.W.nsIn K mainGlobals "START" = some (some (.ref a_START))) (l_START : K.lookup a_START = some ⟨.type "tuple", none, .seq #[.int (-1) t_START0, .int 0 t_START1, .int (-1) t_START2] n_START, sl_START⟩) :
    ∃ fd : FuncData, (∀ (s : Shared) (v : Value), BindsTo s fd ⟨[v], []⟩ [("script", v)]) ∧ ∀ base : Heap, K.In base → base.Ns mainGlobals mg → FnOk l.prog w K mg base CX0 6 fa fd ["script"] (sp_law K) := by
  have e := hfa.symm.trans (PySem.W.mg_of X G a35)
  cases e
  have TF : Ck_Frame K mg CF := ⟨⟨pg_Frame, hd_Frame, po_Frame, sa_Frame⟩, PySem.W.mg_of X G aC_Frame, n_Frame_devices, n_Frame_clocks, n_Frame_links, n_Frame_sources, n_Frame_faults⟩
  have TTb : Ck_Table K mg CT := ⟨⟨pg_Table, hd_Table, po_Table, sa_Table⟩, PySem.W.mg_of X G aC_Table, n_Table__places, n_Table__rows, n_Table__possible⟩
  have F0 := fun_mk (st := s_Frame_clocks_of) l0 c0 k0
  have M_Frame_clocks_of : Mt K CF "clocks_of" "Frame.clocks_of" s_Frame_clocks_of ["self", "device"] _ _ := ⟨F0, F0.binds (ps := ["self", "device"]) fun _ _ _ _ _ _ us hl => match us, hl with | [_, _], _ => rfl, ⟨a0, i0, k0⟩⟩
  have F1 := fun_mk (st := s_first_hands) l1 c1 k1
  have D_first_hands : Df K mg "first_hands" s_first_hands ["frame", "device"] _ _ := ⟨F1, F1.binds (ps := ["frame", "device"]) fun _ _ _ _ _ _ us hl => match us, hl with | [_, _], _ => rfl, PySem.W.mg_of X G a1⟩
  have F2 := fun_mk (st := s_event_point) l2 c2 k2
  have D_event_point : Df K mg "event_point" s_event_point ["event"] _ _ := ⟨F2, F2.binds (ps := ["event"]) fun _ _ _ _ _ _ us hl => match us, hl with | [_], _ => rfl, PySem.W.mg_of X G a2⟩
  have F3 := fun_mk (st := s_at_least_later) l3 c3 k3
  have D_at_least_later : Df K mg "at_least_later" s_at_least_later ["first", "second", "least", "part"] _ _ := ⟨F3, F3.binds (ps := ["first", "second", "least", "part"]) fun _ _ _ _ _ _ us hl => match us, hl with | [_, _, _, _], _ => rfl, PySem.W.mg_of X G a3⟩
  have F4 := fun_mk (st := s_from_to_later) l4 c4 k4
  have D_from_to_later : Df K mg "from_to_later" s_from_to_later ["first", "second", "least", "most", "part"] _ _ := ⟨F4, F4.binds (ps := ["first", "second", "least", "most", "part"]) fun _ _ _ _ _ _ us hl => match us, hl with | [_, _, _, _, _], _ => rfl, PySem.W.mg_of X G a4⟩
  have F5 := fun_mk (st := s_running_since) l5 c5 k5
  have D_running_since : Df K mg "running_since" s_running_since ["frame", "clock", "event", "hand"] _ _ := ⟨F5, F5.binds (ps := ["frame", "clock", "event", "hand"]) fun _ _ _ _ _ _ us hl => match us, hl with | [_, _, _, _], _ => rfl, PySem.W.mg_of X G a5⟩
  have F6 := fun_mk (st := s_clock_bounds) l6 c6 k6
  have D_clock_bounds : Df K mg "clock_bounds" s_clock_bounds ["frame", "record", "clock", "place", "hand"] _ _ := ⟨F6, F6.binds (ps := ["frame", "record", "clock", "place", "hand"]) fun _ _ _ _ _ _ us hl => match us, hl with | [_, _, _, _, _], _ => rfl, PySem.W.mg_of X G a6⟩
  have F7 := fun_mk (st := s_kind_given) l7 c7 k7
  have D_kind_given : Df K mg "kind_given" s_kind_given ["deed", "clock", "place"] _ _ := ⟨F7, F7.binds (ps := ["deed", "clock", "place"]) fun _ _ _ _ _ _ us hl => match us, hl with | [_, _, _], _ => rfl, PySem.W.mg_of X G a7⟩
  have F8 := fun_mk (st := s_hand_after) l8 c8 k8
  have D_hand_after : Df K mg "hand_after" s_hand_after ["frame", "record", "clock", "place", "hand"] _ _ := ⟨F8, F8.binds (ps := ["frame", "record", "clock", "place", "hand"]) fun _ _ _ _ _ _ us hl => match us, hl with | [_, _, _, _, _], _ => rfl, PySem.W.mg_of X G a8⟩
  have F9 := fun_mk (st := s_hands_after) l9 c9 k9
  have D_hands_after : Df K mg "hands_after" s_hands_after ["frame", "record", "hands"] _ _ := ⟨F9, F9.binds (ps := ["frame", "record", "hands"]) fun _ _ _ _ _ _ us hl => match us, hl with | [_, _, _], _ => rfl, PySem.W.mg_of X G a9⟩
  have F10 := fun_mk (st := s_Frame_source_part) l10 c10 k10
  have M_Frame_source_part : Mt K CF "source_part" "Frame.source_part" s_Frame_source_part ["self", "source"] _ _ := ⟨F10, F10.binds (ps := ["self", "source"]) fun _ _ _ _ _ _ us hl => match us, hl with | [_, _], _ => rfl, ⟨a10, i10, k10⟩⟩
  have F11 := fun_mk (st := s_mark_bounds) l11 c11 k11
  have D_mark_bounds : Df K mg "mark_bounds" s_mark_bounds ["frame", "here", "deed"] _ _ := ⟨F11, F11.binds (ps := ["frame", "here", "deed"]) fun _ _ _ _ _ _ us hl => match us, hl with | [_, _, _], _ => rfl, PySem.W.mg_of X G a11⟩
  have F12 := fun_mk (st := s_Frame_link_part) l12 c12 k12
  have M_Frame_link_part : Mt K CF "link_part" "Frame.link_part" s_Frame_link_part ["self", "link"] _ _ := ⟨F12, F12.binds (ps := ["self", "link"]) fun _ _ _ _ _ _ us hl => match us, hl with | [_, _], _ => rfl, ⟨a12, i12, k12⟩⟩
  have F13 := fun_mk (st := s_hear_bounds) l13 c13 k13
  have D_hear_bounds : Df K mg "hear_bounds" s_hear_bounds ["frame", "here", "deed", "kind"] _ _ := ⟨F13, F13.binds (ps := ["frame", "here", "deed", "kind"]) fun _ _ _ _ _ _ us hl => match us, hl with | [_, _, _, _], _ => rfl, PySem.W.mg_of X G a13⟩
  have F14 := fun_mk (st := s_event_bounds) l14 c14 k14
  have D_event_bounds : Df K mg "event_bounds" s_event_bounds ["frame", "record", "hands", "kind"] _ _ := ⟨F14, F14.binds (ps := ["frame", "record", "hands", "kind"]) fun _ _ _ _ _ _ us hl => match us, hl with | [_, _, _, _], _ => rfl, PySem.W.mg_of X G a14⟩
  have F15 := fun_mk (st := s_heard_kind) l15 c15 k15
  have D_heard_kind : Df K mg "heard_kind" s_heard_kind ["frame", "view", "deed"] _ _ := ⟨F15, F15.binds (ps := ["frame", "view", "deed"]) fun _ _ _ _ _ _ us hl => match us, hl with | [_, _, _], _ => rfl, PySem.W.mg_of X G a15⟩
  have F16 := fun_mk (st := s_view_bounds) l16 c16 k16
  have D_view_bounds : Df K mg "view_bounds" s_view_bounds ["frame", "view"] _ _ := ⟨F16, F16.binds (ps := ["frame", "view"]) fun _ _ _ _ _ _ us hl => match us, hl with | [_, _], _ => rfl, PySem.W.mg_of X G a16⟩
  have F17 := fun_mk (st := s_points_named) l17 c17 k17
  have D_points_named : Df K mg "points_named" s_points_named ["bounds", "points"] _ _ := ⟨F17, F17.binds (ps := ["bounds", "points"]) fun _ _ _ _ _ _ us hl => match us, hl with | [_, _], _ => rfl, PySem.W.mg_of X G a17⟩
  have F18 := fun_mk (st := s_Table___init__) l18 c18 k18
  have M_Table___init__ : Mt K CT "__init__" "Table.__init__" s_Table___init__ ["self"] _ _ := ⟨F18, F18.binds (ps := ["self"]) fun _ _ _ _ _ _ us hl => match us, hl with | [_], _ => rfl, ⟨a18, i18, k18⟩⟩
  have MTb : Mk K CT _ := ⟨mk_Table, a18, i18, kc_Table⟩
  have F19 := fun_mk (st := s_Table_add_point) l19 c19 k19
  have M_Table_add_point : Mt K CT "add_point" "Table.add_point" s_Table_add_point ["self", "point"] _ _ := ⟨F19, F19.binds (ps := ["self", "point"]) fun _ _ _ _ _ _ us hl => match us, hl with | [_, _], _ => rfl, ⟨a19, i19, k19⟩⟩
  have F20 := fun_mk (st := s_is_nearer) l20 c20 k20
  have D_is_nearer : Df K mg "is_nearer" s_is_nearer ["amount", "distance"] _ _ := ⟨F20, F20.binds (ps := ["amount", "distance"]) fun _ _ _ _ _ _ us hl => match us, hl with | [_, _], _ => rfl, PySem.W.mg_of X G a20⟩
  have F21 := fun_mk (st := s_Table__shorten) l21 c21 k21
  have M_Table__shorten : Mt K CT "_shorten" "Table._shorten" s_Table__shorten ["self", "start", "end", "amount"] _ _ := ⟨F21, F21.binds (ps := ["self", "start", "end", "amount"]) fun _ _ _ _ _ _ us hl => match us, hl with | [_, _, _, _], _ => rfl, ⟨a21, i21, k21⟩⟩
  have F22 := fun_mk (st := s_Table_put_bound) l22 c22 k22
  have M_Table_put_bound : Mt K CT "put_bound" "Table.put_bound" s_Table_put_bound ["self", "first", "second", "amount"] _ _ := ⟨F22, F22.binds (ps := ["self", "first", "second", "amount"]) fun _ _ _ _ _ _ us hl => match us, hl with | [_, _, _, _], _ => rfl, ⟨a22, i22, k22⟩⟩
  have F23 := fun_mk (st := s_table_of) l23 c23 k23
  have D_table_of : Df K mg "table_of" s_table_of ["bounds", "points"] _ _ := ⟨F23, F23.binds (ps := ["bounds", "points"]) fun _ _ _ _ _ _ us hl => match us, hl with | [_, _], _ => rfl, PySem.W.mg_of X G a23⟩
  have F24 := fun_mk (st := s__law_draws) l24 c24 k24
  have D__law_draws : Df K mg "_law_draws" s__law_draws ["script", "count"] _ _ := ⟨F24, F24.binds (ps := ["script", "count"]) fun _ _ _ _ _ _ us hl => match us, hl with | [_, _], _ => rfl, PySem.W.mg_of X G a24⟩
  have F25 := fun_mk (st := s__law_take) l25 c25 k25
  have D__law_take : Df K mg "_law_take" s__law_take ["rows", "at", "many"] _ _ := ⟨F25, F25.binds (ps := ["rows", "at", "many"]) fun _ _ _ _ _ _ us hl => match us, hl with | [_, _, _], _ => rfl, PySem.W.mg_of X G a25⟩
  have F26 := fun_mk (st := s__law_kinds) l26 c26 k26
  have D__law_kinds : Df K mg "_law_kinds" s__law_kinds ["rows", "at"] _ _ := ⟨F26, F26.binds (ps := ["rows", "at"]) fun _ _ _ _ _ _ us hl => match us, hl with | [_, _], _ => rfl, PySem.W.mg_of X G a26⟩
  have F27 := fun_mk (st := s__law_begin) l27 c27 k27
  have D__law_begin : Df K mg "_law_begin" s__law_begin ["clock", "rows", "kinds"] _ _ := ⟨F27, F27.binds (ps := ["clock", "rows", "kinds"]) fun _ _ _ _ _ _ us hl => match us, hl with | [_, _, _], _ => rfl, PySem.W.mg_of X G a27⟩
  have F28 := fun_mk (st := s__law_run) l28 c28 k28
  have D__law_run : Df K mg "_law_run" s__law_run ["clock", "rows", "amount", "kinds"] _ _ := ⟨F28, F28.binds (ps := ["clock", "rows", "amount", "kinds"]) fun _ _ _ _ _ _ us hl => match us, hl with | [_, _, _, _], _ => rfl, PySem.W.mg_of X G a28⟩
  have F29 := fun_mk (st := s__law_view) l29 c29 k29
  have D__law_view : Df K mg "_law_view" s__law_view ["rows", "kinds", "goes_on"] _ _ := ⟨F29, F29.binds (ps := ["rows", "kinds", "goes_on"]) fun _ _ _ _ _ _ us hl => match us, hl with | [_, _, _], _ => rfl, PySem.W.mg_of X G a29⟩
  have F30 := fun_mk (st := s__law_fits) l30 c30 k30
  have D__law_fits : Df K mg "_law_fits" s__law_fits ["start", "look", "stop", "gain", "low", "high"] _ _ := ⟨F30, F30.binds (ps := ["start", "look", "stop", "gain", "low", "high"]) fun _ _ _ _ _ _ us hl => match us, hl with | [_, _, _, _, _, _], _ => rfl, PySem.W.mg_of X G a30⟩
  have F31 := fun_mk (st := s_Table_time_of) l31 c31 k31
  have M_Table_time_of : Mt K CT "time_of" "Table.time_of" s_Table_time_of ["self", "point"] _ _ := ⟨F31, F31.binds (ps := ["self", "point"]) fun _ _ _ _ _ _ us hl => match us, hl with | [_, _], _ => rfl, ⟨a31, i31, k31⟩⟩
  have F32 := fun_mk (st := s__law_walk) l32 c32 k32
  have D__law_walk : Df K mg "_law_walk" s__law_walk ["events", "kinds", "goes_on", "table"] _ _ := ⟨F32, F32.binds (ps := ["events", "kinds", "goes_on", "table"]) fun _ _ _ _ _ _ us hl => match us, hl with | [_, _, _, _], _ => rfl, PySem.W.mg_of X G a32⟩
  have F33 := fun_mk (st := s_Table_possible) l33 c33 k33
  have M_Table_possible : Pr K CT "possible" "Table.possible" s_Table_possible ["self"] _ _ := ⟨F33, F33.binds (ps := ["self"]) fun _ _ _ _ _ _ us hl => match us, hl with | [_], _ => rfl, ⟨_, a33, g33, t33, ⟨_, r33⟩⟩⟩
  have F34 := fun_mk (st := s_Frame___init__) l34 c34 k34
  have M_Frame___init__ : Mt K CF "__init__" "Frame.__init__" s_Frame___init__ ["self", "devices", "clocks", "links", "sources", "faults"] _ _ := ⟨F34, F34.binds (ps := ["self", "devices", "clocks", "links", "sources", "faults"]) fun _ _ _ _ _ _ us hl => match us, hl with | [_, _, _, _, _, _], _ => rfl, ⟨a34, i34, k34⟩⟩
  have MF : Mk K CF _ := ⟨mk_Frame, a34, i34, kc_Frame⟩
  have F35 := fun_mk (st := s_law) l35 c35 k35
  have D_law : Df K mg "law" s_law ["script"] _ _ := ⟨F35, F35.binds (ps := ["script"]) fun _ _ _ _ _ _ us hl => match us, hl with | [_], _ => rfl, PySem.W.mg_of X G a35⟩
  have g_NO_CLOCK := PySem.W.mg_of X G z_NO_CLOCK
  have g_NO_PART := PySem.W.mg_of X G z_NO_PART
  have c_START : TupC K mg "START" a_START [(-1), 0, (-1)] := ⟨PySem.W.mg_of X G m_START, fun H => .inr ⟨_, _, _, l_START, rfl, rfl, (show 3 ≤ sizeLine by decide), .cons ⟨_, rfl⟩ (.cons ⟨_, rfl⟩ (.cons ⟨_, rfl⟩ (.nil)))⟩⟩
  have T : Txt K mg := ⟨PySem.W.mg_none_of X G z_len, PySem.W.mg_none_of X G z_str, PySem.W.mg_none_of X G z_int, PySem.W.mg_none_of X G z_range, PySem.W.mg_none_of X G z_tuple, PySem.W.mg_none_of X G z_list, PySem.W.mg_none_of X G z_isinstance, PySem.W.mg_none_of X G z_bool, PySem.W.mg_none_of X G z_all, PySem.W.mg_none_of X G z_min, PySem.W.mg_none_of X G z_sum, PySem.W.mg_none_of X G z_enumerate, PySem.W.mg_none_of X G z_set, PySem.W.mg_none_of X G z_sorted, PySem.W.mg_none_of X G z_max, PySem.W.mg_none_of X G z_zip, PySem.W.mg_none_of X G z_any⟩
  refine ⟨PySem.W.fnOf "law" "law" (defArgs s_law) (defBody s_law) (defScope s_law) .none kV35 dc35 pm35 an35 cd35 ct35, fun s v => .of_eq rfl, fun base _ _ => ?_⟩
  have G_Frame_clocks_of : FnOk l.prog w K mg base CX0 1 _ _ ["self", "device"] (sp_Frame_clocks_of K CF) := ok_Frame_clocks_of TF M_Frame_clocks_of T  
  have G_first_hands : FnOk l.prog w K mg base CX0 2 _ _ ["frame", "device"] (sp_first_hands K CF) := ok_first_hands TF D_first_hands T  M_Frame_clocks_of G_Frame_clocks_of
  have G_event_point : FnOk l.prog w K mg base CX0 1 _ _ ["event"] (sp_event_point K) := ok_event_point D_event_point T g_NO_CLOCK 
  have G_at_least_later : FnOk l.prog w K mg base CX0 1 _ _ ["first", "second", "least", "part"] (sp_at_least_later K) := ok_at_least_later D_at_least_later T  
  have G_from_to_later : FnOk l.prog w K mg base CX0 2 _ _ ["first", "second", "least", "most", "part"] (sp_from_to_later K) := ok_from_to_later D_from_to_later T  D_at_least_later G_at_least_later
  have G_running_since : FnOk l.prog w K mg base CX0 1 _ _ ["frame", "clock", "event", "hand"] (sp_running_since K CF) := ok_running_since TF D_running_since T  
  have G_clock_bounds : FnOk l.prog w K mg base CX0 3 _ _ ["frame", "record", "clock", "place", "hand"] (sp_clock_bounds K CF) := ok_clock_bounds TF D_clock_bounds T  D_event_point G_event_point D_at_least_later G_at_least_later D_from_to_later G_from_to_later D_running_since G_running_since
  have G_kind_given : FnOk l.prog w K mg base CX0 1 _ _ ["deed", "clock", "place"] (sp_kind_given K) := ok_kind_given D_kind_given T  
  have G_hand_after : FnOk l.prog w K mg base CX0 2 _ _ ["frame", "record", "clock", "place", "hand"] (sp_hand_after K CF) := ok_hand_after TF D_hand_after T  D_event_point G_event_point D_running_since G_running_since D_kind_given G_kind_given
  have G_hands_after : FnOk l.prog w K mg base CX0 3 _ _ ["frame", "record", "hands"] (sp_hands_after K CF) := ok_hands_after TF D_hands_after T  D_hand_after G_hand_after M_Frame_clocks_of G_Frame_clocks_of
  have G_Frame_source_part : FnOk l.prog w K mg base CX0 1 _ _ ["self", "source"] (sp_Frame_source_part K CF) := ok_Frame_source_part TF M_Frame_source_part T  
  have G_mark_bounds : FnOk l.prog w K mg base CX0 3 _ _ ["frame", "here", "deed"] (sp_mark_bounds K CF) := ok_mark_bounds TF D_mark_bounds T c_START D_from_to_later G_from_to_later M_Frame_source_part G_Frame_source_part
  have G_Frame_link_part : FnOk l.prog w K mg base CX0 1 _ _ ["self", "link"] (sp_Frame_link_part K CF) := ok_Frame_link_part TF M_Frame_link_part T  
  have G_hear_bounds : FnOk l.prog w K mg base CX0 2 _ _ ["frame", "here", "deed", "kind"] (sp_hear_bounds K CF) := ok_hear_bounds TF D_hear_bounds T g_NO_PART D_event_point G_event_point D_at_least_later G_at_least_later M_Frame_link_part G_Frame_link_part
  have G_event_bounds : FnOk l.prog w K mg base CX0 4 _ _ ["frame", "record", "hands", "kind"] (sp_event_bounds K CF) := ok_event_bounds TF D_event_bounds T g_NO_PART D_event_point G_event_point D_at_least_later G_at_least_later D_clock_bounds G_clock_bounds D_hands_after G_hands_after D_mark_bounds G_mark_bounds D_hear_bounds G_hear_bounds M_Frame_clocks_of G_Frame_clocks_of
  have G_heard_kind : FnOk l.prog w K mg base CX0 1 _ _ ["frame", "view", "deed"] (sp_heard_kind K CF) := ok_heard_kind TF D_heard_kind T  
  have G_view_bounds : FnOk l.prog w K mg base CX0 5 _ _ ["frame", "view"] (sp_view_bounds K CF) := ok_view_bounds TF D_view_bounds T  D_first_hands G_first_hands D_event_bounds G_event_bounds D_heard_kind G_heard_kind
  have G_points_named : FnOk l.prog w K mg base CX0 1 _ _ ["bounds", "points"] (sp_points_named K) := ok_points_named D_points_named T  
  have G_Table___init__ : FnOk l.prog w K mg base CX0 1 _ _ ["self"] (sp_Table___init__ K l.prog w CT) := ok_Table___init__ TTb M_Table___init__ T  
  have G_Table_add_point : FnOk l.prog w K mg base CX0 1 _ _ ["self", "point"] (sp_Table_add_point K l.prog w CT) := ok_Table_add_point TTb M_Table_add_point T  
  have G_is_nearer : FnOk l.prog w K mg base CX0 1 _ _ ["amount", "distance"] (sp_is_nearer K) := ok_is_nearer D_is_nearer T  
  have G_Table__shorten : FnOk l.prog w K mg base CX0 2 _ _ ["self", "start", "end", "amount"] (sp_Table__shorten K l.prog w CT) := ok_Table__shorten TTb M_Table__shorten T  D_is_nearer G_is_nearer
  have G_Table_put_bound : FnOk l.prog w K mg base CX0 3 _ _ ["self", "first", "second", "amount"] (sp_Table_put_bound K l.prog w CT) := ok_Table_put_bound TTb M_Table_put_bound T  D_is_nearer G_is_nearer M_Table__shorten G_Table__shorten
  have G_table_of : FnOk l.prog w K mg base CX0 4 _ _ ["bounds", "points"] (sp_table_of K l.prog w CT) := ok_table_of TTb MTb D_table_of T  D_points_named G_points_named M_Table___init__ G_Table___init__ M_Table_add_point G_Table_add_point M_Table_put_bound G_Table_put_bound
  have G__law_draws : FnOk l.prog w K mg base CX0 1 _ _ ["script", "count"] (sp__law_draws K) := ok__law_draws D__law_draws T  
  have G__law_take : FnOk l.prog w K mg base CX0 1 _ _ ["rows", "at", "many"] (sp__law_take K) := ok__law_take D__law_take T  
  have G__law_kinds : FnOk l.prog w K mg base CX0 2 _ _ ["rows", "at"] (sp__law_kinds K) := ok__law_kinds D__law_kinds T  D__law_take G__law_take
  have G__law_begin : FnOk l.prog w K mg base CX0 2 _ _ ["clock", "rows", "kinds"] (sp__law_begin K) := ok__law_begin D__law_begin T  D__law_take G__law_take
  have G__law_run : FnOk l.prog w K mg base CX0 3 _ _ ["clock", "rows", "amount", "kinds"] (sp__law_run K) := ok__law_run D__law_run T  D__law_begin G__law_begin
  have G__law_view : FnOk l.prog w K mg base CX0 4 _ _ ["rows", "kinds", "goes_on"] (sp__law_view K) := ok__law_view D__law_view T  D__law_take G__law_take D__law_begin G__law_begin D__law_run G__law_run
  have G__law_fits : FnOk l.prog w K mg base CX0 1 _ _ ["start", "look", "stop", "gain", "low", "high"] (sp__law_fits K) := ok__law_fits D__law_fits T  
  have G_Table_time_of : FnOk l.prog w K mg base CX0 1 _ _ ["self", "point"] (sp_Table_time_of K l.prog w CT) := ok_Table_time_of TTb M_Table_time_of T  
  have G__law_walk : FnOk l.prog w K mg base CX0 2 _ _ ["events", "kinds", "goes_on", "table"] (sp__law_walk K l.prog w CT) := ok__law_walk TTb D__law_walk T  D__law_fits G__law_fits M_Table_time_of G_Table_time_of
  have G_Table_possible : FnOk l.prog w K mg base CX0 1 _ _ ["self"] (sp_Table_possible K l.prog w CT) := ok_Table_possible TTb M_Table_possible T  
  have G_Frame___init__ : FnOk l.prog w K mg base CX0 1 _ _ ["self", "devices", "clocks", "links", "sources", "faults"] (sp_Frame___init__ K CF) := ok_Frame___init__ TF M_Frame___init__ T  
  have G_law : FnOk l.prog w K mg base CX0 6 _ _ ["script"] (sp_law K) := ok_law TF TTb MF D_law T  D_view_bounds G_view_bounds D_table_of G_table_of D__law_draws G__law_draws D__law_take G__law_take D__law_kinds G__law_kinds D__law_view G__law_view D__law_walk G__law_walk M_Table_possible G_Table_possible M_Frame___init__ G_Frame___init__
  exact G_law
theorem walk {l : PySem.W.OpenLaw} {q : Program} {loose : List Str} {XP : (Str → Option Value) → Heap → Prop} {YP : World → Heap → Prop} {d : DefRec} {K : Params → PySem.W.Frag} (hn : l.most = some 63) (hdf : d.params.defaults = [])
    (hY : ∀ (w : World) (h : Heap), YP w h → (K w.params).In h)
    (F : ∀ (w : World) (mg : Str → Option Value) (fa : Addr) (h : Heap), (K w.params).In h → h.Ns mainGlobals mg → mg d.name = some (.ref fa) →
      ∃ fd : FuncData, (∀ (s : Shared) (u : Value), BindsTo s fd ⟨[u], []⟩ [("script", u)]) ∧ ∀ base : Heap, (K w.params).In base → base.Ns mainGlobals mg → FnOk l.prog w (K w.params) mg base CX0 6 fa fd ["script"] (sp_law (K w.params))) :
    PySem.W.WalkO q loose XP YP l.row.toRowW d [] (fun f vs => PySem.call f vs) :=
  L2.walk_of (n := 63) (k := 6) (x := "script") (CX := fun _ => CX0) (sp := fun w => sp_law (K w.params)) hn (by decide) hdf ⟨rfl, by decide, by decide⟩ hY F (fun _ _ a ns hl _ hS => ⟨a, ns, rfl, hS, hl, fun _ => rfl⟩) fun _ _ _ _ _ z => z
end Vs
open PySem PySem.W PyProof.Rows
set_option maxRecDepth 100000 in
set_option maxHeartbeats 0 in
theorem PySem.Challenge.cw_whensure_k25_bounds_of_a_clock_are_its_r_holds : PySem.Challenge.rw_whensure_k25_bounds_of_a_clock_are_its_r.Holds := by
  w_on; o_law; k_head; (case hw => w_witness2)
  k_fill
  refine Vs.walk (l := PySem.Challenge.rw_whensure_k25_bounds_of_a_clock_are_its_r) rfl rfl (fun w h Y => PySem.W.kIn_of Y) ?F
  case F =>
    intro w mg fa h KX G hmg
    refine' Vs.all_mk KX G hmg ?aC_Frame ?pg_Frame ?hd_Frame ?po_Frame ?sa_Frame ?mk_Frame ?kc_Frame ?n_Frame_devices ?n_Frame_clocks ?n_Frame_links ?n_Frame_sources ?n_Frame_faults ?aC_Table ?pg_Table ?hd_Table ?po_Table ?sa_Table ?mk_Table ?kc_Table ?n_Table__places ?n_Table__rows ?n_Table__possible ?a0 ?i0 ?l0 ?c0 ?k0 ?a1 ?l1 ?c1 ?k1 ?a2 ?l2 ?c2 ?k2 ?a3 ?l3 ?c3 ?k3 ?a4 ?l4 ?c4 ?k4 ?a5 ?l5 ?c5 ?k5 ?a6 ?l6 ?c6 ?k6 ?a7 ?l7 ?c7 ?k7 ?a8 ?l8 ?c8 ?k8 ?a9 ?l9 ?c9 ?k9 ?a10 ?i10 ?l10 ?c10 ?k10 ?a11 ?l11 ?c11 ?k11 ?a12 ?i12 ?l12 ?c12 ?k12 ?a13 ?l13 ?c13 ?k13 ?a14 ?l14 ?c14 ?k14 ?a15 ?l15 ?c15 ?k15 ?a16 ?l16 ?c16 ?k16 ?a17 ?l17 ?c17 ?k17 ?a18 ?i18 ?l18 ?c18 ?k18 ?a19 ?i19 ?l19 ?c19 ?k19 ?a20 ?l20 ?c20 ?k20 ?a21 ?i21 ?l21 ?c21 ?k21 ?a22 ?i22 ?l22 ?c22 ?k22 ?a23 ?l23 ?c23 ?k23 ?a24 ?l24 ?c24 ?k24 ?a25 ?l25 ?c25 ?k25 ?a26 ?l26 ?c26 ?k26 ?a27 ?l27 ?c27 ?k27 ?a28 ?l28 ?c28 ?k28 ?a29 ?l29 ?c29 ?k29 ?a30 ?l30 ?c30 ?k30 ?a31 ?i31 ?l31 ?c31 ?k31 ?a32 ?l32 ?c32 ?k32 ?a33 ?g33 ?t33 ?r33 ?l33 ?c33 ?k33 ?a34 ?i34 ?l34 ?c34 ?k34 ?a35 ?l35 ?c35 ?k35 ?z_len ?z_str ?z_int ?z_range ?z_tuple ?z_list ?z_isinstance ?z_bool ?z_all ?z_min ?z_sum ?z_enumerate ?z_set ?z_sorted ?z_max ?z_zip ?z_any ?z_NO_CLOCK ?z_NO_PART ?m_START ?l_START
    (case aC_Frame => k_is)
    (case pg_Frame => k_is)
    (case hd_Frame => k_is)
    (case po_Frame => k_is)
    (case sa_Frame => k_is)
    (case mk_Frame => k_is)
    (case kc_Frame => k_is)
    (case n_Frame_devices => k_is)
    (case n_Frame_clocks => k_is)
    (case n_Frame_links => k_is)
    (case n_Frame_sources => k_is)
    (case n_Frame_faults => k_is)
    (case aC_Table => k_is)
    (case pg_Table => k_is)
    (case hd_Table => k_is)
    (case po_Table => k_is)
    (case sa_Table => k_is)
    (case mk_Table => k_is)
    (case kc_Table => k_is)
    (case n_Table__places => k_is)
    (case n_Table__rows => k_is)
    (case n_Table__possible => k_is)
    (case a0 => k_is)
    (case i0 => k_is)
    (case l0 => k_is)
    (case c0 => k_is)
    (case k0 => k_is)
    (case a1 => k_is)
    (case l1 => k_is)
    (case c1 => k_is)
    (case k1 => k_is)
    (case a2 => k_is)
    (case l2 => k_is)
    (case c2 => k_is)
    (case k2 => k_is)
    (case a3 => k_is)
    (case l3 => k_is)
    (case c3 => k_is)
    (case k3 => k_is)
    (case a4 => k_is)
    (case l4 => k_is)
    (case c4 => k_is)
    (case k4 => k_is)
    (case a5 => k_is)
    (case l5 => k_is)
    (case c5 => k_is)
    (case k5 => k_is)
    (case a6 => k_is)
    (case l6 => k_is)
    (case c6 => k_is)
    (case k6 => k_is)
    (case a7 => k_is)
    (case l7 => k_is)
    (case c7 => k_is)
    (case k7 => k_is)
    (case a8 => k_is)
    (case l8 => k_is)
    (case c8 => k_is)
    (case k8 => k_is)
    (case a9 => k_is)
    (case l9 => k_is)
    (case c9 => k_is)
    (case k9 => k_is)
    (case a10 => k_is)
    (case i10 => k_is)
    (case l10 => k_is)
    (case c10 => k_is)
    (case k10 => k_is)
    (case a11 => k_is)
    (case l11 => k_is)
    (case c11 => k_is)
    (case k11 => k_is)
    (case a12 => k_is)
    (case i12 => k_is)
    (case l12 => k_is)
    (case c12 => k_is)
    (case k12 => k_is)
    (case a13 => k_is)
    (case l13 => k_is)
    (case c13 => k_is)
    (case k13 => k_is)
    (case a14 => k_is)
    (case l14 => k_is)
    (case c14 => k_is)
    (case k14 => k_is)
    (case a15 => k_is)
    (case l15 => k_is)
    (case c15 => k_is)
    (case k15 => k_is)
    (case a16 => k_is)
    (case l16 => k_is)
    (case c16 => k_is)
    (case k16 => k_is)
    (case a17 => k_is)
    (case l17 => k_is)
    (case c17 => k_is)
    (case k17 => k_is)
    (case a18 => k_is)
    (case i18 => k_is)
    (case l18 => k_is)
    (case c18 => k_is)
    (case k18 => k_is)
    (case a19 => k_is)
    (case i19 => k_is)
    (case l19 => k_is)
    (case c19 => k_is)
    (case k19 => k_is)
    (case a20 => k_is)
    (case l20 => k_is)
    (case c20 => k_is)
    (case k20 => k_is)
    (case a21 => k_is)
    (case i21 => k_is)
    (case l21 => k_is)
    (case c21 => k_is)
    (case k21 => k_is)
    (case a22 => k_is)
    (case i22 => k_is)
    (case l22 => k_is)
    (case c22 => k_is)
    (case k22 => k_is)
    (case a23 => k_is)
    (case l23 => k_is)
    (case c23 => k_is)
    (case k23 => k_is)
    (case a24 => k_is)
    (case l24 => k_is)
    (case c24 => k_is)
    (case k24 => k_is)
    (case a25 => k_is)
    (case l25 => k_is)
    (case c25 => k_is)
    (case k25 => k_is)
    (case a26 => k_is)
    (case l26 => k_is)
    (case c26 => k_is)
    (case k26 => k_is)
    (case a27 => k_is)
    (case l27 => k_is)
    (case c27 => k_is)
    (case k27 => k_is)
    (case a28 => k_is)
    (case l28 => k_is)
    (case c28 => k_is)
    (case k28 => k_is)
    (case a29 => k_is)
    (case l29 => k_is)
    (case c29 => k_is)
    (case k29 => k_is)
    (case a30 => k_is)
    (case l30 => k_is)
    (case c30 => k_is)
    (case k30 => k_is)
    (case a31 => k_is)
    (case i31 => k_is)
    (case l31 => k_is)
    (case c31 => k_is)
    (case k31 => k_is)
    (case a32 => k_is)
    (case l32 => k_is)
    (case c32 => k_is)
    (case k32 => k_is)
    (case a33 => k_is)
    (case g33 => k_is)
    (case t33 => k_is)
    (case r33 => k_is)
    (case l33 => k_is)
    (case c33 => k_is)
    (case k33 => k_is)
    (case a34 => k_is)
    (case i34 => k_is)
    (case l34 => k_is)
    (case c34 => k_is)
    (case k34 => k_is)
    (case a35 => k_is)
    (case l35 => k_is)
    (case c35 => k_is)
    (case k35 => k_is)
    (case z_len => k_is)
    (case z_str => k_is)
    (case z_int => k_is)
    (case z_range => k_is)
    (case z_tuple => k_is)
    (case z_list => k_is)
    (case z_isinstance => k_is)
    (case z_bool => k_is)
    (case z_all => k_is)
    (case z_min => k_is)
    (case z_sum => k_is)
    (case z_enumerate => k_is)
    (case z_set => k_is)
    (case z_sorted => k_is)
    (case z_max => k_is)
    (case z_zip => k_is)
    (case z_any => k_is)
    (case z_NO_CLOCK => k_is)
    (case z_NO_PART => k_is)
    (case m_START => k_is)
    (case l_START => k_is)
#print axioms PySem.Challenge.cw_whensure_k25_bounds_of_a_clock_are_its_r_holds
