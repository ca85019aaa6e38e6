import PyProof.Rows.All
import Wide.All
import OpenK.AllK
import Wide.FinOn
import HandS.ForMost
import HandS.Strs
import HandS.IsInst
import HandS.StrMore
import HandS.NoneIn
import KE.DataEq
import HandS.TupAny
import HandS.Codes
import HandS.Wide
import HandS.FStr
import HandS.Property
import HandS.Walk
import HandS.More
import HandS.Deep
import KE.KDictDisplayH
import HandS.CallLocal
import HandS.SortKw
import KE.DataMinMax
import HandS.DictComp
import HandS.TupSets
import HandS.TupLen
import HandS.Conv
import HandS.TupLe
import HandS.Comp
import HandS.SortRule
import HandS.Iter
import HandS.MapObj
import PySem.Challenge.RW_whensure_k38_guilt_by_its_definition
set_option Elab.async false
set_option linter.all false
set_option maxRecDepth 100000
namespace Vs
open PySem PySem.Spec PyProof.Rows L2

theorem posJ {j : Int} (h : decide (0 < j) = true) : 0 < j := of_decide_eq_true h
/-! ### heaps -/
theorem same_upd {H : Hp} {p : Addr} {o : HO} (h : H p = none) : Same H (upd H p o) := fun b x e => by
  rw [upd_ne (ne_of_none e h)]
  exact e
theorem sTup {K : PySem.W.Frag} {H H' : Hp} {a : Addr} {xs : List V} (e : Same H H') (h : SqT K H a xs) : SqT K H' a xs := by
  rcases h with (h | ⟨o, h⟩) | h
  · exact .inl (.inl (e _ _ h))
  · exact .inl (.inr ⟨o, e _ _ h⟩)
  · exact .inr h
/-- all that was tracked is as it was, but for what stands at o -/
def But (o : Addr) (H H' : Hp) : Prop := ∀ b u, b ≠ o → H b = some u → H' b = some u
theorem But.refl (o : Addr) (H : Hp) : But o H H := fun _ _ _ h => h
theorem But.trans {o : Addr} {H H1 H2 : Hp} (a : But o H H1) (b : But o H1 H2) : But o H H2 := fun c u n h => b c u n (a c u n h)
theorem But.of {o : Addr} {H H' : Hp} (a : Same H H') : But o H H' := fun c u _ h => a c u h
theorem But.set {o : Addr} {H : Hp} {u : HO} : But o H (upd H o u) := fun c u' n h => by rw [upd_ne n]; exact h

/-! ### xs.extend(t), t a tuple -/
theorem ext_tup (l : Addr) (items : Array Value) (n : Nat) (b : Addr) (ob : Obj) (items2 : Array Value) (n2 : Nat) (hs0 : ¬(!items.isEmpty && Builtin.List.listTooLong (items.size + items2.size)) = true) (hs1 : items.size ≤ sizeLine) (hs2 : items.size + items2.size ≤ sizeLine + 1) (hcl : ob.cls = .type "tuple") (hda : ob.data = .seq items2 n2) :
    Meets (Builtin.«list.extend» ⟨[.ref l, .ref b], []⟩) (fun _ R s => s.heap.get? l = some { cls := .type "list", dict := none, data := .seq items n, slots := #[] } ∧ s.heap.get? b = some ob ∧ R (.ok (.ret Value.none)) { s with heap := s.heap.update l (Obj.mapSeq fun x => x ++ items2), toks := s.toks }) := by
  obtain ⟨oc, od, oda, osl⟩ := ob
  cases hcl
  cases hda
  refine .of_wp fun prog w A R s h => ?_
  obtain ⟨hp, g, d, tk, os⟩ := s
  obtain ⟨hl, hb, h⟩ := h
  have f1 := AutoSeq1.idx_int; have f2 := AutoSeq1.sub_tuple_tuple; have f3 := AutoSeq1.sub_list_list; have f4 := AutoSeq1.sub_tuple_list; have f5 := AutoSeq1.sub_list_tuple
  have hz' : (items ++ items2).size ≤ sizeLine + 1 := by rw [Array.size_append]; exact hs2
  wp_walk using (wpAny_updateSeq hl rfl (hz := hs1) (_hz' := hz')), AutoSeq1.wpAny_loadPart' hl, AutoSeq1.wpAny_loadPart' hb
  exact ⟨_, rfl, h⟩
def rExtT (K : PySem.W.Frag) : V → List V → Hp → VK → Prop := fun x vs H Q => ∃ l b xs zs, x = .ref l ∧ vs = [.ref b] ∧ H l = some (.lst xs) ∧ SqT K H b zs ∧ xs.length + zs.length ≤ sizeLine ∧ Q .non (upd H l (.lst (xs ++ zs)))
theorem mt_extendT {X : Cx} : MtR X "list.extend" (rExtT X.K) := by
  intro pins s σ H x vs v us Q I rx rv h
  obtain ⟨l, b, xs, zs, rfl, rfl, hH, hB, hz, q⟩ := h
  cases rx
  obtain ⟨u, rfl, ru⟩ := rv.one
  cases ru
  obtain ⟨z, its, n, r, hl, e⟩ := I.lstM hH
  obtain ⟨its2, r2, ⟨ob, e2, hcl, n2, hda⟩, hl2⟩ := I.tuple hB
  have hl3 := r2.length
  have hsz : its.toArray.size + its2.toArray.size ≤ sizeLine := by rw [List.size_toArray, List.size_toArray]; omega
  have hlong : ¬ (!its.toArray.isEmpty && Builtin.List.listTooLong (its.toArray.size + its2.toArray.size)) = true := by
    rw [notLongL hsz, Bool.and_false]
    exact Bool.false_ne_true
  refine call_meets F.slot_list_extend ⟨_, e, rfl⟩ F.entry_list_extend (F.args_list_extend_2 _ _)
    (ext_tup l its.toArray n b ob its2.toArray n2 hlong (by rw [List.size_toArray]; omega) (by omega) hcl hda) ⟨e, e2, ?_⟩
  refine ⟨.non, _, I.lset (its' := its ++ its2) hH e (by simp) (r.append r2) ?_, rfl, q⟩
  rw [List.length_append]
  omega

/-! ### what a letter, a view holds -/
def deedNames : List Str := ["note", "kind", "mark", "send", "tell", "hear", "promise", "commit", "anew"]
theorem dn_len : deedNames.length = 9 := rfl
theorem dn_nodup : deedNames.Nodup := by decide +kernel
structure Dd where
  place : Nat
  nums : List Int
structure Ev where
  asleep : Bool
  shown : List Int
  after : List Int
  deed : Dd
  knows : List Int
structure Rc where
  dev : Int
  num : Int
  ev : Ev
structure Lt where
  s : Int
  r : Int
  k : Int
  n : Int
  recs : List Rc
def b2n (b : Bool) : Int := if b then 1 else 0
def numSeq (ns : List Int) : List Int := (ns.length : Int) :: ns
def numD (d : Dd) : List Int := (d.place : Int) :: (if d.place = 8 then numSeq d.nums else d.nums)
def numE (e : Ev) : List Int := [b2n e.asleep] ++ numSeq e.shown ++ numSeq e.after ++ numD e.deed ++ numSeq e.knows
def numR (r : Rc) : List Int := [r.dev, r.num] ++ numE r.ev
def numL (l : Lt) : List Int := [l.s, l.r, l.k, l.n, (l.recs.length : Int)] ++ l.recs.flatMap numR
def In18 (n : Int) : Prop := n.natAbs < 10 ^ 18
def Nt18 (n : Int) : Prop := In18 n ∧ 0 ≤ n
def arity (p : Nat) : Nat := [0, 2, 3, 2, 1, 2, 2, 1, 0].getD p 0
/-- which number of a deed may be below 0 -/
def mayNeg (p i : Nat) : Prop := (p = 2 ∧ i = 2) ∨ p = 7
structure Dd.Ok (d : Dd) : Prop where
  pl : d.place < 9
  len : d.nums.length ≤ 4
  ar : d.place ≠ 8 → d.nums.length = arity d.place
  sm : ∀ n ∈ d.nums, In18 n
  nt : ∀ i n, d.nums[i]? = some n → ¬ mayNeg d.place i → 0 ≤ n
structure Ev.Ok (e : Ev) : Prop where
  s1 : e.shown.length ≤ 4
  s2 : e.after.length ≤ 4
  s3 : e.knows.length ≤ 6
  m1 : ∀ n ∈ e.shown, In18 n
  m2 : ∀ n ∈ e.after, In18 n
  m3 : ∀ n ∈ e.knows, Nt18 n
  d : e.deed.Ok
structure Rc.Ok (r : Rc) : Prop where
  d : Nt18 r.dev
  n : Nt18 r.num
  e : r.ev.Ok
structure Lt.Ok (l : Lt) : Prop where
  s : Nt18 l.s
  r : Nt18 l.r
  k : Nt18 l.k
  n : Nt18 l.n
  len : l.recs.length ≤ 20
  rs : ∀ r ∈ l.recs, r.Ok
/-- the tuple of a list of ints -/
def TupI (K : PySem.W.Frag) (H : Hp) (a : Addr) (ns : List Int) : Prop := SqT K H a (ns.map V.int)
def DdAt (K : PySem.W.Frag) (H : Hp) (a : Addr) (d : Dd) : Prop :=
  ∃ z rest, deedNames[d.place]? = some z ∧ SqT K H a (.str z :: rest) ∧ ((d.place = 8 ∧ ∃ b, rest = [.ref b] ∧ TupI K H b d.nums) ∨ (d.place ≠ 8 ∧ rest = d.nums.map V.int))
def EvAt (K : PySem.W.Frag) (H : Hp) (a : Addr) (e : Ev) : Prop :=
  ∃ p q d r, SqT K H a [.bl e.asleep, .ref p, .ref q, .ref d, .ref r] ∧ TupI K H p e.shown ∧ TupI K H q e.after ∧ DdAt K H d e.deed ∧ TupI K H r e.knows
def RcAt (K : PySem.W.Frag) (H : Hp) (a : Addr) (r : Rc) : Prop := ∃ e, SqT K H a [.int r.dev, .int r.num, .ref e] ∧ EvAt K H e r.ev
/-- objects one beside the other -/
def Each {α : Type} (P : Addr → α → Prop) (as : List Addr) (xs : List α) : Prop := as.length = xs.length ∧ ∀ (i : Nat) (a : Addr) (x : α), as[i]? = some a → xs[i]? = some x → P a x
def LtAt (K : PySem.W.Frag) (H : Hp) (a : Addr) (l : Lt) : Prop :=
  ∃ b as, SqT K H a [.int l.s, .int l.r, .int l.k, .int l.n, .ref b] ∧ SqT K H b (as.map V.ref) ∧ Each (RcAt K H) as l.recs
section
variable {K : PySem.W.Frag} {H H' : Hp}
theorem TupI.keep {a ns} (e : Same H H') (h : TupI K H a ns) : TupI K H' a ns := sTup e h
theorem DdAt.keep {a d} (e : Same H H') (h : DdAt K H a d) : DdAt K H' a d := by
  obtain ⟨z, rest, h0, h1, h2⟩ := h
  refine ⟨z, rest, h0, sTup e h1, ?_⟩
  rcases h2 with ⟨h2, b, h3, h4⟩ | h2
  · exact .inl ⟨h2, b, h3, h4.keep e⟩
  · exact .inr h2
theorem EvAt.keep {a d} (e : Same H H') (h : EvAt K H a d) : EvAt K H' a d := by
  obtain ⟨p, q, d, r, h1, h2, h3, h4, h5⟩ := h
  exact ⟨p, q, d, r, sTup e h1, h2.keep e, h3.keep e, h4.keep e, h5.keep e⟩
theorem RcAt.keep {a d} (e : Same H H') (h : RcAt K H a d) : RcAt K H' a d := by
  obtain ⟨p, h1, h2⟩ := h
  exact ⟨p, sTup e h1, h2.keep e⟩
theorem Each.keep {α : Type} {P P' : Addr → α → Prop} {as xs} (h : Each P as xs) (f : ∀ a x, P a x → P' a x) : Each P' as xs := ⟨h.1, fun i a x h1 h2 => f a x (h.2 i a x h1 h2)⟩
theorem Each.nil {α : Type} {P : Addr → α → Prop} : Each P [] [] := ⟨rfl, fun i a x h => by simp at h⟩
theorem Each.snoc {α : Type} {P : Addr → α → Prop} {as xs} (h : Each P as xs) {a : Addr} {x : α} (p : P a x) : Each P (as ++ [a]) (xs ++ [x]) := by
  refine ⟨by simp [h.1], fun i b y h1 h2 => ?_⟩
  by_cases hi : i < as.length
  · rw [List.getElem?_append_left hi] at h1
    rw [List.getElem?_append_left (by rw [← h.1]; exact hi)] at h2
    exact h.2 i b y h1 h2
  · rw [List.getElem?_append_right (by omega)] at h1
    rw [List.getElem?_append_right (by rw [← h.1]; omega)] at h2
    rw [← h.1] at h2
    cases e : i - as.length with
    | zero =>
      rw [e] at h1 h2
      cases h1
      cases h2
      exact p
    | succ n =>
      rw [e] at h1
      simp at h1
theorem Each.get {α : Type} {P : Addr → α → Prop} {as xs} (h : Each P as xs) {i : Nat} {a : Addr} (ha : as[i]? = some a) : ∃ x, xs[i]? = some x ∧ P a x := by
  have hi : i < xs.length := by rw [← h.1]; exact (List.getElem?_eq_some_iff.mp ha).1
  exact ⟨xs[i], List.getElem?_eq_getElem hi, h.2 i a _ ha (List.getElem?_eq_getElem hi)⟩
theorem LtAt.keep {a d} (e : Same H H') (h : LtAt K H a d) : LtAt K H' a d := by
  obtain ⟨b, as, h1, h2, h3⟩ := h
  exact ⟨b, as, sTup e h1, sTup e h2, h3.keep fun _ _ q => q.keep e⟩
end
/-! ### sizes -/
theorem numD_len {d : Dd} (h : d.Ok) : (numD d).length ≤ 6 := by
  have := h.len
  unfold numD numSeq
  split <;> simp <;> omega
theorem numE_len {e : Ev} (h : e.Ok) : (numE e).length ≤ 24 := by
  have h1 := h.s1; have h2 := h.s2; have h3 := h.s3; have h4 := numD_len h.d
  unfold numE numSeq
  simp only [List.length_append, List.length_cons, List.length_nil]
  omega
theorem numR_len {r : Rc} (h : r.Ok) : (numR r).length ≤ 26 := by
  have h1 := numE_len h.e
  unfold numR
  simp only [List.length_append, List.length_cons, List.length_nil]
  omega
theorem flat_len {α : Type} {f : α → List Int} {m : Nat} : ∀ {xs : List α}, (∀ x ∈ xs, (f x).length ≤ m) → (xs.flatMap f).length ≤ xs.length * m
  | [], _ => by simp
  | x :: r, h => by
    have h1 := h x List.mem_cons_self
    have h2 := flat_len (xs := r) fun y hy => h y (List.mem_cons_of_mem _ hy)
    rw [List.flatMap_cons, List.length_append, List.length_cons, Nat.succ_mul]
    omega
theorem In18.zero : In18 0 := by unfold In18; decide
theorem In18.small {n : Nat} (h : n ≤ 1000) : In18 (n : Int) := by
  unfold In18
  rw [Int.natAbs_natCast]
  exact Nat.lt_of_le_of_lt h (by decide)
theorem In18.log {n : Int} (h : In18 n) : n.natAbs.log2 < 1920 := by
  unfold In18 at h
  by_cases h0 : n.natAbs = 0
  · rw [h0]
    decide
  · exact (Nat.log2_lt h0).mpr (Nat.lt_of_lt_of_le h (by decide +kernel))
theorem numD_in {d : Dd} (h : d.Ok) : ∀ n ∈ numD d, In18 n := by
  intro n hn
  have hp := h.pl
  have hl := h.len
  unfold numD at hn
  rcases List.mem_cons.mp hn with e | hn
  · rw [e]
    exact In18.small (by omega)
  · split at hn
    · unfold numSeq at hn
      rcases List.mem_cons.mp hn with e | hn
      · rw [e]
        exact In18.small (by omega)
      · exact h.sm n hn
    · exact h.sm n hn
theorem seq_in {ns : List Int} (hl : ns.length ≤ 1000) (h : ∀ n ∈ ns, In18 n) : ∀ n ∈ numSeq ns, In18 n := by
  intro n hn
  unfold numSeq at hn
  rcases List.mem_cons.mp hn with e | hn
  · rw [e]
    exact In18.small hl
  · exact h n hn
theorem numE_in {e : Ev} (h : e.Ok) : ∀ n ∈ numE e, In18 n := by
  intro n hn
  have h1 := h.s1; have h2 := h.s2; have h3 := h.s3
  unfold numE at hn
  rcases List.mem_append.mp hn with hn | hn
  · rcases List.mem_append.mp hn with hn | hn
    · rcases List.mem_append.mp hn with hn | hn
      · rcases List.mem_append.mp hn with hn | hn
        · rw [List.mem_singleton.mp hn]
          unfold b2n
          split
          · exact In18.small (n := 1) (by decide)
          · exact In18.zero
        · exact seq_in (by omega) h.m1 n hn
      · exact seq_in (by omega) h.m2 n hn
    · exact numD_in h.d n hn
  · exact seq_in (by omega) (fun n hn => (h.m3 n hn).1) n hn
theorem numR_in {r : Rc} (h : r.Ok) : ∀ n ∈ numR r, In18 n := by
  intro n hn
  unfold numR at hn
  rcases List.mem_append.mp hn with hn | hn
  · rcases List.mem_cons.mp hn with e | hn
    · rw [e]; exact h.d.1
    · rw [List.mem_singleton.mp hn]; exact h.n.1
  · exact numE_in h.e n hn
theorem numL_len {l : Lt} (h : l.Ok) : (numL l).length ≤ 600 := by
  have h1 := flat_len (f := numR) (m := 26) (xs := l.recs) fun r hr => numR_len (h.rs r hr)
  have h2 := h.len
  unfold numL
  simp only [List.length_append, List.length_cons, List.length_nil]
  omega
theorem numL_in {l : Lt} (h : l.Ok) : ∀ n ∈ numL l, In18 n := by
  intro n hn
  have hl := h.len
  unfold numL at hn
  rcases List.mem_append.mp hn with hn | hn
  · simp only [List.mem_cons, List.not_mem_nil, or_false] at hn
    rcases hn with e | e | e | e | e <;> rw [e]
    · exact h.s.1
    · exact h.r.1
    · exact h.k.1
    · exact h.n.1
    · exact In18.small (by omega)
  · obtain ⟨r, hr, hn⟩ := List.mem_flatMap.mp hn
    exact numR_in (h.rs r hr) n hn
/-! ### the text -/
def words (ns : List Int) : List Str := ns.map fun n => toString n
def textOf (head : Str) (ns : List Int) : Str := head ++ Str.ofString "\n" ++ Txt.join (Str.ofString " ") (words ns) ++ Str.ofString "\n"

theorem join_len (y : Str) : ∀ parts : List Str, (Str.join y parts).length ≤ (parts.map (·.length)).sum + parts.length * y.length
  | [] => Nat.zero_le _
  | [x] => by
    show x.length ≤ x.length + 0 + _
    omega
  | x :: z :: r => by
    have h := join_len y (z :: r)
    show (x ++ y ++ Str.join y (z :: r)).length ≤ _
    rw [Str.length_append, Str.length_append]
    rw [List.map_cons, List.sum_cons, List.length_cons, Nat.succ_mul]
    omega
theorem word_len {n : Int} (h : In18 n) : (Str.ofString (toString n)).length ≤ 19 := by
  unfold In18 at h
  have e := int_text_length_le10 (k := 18) (by decide) h
  rw [PySem.ofString_length]
  exact e
theorem words_sum {ns : List Int} (h : ∀ n ∈ ns, In18 n) : ((words ns).map (·.length)).sum ≤ ns.length * 19 := by
  induction ns with
  | nil => exact Nat.zero_le _
  | cons a r ih =>
    have h1 := word_len (h a List.mem_cons_self)
    have h2 := ih fun n hn => h n (List.mem_cons_of_mem _ hn)
    show (Str.ofString (toString a)).length + ((words r).map (·.length)).sum ≤ _
    rw [List.length_cons, Nat.succ_mul]
    omega
theorem words_len (ns : List Int) : (words ns).length = ns.length := List.length_map _
theorem blank_len : (Str.ofString " ").length = 1 := by decide +kernel
theorem nl_len : (Str.ofString "\n").length = 1 := by decide +kernel
theorem joined_len {ns : List Int} (h : ∀ n ∈ ns, In18 n) : (Txt.join (Str.ofString " ") (words ns)).length ≤ ns.length * 20 := by
  have h1 := join_len (Str.ofString " ") (words ns)
  have h2 := words_sum h
  rw [← TL.join_eq, words_len, blank_len] at h1
  omega
theorem line2 : (20000 : Nat) ≤ sizeLine := by decide
theorem join_fit {ns : List Int} (h : ∀ n ∈ ns, In18 n) (hl : ns.length ≤ 1000) : ((words ns).map (·.length)).sum + (words ns).length * (Str.ofString " ").length ≤ 16777216 := by
  have h2 := words_sum h
  rw [words_len, blank_len]
  omega
theorem sizes {n : Nat} (h : n ≤ 100000) : n ≤ sizeLine := Nat.le_trans h (by decide)
theorem sizes' {n : Nat} (h : n ≤ 100000) : n < sizeLine := Nat.lt_of_le_of_lt h (by decide)
theorem words_take_succ {ns : List Int} {i : Nat} (h : i < ns.length) : words (ns.take (i + 1)) = words (ns.take i) ++ [(toString ns[i] : Str)] := by
  unfold words
  rw [List.take_add_one, List.getElem?_eq_getElem h, List.map_append]
  rfl
theorem int_get {ns : List Int} {i : Nat} {x : V} (h : (ns.map V.int)[i]? = some x) : ∃ hi : i < ns.length, x = V.int ns[i] := by
  have hi := (List.getElem?_eq_some_iff.mp h).1
  rw [List.length_map] at hi
  refine ⟨hi, ?_⟩
  rw [List.getElem?_map, List.getElem?_eq_getElem hi] at h
  exact (Option.some.inj h).symm
theorem ref_get {as : List Addr} {i : Nat} {x : V} (h : (as.map V.ref)[i]? = some x) : ∃ hi : i < as.length, x = V.ref as[i] := by
  have hi := (List.getElem?_eq_some_iff.mp h).1
  rw [List.length_map] at hi
  refine ⟨hi, ?_⟩
  rw [List.getElem?_map, List.getElem?_eq_getElem hi] at h
  exact (Option.some.inj h).symm
/-! ### what is no list stands while the list at o changes -/
theorem butTup {K : PySem.W.Frag} {H H' : Hp} {o a : Addr} {xs ys : List V} (e : But o H H') (ho : H o = some (.lst xs)) (h : SqT K H a ys) : SqT K H' a ys := by
  rcases h with (h | ⟨ob, h⟩) | h
  · exact .inl (.inl (e _ _ (ne_of h ho (by intro z; cases z)) h))
  · exact .inl (.inr ⟨ob, e _ _ (ne_of h ho (by intro z; cases z)) h⟩)
  · exact .inr h
section
variable {K : PySem.W.Frag} {H H' : Hp} {o : Addr} {xs : List V}
theorem TupI.but {a ns} (e : But o H H') (ho : H o = some (.lst xs)) (h : TupI K H a ns) : TupI K H' a ns := butTup e ho h
theorem DdAt.but {a d} (e : But o H H') (ho : H o = some (.lst xs)) (h : DdAt K H a d) : DdAt K H' a d := by
  obtain ⟨z, rest, h0, h1, h2⟩ := h
  refine ⟨z, rest, h0, butTup e ho h1, ?_⟩
  rcases h2 with ⟨h2, b, h3, h4⟩ | h2
  · exact .inl ⟨h2, b, h3, h4.but e ho⟩
  · exact .inr h2
theorem EvAt.but {a d} (e : But o H H') (ho : H o = some (.lst xs)) (h : EvAt K H a d) : EvAt K H' a d := by
  obtain ⟨p, q, d, r, h1, h2, h3, h4, h5⟩ := h
  exact ⟨p, q, d, r, butTup e ho h1, h2.but e ho, h3.but e ho, h4.but e ho, h5.but e ho⟩
end
/-! ### the names of deeds -/
theorem dn_first {j m : Nat} {z : Str} (h : deedNames[j]? = some z) (hm : m < j) : deedNames[m]? ≠ some z := fun e => by
  have := nd_ix dn_nodup e h
  omega
theorem dn_anew {j : Nat} {z : Str} (h : deedNames[j]? = some z) : z = "anew" ↔ j = 8 := by
  refine ⟨fun e => nd_ix dn_nodup (x := z) h (by rw [e]; rfl), fun e => ?_⟩
  subst e
  exact (Option.some.inj h).symm
theorem dn_note {j : Nat} {z : Str} (h : deedNames[j]? = some z) : z = "note" ↔ j = 0 := by
  refine ⟨fun e => nd_ix dn_nodup (x := z) h (by rw [e]; rfl), fun e => ?_⟩
  subst e
  exact (Option.some.inj h).symm
/-- a def of the text, as it stands behind the top -/
structure Df (K : PySem.W.Frag) (mg : Str → Option Value) (x : Str) (st : Stmt) (ps : List Str) (f : Addr) (fd : FuncData) : Prop where
  F : Fun K x x st f fd
  b : Binds K fd ps []
  m : mg x = some (.ref f)
/-- the built-ins that the text calls are still its own -/
structure Txt (K : PySem.W.Frag) (mg : Str → Option Value) : Prop where
  len : mg "len" = none
  str : mg "str" = none
  int : mg "int" = none
  range : mg "range" = none
  tuple : mg "tuple" = none
  list : mg "list" = none
  isinstance : mg "isinstance" = none
  bool : mg "bool" = none
  all : mg "all" = none
  min : mg "min" = none
  sum : mg "sum" = none
  enumerate : mg "enumerate" = none
  set : mg "set" = none
  sorted : mg "sorted" = none
  max : mg "max" = none
  zip : mg "zip" = none
  any : mg "any" = none
/-- the tuple of the deeds' names stands at aD -/
structure Deeds (K : PySem.W.Frag) (mg : Str → Option Value) (aD : Addr) : Prop where
  m : mg "DEEDS" = some (.ref aD)
  o : ∃ ob : Obj, K.lookup aD = some ob ∧ ob.cls = .type "tuple" ∧ ob.dict = none
  sq : ∀ H, SqT K H aD (deedNames.map V.str)

theorem vint_eq {a b : Int} (c : decide (V.int a = V.int b) = true) : a = b := by injection (of_decide_eq_true c)
theorem vint_ne {a b : Int} (c : ¬ decide (V.int a = V.int b) = true) : a ≠ b := fun e => c (decide_eq_true (by rw [e]))
theorem one_of {ns : List Int} (h : ns.length = 1) : ∃ x, ns = [x] := by
  match ns, h with
  | [x], _ => exact ⟨x, rfl⟩
theorem two_of {ns : List Int} (h : ns.length = 2) : ∃ x y, ns = [x, y] := by
  match ns, h with
  | [x, y], _ => exact ⟨x, y, rfl⟩
theorem four_of {ns : List Int} (h : ns.length = 4) : ∃ x y z u, ns = [x, y, z, u] := by
  match ns, h with
  | [x, y, z, u], _ => exact ⟨x, y, z, u, rfl⟩
theorem nt_one {a n : Int} {i : Nat} (h : [a][i]? = some n) (ha : 0 ≤ a) : 0 ≤ n := by
  match i, h with
  | 0, h => cases h; exact ha
theorem nt_two {a b n : Int} {i : Nat} (h : [a, b][i]? = some n) (ha : 0 ≤ a) (hb : 0 ≤ b) : 0 ≤ n := by
  match i, h with
  | 0, h => cases h; exact ha
  | 1, h => cases h; exact hb
theorem nt_three {a b c n : Int} {i : Nat} (h : [a, b, c][i]? = some n) (h2 : ¬ mayNeg 2 i) (ha : 0 ≤ a) (hb : 0 ≤ b) : 0 ≤ n := by
  match i, h with
  | 0, h => cases h; exact ha
  | 1, h => cases h; exact hb
  | 2, h => exact absurd (Or.inl ⟨rfl, rfl⟩) h2
end Vs

namespace Vs
open PySem PySem.Spec PyProof.Rows L2
section
variable {K : PySem.W.Frag} {H H' : Hp}
theorem tyT {a : Addr} {xs : List V} (h : SqT K H a xs) : TyX K H (.ref a) (.type "tuple") := by
  rcases h with (h | ⟨o, h⟩) | ⟨o, its, n, h, hc, _⟩
  · exact .base (.tup h)
  · exact .fTuple h
  · exact .kTuple h hc
theorem tyL {a : Addr} {xs : List V} (h : SqL K H a xs) : TyX K H (.ref a) (.type "list") := by
  rcases h with (h | ⟨o, h⟩) | ⟨o, its, n, h, hc, _⟩
  · exact .base (.lst h)
  · exact .base (.frz h)
  · exact .kList h hc
/-- both denote the same, down to depth n -/
def Sim (K : PySem.W.Frag) (H : Hp) : Nat → V → V → Prop
  | 0, _, _ => False
  | n + 1, x, y => (∃ b, x = .bl b ∧ y = .bl b) ∨ (∃ i, x = .int i ∧ y = .int i) ∨ (∃ z, x = .str z ∧ y = .str z) ∨
    (∃ a b xs ys, x = .ref a ∧ y = .ref b ∧ ((SqT K H a xs ∧ SqT K H b ys) ∨ (SqL K H a xs ∧ SqL K H b ys)) ∧ xs.length = ys.length ∧ xs.length ≤ 1000 ∧ ∀ (i : Nat) u v, xs[i]? = some u → ys[i]? = some v → Sim K H n u v)
theorem Sim.int {n : Nat} {i : Int} : Sim K H (n + 1) (.int i) (.int i) := .inr (.inl ⟨i, rfl, rfl⟩)
theorem Sim.str {n : Nat} {z : Str} : Sim K H (n + 1) (.str z) (.str z) := .inr (.inr (.inl ⟨z, rfl, rfl⟩))
theorem Sim.bl {n : Nat} {b : Bool} : Sim K H (n + 1) (.bl b) (.bl b) := .inl ⟨b, rfl, rfl⟩
theorem Sim.tup {n : Nat} {a b : Addr} {xs ys : List V} (h1 : SqT K H a xs) (h2 : SqT K H b ys) (hl : xs.length = ys.length) (hs : xs.length ≤ 1000) (h : ∀ (i : Nat) u v, xs[i]? = some u → ys[i]? = some v → Sim K H n u v) : Sim K H (n + 1) (.ref a) (.ref b) :=
  .inr (.inr (.inr ⟨a, b, xs, ys, rfl, rfl, .inl ⟨h1, h2⟩, hl, hs, h⟩))
theorem Sim.lst {n : Nat} {a b : Addr} {xs ys : List V} (h1 : SqL K H a xs) (h2 : SqL K H b ys) (hl : xs.length = ys.length) (hs : xs.length ≤ 1000) (h : ∀ (i : Nat) u v, xs[i]? = some u → ys[i]? = some v → Sim K H n u v) : Sim K H (n + 1) (.ref a) (.ref b) :=
  .inr (.inr (.inr ⟨a, b, xs, ys, rfl, rfl, .inr ⟨h1, h2⟩, hl, hs, h⟩))
theorem all_nil {R : V → V → Prop} : ∀ (i : Nat) u v, ([] : List V)[i]? = some u → ([] : List V)[i]? = some v → R u v := fun i u v h => by simp at h
theorem all_cons {R : V → V → Prop} {x y : V} {xs ys : List V} (h : R x y) (t : ∀ (i : Nat) u v, xs[i]? = some u → ys[i]? = some v → R u v) : ∀ (i : Nat) u v, (x :: xs)[i]? = some u → (y :: ys)[i]? = some v → R u v
  | 0, _, _, h1, h2 => by cases h1; cases h2; exact h
  | i + 1, u, v, h1, h2 => t i u v h1 h2
theorem all_ints {n : Nat} {ns : List Int} : ∀ (i : Nat) u v, (ns.map V.int)[i]? = some u → (ns.map V.int)[i]? = some v → Sim K H (n + 1) u v := fun i u v h1 h2 => by
  rw [h1] at h2
  cases h2
  obtain ⟨hi, rfl⟩ := int_get h1
  exact .int
theorem simI {n : Nat} {a b : Addr} {ns : List Int} (h1 : TupI K H a ns) (h2 : TupI K H b ns) (hs : ns.length ≤ 1000) : Sim K H (n + 2) (.ref a) (.ref b) := .tup h1 h2 rfl (by rw [List.length_map]; exact hs) all_ints
theorem simD {n : Nat} {a b : Addr} {d : Dd} (h1 : DdAt K H a d) (h2 : DdAt K H b d) (hk : d.Ok) : Sim K H (n + 3) (.ref a) (.ref b) := by
  have hl := hk.len
  obtain ⟨z, r, e1, t1, q1⟩ := h1
  obtain ⟨z', r', e2, t2, q2⟩ := h2
  rw [e1] at e2
  cases e2
  rcases q1 with ⟨p8, c, rfl, h1⟩ | ⟨n8, rfl⟩
  · rcases q2 with ⟨_, c', rfl, h2⟩ | ⟨n8, _⟩
    · exact .tup t1 t2 rfl (by show 2 ≤ 1000; decide) (all_cons .str (all_cons (simI h1 h2 (by omega)) all_nil))
    · exact absurd p8 n8
  · rcases q2 with ⟨p8, _⟩ | ⟨_, rfl⟩
    · exact absurd p8 n8
    · exact .tup t1 t2 rfl (by rw [List.length_cons, List.length_map]; omega) (all_cons .str all_ints)
theorem simE {n : Nat} {a b : Addr} {e : Ev} (h1 : EvAt K H a e) (h2 : EvAt K H b e) (hk : e.Ok) : Sim K H (n + 4) (.ref a) (.ref b) := by
  have k1 := hk.s1; have k2 := hk.s2; have k3 := hk.s3
  obtain ⟨p, q, d, r, t, f1, f2, f3, f4⟩ := h1
  obtain ⟨p', q', d', r', t', g1, g2, g3, g4⟩ := h2
  exact .tup t t' rfl (by show 5 ≤ 1000; decide) (all_cons .bl (all_cons (simI f1 g1 (by omega)) (all_cons (simI f2 g2 (by omega)) (all_cons (simD f3 g3 hk.d) (all_cons (simI f4 g4 (by omega)) all_nil)))))
theorem simR {n : Nat} {a b : Addr} {r : Rc} (h1 : RcAt K H a r) (h2 : RcAt K H b r) (hk : r.Ok) : Sim K H (n + 5) (.ref a) (.ref b) := by
  obtain ⟨e, t, f⟩ := h1
  obtain ⟨e', t', g⟩ := h2
  exact .tup t t' rfl (by show 3 ≤ 1000; decide) (all_cons .int (all_cons .int (all_cons (simE f g hk.e) all_nil)))
theorem simEach {α : Type} {P : Addr → α → Prop} {n : Nat} {as bs : List Addr} {xs : List α} (h1 : Each P as xs) (h2 : Each P bs xs) (h : ∀ a b x, x ∈ xs → P a x → P b x → Sim K H n (.ref a) (.ref b)) :
    ∀ (i : Nat) u v, (as.map V.ref)[i]? = some u → (bs.map V.ref)[i]? = some v → Sim K H n u v := fun i u v e1 e2 => by
  obtain ⟨i1, rfl⟩ := ref_get e1
  obtain ⟨i2, rfl⟩ := ref_get e2
  have ix : i < xs.length := by rw [← h1.1]; exact i1
  exact h _ _ xs[i] (List.getElem_mem ix) (h1.2 i _ _ (List.getElem?_eq_getElem i1) (List.getElem?_eq_getElem ix)) (h2.2 i _ _ (List.getElem?_eq_getElem i2) (List.getElem?_eq_getElem ix))
theorem simL {n : Nat} {a b : Addr} {l : Lt} (h1 : LtAt K H a l) (h2 : LtAt K H b l) (hk : l.Ok) : Sim K H (n + 7) (.ref a) (.ref b) := by
  have hl := hk.len
  obtain ⟨p, as, t, f, g⟩ := h1
  obtain ⟨p', as', t', f', g'⟩ := h2
  refine .tup t t' rfl (by show 5 ≤ 1000; decide) (all_cons .int (all_cons .int (all_cons .int (all_cons .int (all_cons ?_ all_nil)))))
  exact .tup f f' (by rw [List.length_map, List.length_map, g.1, g'.1]) (by rw [List.length_map, g.1]; omega) (simEach g g' fun a b x hx u v => simR u v (hk.rs x hx))
/-! ### what some calls ask, without the frame -/
abbrev rListOf (K : PySem.W.Frag) : List V → Hp → VK → Prop := fun xs H Q => ∃ p ys, xs = [V.ref p] ∧ (SqL K H p ys ∨ SqT K H p ys) ∧ ∀ l, H l = none → Q (.ref l) (upd H l (.lst ys))
abbrev rTupleOf (K : PySem.W.Frag) : List V → Hp → VK → Prop := fun xs H Q => ∃ p ys, xs = [V.ref p] ∧ ((SqL K H p ys ∧ ∀ l, H l = none → Q (.ref l) (upd H l (.tup ys))) ∨ (SqT K H p ys ∧ Q (.ref p) H))
abbrev rLenOf (K : PySem.W.Frag) : List V → Hp → VK → Prop := fun xs H Q => ∃ p ys, xs = [V.ref p] ∧ (SqL K H p ys ∨ SqT K H p ys) ∧ Q (.int ys.length) H
/-! ### views -/
def RowAt (K : PySem.W.Frag) (H : Hp) (a : Addr) (es : List Ev) : Prop := ∃ as, H a = some (.lst (as.map V.ref)) ∧ Each (EvAt K H) as es
def VwAt (K : PySem.W.Frag) (H : Hp) (v : Addr) (vw : List (List Ev)) : Prop := ∃ rows, H v = some (.lst (rows.map V.ref)) ∧ Each (RowAt K H) rows vw
theorem RowAt.keep {a es} (e : Same H H') (h : RowAt K H a es) : RowAt K H' a es := by
  obtain ⟨as, h1, h2⟩ := h
  exact ⟨as, e _ _ h1, h2.keep fun _ _ z => z.keep e⟩
theorem VwAt.keep {v vw} (e : Same H H') (h : VwAt K H v vw) : VwAt K H' v vw := by
  obtain ⟨as, h1, h2⟩ := h
  exact ⟨as, e _ _ h1, h2.keep fun _ _ z => z.keep e⟩
structure VwOk (vw : List (List Ev)) : Prop where
  len : vw.length ≤ 6
  sum : (vw.map List.length).sum ≤ 40
  ok : ∀ es ∈ vw, ∀ e ∈ es, e.Ok
def numEs (es : List Ev) : List Int := (es.length : Int) :: es.flatMap numE
def numV (vw : List (List Ev)) : List Int := (vw.length : Int) :: vw.flatMap numEs
theorem len_le_sum {vw : List (List Ev)} {es : List Ev} (h : es ∈ vw) : es.length ≤ (vw.map List.length).sum := by
  induction vw with
  | nil => simp at h
  | cons x r ih =>
    rw [List.map_cons, List.sum_cons]
    rcases List.mem_cons.mp h with e | h
    · rw [e]; omega
    · have := ih h; omega
theorem simRow {n : Nat} {a b : Addr} {es : List Ev} (h1 : RowAt K H a es) (h2 : RowAt K H b es) (hl : es.length ≤ 100) (hk : ∀ e ∈ es, e.Ok) : Sim K H (n + 5) (.ref a) (.ref b) := by
  obtain ⟨as, f, g⟩ := h1
  obtain ⟨as', f', g'⟩ := h2
  exact .lst (SqL.of f) (SqL.of f') (by rw [List.length_map, List.length_map, g.1, g'.1]) (by rw [List.length_map, g.1]; omega) (simEach g g' fun a b x hx u v => simE u v (hk x hx))
theorem simV {n : Nat} {a b : Addr} {vw : List (List Ev)} (h1 : VwAt K H a vw) (h2 : VwAt K H b vw) (hk : VwOk vw) : Sim K H (n + 6) (.ref a) (.ref b) := by
  have hl := hk.len
  have hs := hk.sum
  obtain ⟨as, f, g⟩ := h1
  obtain ⟨as', f', g'⟩ := h2
  exact .lst (SqL.of f) (SqL.of f') (by rw [List.length_map, List.length_map, g.1, g'.1]) (by rw [List.length_map, g.1]; omega) (simEach g g' fun a b x hx u v => simRow u v (by have := len_le_sum hx; omega) (hk.ok x hx))
end
theorem numV_len_le {vw : List (List Ev)} (h : ∀ es ∈ vw, ∀ e ∈ es, e.Ok) : (vw.flatMap numEs).length ≤ vw.length + (vw.map List.length).sum * 24 := by
  induction vw with
  | nil => exact Nat.zero_le _
  | cons x r ih =>
    have h1 := ih fun es hes => h es (List.mem_cons_of_mem _ hes)
    have h2 := flat_len (f := numE) (m := 24) (xs := x) fun e he => numE_len (h x List.mem_cons_self e he)
    rw [List.flatMap_cons, List.length_append, List.map_cons, List.sum_cons, List.length_cons]
    show ((x.length : Int) :: x.flatMap numE).length + _ ≤ _
    rw [List.length_cons]
    omega
theorem numV_len {vw : List (List Ev)} (h : VwOk vw) : (numV vw).length ≤ 967 := by
  have h1 := numV_len_le h.ok
  have h2 := h.len
  have h3 := h.sum
  unfold numV
  rw [List.length_cons]
  omega
theorem numEs_in {es : List Ev} (hl : es.length ≤ 100) (h : ∀ e ∈ es, e.Ok) : ∀ n ∈ numEs es, In18 n := by
  intro n hn
  unfold numEs at hn
  rcases List.mem_cons.mp hn with e | hn
  · rw [e]; exact In18.small (by omega)
  · obtain ⟨e, he, hn⟩ := List.mem_flatMap.mp hn
    exact numE_in (h e he) n hn
theorem numV_in {vw : List (List Ev)} (h : VwOk vw) : ∀ n ∈ numV vw, In18 n := by
  intro n hn
  have h2 := h.len
  have h3 := h.sum
  unfold numV at hn
  rcases List.mem_cons.mp hn with e | hn
  · rw [e]; exact In18.small (by omega)
  · obtain ⟨es, he, hn⟩ := List.mem_flatMap.mp hn
    exact numEs_in (by have := len_le_sum he; omega) (h.ok es he) n hn
theorem flat_take_le {α : Type} {f : α → List Int} {xs : List α} (i : Nat) : ((xs.take i).flatMap f).length ≤ (xs.flatMap f).length := by
  rw [show xs.flatMap f = (xs.take i).flatMap f ++ (xs.drop i).flatMap f by rw [← List.flatMap_append, List.take_append_drop], List.length_append]
  omega
theorem flat_take {α : Type} {f : α → List Int} {xs : List α} {i : Nat} {x : α} (h : xs[i]? = some x) : (xs.take (i + 1)).flatMap f = (xs.take i).flatMap f ++ f x := by
  rw [List.take_add_one, h, List.flatMap_append]
  show _ ++ (f x ++ []) = _
  rw [List.append_nil]
theorem flat_take_len {α : Type} {f : α → List Int} {m : Nat} {xs : List α} (h : ∀ x ∈ xs, (f x).length ≤ m) (i : Nat) : ((xs.take i).flatMap f).length ≤ i * m := by
  have h1 := flat_len (f := f) (m := m) (xs := xs.take i) fun x hx => h x (List.mem_of_mem_take hx)
  have h2 : (xs.take i).length ≤ i := by rw [List.length_take]; omega
  exact Nat.le_trans h1 (Nat.mul_le_mul_right m h2)
theorem sum_grow {vw : List (List Ev)} {j : Nat} {es : List Ev} {e : Ev} (h : vw[j]? = some es) : ((vw.set j (es ++ [e])).map List.length).sum = (vw.map List.length).sum + 1 := by
  induction vw generalizing j with
  | nil => simp at h
  | cons x r ih =>
    cases j with
    | zero =>
      cases h
      show (es ++ [e]).length + (r.map List.length).sum = es.length + (r.map List.length).sum + 1
      rw [List.length_append, List.length_singleton]
      omega
    | succ j =>
      show x.length + ((r.set j (es ++ [e])).map List.length).sum = x.length + (r.map List.length).sum + 1
      rw [ih h]
      omega
theorem cut1 (xs : List V) : cutV xs (some 1) none = xs.drop 1 := by
  unfold cutV
  rw [show HT.sIx xs.length 0 (some 1) = min 1 xs.length from HT.sIx_nat xs.length 0 1, HT.sIx_none]
  cases xs with
  | nil => rfl
  | cons x r =>
    rw [show min 1 (x :: r).length = 1 by rw [List.length_cons]; omega]
    show (List.take ((x :: r).length - 1) r) = r
    rw [List.length_cons, Nat.add_sub_cancel]
    exact List.take_length
def headL (l : Lt) : List Int := [l.s, l.r, l.k, l.n, (l.recs.length : Int)]
end Vs

namespace Vs
open PySem PySem.Spec PyProof.Rows L2
/-! ### the words of a text -/
abbrev wd (n : Int) : Str := Str.ofString (toString n)
theorem tl_pos {n : Int} (h : 0 ≤ n) : TL.tl (wd n) = TL.numL n.natAbs := by
  have e : n = ((n.natAbs : Nat) : Int) := by omega
  unfold wd
  rw [e, TL.tl_num]
  rfl
theorem tl_neg {n : Int} (h : n < 0) : TL.tl (wd n) = 45 :: TL.numL n.natAbs := by
  have e : (0 : Int) - n = ((n.natAbs : Nat) : Int) := by omega
  unfold wd
  rw [PyProof.Rows.toString_neg h, e]
  have q := TL.tl_num n.natAbs
  rw [TL.tl_ofString] at q ⊢
  rw [String.toList_append, List.map_append, q]
  rfl
theorem In18.numL {n : Int} (h : In18 n) : (TL.numL n.natAbs).length ≤ 18 := TL.numL_len (by decide) h
theorem wd_free {n : Int} {s : Nat} (h : s < 48 ∨ 57 < s) (h2 : s ≠ 45) : s ∉ TL.tl (wd n) := by
  by_cases h0 : 0 ≤ n
  · rw [tl_pos h0]
    exact TL.numL_free h
  · rw [tl_neg (by omega)]
    intro hm
    rcases List.mem_cons.mp hm with e | hm
    · exact h2 e
    · exact TL.numL_free h hm
theorem wd_int {n : Int} (h : In18 n) : intText? (wd n) = some n := by
  have hl := h.numL
  by_cases h0 : 0 ≤ n
  · have e := TL.int_num (n := n.natAbs) (by omega)
    have e2 : ((n.natAbs : Nat) : Int) = n := by omega
    rw [e2] at e
    exact e
  · have t := tl_neg (n := n) (by omega)
    have e := intText_neg (x := wd n) (cs := TL.numL n.natAbs) t (TL.numL_digits _) (TL.numL_ne _) (by rw [TL.len_tl, t, List.length_cons]; omega)
    rw [TL.numL_val] at e
    rw [e]
    congr 1
    omega
/-- the digits of the word -/
def dg (n : Int) : Str := ⟨(TL.numL n.natAbs).toArray⟩
theorem dash_tl : TL.tl (Str.ofString "-") = [45] := by decide +kernel
theorem beqD (a b : List Nat) : (a == b) = decide (a = b) := by
  by_cases h : a = b
  · rw [h, decide_eq_true rfl, beq_self_eq_true]
  · rw [decide_eq_false h, beq_false_of_ne h]
theorem rmdash (x : Str) : TL.tl (Txt.removeprefix x (Str.ofString "-")) = if (TL.tl x).take 1 = [45] then (TL.tl x).drop 1 else TL.tl x := by
  have hl : (Str.ofString "-").length = 1 := by decide +kernel
  unfold Txt.removeprefix
  have hs : Builtin.Str.subAt x (Str.ofString "-") 0 = decide ((TL.tl x).take 1 = [45]) := by
    rw [StrLaws.subAt_eq, hl, show (Str.ofString "-").cps.toList = [45] from dash_tl, List.drop_zero]
    exact beqD _ _
  by_cases h : (TL.tl x).take 1 = [45]
  · rw [hs, decide_eq_true h, if_pos rfl, if_pos h, hl]
    have h1 : 1 ≤ x.length := by
      rw [TL.len_tl]
      cases e : TL.tl x with
      | nil => rw [e] at h; cases h
      | cons a r => rw [List.length_cons]; omega
    unfold Txt.affix
    show TL.tl (if (x.length - 1 == x.length) = true then x else _) = _
    rw [if_neg (by rw [beq_iff_eq]; omega)]
    exact TL.tl_strSub_end x 1
  · rw [hs, decide_eq_false h, if_neg Bool.false_ne_true, if_neg h]
    rfl
theorem zero_tl : TL.tl (Str.ofString "0") = [48] := by decide +kernel
theorem starts0 (x : Str) : Txt.startswith x (Str.ofString "0") = decide ((TL.tl x).take 1 = [48]) := by
  have hl : (Str.ofString "0").length = 1 := by decide +kernel
  unfold Txt.startswith
  rw [StrLaws.subAt_eq, hl, show (Str.ofString "0").cps.toList = [48] from zero_tl, List.drop_zero]
  have e : ((TL.tl x).take 1 == [48]) = decide ((TL.tl x).take 1 = [48]) := beqD _ _
  rw [show List.take 1 x.cps.toList = (TL.tl x).take 1 from rfl, e]
  by_cases h : (TL.tl x).take 1 = [48]
  · have h1 : 1 ≤ x.length := by
      rw [TL.len_tl]
      cases e : TL.tl x with
      | nil => rw [e] at h; cases h
      | cons a r => rw [List.length_cons]; omega
    rw [decide_eq_true h, decide_eq_true (by omega : 0 + 1 ≤ x.length)]
    rfl
  · rw [decide_eq_false h, Bool.and_false]
theorem digit_ascii : ∀ c : Nat, c < 128 → Unicode.isDigit c = (decide (48 ≤ c) && decide (c ≤ 57)) := by decide +kernel
theorem numL_lead {n : Nat} (h : 0 < n) : (TL.numL n).take 1 ≠ [48] := by
  induction n using Nat.strongRecOn with
  | _ n ih =>
    by_cases h1 : n < 10
    · rw [TL.numL_lt h1]
      intro e
      have := List.cons.inj e
      omega
    · rw [TL.numL_step (by omega)]
      have h2 := ih (n / 10) (by omega) (by omega)
      have h3 := TL.numL_ne (n / 10)
      rw [List.take_append_of_le_length (by cases e : TL.numL (n / 10) with | nil => exact absurd e h3 | cons a r => rw [List.length_cons]; omega)]
      exact h2
/-- what is_integer tells of a word -/
def isIntW (z : Str) (m : Int) : Bool :=
  if (!(Txt.isascii (Txt.removeprefix z (Str.ofString "-")) && Txt.isdigit (Txt.removeprefix z (Str.ofString "-"))) || decide (((Txt.removeprefix z (Str.ofString "-")).length : Int) > m)) = true then false
  else (decide (z = Str.ofString "0") || !Txt.startswith (Txt.removeprefix z (Str.ofString "-")) (Str.ofString "0"))
theorem ascii_of {x : Str} (h : NumText.AllDigits (TL.tl x)) (hn : TL.tl x ≠ []) : Txt.isascii x = true ∧ Txt.isdigit x = true := by
  have e1 : x.cps.all (fun c => decide (c < 128)) = (TL.tl x).all (fun c => decide (c < 128)) := (Array.all_toList ..).symm
  have e2 : x.cps.all Unicode.isDigit = (TL.tl x).all Unicode.isDigit := (Array.all_toList ..).symm
  refine ⟨?_, ?_⟩
  · show x.cps.all (fun c => decide (c < 128)) = true
    rw [e1, List.all_eq_true]
    intro c hc
    have := h c hc
    exact decide_eq_true (by omega)
  · unfold Txt.isdigit
    rw [e2, Bool.and_eq_true]
    refine ⟨decide_eq_true (by rw [TL.len_tl]; exact List.length_pos_iff.mpr hn), ?_⟩
    rw [List.all_eq_true]
    intro c hc
    have h1 := h c hc
    rw [digit_ascii c (by omega), decide_eq_true h1.1, decide_eq_true h1.2]
    rfl
theorem wd_digits {n : Int} : TL.tl (Txt.removeprefix (wd n) (Str.ofString "-")) = TL.numL n.natAbs := by
  rw [rmdash]
  by_cases h0 : 0 ≤ n
  · rw [tl_pos h0, if_neg]
    intro e
    have h1 : 45 ∈ TL.numL n.natAbs := List.mem_of_mem_take (by rw [e]; exact List.mem_singleton_self 45)
    exact TL.numL_free (by omega) h1
  · rw [tl_neg (by omega), if_pos (by rfl)]
    rfl
theorem wd_zero : wd 0 = Str.ofString "0" := by decide +kernel
theorem wd_isInt {n m : Int} (h : In18 n) (hm : 18 ≤ m) : isIntW (wd n) m = true := by
  have hd := wd_digits (n := n)
  have hl := h.numL
  have ha := ascii_of (x := Txt.removeprefix (wd n) (Str.ofString "-")) (by rw [hd]; exact TL.numL_digits _) (by rw [hd]; exact TL.numL_ne _)
  unfold isIntW
  rw [ha.1, ha.2, decide_eq_false (by rw [TL.len_tl, hd]; omega)]
  show (decide (wd n = Str.ofString "0") || _) = true
  by_cases h0 : n = 0
  · rw [h0, decide_eq_true wd_zero]
    rfl
  · rw [starts0, hd, decide_eq_false (numL_lead (by omega))]
    exact Bool.or_true _
theorem wd_len {n : Int} (h : In18 n) : (wd n).length ≤ 19 := word_len h
/-! ### the lines and words of a text -/
theorem nl_tl : TL.tl (Str.ofString "\n") = [10] := by decide +kernel
theorem blank_tl : TL.tl (Str.ofString " ") = [32] := by decide +kernel
theorem joinL_free {s : Nat} {S : List Nat} (hs : s ∉ S) : ∀ {ps : List (List Nat)}, (∀ p ∈ ps, s ∉ p) → s ∉ TL.joinL S ps
  | [], _ => by show s ∉ ([] : List Nat); simp
  | [p], h => h p List.mem_cons_self
  | p :: q :: r, h => by
    have h1 := joinL_free hs (ps := q :: r) fun z hz => h z (List.mem_cons_of_mem _ hz)
    intro hm
    rcases List.mem_append.mp hm with hm | hm
    · exact h p List.mem_cons_self hm
    · rcases List.mem_append.mp hm with hm | hm
      · exact hs hm
      · exact h1 hm
theorem joined_free {ns : List Int} : (10 : Nat) ∉ TL.tl (Txt.join (Str.ofString " ") (words ns)) := by
  rw [TL.join_eq, TL.tl_join]
  refine joinL_free (by rw [blank_tl]; decide) fun p hp => ?_
  obtain ⟨z, hz, rfl⟩ := List.mem_map.mp hp
  obtain ⟨n, _, rfl⟩ := List.mem_map.mp hz
  exact wd_free (n := n) (by omega) (by omega)
theorem text_join (hd : Str) (ns : List Int) : textOf hd ns = Txt.join (Str.ofString "\n") [hd, Txt.join (Str.ofString " ") (words ns), Str.ofString ""] := by
  apply TL.ext_tl
  rw [TL.join_eq, TL.tl_join]
  unfold textOf
  rw [TL.tl_append, TL.tl_append, TL.tl_append]
  show _ = TL.tl hd ++ (TL.tl (Str.ofString "\n") ++ (TL.tl (Txt.join (Str.ofString " ") (words ns)) ++ (TL.tl (Str.ofString "\n") ++ [])))
  simp only [List.append_assoc, List.append_nil]
theorem text_split {hd : Str} {ns : List Int} (h : (10 : Nat) ∉ TL.tl hd) : Txt.split (textOf hd ns) (Str.ofString "\n") = [hd, Txt.join (Str.ofString " ") (words ns), Str.ofString ""] := by
  rw [text_join]
  refine TL.split_join (s := 10) (S := []) nl_tl (by decide +kernel) (by simp) fun p hp => ?_
  simp only [List.mem_cons, List.not_mem_nil, or_false] at hp
  rcases hp with rfl | rfl | rfl
  · exact h
  · exact joined_free
  · decide +kernel
theorem words_split {ns : List Int} (h : ns ≠ []) : Txt.split (Txt.join (Str.ofString " ") (words ns)) (Str.ofString " ") = words ns := by
  refine TL.split_join (s := 32) (S := []) blank_tl (by decide +kernel) (by unfold words; simpa using h) fun p hp => ?_
  obtain ⟨n, _, rfl⟩ := List.mem_map.mp hp
  exact wd_free (n := n) (by omega) (by omega)
theorem text_len {hd : Str} {ns : List Int} (h : ∀ n ∈ ns, In18 n) : (textOf hd ns).length ≤ hd.length + ns.length * 20 + 2 := by
  have h1 := joined_len h
  unfold textOf
  rw [Str.length_append, Str.length_append, Str.length_append, nl_len]
  omega
/-! ### methods of a class -/
structure Mt (K : PySem.W.Frag) (C : Addr) (x qual : Str) (st : Stmt) (ps : List Str) (f : Addr) (fd : FuncData) : Prop where
  F : Fun K x qual st f fd
  b : Binds K fd ps []
  m : Meth K C x f
/-! ### a Taker -/
structure Tk (K : PySem.W.Frag) (mg : Str → Option Value) (C : Addr) : Prop where
  cl : Cls K C
  nI : NoAttr K C "integers"
  nT : NoAttr K C "taken"
  mg : mg "Taker" = some (.ref C)
theorem kit : ¬ (("integers" : Str) = "taken") := by decide +kernel
/-- its attributes -/
def tf (l : Addr) (i : Int) : List (Str × V) := putF "taken" (.int i) (putF "integers" (.ref l) [])
theorem tf_eq (l : Addr) (i : Int) : tf l i = ([("integers", V.ref l), ("taken", V.int i)] : List (Str × V)) := by
  show (if ("integers" : Str) = "taken" then [(("integers" : Str), V.int i)] else (("integers" : Str), V.ref l) :: putF "taken" (V.int i) []) = ([("integers", V.ref l), ("taken", V.int i)] : List (Str × V))
  rw [if_neg kit]
  rfl
theorem tf_int (l : Addr) (i : Int) : (tf l i).lookup ("integers" : Str) = some (.ref l) := by
  unfold tf
  rw [lookup_putF, if_neg kit, lookup_putF, if_pos rfl]
theorem tf_tak (l : Addr) (i : Int) : (tf l i).lookup ("taken" : Str) = some (.int i) := by
  unfold tf
  rw [lookup_putF, if_pos rfl]
theorem tf_no (l : Addr) (i : Int) {m : Str} (h1 : ¬ m = "taken") (h2 : ¬ m = "integers") : (tf l i).lookup m = none := by
  unfold tf
  rw [lookup_putF, if_neg h1, lookup_putF, if_neg h2]
  rfl
theorem tf_put (l : Addr) (i j : Int) : putF "taken" (.int j) (tf l i) = tf l j := by
  rw [tf_eq, tf_eq]
  show (if ("integers" : Str) = "taken" then _ else (("integers" : Str), V.ref l) :: (if ("taken" : Str) = "taken" then [(("taken" : Str), V.int j)] else _)) = ([("integers", V.ref l), ("taken", V.int j)] : List (Str × V))
  rw [if_neg kit, if_pos rfl]
/-- a Taker at p, its list at l, with these integers left -/
def TkAt (C : Addr) (H : Hp) (p l : Addr) (rest : List Int) : Prop := ∃ (dx : Addr) (ns : List Int) (i : Nat), H p = some (.ins C dx (tf l (i : Int))) ∧ H l = some (.lst (ns.map V.int)) ∧ i ≤ ns.length ∧ ns.length ≤ 1000 ∧ ns.drop i = rest
theorem TkAt.keep {C : Addr} {H H' : Hp} {p l : Addr} {rest : List Int} (e : Same H H') (h : TkAt C H p l rest) : TkAt C H' p l rest := by
  obtain ⟨dx, ns, i, h1, h2, h3⟩ := h
  exact ⟨dx, ns, i, e _ _ h1, e _ _ h2, h3⟩
theorem TkAt.but {C o : Addr} {H H' : Hp} {p l : Addr} {rest : List Int} (e : But o H H') (hp : o ≠ p) (hl : o ≠ l) (h : TkAt C H p l rest) : TkAt C H' p l rest := by
  obtain ⟨dx, ns, i, h1, h2, h3⟩ := h
  exact ⟨dx, ns, i, e _ _ hp.symm h1, e _ _ hl.symm h2, h3⟩
theorem TkAt.len {C : Addr} {H : Hp} {p l : Addr} {rest : List Int} (h : TkAt C H p l rest) : rest.length ≤ 1000 := by
  obtain ⟨dx, ns, i, h1, h2, h3, h4, rfl⟩ := h
  rw [List.length_drop]
  omega
/-! ### what stands while an instance changes -/
theorem insTup {C dx : Addr} {fs : List (Str × V)} {K : PySem.W.Frag} {H H' : Hp} {o a : Addr} {ys : List V} (e : But o H H') (ho : H o = some (.ins C dx fs)) (h : SqT K H a ys) : SqT K H' a ys := by
  rcases h with (h | ⟨ob, h⟩) | h
  · exact .inl (.inl (e _ _ (ne_of h ho (by intro z; cases z)) h))
  · exact .inl (.inr ⟨ob, e _ _ (ne_of h ho (by intro z; cases z)) h⟩)
  · exact .inr h
section
variable {K : PySem.W.Frag} {H H' : Hp} {o : Addr} {C dx : Addr} {fs : List (Str × V)}
theorem TupI.ins {a ns} (e : But o H H') (ho : H o = some (.ins C dx fs)) (h : TupI K H a ns) : TupI K H' a ns := insTup e ho h
theorem DdAt.ins {a d} (e : But o H H') (ho : H o = some (.ins C dx fs)) (h : DdAt K H a d) : DdAt K H' a d := by
  obtain ⟨z, rest, h0, h1, h2⟩ := h
  refine ⟨z, rest, h0, insTup e ho h1, ?_⟩
  rcases h2 with ⟨h2, b, h3, h4⟩ | h2
  · exact .inl ⟨h2, b, h3, h4.ins e ho⟩
  · exact .inr h2
theorem EvAt.ins {a d} (e : But o H H') (ho : H o = some (.ins C dx fs)) (h : EvAt K H a d) : EvAt K H' a d := by
  obtain ⟨p, q, d, r, h1, h2, h3, h4, h5⟩ := h
  exact ⟨p, q, d, r, insTup e ho h1, h2.ins e ho, h3.ins e ho, h4.ins e ho, h5.ins e ho⟩
theorem RcAt.ins {a d} (e : But o H H') (ho : H o = some (.ins C dx fs)) (h : RcAt K H a d) : RcAt K H' a d := by
  obtain ⟨p, h1, h2⟩ := h
  exact ⟨p, insTup e ho h1, h2.ins e ho⟩
theorem RcAt.but {xs : List V} {a d} (e : But o H H') (ho : H o = some (.lst xs)) (h : RcAt K H a d) : RcAt K H' a d := by
  obtain ⟨p, h1, h2⟩ := h
  exact ⟨p, butTup e ho h1, h2.but e ho⟩
end
theorem inTk {C p l : Addr} {H : Hp} {rs : List Int} (h : TkAt C H p l rs) : ∃ dx i, H p = some (.ins C dx (tf l i)) := by
  obtain ⟨dx, _, i, h, _⟩ := h
  exact ⟨dx, _, h⟩
theorem lsTk {C p l : Addr} {H : Hp} {rs : List Int} (h : TkAt C H p l rs) : ∃ xs, H l = some (.lst xs) := by
  obtain ⟨dx, _, i, _, h, _⟩ := h
  exact ⟨_, h⟩
theorem evs_len_le : ∀ rs : List Ev, rs.length ≤ (rs.flatMap numE).length
  | [] => Nat.zero_le _
  | a :: r => by
    have ih := evs_len_le r
    rw [List.flatMap_cons, List.length_append, List.length_cons]
    have : 1 ≤ (numE a).length := by unfold numE; simp only [List.length_append, List.length_cons]; omega
    omega
theorem rows_len_le : ∀ rs : List (List Ev), rs.length ≤ (rs.flatMap numEs).length
  | [] => Nat.zero_le _
  | a :: r => by
    have ih := rows_len_le r
    rw [List.flatMap_cons, List.length_append, List.length_cons]
    have : 1 ≤ (numEs a).length := by unfold numEs; rw [List.length_cons]; omega
    omega
end Vs

namespace Vs
open PySem PySem.Spec PyProof.Rows L2
/-! ### == and != of data, whatever its texts -/
section
variable {X : Cx}
def rEqP (K : PySem.W.Frag) : R2 := fun x y H Q => ∃ d e, Dp K H x d ∧ Dp K H y e ∧ d.plain = true ∧ e.plain = true ∧ d.depth ≤ 64 ∧ Q (.bl (PyData.eqv d e)) H
def rNeP (K : PySem.W.Frag) : R2 := fun x y H Q => ∃ d e, Dp K H x d ∧ Dp K H y e ∧ d.plain = true ∧ e.plain = true ∧ d.depth ≤ 64 ∧ Q (.bl (!PyData.eqv d e)) H
theorem op_eqP (hu : X.A.units + 64 < cLine) : OpR X (compareOp .Eq) (rEqP X.K) := by
  intro pins s σ H x y v u Q I rx ry h
  obtain ⟨d, e, hd, he, sd, se, hz, q⟩ := h
  obtain ⟨as, r1⟩ := Dp.reads I d x v hd rx
  obtain ⟨bs, r2⟩ := Dp.reads I e y u he ry
  exact SeqAt.eq_plain r1 r2 sd se (Nat.lt_of_le_of_lt (Nat.add_le_add_left (Nat.le_trans (Nat.min_le_left _ _) hz) _) hu) ⟨.bl _, H, I, rfl, q⟩
theorem op_neP (hu : X.A.units + 64 < cLine) : OpR X (compareOp .NotEq) (rNeP X.K) := by
  intro pins s σ H x y v u Q I rx ry h
  obtain ⟨d, e, hd, he, sd, se, hz, q⟩ := h
  obtain ⟨as, r1⟩ := Dp.reads I d x v hd rx
  obtain ⟨bs, r2⟩ := Dp.reads I e y u he ry
  exact SeqAt.ne_plain r1 r2 sd se (Nat.lt_of_le_of_lt (Nat.add_le_add_left (Nat.le_trans (Nat.min_le_left _ _) hz) _) hu) ⟨.bl _, H, I, rfl, q⟩
end
theorem strs_all {K : PySem.W.Frag} {H : Hp} : ∀ ss : List Str, DpAll K H (ss.map V.str) (ss.map PyData.str)
  | [] => .nil
  | s :: r => .cons (.str s) (strs_all r)
theorem strs_dp {K : PySem.W.Frag} {H : Hp} {a : Addr} {ss : List Str} (h : SqL K H a (ss.map V.str)) : Dp K H (.ref a) (.list (ss.map PyData.str)) := .lst h (strs_all ss)
theorem strs_plain : ∀ ss : List Str, PyData.plainAll (ss.map PyData.str) = true
  | [] => rfl
  | s :: r => by
    show (true && PyData.plainAll (r.map PyData.str)) = true
    rw [strs_plain r]
    rfl
theorem strs_depth : ∀ ss : List Str, PyData.depthAll (ss.map PyData.str) ≤ 1
  | [] => Nat.zero_le _
  | s :: r => by
    show max (PyData.depth (PyData.str s)) (PyData.depthAll (r.map PyData.str)) ≤ 1
    have := strs_depth r
    have h : PyData.depth (PyData.str s) ≤ 1 := by simp [PyData.depth]
    omega
theorem strl_plain (ss : List Str) : (PyData.list (ss.map PyData.str)).plain = true := strs_plain ss
theorem strl_depth (ss : List Str) : (PyData.list (ss.map PyData.str)).depth ≤ 64 := by
  have := strs_depth ss
  simp only [PyData.depth]
  omega
end Vs

namespace Vs
open PySem PySem.Spec PyProof.Rows L2
/-! ### data, and when two of them are the same to the sign -/
inductive DV where
  | bl (b : Bool)
  | int (i : Int)
  | str (z : Str)
  | tup (xs : List DV)
  | lst (xs : List DV)
mutual
def sameV : DV → DV → Bool
  | .bl a, .bl b => a == b
  | .int a, .int b => a == b
  | .str a, .str b => a == b
  | .tup xs, .tup ys => sameVL xs ys
  | .lst xs, .lst ys => sameVL xs ys
  | .bl _, .int _ | .bl _, .str _ | .bl _, .tup _ | .bl _, .lst _ => false
  | .int _, .bl _ | .int _, .str _ | .int _, .tup _ | .int _, .lst _ => false
  | .str _, .bl _ | .str _, .int _ | .str _, .tup _ | .str _, .lst _ => false
  | .tup _, .bl _ | .tup _, .int _ | .tup _, .str _ | .tup _, .lst _ => false
  | .lst _, .bl _ | .lst _, .int _ | .lst _, .str _ | .lst _, .tup _ => false
def sameVL : List DV → List DV → Bool
  | [], [] => true
  | x :: xs, y :: ys => sameV x y && sameVL xs ys
  | [], _ :: _ => false
  | _ :: _, [] => false
end
mutual
def depV : DV → Nat
  | .tup xs | .lst xs => depVL xs + 1
  | .bl _ | .int _ | .str _ => 1
def depVL : List DV → Nat
  | [] => 0
  | x :: xs => max (depV x) (depVL xs)
end
mutual
def Den (K : PySem.W.Frag) (H : Hp) : DV → V → Prop
  | .bl b, v => v = .bl b
  | .int i, v => v = .int i
  | .str z, v => v = .str z
  | .tup xs, v => ∃ a vs, v = .ref a ∧ SqT K H a vs ∧ vs.length ≤ 1000 ∧ DenL K H xs vs
  | .lst xs, v => ∃ a vs, v = .ref a ∧ SqL K H a vs ∧ vs.length ≤ 1000 ∧ DenL K H xs vs
def DenL (K : PySem.W.Frag) (H : Hp) : List DV → List V → Prop
  | [], vs => vs = []
  | d :: ds, vs => ∃ v r, vs = v :: r ∧ Den K H d v ∧ DenL K H ds r
end
mutual
theorem sameV_eq : ∀ d e : DV, sameV d e = true → d = e
  | .bl a, .bl b, h => by simp [sameV] at h; rw [h]
  | .int a, .int b, h => by simp [sameV] at h; rw [h]
  | .str a, .str b, h => by simp [sameV] at h; rw [h]
  | .tup xs, .tup ys, h => by rw [sameVL_eq xs ys (by simpa [sameV] using h)]
  | .lst xs, .lst ys, h => by rw [sameVL_eq xs ys (by simpa [sameV] using h)]
  | .bl _, .int _, h | .bl _, .str _, h | .bl _, .tup _, h | .bl _, .lst _, h => by simp [sameV] at h
  | .int _, .bl _, h | .int _, .str _, h | .int _, .tup _, h | .int _, .lst _, h => by simp [sameV] at h
  | .str _, .bl _, h | .str _, .int _, h | .str _, .tup _, h | .str _, .lst _, h => by simp [sameV] at h
  | .tup _, .bl _, h | .tup _, .int _, h | .tup _, .str _, h | .tup _, .lst _, h => by simp [sameV] at h
  | .lst _, .bl _, h | .lst _, .int _, h | .lst _, .str _, h | .lst _, .tup _, h => by simp [sameV] at h
theorem sameVL_eq : ∀ d e : List DV, sameVL d e = true → d = e
  | [], [], _ => rfl
  | x :: xs, y :: ys, h => by
    have h' : sameV x y = true ∧ sameVL xs ys = true := by simpa [sameVL] using h
    rw [sameV_eq x y h'.1, sameVL_eq xs ys h'.2]
  | [], _ :: _, h => by simp [sameVL] at h
  | _ :: _, [], h => by simp [sameVL] at h
end
mutual
theorem sameV_refl : ∀ d : DV, sameV d d = true
  | .bl a => by simp [sameV]
  | .int a => by simp [sameV]
  | .str a => by simp [sameV]
  | .tup xs => by rw [sameV]; exact sameVL_refl xs
  | .lst xs => by rw [sameV]; exact sameVL_refl xs
theorem sameVL_refl : ∀ d : List DV, sameVL d d = true
  | [] => by simp [sameVL]
  | x :: xs => by rw [sameVL, sameV_refl x, sameVL_refl xs]; rfl
end
theorem sameVL_at : ∀ {xs ys : List DV}, xs.length = ys.length → (∀ (i : Nat) x y, xs[i]? = some x → ys[i]? = some y → sameV x y = true) → sameVL xs ys = true
  | [], [], _, _ => by simp [sameVL]
  | x :: xs, y :: ys, hl, h => by
    rw [sameVL, h 0 x y rfl rfl, sameVL_at (Nat.succ.inj hl) fun i u v h1 h2 => h (i + 1) u v h1 h2]
    rfl
theorem sameVL_len : ∀ {xs ys : List DV}, xs.length ≠ ys.length → sameVL xs ys = false
  | [], [], h => absurd rfl h
  | x :: xs, y :: ys, h => by
    rw [sameVL, sameVL_len fun e => h (by rw [List.length_cons, List.length_cons, e]), Bool.and_false]
  | [], _ :: _, _ => by simp [sameVL]
  | _ :: _, [], _ => by simp [sameVL]
theorem sameVL_no : ∀ {xs ys : List DV} {i : Nat} {x y : DV}, xs[i]? = some x → ys[i]? = some y → sameV x y = false → sameVL xs ys = false
  | x :: xs, y :: ys, 0, _, _, h1, h2, h => by
    cases h1
    cases h2
    rw [sameVL, h]
    rfl
  | x :: xs, y :: ys, i + 1, u, v, h1, h2, h => by
    rw [sameVL, sameVL_no (i := i) h1 h2 h, Bool.and_false]
  | [], _, _, _, _, h1, _, _ => by simp at h1
  | _ :: _, [], _, _, _, _, h2, _ => by simp at h2
theorem depVL_at : ∀ {xs : List DV} {i : Nat} {x : DV}, xs[i]? = some x → depV x ≤ depVL xs
  | x :: xs, 0, _, h => by cases h; rw [depVL]; omega
  | x :: xs, i + 1, u, h => by
    have := depVL_at (xs := xs) (i := i) h
    rw [depVL]
    omega
  | [], _, _, h => by simp at h
section
variable {K : PySem.W.Frag} {H H' : Hp}
theorem DenL.len : ∀ {ds : List DV} {vs : List V}, DenL K H ds vs → vs.length = ds.length
  | [], _, h => by rw [DenL] at h; rw [h]; rfl
  | d :: ds, _, h => by
    rw [DenL] at h
    obtain ⟨v, r, rfl, _, h2⟩ := h
    rw [List.length_cons, List.length_cons, DenL.len h2]
theorem DenL.get : ∀ {ds : List DV} {vs : List V} {i : Nat} {d : DV}, DenL K H ds vs → ds[i]? = some d → ∃ v, vs[i]? = some v ∧ Den K H d v
  | d :: ds, _, 0, _, h, hi => by
    rw [DenL] at h
    obtain ⟨v, r, rfl, h1, _⟩ := h
    cases hi
    exact ⟨v, rfl, h1⟩
  | d :: ds, _, i + 1, e, h, hi => by
    rw [DenL] at h
    obtain ⟨v, r, rfl, _, h2⟩ := h
    exact DenL.get (i := i) h2 hi
  | [], _, _, _, _, hi => by simp at hi
theorem DenL.ints : ∀ {ns : List Int}, DenL K H (ns.map DV.int) (ns.map V.int)
  | [] => by rw [List.map_nil, DenL]; rfl
  | n :: r => by
    rw [List.map_cons, DenL]
    exact ⟨_, _, rfl, by rw [Den], DenL.ints⟩
theorem DenL.refs {α : Type} {P : Addr → α → Prop} {f : α → DV} (h : ∀ a x, P a x → Den K H (f x) (.ref a)) : ∀ {as : List Addr} {xs : List α}, Each P as xs → DenL K H (xs.map f) (as.map V.ref)
  | [], [], _ => by rw [List.map_nil, DenL]; rfl
  | a :: as, x :: xs, e => by
    rw [List.map_cons, DenL]
    exact ⟨_, _, rfl, h a x (e.2 0 a x rfl rfl), DenL.refs h ⟨Nat.succ.inj e.1, fun i b y h1 h2 => e.2 (i + 1) b y h1 h2⟩⟩
  | [], _ :: _, e => absurd e.1 (by simp)
  | _ :: _, [], e => absurd e.1 (by simp)
/-- the name of its type -/
def tyN : DV → String
  | .bl _ => "bool"
  | .int _ => "int"
  | .str _ => "str"
  | .tup _ => "tuple"
  | .lst _ => "list"
theorem Den.ty {d : DV} {v : V} (h : Den K H d v) : TyX K H v (.type (tyN d)) := by
  cases d with
  | bl b => rw [Den] at h; rw [h]; exact .base (.bl _)
  | int b => rw [Den] at h; rw [h]; exact .base (.int _)
  | str b => rw [Den] at h; rw [h]; exact .base (.str _)
  | tup xs => rw [Den] at h; obtain ⟨a, vs, rfl, h1, _⟩ := h; exact tyT h1
  | lst xs => rw [Den] at h; obtain ⟨a, vs, rfl, h1, _⟩ := h; exact tyL h1
theorem Den.int_ {i : Int} : Den K H (.int i) (.int i) := by rw [Den]
theorem Den.bl_ {i : Bool} : Den K H (.bl i) (.bl i) := by rw [Den]
theorem Den.str_ {i : Str} : Den K H (.str i) (.str i) := by rw [Den]
theorem Den.tup_ {a : Addr} {vs : List V} {ds : List DV} (h : SqT K H a vs) (hl : vs.length ≤ 1000) (e : DenL K H ds vs) : Den K H (.tup ds) (.ref a) := by rw [Den]; exact ⟨a, vs, rfl, h, hl, e⟩
theorem DenL.nil_ : DenL K H [] [] := by rw [DenL]
theorem DenL.cons_ {d : DV} {ds : List DV} {v : V} {vs : List V} (h : Den K H d v) (t : DenL K H ds vs) : DenL K H (d :: ds) (v :: vs) := by rw [DenL]; exact ⟨_, _, rfl, h, t⟩
/-! ### a letter as data -/
def dvI (ns : List Int) : DV := .tup (ns.map DV.int)
def dvD (d : Dd) : DV := .tup (.str (deedNames.getD d.place Str.empty) :: (if d.place = 8 then [dvI d.nums] else d.nums.map DV.int))
def dvE (e : Ev) : DV := .tup [.bl e.asleep, dvI e.shown, dvI e.after, dvD e.deed, dvI e.knows]
def dvR (r : Rc) : DV := .tup [.int r.dev, .int r.num, dvE r.ev]
def dvL (l : Lt) : DV := .tup [.int l.s, .int l.r, .int l.k, .int l.n, .tup (l.recs.map dvR)]
theorem denI {a ns} (h : TupI K H a ns) (hl : ns.length ≤ 1000) : Den K H (dvI ns) (.ref a) := Den.tup_ h (by rw [List.length_map]; exact hl) DenL.ints
theorem denD {a d} (h : DdAt K H a d) (hk : d.Ok) : Den K H (dvD d) (.ref a) := by
  have hl := hk.len
  obtain ⟨z, r, e, t, q⟩ := h
  have ez : deedNames.getD d.place Str.empty = z := by rw [List.getD_eq_getElem?_getD, e]; rfl
  unfold dvD
  rw [ez]
  rcases q with ⟨p8, b, rfl, h2⟩ | ⟨n8, rfl⟩
  · rw [if_pos p8]
    exact Den.tup_ t (by show 2 ≤ 1000; decide) (DenL.cons_ Den.str_ (DenL.cons_ (denI h2 (by omega)) DenL.nil_))
  · rw [if_neg n8]
    exact Den.tup_ t (by rw [List.length_cons, List.length_map]; omega) (DenL.cons_ Den.str_ DenL.ints)
theorem denE {a e} (h : EvAt K H a e) (hk : e.Ok) : Den K H (dvE e) (.ref a) := by
  have k1 := hk.s1; have k2 := hk.s2; have k3 := hk.s3
  obtain ⟨p, q, d, r, t, f1, f2, f3, f4⟩ := h
  exact Den.tup_ t (by show 5 ≤ 1000; decide) (DenL.cons_ Den.bl_ (DenL.cons_ (denI f1 (by omega)) (DenL.cons_ (denI f2 (by omega)) (DenL.cons_ (denD f3 hk.d) (DenL.cons_ (denI f4 (by omega)) DenL.nil_)))))
theorem denR {a r} (h : RcAt K H a r) (hk : r.Ok) : Den K H (dvR r) (.ref a) := by
  obtain ⟨e, t, f⟩ := h
  exact Den.tup_ t (by show 3 ≤ 1000; decide) (DenL.cons_ Den.int_ (DenL.cons_ Den.int_ (DenL.cons_ (denE f hk.e) DenL.nil_)))
theorem denL {a l} (h : LtAt K H a l) (hk : l.Ok) : Den K H (dvL l) (.ref a) := by
  have hl := hk.len
  obtain ⟨b, as, t, f, g⟩ := h
  refine Den.tup_ t (by show 5 ≤ 1000; decide) (DenL.cons_ Den.int_ (DenL.cons_ Den.int_ (DenL.cons_ Den.int_ (DenL.cons_ Den.int_ (DenL.cons_ (Den.tup_ f (by rw [List.length_map, g.1]; omega) ?_) DenL.nil_)))))
  exact DenL.refs (P := fun a r => RcAt K H a r ∧ r.Ok) (fun a r h => denR h.1 h.2) ⟨g.1, fun i b y h1 h2 => ⟨g.2 i b y h1 h2, hk.rs y (List.mem_of_getElem? h2)⟩⟩
end
theorem int_inj {as bs : List Int} (h : as.map DV.int = bs.map DV.int) : as = bs := by
  induction as generalizing bs with
  | nil =>
    cases bs with
    | nil => rfl
    | cons b r => simp at h
  | cons a r ih =>
    cases bs with
    | nil => simp at h
    | cons b s =>
      rw [List.map_cons, List.map_cons] at h
      injection h with h1 h2
      injection h1 with h1
      rw [h1, ih h2]
theorem dvI_inj {as bs : List Int} (h : dvI as = dvI bs) : as = bs := by
  unfold dvI at h
  injection h with h
  exact int_inj h
theorem dvD_inj {a b : Dd} (ha : a.place < 9) (hb : b.place < 9) (h : dvD a = dvD b) : a = b := by
  unfold dvD at h
  injection h with h
  injection h with h1 h2
  injection h1 with h1
  have e1 : deedNames[a.place]? = some (deedNames.getD a.place Str.empty) := by rw [List.getD_eq_getElem?_getD, List.getElem?_eq_getElem (by rw [dn_len]; exact ha)]; rfl
  have e2 : deedNames[b.place]? = some (deedNames.getD b.place Str.empty) := by rw [List.getD_eq_getElem?_getD, List.getElem?_eq_getElem (by rw [dn_len]; exact hb)]; rfl
  rw [h1] at e1
  have hp := nd_ix dn_nodup e1 e2
  have hn : a.nums = b.nums := by
    by_cases h8 : b.place = 8
    · rw [if_pos (hp.trans h8), if_pos h8] at h2
      injection h2 with h2
      exact dvI_inj h2
    · rw [if_neg (fun e => h8 (hp ▸ e)), if_neg h8] at h2
      exact int_inj h2
  cases a; cases b
  simp only at hp hn
  rw [hp, hn]
theorem dvE_inj {a b : Ev} (ha : a.Ok) (hb : b.Ok) (h : dvE a = dvE b) : a = b := by
  unfold dvE at h
  injection h with h
  injection h with h1 h
  injection h with h2 h
  injection h with h3 h
  injection h with h4 h
  injection h with h5 h
  injection h1 with h1
  have e2 := dvI_inj h2
  have e3 := dvI_inj h3
  have e4 := dvD_inj ha.d.pl hb.d.pl h4
  have e5 := dvI_inj h5
  cases a; cases b
  simp only at h1 e2 e3 e4 e5
  rw [h1, e2, e3, e4, e5]
theorem dvR_inj {a b : Rc} (ha : a.Ok) (hb : b.Ok) (h : dvR a = dvR b) : a = b := by
  unfold dvR at h
  injection h with h
  injection h with h1 h
  injection h with h2 h
  injection h with h3 h
  injection h1 with h1
  injection h2 with h2
  have e3 := dvE_inj ha.e hb.e h3
  cases a; cases b
  simp only at h1 h2 e3
  rw [h1, h2, e3]
theorem recs_inj : ∀ {as bs : List Rc}, (∀ r ∈ as, r.Ok) → (∀ r ∈ bs, r.Ok) → as.map dvR = bs.map dvR → as = bs
  | [], [], _, _, _ => rfl
  | [], _ :: _, _, _, h => by simp at h
  | _ :: _, [], _, _, h => by simp at h
  | a :: as, b :: bs, ha, hb, h => by
    rw [List.map_cons, List.map_cons] at h
    injection h with h1 h2
    rw [dvR_inj (ha a List.mem_cons_self) (hb b List.mem_cons_self) h1, recs_inj (fun r hr => ha r (List.mem_cons_of_mem _ hr)) (fun r hr => hb r (List.mem_cons_of_mem _ hr)) h2]
theorem dvL_inj {a b : Lt} (ha : a.Ok) (hb : b.Ok) (h : dvL a = dvL b) : a = b := by
  unfold dvL at h
  injection h with h
  injection h with h1 h
  injection h with h2 h
  injection h with h3 h
  injection h with h4 h
  injection h with h5 h
  injection h1 with h1
  injection h2 with h2
  injection h3 with h3
  injection h4 with h4
  injection h5 with h5
  have e5 := recs_inj ha.rs hb.rs h5
  cases a; cases b
  simp only at h1 h2 h3 h4 e5
  rw [h1, h2, h3, h4, e5]
/-! ### the integers tell the letter -/
theorem numSeq_inj {as bs r s : List Int} (h : numSeq as ++ r = numSeq bs ++ s) : as = bs ∧ r = s := by
  unfold numSeq at h
  rw [List.cons_append, List.cons_append] at h
  injection h with h1 h2
  exact List.append_inj h2 (by omega)
theorem numD_inj {a b : Dd} {r s : List Int} (ha : a.Ok) (hb : b.Ok) (h : numD a ++ r = numD b ++ s) : a = b ∧ r = s := by
  unfold numD at h
  rw [List.cons_append, List.cons_append] at h
  injection h with h1 h2
  have hp : a.place = b.place := by omega
  have key : a.nums = b.nums ∧ r = s := by
    by_cases h8 : b.place = 8
    · rw [if_pos (hp.trans h8), if_pos h8] at h2
      exact numSeq_inj h2
    · rw [if_neg (fun e => h8 (hp ▸ e)), if_neg h8] at h2
      exact List.append_inj h2 (by rw [ha.ar (fun e => h8 (hp ▸ e)), hb.ar h8, hp])
  refine ⟨?_, key.2⟩
  cases a; cases b
  simp only at hp key
  rw [hp, key.1]
theorem b2n_inj {a b : Bool} (h : b2n a = b2n b) : a = b := by
  cases a <;> cases b <;> first | rfl | (exact absurd h (by decide))
theorem numE_app' (e : Ev) (rest : List Int) : numE e ++ rest = b2n e.asleep :: (numSeq e.shown ++ (numSeq e.after ++ (numD e.deed ++ (numSeq e.knows ++ rest)))) := by
  unfold numE
  simp only [List.append_assoc]
  rfl
theorem numE_inj {a b : Ev} {r s : List Int} (ha : a.Ok) (hb : b.Ok) (h : numE a ++ r = numE b ++ s) : a = b ∧ r = s := by
  rw [numE_app', numE_app'] at h
  injection h with h1 h
  obtain ⟨h2, h⟩ := numSeq_inj h
  obtain ⟨h3, h⟩ := numSeq_inj h
  obtain ⟨h4, h⟩ := numD_inj ha.d hb.d h
  obtain ⟨h5, h⟩ := numSeq_inj h
  have e1 := b2n_inj h1
  refine ⟨?_, h⟩
  cases a; cases b
  simp only at e1 h2 h3 h4 h5
  rw [e1, h2, h3, h4, h5]
theorem numR_inj {a b : Rc} {r s : List Int} (ha : a.Ok) (hb : b.Ok) (h : numR a ++ r = numR b ++ s) : a = b ∧ r = s := by
  have h' : a.dev :: a.num :: (numE a.ev ++ r) = b.dev :: b.num :: (numE b.ev ++ s) := h
  injection h' with h1 h'
  injection h' with h2 h'
  obtain ⟨h3, h⟩ := numE_inj ha.e hb.e h'
  refine ⟨?_, h⟩
  cases a; cases b
  simp only at h1 h2 h3
  rw [h1, h2, h3]
theorem numRs_inj : ∀ {as bs : List Rc}, (∀ r ∈ as, r.Ok) → (∀ r ∈ bs, r.Ok) → as.length = bs.length → as.flatMap numR = bs.flatMap numR → as = bs
  | [], [], _, _, _, _ => rfl
  | [], _ :: _, _, _, h, _ => by simp at h
  | _ :: _, [], _, _, h, _ => by simp at h
  | a :: as, b :: bs, ha, hb, hl, h => by
    rw [List.flatMap_cons, List.flatMap_cons] at h
    obtain ⟨h1, h2⟩ := numR_inj (ha a List.mem_cons_self) (hb b List.mem_cons_self) h
    rw [h1, numRs_inj (fun r hr => ha r (List.mem_cons_of_mem _ hr)) (fun r hr => hb r (List.mem_cons_of_mem _ hr)) (Nat.succ.inj hl) h2]
theorem numL_inj {a b : Lt} (ha : a.Ok) (hb : b.Ok) (h : numL a = numL b) : a = b := by
  have h' : a.s :: a.r :: a.k :: a.n :: (a.recs.length : Int) :: a.recs.flatMap numR = b.s :: b.r :: b.k :: b.n :: (b.recs.length : Int) :: b.recs.flatMap numR := h
  injection h' with h1 h'
  injection h' with h2 h'
  injection h' with h3 h'
  injection h' with h4 h'
  injection h' with h5 h'
  have e6 := numRs_inj ha.rs hb.rs (by omega) h'
  cases a; cases b
  simp only at h1 h2 h3 h4 e6
  rw [h1, h2, h3, h4, e6]
theorem words_inj : ∀ {as bs : List Int}, (∀ n ∈ as, In18 n) → (∀ n ∈ bs, In18 n) → words as = words bs → as = bs
  | [], [], _, _, _ => rfl
  | [], _ :: _, _, _, h => by simp [words] at h
  | _ :: _, [], _, _, h => by simp [words] at h
  | a :: as, b :: bs, ha, hb, h => by
    unfold words at h
    rw [List.map_cons, List.map_cons] at h
    injection h with h1 h2
    have e1 := wd_int (ha a List.mem_cons_self)
    have e2 := wd_int (hb b List.mem_cons_self)
    have h1 : wd a = wd b := h1
    rw [h1, e2] at e1
    rw [Option.some.inj e1, words_inj (fun r hr => ha r (List.mem_cons_of_mem _ hr)) (fun r hr => hb r (List.mem_cons_of_mem _ hr)) h2]
theorem text_inj {hd : Str} {as bs : List Int} (hf : (10 : Nat) ∉ TL.tl hd) (ha : ∀ n ∈ as, In18 n) (hb : ∀ n ∈ bs, In18 n) (na : as ≠ []) (nb : bs ≠ []) (h : textOf hd as = textOf hd bs) : as = bs := by
  have e1 := text_split (ns := as) hf
  have e2 := text_split (ns := bs) hf
  rw [h, e2] at e1
  injection e1 with _ e1
  injection e1 with e1 _
  have w1 := words_split na
  have w2 := words_split nb
  rw [← e1, w2] at w1
  exact (words_inj hb ha w1).symm
theorem letter_text_iff {a b : Lt} (ha : a.Ok) (hb : b.Ok) : decide (V.str (textOf "whensure letter" (numL a)) = V.str (textOf "whensure letter" (numL b))) = sameV (dvL a) (dvL b) := by
  by_cases h : a = b
  · rw [h, sameV_refl, decide_eq_true rfl]
  · have h1 : sameV (dvL a) (dvL b) = false := by
      cases e : sameV (dvL a) (dvL b) with
      | false => rfl
      | true => exact absurd (dvL_inj ha hb (sameV_eq _ _ e)) h
    rw [h1]
    refine decide_eq_false fun e => h ?_
    injection e with e
    exact numL_inj ha hb (text_inj (by decide +kernel) (numL_in ha) (numL_in hb) (by unfold numL; simp) (by unfold numL; simp) e)

theorem ifIntT {a b : Int} {A B : Prop} (h : a = b) (x : A) : if decide (V.int a = V.int b) = true then A else B := by
  rw [decide_eq_true (show V.int a = V.int b by rw [h])]
  exact iteT x
theorem ifIntF {a b : Int} {A B : Prop} (h : a ≠ b) (x : B) : if decide (V.int a = V.int b) = true then A else B := by
  rw [decide_eq_false (show ¬ V.int a = V.int b from fun e => h (by injection e))]
  exact iteF x
theorem depVL_le {n : Nat} : ∀ {xs : List DV}, (∀ x ∈ xs, depV x ≤ n) → depVL xs ≤ n
  | [], _ => by rw [depVL]; exact Nat.zero_le _
  | x :: xs, h => by
    have h1 := h x List.mem_cons_self
    have h2 := depVL_le (xs := xs) fun y hy => h y (List.mem_cons_of_mem _ hy)
    rw [depVL]
    omega
theorem dep_ints (ns : List Int) : depVL (ns.map DV.int) ≤ 1 := depVL_le fun x hx => by
  obtain ⟨n, _, rfl⟩ := List.mem_map.mp hx
  rw [depV]
  omega
theorem dep_I (ns : List Int) : depV (dvI ns) ≤ 2 := by
  have := dep_ints ns
  unfold dvI
  rw [depV]
  omega
theorem dep_D (d : Dd) : depV (dvD d) ≤ 3 := by
  unfold dvD
  rw [depV, depVL, depV]
  split
  · have := dep_I d.nums
    rw [depVL, depVL]
    omega
  · have := dep_ints d.nums
    omega
theorem dep_E (e : Ev) : depV (dvE e) ≤ 4 := by
  have h1 := dep_I e.shown; have h2 := dep_I e.after; have h3 := dep_D e.deed; have h4 := dep_I e.knows
  unfold dvE
  rw [depV, depVL, depVL, depVL, depVL, depVL, depVL, depV]
  omega
theorem dep_R (r : Rc) : depV (dvR r) ≤ 5 := by
  have h1 := dep_E r.ev
  unfold dvR
  rw [depV, depVL, depVL, depVL, depVL, depV, depV]
  omega
theorem dep_L (l : Lt) : depV (dvL l) ≤ 7 := by
  have h1 : depVL (l.recs.map dvR) ≤ 5 := depVL_le fun x hx => by
    obtain ⟨r, _, rfl⟩ := List.mem_map.mp hx
    exact dep_R r
  unfold dvL
  rw [depV, depVL, depVL, depVL, depVL, depVL, depVL, depV, depV, depV, depV, depV]
  omega
theorem kitAll : ∀ t ∈ ["bool", "int", "str", "tuple", "list"], kitB t "bool" = some (t == "bool") ∧ kitB t "int" = some (t == "int" || t == "bool") ∧ kitB t "str" = some (t == "str") ∧ kitB t "tuple" = some (t == "tuple") ∧ kitB t "list" = some (t == "list") := by decide +kernel
theorem tyN_mem (d : DV) : tyN d ∈ ["bool", "int", "str", "tuple", "list"] := by cases d <;> simp [tyN]
theorem kB (d : DV) : kitB (tyN d) "bool" = some (tyN d == "bool") := (kitAll _ (tyN_mem d)).1
theorem kI (d : DV) : kitB (tyN d) "int" = some (tyN d == "int" || tyN d == "bool") := (kitAll _ (tyN_mem d)).2.1
theorem kS (d : DV) : kitB (tyN d) "str" = some (tyN d == "str") := (kitAll _ (tyN_mem d)).2.2.1
theorem kT (d : DV) : kitB (tyN d) "tuple" = some (tyN d == "tuple") := (kitAll _ (tyN_mem d)).2.2.2.1
theorem kL (d : DV) : kitB (tyN d) "list" = some (tyN d == "list") := (kitAll _ (tyN_mem d)).2.2.2.2
theorem Each.take {α : Type} {P : Addr → α → Prop} {as xs} (h : Each P as xs) (n : Nat) : Each P (as.take n) (xs.take n) := by
  refine ⟨by rw [List.length_take, List.length_take, h.1], fun i a x h1 h2 => ?_⟩
  have hi : i < n := by
    have := (List.getElem?_eq_some_iff.mp h1).1
    rw [List.length_take] at this
    omega
  rw [List.getElem?_take_of_lt hi] at h1 h2
  exact h.2 i a x h1 h2
theorem Each.drop {α : Type} {P : Addr → α → Prop} {as xs} (h : Each P as xs) (n : Nat) : Each P (as.drop n) (xs.drop n) := by
  refine ⟨by rw [List.length_drop, List.length_drop, h.1], fun i a x h1 h2 => ?_⟩
  rw [List.getElem?_drop] at h1 h2
  exact h.2 _ a x h1 h2
theorem Each.append {α : Type} {P : Addr → α → Prop} {as xs bs ys} (h : Each P as xs) (h' : Each P bs ys) : Each P (as ++ bs) (xs ++ ys) := by
  refine ⟨by rw [List.length_append, List.length_append, h.1, h'.1], fun i a x h1 h2 => ?_⟩
  by_cases hi : i < as.length
  · rw [List.getElem?_append_left hi] at h1
    rw [List.getElem?_append_left (by rw [← h.1]; exact hi)] at h2
    exact h.2 i a x h1 h2
  · rw [List.getElem?_append_right (by omega)] at h1
    rw [List.getElem?_append_right (by rw [← h.1]; omega), ← h.1] at h2
    exact h'.2 _ a x h1 h2
theorem Each.set {α : Type} {P : Addr → α → Prop} {as xs} (h : Each P as xs) {j : Nat} {a : Addr} {x : α} (p : P a x) : Each P (as.set j a) (xs.set j x) := by
  refine ⟨by rw [List.length_set, List.length_set, h.1], fun i b y h1 h2 => ?_⟩
  by_cases hij : j = i
  · subst hij
    have hj : j < as.length := by
      have := (List.getElem?_eq_some_iff.mp h1).1
      rw [List.length_set] at this
      exact this
    rw [List.getElem?_set_self hj] at h1
    rw [List.getElem?_set_self (by rw [← h.1]; exact hj)] at h2
    cases h1
    cases h2
    exact p
  · rw [List.getElem?_set_ne hij] at h1 h2
    exact h.2 i b y h1 h2

theorem ixn {n j : Nat} (hj : j < n) : ixN n (j : Int) = some j := by
  unfold ixN
  rw [if_pos (by omega), if_pos (by omega)]
  rfl
end Vs

namespace Vs
open PySem PySem.Spec PyProof.Rows L2
/-! ### what a frame holds -/
structure Kd where
  name : Str
  low : Int
  high : Option Int
structure Cl where
  name : Str
  dev : Int
  goes : Bool
  kinds : List Kd
structure Lk where
  name : Str
  s : Int
  r : Int
  kinds : List Kd
structure Sr where
  name : Str
  dev : Int
  kinds : List Kd
structure Fm where
  devices : List Str
  clocks : List Cl
  links : List Lk
  sources : List Sr
  faults : Int
def hiV : Option Int → V
  | some h => .int h
  | none => .non
def KdAt (K : PySem.W.Frag) (H : Hp) (a : Addr) (k : Kd) : Prop := SqT K H a [.str k.name, .int k.low, hiV k.high]
def KsAt (K : PySem.W.Frag) (H : Hp) (a : Addr) (ks : List Kd) : Prop := ∃ as, SqT K H a (as.map V.ref) ∧ Each (KdAt K H) as ks
def ClAt (K : PySem.W.Frag) (H : Hp) (a : Addr) (c : Cl) : Prop := ∃ t, SqT K H a [.str c.name, .int c.dev, .bl c.goes, .ref t] ∧ KsAt K H t c.kinds
def LkAt (K : PySem.W.Frag) (H : Hp) (a : Addr) (c : Lk) : Prop := ∃ t, SqT K H a [.str c.name, .int c.s, .int c.r, .ref t] ∧ KsAt K H t c.kinds
def SrAt (K : PySem.W.Frag) (H : Hp) (a : Addr) (c : Sr) : Prop := ∃ t, SqT K H a [.str c.name, .int c.dev, .ref t] ∧ KsAt K H t c.kinds
structure Kd.Ok (k : Kd) : Prop where
  nm : k.name.length ≤ 12
  lo : In18 k.low
  hi : ∀ h, k.high = some h → In18 h
structure KsOk (ks : List Kd) : Prop where
  len : ks.length ≤ 4
  ok : ∀ k ∈ ks, k.Ok
/-- a number that names one of n devices -/
def DevOk (n : Nat) (d : Int) : Prop := 0 ≤ d ∧ d < (n : Int)
structure Cl.Ok (n : Nat) (c : Cl) : Prop where
  nm : c.name.length ≤ 12
  dv : DevOk n c.dev
  ks : KsOk c.kinds
structure Lk.Ok (n : Nat) (c : Lk) : Prop where
  nm : c.name.length ≤ 12
  ds : DevOk n c.s
  dr : DevOk n c.r
  ks : KsOk c.kinds
structure Sr.Ok (n : Nat) (c : Sr) : Prop where
  nm : c.name.length ≤ 12
  dv : DevOk n c.dev
  ks : KsOk c.kinds
structure Fm.Ok (F : Fm) : Prop where
  dl : F.devices.length ≤ 6
  dn : ∀ z ∈ F.devices, z.length ≤ 12
  cl : F.clocks.length ≤ 9
  ll : F.links.length ≤ 9
  sl : F.sources.length ≤ 9
  c : ∀ c ∈ F.clocks, c.Ok F.devices.length
  l : ∀ c ∈ F.links, c.Ok F.devices.length
  s : ∀ c ∈ F.sources, c.Ok F.devices.length
  f0 : 0 ≤ F.faults
  f2 : F.faults ≤ 2
/-- a frame's five places: the lists, and what they hold -/
structure FmIn (K : PySem.W.Frag) (H : Hp) (d c l s : Addr) (F : Fm) : Prop where
  d : H d = some (.lst (F.devices.map V.str))
  c : ∃ as, H c = some (.lst (as.map V.ref)) ∧ Each (ClAt K H) as F.clocks
  l : ∃ as, H l = some (.lst (as.map V.ref)) ∧ Each (LkAt K H) as F.links
  s : ∃ as, H s = some (.lst (as.map V.ref)) ∧ Each (SrAt K H) as F.sources
def FmAt (K : PySem.W.Frag) (H : Hp) (a : Addr) (F : Fm) : Prop := ∃ d c l s, SqT K H a [.ref d, .ref c, .ref l, .ref s, .int F.faults] ∧ FmIn K H d c l s F
section
variable {K : PySem.W.Frag} {H H' : Hp}
theorem KdAt.keep {a k} (e : Same H H') (h : KdAt K H a k) : KdAt K H' a k := sTup e h
theorem KsAt.keep {a k} (e : Same H H') (h : KsAt K H a k) : KsAt K H' a k := by
  obtain ⟨as, h1, h2⟩ := h
  exact ⟨as, sTup e h1, h2.keep fun _ _ z => z.keep e⟩
theorem ClAt.keep {a k} (e : Same H H') (h : ClAt K H a k) : ClAt K H' a k := by
  obtain ⟨t, h1, h2⟩ := h
  exact ⟨t, sTup e h1, h2.keep e⟩
theorem LkAt.keep {a k} (e : Same H H') (h : LkAt K H a k) : LkAt K H' a k := by
  obtain ⟨t, h1, h2⟩ := h
  exact ⟨t, sTup e h1, h2.keep e⟩
theorem SrAt.keep {a k} (e : Same H H') (h : SrAt K H a k) : SrAt K H' a k := by
  obtain ⟨t, h1, h2⟩ := h
  exact ⟨t, sTup e h1, h2.keep e⟩
variable {o : Addr} {xs : List V}
theorem KdAt.but {a k} (e : But o H H') (ho : H o = some (.lst xs)) (h : KdAt K H a k) : KdAt K H' a k := butTup e ho h
theorem KsAt.but {a k} (e : But o H H') (ho : H o = some (.lst xs)) (h : KsAt K H a k) : KsAt K H' a k := by
  obtain ⟨as, h1, h2⟩ := h
  exact ⟨as, butTup e ho h1, h2.keep fun _ _ z => z.but e ho⟩
theorem ClAt.but {a k} (e : But o H H') (ho : H o = some (.lst xs)) (h : ClAt K H a k) : ClAt K H' a k := by
  obtain ⟨t, h1, h2⟩ := h
  exact ⟨t, butTup e ho h1, h2.but e ho⟩
theorem LkAt.but {a k} (e : But o H H') (ho : H o = some (.lst xs)) (h : LkAt K H a k) : LkAt K H' a k := by
  obtain ⟨t, h1, h2⟩ := h
  exact ⟨t, butTup e ho h1, h2.but e ho⟩
theorem SrAt.but {a k} (e : But o H H') (ho : H o = some (.lst xs)) (h : SrAt K H a k) : SrAt K H' a k := by
  obtain ⟨t, h1, h2⟩ := h
  exact ⟨t, butTup e ho h1, h2.but e ho⟩
theorem FmIn.keep {d c l s F} (e : Same H H') (h : FmIn K H d c l s F) : FmIn K H' d c l s F := by
  obtain ⟨h0, ⟨a1, h1, g1⟩, ⟨a2, h2, g2⟩, ⟨a3, h3, g3⟩⟩ := h
  exact ⟨e _ _ h0, ⟨a1, e _ _ h1, g1.keep fun _ _ z => z.keep e⟩, ⟨a2, e _ _ h2, g2.keep fun _ _ z => z.keep e⟩, ⟨a3, e _ _ h3, g3.keep fun _ _ z => z.keep e⟩⟩
theorem FmAt.keep {a F} (e : Same H H') (h : FmAt K H a F) : FmAt K H' a F := by
  obtain ⟨d, c, l, s, h1, h2⟩ := h
  exact ⟨d, c, l, s, sTup e h1, h2.keep e⟩
end
/-! ### the drawn rows -/
def RowsAt (H : Hp) (r : Addr) : Prop := ∃ ns : List Int, H r = some (.lst (ns.map V.int)) ∧ ns.length = 26
theorem RowsAt.lst {H : Hp} {r : Addr} (h : RowsAt H r) : ∃ xs, H r = some (.lst xs) := by
  obtain ⟨ns, h, _⟩ := h
  exact ⟨_, h⟩
theorem RowsAt.keep {H H' : Hp} {r : Addr} (e : Same H H') (h : RowsAt H r) : RowsAt H' r := by
  obtain ⟨ns, h, h2⟩ := h
  exact ⟨ns, e _ _ h, h2⟩
theorem RowsAt.but {H H' : Hp} {r o : Addr} (e : But o H H') (n : r ≠ o) (h : RowsAt H r) : RowsAt H' r := by
  obtain ⟨ns, h, h2⟩ := h
  exact ⟨ns, e _ _ n h, h2⟩
theorem But.upd {r : Addr} {H H' : Hp} {p : Addr} {o : HO} (b : But r H H') (h : H p = none) : But r H (upd H' p o) := fun c w hc hw => by
  rw [upd_ne (ne_of_none hw h)]
  exact b c w hc hw
theorem But.free {r : Addr} {H H' : Hp} {p : Addr} (b : But r H H') (hr : p ≠ r) (h : H' p = none) : H p = none := by
  cases e : H p with
  | none => rfl
  | some w => rw [b _ _ hr e] at h; cases h
theorem flat_strs : ∀ ss : List Str, (ss.map V.str).all flatV = true
  | [] => rfl
  | s :: r => by
    show (true && (r.map V.str).all flatV) = true
    rw [flat_strs r]
    rfl
theorem str_get {ss : List Str} {i : Nat} {x : V} (h : (ss.map V.str)[i]? = some x) : ∃ hi : i < ss.length, x = V.str ss[i] := by
  have hi := (List.getElem?_eq_some_iff.mp h).1
  rw [List.length_map] at hi
  refine ⟨hi, ?_⟩
  rw [List.getElem?_map, List.getElem?_eq_getElem hi] at h
  exact (Option.some.inj h).symm
theorem str_at {ss : List Str} {j : Int} (h0 : 0 ≤ j) (h1 : j < (ss.length : Int)) : ∃ z ∈ ss, atI (ss.map V.str) j = some (.str z) := by
  have hi : j.toNat < ss.length := by omega
  exact ⟨ss[j.toNat], List.getElem_mem hi, at_of (j := j.toNat) (by omega) (by rw [List.getElem?_map, List.getElem?_eq_getElem hi]; rfl)⟩
theorem sign_at {z : Str} {j : Int} (h0 : 0 ≤ j) (h1 : j < (z.length : Int)) : ∃ c : Nat, atI z.cps.toList j = some c := by
  have hl : z.cps.toList.length = z.length := (TL.len_tl z).symm
  have e : j = ((j.toNat : Nat) : Int) := by omega
  rw [e]
  exact ⟨_, atI_nat (List.getElem?_eq_getElem (by rw [hl]; omega))⟩
theorem cutS_le {z : Str} {n : Nat} : (cutS z none (some (n : Int))).length ≤ n := by
  rw [TL.len_tl]
  unfold cutS
  show (List.take _ (List.drop _ _)).length ≤ n
  rw [List.length_take, HT.sIx_nat]
  omega
theorem menu_int {xs : List Int} {j : Int} (h0 : 0 ≤ j) (h1 : j < (xs.length : Int)) : ∃ z ∈ xs, atI (xs.map V.int) j = some (.int z) := by
  have hi : j.toNat < xs.length := by omega
  exact ⟨xs[j.toNat], List.getElem_mem hi, at_of (j := j.toNat) (by omega) (by rw [List.getElem?_map, List.getElem?_eq_getElem hi]; rfl)⟩
end Vs

namespace Vs
open PySem PySem.Spec PyProof.Rows L2
/-- a text made of parts -/
def tJoin (ts : List TE) : TE := fun σ H Q => tJs ts Str.empty σ H fun out H1 => Q (.str out) H1
theorem pe_joinedD {X : Cx} {v1 v2 : Expr} {rest : List Expr} {ts : List TE} {pos : Pos} (h : PJ X (v1 :: v2 :: rest) ts) : PE X (.JoinedStr (v1 :: v2 :: rest) pos) (tJoin ts) := pe_joined h
/-! ### the lines of a frame -/
def numW : Option Int → Str
  | some h => toString h
  | none => "none"
def kdLine (k : Kd) : Str := "kind " ++ k.name ++ " " ++ numW (some k.low) ++ " " ++ numW k.high
def devAt (ds : List Str) (d : Int) : Str := ds.getD d.toNat ""
def clHead (ds : List Str) (c : Cl) : Str := "clock " ++ c.name ++ " of " ++ devAt ds c.dev ++ (if c.goes = true then Str.ofString " goes on asleep" else Str.ofString "")
def lkHead (ds : List Str) (c : Lk) : Str := "link " ++ c.name ++ " from " ++ devAt ds c.s ++ " to " ++ devAt ds c.r
def srHead (ds : List Str) (c : Sr) : Str := "source " ++ c.name ++ " at " ++ devAt ds c.dev
def clLines (ds : List Str) (c : Cl) : List Str := clHead ds c :: c.kinds.map kdLine
def lkLines (ds : List Str) (c : Lk) : List Str := lkHead ds c :: c.kinds.map kdLine
def srLines (ds : List Str) (c : Sr) : List Str := srHead ds c :: c.kinds.map kdLine
def dvLine (z : Str) : Str := "device " ++ z
def ftLines (n : Int) : List Str := if n = 0 then [] else ["faults " ++ numW (some n)]
def linesF (F : Fm) : List Str := F.devices.map dvLine ++ F.clocks.flatMap (clLines F.devices) ++ F.links.flatMap (lkLines F.devices) ++ F.sources.flatMap (srLines F.devices) ++ ftLines F.faults
/-- the lines, a line feed behind each -/
def textF (ls : List Str) : Str := ls.foldl (fun (t l : Str) => t ++ l ++ "\n") Str.empty
theorem empty_add (x : Str) : Str.empty ++ x = x := by
  show Str.append _ _ = x
  cases x with
  | mk cs => simp [Str.append, Str.empty]
theorem nil_eq : Str.ofString "" = Str.empty := by decide +kernel
theorem add_empty (x : Str) : x ++ (Str.ofString "" : Str) = x := by
  rw [nil_eq]
  show Str.append _ _ = x
  cases x with
  | mk cs => simp [Str.append, Str.empty]
theorem add_assoc (x y z : Str) : x ++ y ++ z = x ++ (y ++ z) := by
  show Str.append (Str.append _ _) _ = Str.append _ (Str.append _ _)
  simp [Str.append, Array.append_assoc]
theorem numW_len {o : Option Int} (h : ∀ i, o = some i → In18 i) : (numW o).length ≤ 19 := by
  cases o with
  | none => exact (by decide +kernel : (Str.ofString "none").length ≤ 19)
  | some i => exact word_len (h i rfl)
theorem lit_len {s : Str} {n : Nat} (h : s.length = n := by decide +kernel) : s.length = n := h
theorem kdLine_len {k : Kd} (h : k.Ok) : (kdLine k).length ≤ 60 := by
  have h1 := h.nm
  have h2 := numW_len (o := some k.low) fun i e => by cases e; exact h.lo
  have h3 := numW_len h.hi
  have l1 : (Str.ofString "kind ").length = 5 := by decide +kernel
  have l2 : (Str.ofString " ").length = 1 := by decide +kernel
  unfold kdLine
  rw [Str.length_append, Str.length_append, Str.length_append, Str.length_append, Str.length_append, l1, l2]
  omega
theorem devAt_eq {ds : List Str} {d : Int} (h : DevOk ds.length d) : atI (ds.map V.str) d = some (.str (devAt ds d)) ∧ devAt ds d ∈ ds := by
  obtain ⟨h0, h1⟩ := h
  have hi : d.toNat < ds.length := by omega
  have e : devAt ds d = ds[d.toNat] := by
    unfold devAt
    rw [List.getD_eq_getElem?_getD, List.getElem?_eq_getElem hi]
    rfl
  rw [e]
  exact ⟨at_of (j := d.toNat) (by omega) (by rw [List.getElem?_map, List.getElem?_eq_getElem hi]; rfl), List.getElem_mem hi⟩
theorem asleep_len : (Str.ofString " goes on asleep").length = 15 := by decide +kernel
theorem clock_len : (Str.ofString "clock ").length = 6 := by decide +kernel
theorem of_len : (Str.ofString " of ").length = 4 := by decide +kernel
theorem link_len : (Str.ofString "link ").length = 5 := by decide +kernel
theorem from_len : (Str.ofString " from ").length = 6 := by decide +kernel
theorem to_len : (Str.ofString " to ").length = 4 := by decide +kernel
theorem source_len : (Str.ofString "source ").length = 7 := by decide +kernel
theorem at_len : (Str.ofString " at ").length = 4 := by decide +kernel
theorem kind_len : (Str.ofString "kind ").length = 5 := by decide +kernel
theorem device_len : (Str.ofString "device ").length = 7 := by decide +kernel
theorem faults_len : (Str.ofString "faults ").length = 7 := by decide +kernel
theorem empty_len : Str.empty.length = 0 := rfl
theorem clHead_len {ds : List Str} {c : Cl} (hd : ∀ z ∈ ds, z.length ≤ 12) (h : c.Ok ds.length) : (clHead ds c).length ≤ 60 := by
  have h1 := h.nm
  have h2 := hd _ (devAt_eq h.dv).2
  have h3 : (if c.goes = true then (Str.ofString " goes on asleep") else (Str.ofString "")).length ≤ 15 := by
    split
    · rw [asleep_len]; exact Nat.le_refl _
    · decide +kernel
  unfold clHead
  rw [Str.length_append, Str.length_append, Str.length_append, Str.length_append, clock_len, of_len]
  omega
theorem lkHead_len {ds : List Str} {c : Lk} (hd : ∀ z ∈ ds, z.length ≤ 12) (h : c.Ok ds.length) : (lkHead ds c).length ≤ 60 := by
  have h1 := h.nm
  have h2 := hd _ (devAt_eq h.ds).2
  have h3 := hd _ (devAt_eq h.dr).2
  unfold lkHead
  rw [Str.length_append, Str.length_append, Str.length_append, Str.length_append, Str.length_append, link_len, from_len, to_len]
  omega
theorem srHead_len {ds : List Str} {c : Sr} (hd : ∀ z ∈ ds, z.length ≤ 12) (h : c.Ok ds.length) : (srHead ds c).length ≤ 60 := by
  have h1 := h.nm
  have h2 := hd _ (devAt_eq h.dv).2
  unfold srHead
  rw [Str.length_append, Str.length_append, Str.length_append, source_len, at_len]
  omega
/-- lines, each short -/
structure LnOk (ls : List Str) (n : Nat) : Prop where
  len : ls.length ≤ n
  ok : ∀ z ∈ ls, z.length ≤ 60
theorem LnOk.app {a b : List Str} {n m : Nat} (h : LnOk a n) (g : LnOk b m) : LnOk (a ++ b) (n + m) :=
  ⟨by rw [List.length_append]; have := h.len; have := g.len; omega, fun z hz => (List.mem_append.mp hz).elim (h.ok z) (g.ok z)⟩
theorem LnOk.mono {a : List Str} {n m : Nat} (h : LnOk a n) (e : n ≤ m) : LnOk a m := ⟨Nat.le_trans h.len e, h.ok⟩
theorem LnOk.flat {α : Type} {f : α → List Str} {k : Nat} : ∀ {xs : List α}, (∀ x ∈ xs, LnOk (f x) k) → LnOk (xs.flatMap f) (xs.length * k)
  | [], _ => ⟨Nat.zero_le _, fun z h => by simp at h⟩
  | x :: r, h => by
    rw [List.flatMap_cons, List.length_cons, Nat.succ_mul, Nat.add_comm]
    exact (h x List.mem_cons_self).app (LnOk.flat fun y hy => h y (List.mem_cons_of_mem _ hy))
theorem kdLines_ok {ks : List Kd} (h : KsOk ks) : LnOk (ks.map kdLine) 4 := ⟨by rw [List.length_map]; exact h.len, fun z hz => by
  obtain ⟨k, hk, rfl⟩ := List.mem_map.mp hz
  exact kdLine_len (h.ok k hk)⟩
theorem cons_ok {z : Str} {ls : List Str} {n : Nat} (hz : z.length ≤ 60) (h : LnOk ls n) : LnOk (z :: ls) (n + 1) := ⟨by rw [List.length_cons]; have := h.len; omega, fun y hy => by
  rcases List.mem_cons.mp hy with e | e
  · rw [e]; exact hz
  · exact h.ok y e⟩
theorem clLines_ok {ds : List Str} {c : Cl} (hd : ∀ z ∈ ds, z.length ≤ 12) (h : c.Ok ds.length) : LnOk (clLines ds c) 5 := cons_ok (clHead_len hd h) (kdLines_ok h.ks)
theorem lkLines_ok {ds : List Str} {c : Lk} (hd : ∀ z ∈ ds, z.length ≤ 12) (h : c.Ok ds.length) : LnOk (lkLines ds c) 5 := cons_ok (lkHead_len hd h) (kdLines_ok h.ks)
theorem srLines_ok {ds : List Str} {c : Sr} (hd : ∀ z ∈ ds, z.length ≤ 12) (h : c.Ok ds.length) : LnOk (srLines ds c) 5 := cons_ok (srHead_len hd h) (kdLines_ok h.ks)
theorem cls_ok {F : Fm} (h : F.Ok) (i : Nat) : LnOk ((F.clocks.take i).flatMap (clLines F.devices)) 45 := (LnOk.flat (k := 5) fun c hc => clLines_ok h.dn (h.c c (List.mem_of_mem_take hc))).mono (by have := h.cl; rw [List.length_take]; omega)
theorem lks_ok {F : Fm} (h : F.Ok) (i : Nat) : LnOk ((F.links.take i).flatMap (lkLines F.devices)) 45 := (LnOk.flat (k := 5) fun c hc => lkLines_ok h.dn (h.l c (List.mem_of_mem_take hc))).mono (by have := h.ll; rw [List.length_take]; omega)
theorem srs_ok {F : Fm} (h : F.Ok) (i : Nat) : LnOk ((F.sources.take i).flatMap (srLines F.devices)) 45 := (LnOk.flat (k := 5) fun c hc => srLines_ok h.dn (h.s c (List.mem_of_mem_take hc))).mono (by have := h.sl; rw [List.length_take]; omega)
theorem dvs_ok {F : Fm} (h : F.Ok) : LnOk (F.devices.map dvLine) 6 := ⟨by rw [List.length_map]; exact h.dl, fun z hz => by
  obtain ⟨k, hk, rfl⟩ := List.mem_map.mp hz
  have := h.dn k hk
  unfold dvLine
  rw [Str.length_append, device_len]
  omega⟩
theorem flt_in {n : Int} (h0 : 0 ≤ n) (h2 : n ≤ 2) : In18 n := by
  have e : n = ((n.toNat : Nat) : Int) := by omega
  rw [e]
  exact In18.small (by omega)
theorem fts_ok {F : Fm} (h : F.Ok) : LnOk (ftLines F.faults) 1 := by
  unfold ftLines
  split
  · exact ⟨Nat.zero_le _, fun z h => by simp at h⟩
  · refine ⟨Nat.le_refl _, fun z hz => ?_⟩
    rw [List.mem_singleton.mp hz, Str.length_append, faults_len]
    have := numW_len (o := some F.faults) fun i e => by cases e; exact flt_in h.f0 h.f2
    omega
theorem linesF_ok {F : Fm} (h : F.Ok) : LnOk (linesF F) 142 := by
  have h1 := cls_ok h F.clocks.length
  have h2 := lks_ok h F.links.length
  have h3 := srs_ok h F.sources.length
  rw [List.take_length] at h1 h2 h3
  exact (((dvs_ok h).app h1).app h2).app h3 |>.app (fts_ok h)
/-! ### the text -/
theorem textF_snoc (ls : List Str) (l : Str) : textF (ls ++ [l]) = textF ls ++ l ++ "\n" := by
  unfold textF
  rw [List.foldl_append]
  rfl
theorem textF_len {ls : List Str} {n : Nat} (h : LnOk ls n) : (textF ls).length ≤ ls.length * 61 := by
  obtain ⟨_, h⟩ := h
  suffices g : ∀ (ls : List Str) (t : Str), (∀ z ∈ ls, z.length ≤ 60) → (ls.foldl (fun (t l : Str) => t ++ l ++ "\n") t).length ≤ t.length + ls.length * 61 by
    have := g ls Str.empty h
    have e : Str.empty.length = 0 := rfl
    unfold textF
    omega
  intro ls
  induction ls with
  | nil => intro t _; simp
  | cons a r ih =>
    intro t hz
    have h1 := ih (t ++ a ++ "\n") fun z hz' => hz z (List.mem_cons_of_mem _ hz')
    rw [Str.length_append, Str.length_append, nl_len] at h1
    have h2 := hz a List.mem_cons_self
    rw [List.foldl_cons, List.length_cons, Nat.succ_mul]
    omega
/-- join of the lines with their line feeds by nothing -/
theorem join_nil_cons (a : Str) (r : List Str) : Str.join (Str.ofString "") (a :: r) = a ++ Str.join (Str.ofString "") r := by
  cases r with
  | nil =>
    show a = a ++ Str.ofString ""
    rw [add_empty]
  | cons b r =>
    show a ++ Str.ofString "" ++ Str.join (Str.ofString "") (b :: r) = _
    rw [add_empty]
theorem joinF (ls : List Str) : Txt.join (Str.ofString "") (ls.map fun l => l ++ "\n") = textF ls := by
  rw [TL.join_eq]
  suffices g : ∀ (ls : List Str) (t : Str), t ++ Str.join (Str.ofString "") (ls.map fun l => l ++ "\n") = ls.foldl (fun (t l : Str) => t ++ l ++ "\n") t by
    have := g ls Str.empty
    rw [empty_add] at this
    exact this
  intro ls
  induction ls with
  | nil => intro t; exact add_empty t
  | cons a r ih =>
    intro t
    rw [List.map_cons, join_nil_cons, List.foldl_cons, ← ih]
    simp only [add_assoc]
theorem fed_sum {ls : List Str} (h : ∀ z ∈ ls, z.length ≤ 60) : ((ls.map fun l => l ++ Str.ofString "\n").map (·.length)).sum ≤ ls.length * 61 := by
  induction ls with
  | nil => simp
  | cons a r ih =>
    have h1 := ih fun z hz => h z (List.mem_cons_of_mem _ hz)
    have h2 := h a List.mem_cons_self
    rw [List.map_cons, List.map_cons, List.sum_cons, List.length_cons, Nat.succ_mul, Str.length_append, nl_len]
    omega
theorem fed_fit {ls : List Str} {n : Nat} (h : LnOk ls n) (hn : n ≤ 1000) : ((ls.map fun l => l ++ Str.ofString "\n").map (·.length)).sum + (ls.map fun l => l ++ Str.ofString "\n").length * (Str.ofString "").length ≤ 16777216 := by
  have h1 := fed_sum h.ok
  have h2 := h.len
  rw [(by decide +kernel : (Str.ofString "").length = 0)]
  omega
/-! ### the data of a frame -/
def hiP : Option Int → PyData
  | some h => .int h
  | none => .none
def kdP (k : Kd) : PyData := .tuple [.str k.name, .int k.low, hiP k.high]
def ksP (ks : List Kd) : PyData := .tuple (ks.map kdP)
def clP (c : Cl) : PyData := .tuple [.str c.name, .int c.dev, .bool c.goes, ksP c.kinds]
def lkP (c : Lk) : PyData := .tuple [.str c.name, .int c.s, .int c.r, ksP c.kinds]
def srP (c : Sr) : PyData := .tuple [.str c.name, .int c.dev, ksP c.kinds]
section
variable {K : PySem.W.Frag} {H : Hp}
theorem hi_dp (o : Option Int) : Dp K H (hiV o) (hiP o) := by
  cases o with
  | none => exact .non
  | some i => exact .int i
theorem kd_dp {a : Addr} {k : Kd} (h : KdAt K H a k) : Dp K H (.ref a) (kdP k) := .tup h (.cons (.str _) (.cons (.int _) (.cons (hi_dp _) .nil)))
theorem all_dp {α : Type} {P : Addr → α → Prop} {f : α → PyData} (hp : ∀ a x, P a x → Dp K H (.ref a) (f x)) : ∀ {as : List Addr} {xs : List α}, Each P as xs → DpAll K H (as.map V.ref) (xs.map f)
  | [], [], _ => .nil
  | [], _ :: _, h => by cases h.1
  | _ :: _, [], h => by cases h.1
  | a :: as, x :: xs, h => .cons (hp a x (h.2 0 a x rfl rfl)) (all_dp hp ⟨Nat.succ.inj h.1, fun i b y e1 e2 => h.2 (i + 1) b y e1 e2⟩)
theorem ks_dp {a : Addr} {ks : List Kd} (h : KsAt K H a ks) : Dp K H (.ref a) (ksP ks) := by
  obtain ⟨as, h1, h2⟩ := h
  exact .tup h1 (all_dp (fun _ _ z => kd_dp z) h2)
theorem cl_dp {a : Addr} {c : Cl} (h : ClAt K H a c) : Dp K H (.ref a) (clP c) := by
  obtain ⟨t, h1, h2⟩ := h
  exact .tup h1 (.cons (.str _) (.cons (.int _) (.cons (.bl _) (.cons (ks_dp h2) .nil))))
theorem lk_dp {a : Addr} {c : Lk} (h : LkAt K H a c) : Dp K H (.ref a) (lkP c) := by
  obtain ⟨t, h1, h2⟩ := h
  exact .tup h1 (.cons (.str _) (.cons (.int _) (.cons (.int _) (.cons (ks_dp h2) .nil))))
theorem sr_dp {a : Addr} {c : Sr} (h : SrAt K H a c) : Dp K H (.ref a) (srP c) := by
  obtain ⟨t, h1, h2⟩ := h
  exact .tup h1 (.cons (.str _) (.cons (.int _) (.cons (ks_dp h2) .nil)))
end
theorem all_plain {α : Type} {f : α → PyData} (h : ∀ x, (f x).plain = true) : ∀ xs : List α, PyData.plainAll (xs.map f) = true
  | [] => rfl
  | x :: r => by
    show ((f x).plain && PyData.plainAll (r.map f)) = true
    rw [h x, all_plain h r]
    rfl
theorem all_depth {α : Type} {f : α → PyData} {n : Nat} (h : ∀ x, (f x).depth ≤ n) : ∀ xs : List α, PyData.depthAll (xs.map f) ≤ n
  | [] => Nat.zero_le _
  | x :: r => by
    show max (f x).depth (PyData.depthAll (r.map f)) ≤ n
    have := h x
    have := all_depth h r
    omega
theorem hi_plain (o : Option Int) : (hiP o).plain = true := by cases o <;> rfl
theorem kd_plain (k : Kd) : (kdP k).plain = true := by
  show (true && (true && ((hiP k.high).plain && true))) = true
  rw [hi_plain]
  rfl
theorem ks_plain (ks : List Kd) : (ksP ks).plain = true := all_plain kd_plain ks
theorem cl_plain (c : Cl) : (clP c).plain = true := by
  show (true && (true && (true && ((ksP c.kinds).plain && true)))) = true
  rw [ks_plain]
  rfl
theorem lk_plain (c : Lk) : (lkP c).plain = true := by
  show (true && (true && (true && ((ksP c.kinds).plain && true)))) = true
  rw [ks_plain]
  rfl
theorem sr_plain (c : Sr) : (srP c).plain = true := by
  show (true && (true && ((ksP c.kinds).plain && true))) = true
  rw [ks_plain]
  rfl
theorem hi_depth (o : Option Int) : (hiP o).depth ≤ 1 := by cases o <;> simp [hiP, PyData.depth]
theorem kd_depth (k : Kd) : (kdP k).depth ≤ 3 := by
  have := hi_depth k.high
  simp only [kdP, PyData.depth, PyData.depthAll]
  omega
theorem ks_depth (ks : List Kd) : (ksP ks).depth ≤ 5 := by
  have := all_depth kd_depth ks
  simp only [ksP, PyData.depth]
  omega
theorem cl_depth (c : Cl) : (clP c).depth ≤ 8 := by
  have := ks_depth c.kinds
  simp only [clP, PyData.depth, PyData.depthAll]
  omega
theorem lk_depth (c : Lk) : (lkP c).depth ≤ 8 := by
  have := ks_depth c.kinds
  simp only [lkP, PyData.depth, PyData.depthAll]
  omega
theorem sr_depth (c : Sr) : (srP c).depth ≤ 8 := by
  have := ks_depth c.kinds
  simp only [srP, PyData.depth, PyData.depthAll]
  omega
theorem list_depth {α : Type} {f : α → PyData} (h : ∀ x, (f x).depth ≤ 8) (xs : List α) : (PyData.list (xs.map f)).depth ≤ 64 := by
  have := all_depth h xs
  simp only [PyData.depth]
  omega
theorem list_eqv {α : Type} {f : α → PyData} (h : ∀ x, (f x).plain = true) (xs : List α) : PyData.eqv (.list (xs.map f)) (.list (xs.map f)) = true := SeqAt.eqv_refl_plain _ (all_plain h xs)
/-! ### blocks of lines -/
def LnAt (H : Hp) (a : Addr) (ls : List Str) : Prop := H a = some (.lst (ls.map V.str))
def BkAt (H : Hp) (l : Addr) (bs : List (List Str)) : Prop := ∃ as, H l = some (.lst (as.map V.ref)) ∧ Each (LnAt H) as bs ∧ l ∉ as
theorem BkAt.keep {H H' : Hp} {l : Addr} {bs : List (List Str)} (e : Same H H') (h : BkAt H l bs) : BkAt H' l bs := by
  obtain ⟨as, h1, h2, h3⟩ := h
  exact ⟨as, e _ _ h1, h2.keep fun _ _ z => e _ _ z, h3⟩
theorem BkAt.add {H : Hp} {l b : Addr} {bs : List (List Str)} {as : List Addr} {ls : List Str} (h1 : H l = some (.lst (as.map V.ref))) (h2 : Each (LnAt H) as bs) (h3 : l ∉ as) (hb : H b = some (.lst (ls.map V.str))) (n : l ≠ b) :
    BkAt (upd H l (.lst (as.map V.ref ++ [V.ref b]))) l (bs ++ [ls]) := by
  refine ⟨as ++ [b], by rw [upd_same, List.map_append]; rfl, Each.snoc ⟨h2.1, fun i a x e1 e2 => ?_⟩ ?_, fun h => ?_⟩
  · show upd _ _ _ _ = _
    rw [upd_ne fun e => h3 (by rw [← e]; exact List.mem_of_getElem? e1)]
    exact h2.2 i a x e1 e2
  · show upd _ _ _ _ = _
    rw [upd_ne n.symm]
    exact hb
  · rcases List.mem_append.mp h with h | h
    · exact h3 h
    · exact n (List.mem_singleton.mp h)
theorem each_app {α : Type} {P : Addr → α → Prop} {as bs : List Addr} {xs ys : List α} (h : Each P as xs) (g : Each P bs ys) : Each P (as ++ bs) (xs ++ ys) := by
  refine ⟨by rw [List.length_append, List.length_append, h.1, g.1], fun i a x h1 h2 => ?_⟩
  by_cases hi : i < as.length
  · rw [List.getElem?_append_left hi] at h1
    rw [List.getElem?_append_left (by rw [← h.1]; exact hi)] at h2
    exact h.2 i a x h1 h2
  · rw [List.getElem?_append_right (by omega)] at h1
    rw [List.getElem?_append_right (by rw [← h.1]; omega)] at h2
    rw [← h.1] at h2
    exact g.2 _ a x h1 h2
theorem flatten_take {bs : List (List Str)} {i : Nat} {x : List Str} (h : bs[i]? = some x) : (bs.take (i + 1)).flatten = (bs.take i).flatten ++ x := by
  rw [List.take_add_one, h, List.flatten_append]
  simp
theorem take_snoc {α β : Type} {f : α → β} {xs : List α} {i : Nat} {x : α} (h : xs[i]? = some x) : (xs.take (i + 1)).map f = (xs.take i).map f ++ [f x] := by
  rw [List.take_add_one, h, List.map_append]
  rfl
/-- all blocks of a frame -/
def blksF (F : Fm) : List (List Str) := F.clocks.map (clLines F.devices) ++ F.links.map (lkLines F.devices) ++ F.sources.map (srLines F.devices)
theorem blks_flat (F : Fm) : F.devices.map dvLine ++ (blksF F).flatten ++ ftLines F.faults = linesF F := by
  unfold blksF linesF
  simp only [List.flatten_append, List.flatMap_def, List.append_assoc]
theorem flatM_take {α : Type} {f : α → List Str} {xs : List α} {i : Nat} {x : α} (h : xs[i]? = some x) : (xs.take (i + 1)).flatMap f = (xs.take i).flatMap f ++ f x := by
  rw [List.take_add_one, h, List.flatMap_append]
  simp
end Vs

namespace Vs
open PySem PySem.Spec PyProof.Rows L2
/-- a property of a class of the text -/
structure Pr (K : PySem.W.Frag) (C : Addr) (x qual : Str) (st : Stmt) (ps : List Str) (f : Addr) (fd : FuncData) : Prop where
  F : Fun K x qual st f fd
  b : Binds K fd ps []
  m : ∃ p, PropOf K C x p f
theorem pe_propE {X : Cx} {CX : CXT} {k : Nat} {C g : Addr} {f : Str} {fd : FuncData} {ps : List Str} {sp : Sp} {dvs : List V} {ds : List Value} {E : XK} {e : Expr} {pos : Pos} {ta : TE}
    (he : PE X e ta) (c : Cls X.K C) (hp : ∃ p, PropOf X.K C f p g) (F : FnOk X.prog X.w X.K X.mg X.base CX k g fd ps sp) (hr : Room (k + 1) X.A) (hb : Binds X.K fd ps ds) (hd : Vals dvs ds) (hx : Passes CX X.nox E)
    (hab : attributeBase e f X.env (eval e X.env) = eval e X.env) : PE X (.Attribute e f pos) (tProp C sp dvs E ta) := by
  obtain ⟨p, hp⟩ := hp
  exact pe_prop he c hp F hr hb hd hx hab
/-- the beginning stands at aB -/
structure Begin (K : PySem.W.Frag) (mg : Str → Option Value) (aB : Addr) : Prop where
  m : mg "BEGINNING" = some (.ref aB)
  sq : ∀ H, SqT K H aB [.int (-1), .int 0]
theorem vne_int {a b : Int} (c : (!decide (V.int a = V.int b)) = true) : a ≠ b := fun e => by
  rw [e, decide_eq_true rfl] at c
  cases c
/-- the clocks of a device among the first n -/
def ckN (cs : List Cl) (j : Int) : Nat → List Int
  | 0 => []
  | n + 1 => ckN cs j n ++ (match cs[n]? with
    | some c => if c.dev = j then [(n : Int)] else []
    | none => [])
theorem ckN_yes {cs : List Cl} {j : Int} {n : Nat} {c : Cl} (h : cs[n]? = some c) (e : c.dev = j) : ckN cs j (n + 1) = ckN cs j n ++ [(n : Int)] := by
  rw [ckN, h]
  show _ ++ (if c.dev = j then _ else _) = _
  rw [if_pos e]
theorem ckN_no {cs : List Cl} {j : Int} {n : Nat} {c : Cl} (h : cs[n]? = some c) (e : c.dev ≠ j) : ckN cs j (n + 1) = ckN cs j n := by
  rw [ckN, h]
  show _ ++ (if c.dev = j then _ else _) = _
  rw [if_neg e, List.append_nil]
theorem ckN_len (cs : List Cl) (j : Int) : ∀ n, (ckN cs j n).length ≤ n
  | 0 => Nat.le_refl _
  | n + 1 => by
    have h := ckN_len cs j n
    rw [ckN, List.length_append]
    have : (match cs[n]? with
      | some c => if c.dev = j then [(n : Int)] else []
      | none => []).length ≤ 1 := by
      split
      · split
        · exact Nat.le_refl _
        · exact Nat.zero_le _
      · exact Nat.zero_le _
    omega
theorem ints_all {K : PySem.W.Frag} {H : Hp} : ∀ ns : List Int, DpAll K H (ns.map V.int) (ns.map PyData.int)
  | [] => .nil
  | s :: r => .cons (.int s) (ints_all r)
theorem ints_dp {K : PySem.W.Frag} {H : Hp} {a : Addr} {ns : List Int} (h : SqL K H a (ns.map V.int)) : Dp K H (.ref a) (.list (ns.map PyData.int)) := .lst h (ints_all ns)
theorem int_plain (i : Int) : (PyData.int i).plain = true := rfl
theorem int_depth (i : Int) : (PyData.int i).depth ≤ 8 := by simp [PyData.depth]
/-- a frame's four lists as data -/
def frP (F : Fm) : PyData := .list [.list (F.devices.map PyData.str), .list (F.clocks.map clP), .list (F.links.map lkP), .list (F.sources.map srP)]
theorem frP_plain (F : Fm) : (frP F).plain = true := by
  show ((PyData.list (F.devices.map PyData.str)).plain && ((PyData.list (F.clocks.map clP)).plain && ((PyData.list (F.links.map lkP)).plain && ((PyData.list (F.sources.map srP)).plain && true)))) = true
  have h2 : (PyData.list (F.clocks.map clP)).plain = true := all_plain cl_plain F.clocks
  have h3 : (PyData.list (F.links.map lkP)).plain = true := all_plain lk_plain F.links
  have h4 : (PyData.list (F.sources.map srP)).plain = true := all_plain sr_plain F.sources
  rw [strl_plain, h2, h3, h4]
  rfl
theorem frP_depth (F : Fm) : (frP F).depth ≤ 64 := by
  have h1 := strs_depth F.devices
  have h2 := all_depth cl_depth F.clocks
  have h3 := all_depth lk_depth F.links
  have h4 := all_depth sr_depth F.sources
  simp only [frP, PyData.depth, PyData.depthAll]
  omega
theorem frP_dp {K : PySem.W.Frag} {H : Hp} {a d c l s : Addr} {F : Fm} (h : SqL K H a [.ref d, .ref c, .ref l, .ref s]) (f : FmIn K H d c l s F) : Dp K H (.ref a) (frP F) := by
  obtain ⟨hd, ⟨ac, hc, h1⟩, ⟨al, hl, h2⟩, ⟨as, hs, h3⟩⟩ := f
  exact .lst h (.cons (strs_dp (SqL.of hd)) (.cons (.lst (SqL.of hc) (all_dp (fun _ _ z => cl_dp z) h1)) (.cons (.lst (SqL.of hl) (all_dp (fun _ _ z => lk_dp z) h2)) (.cons (.lst (SqL.of hs) (all_dp (fun _ _ z => sr_dp z) h3)) .nil))))
theorem FmIn.but {K : PySem.W.Frag} {H H' : Hp} {o d c l s : Addr} {xs : List V} {F : Fm} (e : But o H H') (ho : H o = some (.lst xs)) (nd : d ≠ o) (nc : c ≠ o) (nl : l ≠ o) (ns : s ≠ o) (h : FmIn K H d c l s F) : FmIn K H' d c l s F := by
  obtain ⟨h0, ⟨a1, h1, g1⟩, ⟨a2, h2, g2⟩, ⟨a3, h3, g3⟩⟩ := h
  exact ⟨e _ _ nd h0, ⟨a1, e _ _ nc h1, g1.keep fun _ _ z => z.but e ho⟩, ⟨a2, e _ _ nl h2, g2.keep fun _ _ z => z.but e ho⟩, ⟨a3, e _ _ ns h3, g3.keep fun _ _ z => z.but e ho⟩⟩
end Vs

namespace Vs
open PySem PySem.Spec PyProof.Rows L2
/-! ### tuples stay where they are -/
def TupK (H H' : Hp) : Prop := (∀ a xs, H a = some (.tup xs) → H' a = some (.tup xs)) ∧ ∀ a o xs, H a = some (.frz o (.tup xs)) → H' a = some (.frz o (.tup xs))
theorem TupK.refl (H : Hp) : TupK H H := ⟨fun _ _ h => h, fun _ _ _ h => h⟩
theorem TupK.trans {H H1 H2 : Hp} (a : TupK H H1) (b : TupK H1 H2) : TupK H H2 := ⟨fun c u h => b.1 c u (a.1 c u h), fun c o u h => b.2 c o u (a.2 c o u h)⟩
theorem TupK.of {H H' : Hp} (e : Same H H') : TupK H H' := ⟨fun _ _ h => e _ _ h, fun _ _ _ h => e _ _ h⟩
theorem TupK.but {H H' : Hp} {o : Addr} {xs : List V} (e : But o H H') (ho : H o = some (.lst xs)) : TupK H H' := ⟨fun _ _ h => e _ _ (ne_of h ho (by intro z; cases z)) h, fun _ _ _ h => e _ _ (ne_of h ho (by intro z; cases z)) h⟩
theorem TupK.new {H : Hp} {p : Addr} {o : HO} (h : H p = none) : TupK H (upd H p o) := TupK.of (same_upd h)
theorem TupK.set {H : Hp} {p : Addr} {xs : List V} {o : HO} (h : H p = some (.lst xs)) : TupK H (upd H p o) := TupK.but But.set h
theorem TupK.sq {K : PySem.W.Frag} {H H' : Hp} {a : Addr} {xs : List V} (e : TupK H H') (h : SqT K H a xs) : SqT K H' a xs := by
  rcases h with (h | ⟨ob, h⟩) | h
  · exact .inl (.inl (e.1 _ _ h))
  · exact .inl (.inr ⟨ob, e.2 _ _ _ h⟩)
  · exact .inr h
theorem fr {H H1 : Hp} {p : Addr} {o : HO} (e : upd H p o = H1) (n : H p = none) : Same H H1 ∧ H1 p = some o := by
  subst e
  exact ⟨same_upd n, upd_same⟩
theorem stt {H H1 : Hp} {p : Addr} {o : HO} (e : upd H p o = H1) : But p H H1 ∧ H1 p = some o := by
  subst e
  exact ⟨But.set, upd_same⟩
/-! ### data made of tuples -/
mutual
def Im (K : PySem.W.Frag) (H : Hp) : PyData → V → Prop
  | .none, v => v = .non
  | .bool b, v => v = .bl b
  | .int i, v => v = .int i
  | .str z, v => v = .str z
  | .tuple ds, v => ∃ a vs, v = .ref a ∧ SqT K H a vs ∧ ImL K H ds vs
  | .list _, _ => False
  | .dict _, _ => False
def ImL (K : PySem.W.Frag) (H : Hp) : List PyData → List V → Prop
  | [], vs => vs = []
  | d :: ds, vs => ∃ v r, vs = v :: r ∧ Im K H d v ∧ ImL K H ds r
end
section
variable {K : PySem.W.Frag} {H H' : Hp}
mutual
theorem Im.mono (e : TupK H H') : ∀ (d : PyData) {v : V}, Im K H d v → Im K H' d v
  | .none, _, h => by rw [Im] at h ⊢; exact h
  | .bool _, _, h => by rw [Im] at h ⊢; exact h
  | .int _, _, h => by rw [Im] at h ⊢; exact h
  | .str _, _, h => by rw [Im] at h ⊢; exact h
  | .tuple ds, _, h => by
    rw [Im] at h ⊢
    obtain ⟨a, vs, h1, h2, h3⟩ := h
    exact ⟨a, vs, h1, e.sq h2, ImL.mono e ds h3⟩
  | .list _, _, h => by rw [Im] at h; exact h.elim
  | .dict _, _, h => by rw [Im] at h; exact h.elim
theorem ImL.mono (e : TupK H H') : ∀ (ds : List PyData) {vs : List V}, ImL K H ds vs → ImL K H' ds vs
  | [], _, h => by rw [ImL] at h ⊢; exact h
  | d :: ds, _, h => by
    rw [ImL] at h ⊢
    obtain ⟨v, r, h1, h2, h3⟩ := h
    exact ⟨v, r, h1, Im.mono e d h2, ImL.mono e ds h3⟩
end
mutual
theorem Im.dp : ∀ (d : PyData) {v : V}, Im K H d v → Dp K H v d
  | .none, _, h => by rw [Im] at h; rw [h]; exact .non
  | .bool _, _, h => by rw [Im] at h; rw [h]; exact .bl _
  | .int _, _, h => by rw [Im] at h; rw [h]; exact .int _
  | .str _, _, h => by rw [Im] at h; rw [h]; exact .str _
  | .tuple ds, _, h => by
    rw [Im] at h
    obtain ⟨a, vs, rfl, h2, h3⟩ := h
    exact .tup h2 (ImL.dp ds h3)
  | .list _, _, h => by rw [Im] at h; exact h.elim
  | .dict _, _, h => by rw [Im] at h; exact h.elim
theorem ImL.dp : ∀ (ds : List PyData) {vs : List V}, ImL K H ds vs → DpAll K H vs ds
  | [], _, h => by rw [ImL] at h; rw [h]; exact .nil
  | d :: ds, _, h => by
    rw [ImL] at h
    obtain ⟨v, r, rfl, h2, h3⟩ := h
    exact .cons (Im.dp d h2) (ImL.dp ds h3)
end
mutual
theorem Im.plain : ∀ (d : PyData) {v : V}, Im K H d v → d.plain = true
  | .none, _, h => rfl
  | .bool _, _, h => rfl
  | .int _, _, h => rfl
  | .str _, _, h => rfl
  | .tuple ds, _, h => by
    rw [Im] at h
    obtain ⟨a, vs, rfl, h2, h3⟩ := h
    exact ImL.plain ds h3
  | .list _, _, h => by rw [Im] at h; exact h.elim
  | .dict _, _, h => by rw [Im] at h; exact h.elim
theorem ImL.plain : ∀ (ds : List PyData) {vs : List V}, ImL K H ds vs → PyData.plainAll ds = true
  | [], _, h => rfl
  | d :: ds, _, h => by
    rw [ImL] at h
    obtain ⟨v, r, rfl, h2, h3⟩ := h
    show (d.plain && PyData.plainAll ds) = true
    rw [Im.plain d h2, ImL.plain ds h3]
    rfl
end
theorem Im.int_ {i : Int} : Im K H (.int i) (.int i) := by rw [Im]
theorem Im.bl_ {b : Bool} : Im K H (.bool b) (.bl b) := by rw [Im]
theorem Im.str_ {z : Str} : Im K H (.str z) (.str z) := by rw [Im]
theorem Im.non_ : Im K H .none .non := by rw [Im]
theorem Im.tup_ {a : Addr} {vs : List V} {ds : List PyData} (h : SqT K H a vs) (e : ImL K H ds vs) : Im K H (.tuple ds) (.ref a) := by rw [Im]; exact ⟨a, vs, rfl, h, e⟩
theorem Im.unt {ds : List PyData} {v : V} (h : Im K H (.tuple ds) v) : ∃ a vs, v = .ref a ∧ SqT K H a vs ∧ ImL K H ds vs := by rw [Im] at h; exact h
theorem Im.uni {i : Int} {v : V} (h : Im K H (.int i) v) : v = .int i := by rw [Im] at h; exact h
theorem Im.unn {v : V} (h : Im K H .none v) : v = .non := by rw [Im] at h; exact h
theorem ImL.nil_ : ImL K H [] [] := by rw [ImL]
theorem ImL.cons_ {d : PyData} {ds : List PyData} {v : V} {vs : List V} (h : Im K H d v) (t : ImL K H ds vs) : ImL K H (d :: ds) (v :: vs) := by rw [ImL]; exact ⟨_, _, rfl, h, t⟩
theorem ImL.unc {d : PyData} {ds : List PyData} {vs : List V} (h : ImL K H (d :: ds) vs) : ∃ v r, vs = v :: r ∧ Im K H d v ∧ ImL K H ds r := by rw [ImL] at h; exact h
theorem ImL.unn {vs : List V} (h : ImL K H [] vs) : vs = [] := by rw [ImL] at h; exact h
theorem ImL.len : ∀ {ds : List PyData} {vs : List V}, ImL K H ds vs → vs.length = ds.length
  | [], _, h => by rw [h.unn]; rfl
  | d :: ds, _, h => by
    obtain ⟨v, r, rfl, _, h2⟩ := h.unc
    rw [List.length_cons, List.length_cons, ImL.len h2]
theorem ImL.get : ∀ {ds : List PyData} {vs : List V} {i : Nat} {d : PyData}, ImL K H ds vs → ds[i]? = some d → ∃ v, vs[i]? = some v ∧ Im K H d v
  | d :: ds, _, 0, _, h, hi => by
    obtain ⟨v, r, rfl, h1, _⟩ := h.unc
    cases hi
    exact ⟨v, rfl, h1⟩
  | d :: ds, _, i + 1, e, h, hi => by
    obtain ⟨v, r, rfl, _, h2⟩ := h.unc
    exact ImL.get (i := i) h2 hi
  | [], _, _, _, _, hi => by simp at hi
theorem ImL.get' : ∀ {ds : List PyData} {vs : List V} {i : Nat} {v : V}, ImL K H ds vs → vs[i]? = some v → ∃ d, ds[i]? = some d ∧ Im K H d v := fun {ds vs i v} h hi => by
  have hl := h.len
  have hi' := (List.getElem?_eq_some_iff.mp hi).1
  have e : ds[i]? = some (ds[i]'(by omega)) := List.getElem?_eq_getElem (by omega)
  obtain ⟨w, h1, h2⟩ := h.get e
  rw [hi] at h1
  cases h1
  exact ⟨_, e, h2⟩
theorem ImL.app : ∀ {ds es : List PyData} {vs ws : List V}, ImL K H ds vs → ImL K H es ws → ImL K H (ds ++ es) (vs ++ ws)
  | [], _, _, _, h, g => by rw [h.unn]; exact g
  | d :: ds, _, _, _, h, g => by
    obtain ⟨v, r, rfl, h1, h2⟩ := h.unc
    exact ImL.cons_ h1 (ImL.app h2 g)
theorem ImL.snoc {ds : List PyData} {d : PyData} {vs : List V} {v : V} (h : ImL K H ds vs) (g : Im K H d v) : ImL K H (ds ++ [d]) (vs ++ [v]) := h.app (ImL.cons_ g ImL.nil_)
theorem ImL.ints : ∀ {ns : List Int}, ImL K H (ns.map PyData.int) (ns.map V.int)
  | [] => ImL.nil_
  | n :: r => ImL.cons_ Im.int_ ImL.ints
theorem ImL.uints : ∀ {ns : List Int} {vs : List V}, ImL K H (ns.map PyData.int) vs → vs = ns.map V.int
  | [], _, h => h.unn
  | n :: r, _, h => by
    obtain ⟨v, r, rfl, h1, h2⟩ := h.unc
    rw [h1.uni, h2.uints]
    rfl
/-- a list of such data, one that may change -/
def LsI (K : PySem.W.Frag) (H : Hp) (a : Addr) (ds : List PyData) : Prop := ∃ vs, H a = some (.lst vs) ∧ ImL K H ds vs
theorem LsI.keep {a ds} (e : Same H H') (h : LsI K H a ds) : LsI K H' a ds := by
  obtain ⟨vs, h1, h2⟩ := h
  exact ⟨vs, e _ _ h1, ImL.mono (.of e) _ h2⟩
theorem LsI.but {a ds} {o : Addr} {xs : List V} (e : But o H H') (ho : H o = some (.lst xs)) (n : a ≠ o) (h : LsI K H a ds) : LsI K H' a ds := by
  obtain ⟨vs, h1, h2⟩ := h
  exact ⟨vs, e _ _ n h1, ImL.mono (.but e ho) _ h2⟩
theorem LsI.lst {a ds} (h : LsI K H a ds) : ∃ xs, H a = some (.lst xs) := by
  obtain ⟨vs, h1, h2⟩ := h
  exact ⟨vs, h1⟩
theorem LsI.dp {a ds} (h : LsI K H a ds) : Dp K H (.ref a) (.list ds) := by
  obtain ⟨vs, h1, h2⟩ := h
  exact .lst (SqL.of h1) h2.dp
theorem LsI.plain {a ds} (h : LsI K H a ds) : (PyData.list ds).plain = true := by
  obtain ⟨vs, h1, h2⟩ := h
  exact h2.plain
theorem LsI.snoc {a ds d v} (h : LsI K H a ds) (g : Im K H d v) : ∃ vs, H a = some (.lst vs) ∧ vs.length = ds.length ∧ LsI K (upd H a (.lst (vs ++ [v]))) a (ds ++ [d]) := by
  obtain ⟨vs, h1, h2⟩ := h
  exact ⟨vs, h1, h2.len, _, upd_same, ImL.mono (.set h1) _ (h2.snoc g)⟩
/-- what == of two equal lists asks -/
theorem LsI.eqP {a b ds} {Q : VK} (h : LsI K H a ds) (g : LsI K H b ds) (hd : (PyData.list ds).depth ≤ 64) (q : Q (.bl true) H) : rEqP K (.ref a) (.ref b) H Q := by
  refine ⟨_, _, h.dp, g.dp, h.plain, g.plain, hd, ?_⟩
  rw [SeqAt.eqv_refl_plain _ h.plain]
  exact q
theorem LsI.neP {a b ds} {Q : VK} (h : LsI K H a ds) (g : LsI K H b ds) (hd : (PyData.list ds).depth ≤ 64) (q : Q (.bl false) H) : rNeP K (.ref a) (.ref b) H Q := by
  refine ⟨_, _, h.dp, g.dp, h.plain, g.plain, hd, ?_⟩
  rw [SeqAt.eqv_refl_plain _ h.plain]
  exact q
end
theorem ldepth {α : Type} {f : α → PyData} {n : Nat} (h : ∀ x, (f x).depth ≤ n) (xs : List α) : (PyData.list (xs.map f)).depth ≤ n + 1 := by
  have := all_depth h xs
  simp only [PyData.depth]
  omega
/-! ### points and bounds -/
structure Pt where
  d : Int
  n : Int
  c : Int
deriving DecidableEq
structure Bd where
  one : Pt
  two : Pt
  amount : Int
  part : Int
deriving DecidableEq
def ptP (p : Pt) : PyData := .tuple [.int p.d, .int p.n, .int p.c]
def bdP (b : Bd) : PyData := .tuple [ptP b.one, ptP b.two, .int b.amount, .int b.part]
theorem pt_depth (p : Pt) : (ptP p).depth ≤ 3 := by simp [ptP, PyData.depth, PyData.depthAll]
theorem bd_depth (b : Bd) : (bdP b).depth ≤ 5 := by
  have h1 := pt_depth b.one
  have h2 := pt_depth b.two
  simp only [bdP, PyData.depth, PyData.depthAll]
  omega
theorem bds_depth (bs : List Bd) : (PyData.list (bs.map bdP)).depth ≤ 64 := Nat.le_trans (ldepth bd_depth bs) (by decide)
theorem pts_depth (bs : List Pt) : (PyData.list (bs.map ptP)).depth ≤ 64 := Nat.le_trans (ldepth pt_depth bs) (by decide)
section
variable {K : PySem.W.Frag} {H : Hp}
theorem Im.unpt {p : Pt} {v : V} (h : Im K H (ptP p) v) : ∃ a, v = .ref a ∧ SqT K H a [.int p.d, .int p.n, .int p.c] := by
  obtain ⟨a, vs, h1, h2, h3⟩ := Im.unt h
  have e := ImL.uints (ns := [p.d, p.n, p.c]) h3
  exact ⟨a, h1, by rw [e] at h2; exact h2⟩
theorem Im.unbd {b : Bd} {v : V} (h : Im K H (bdP b) v) : ∃ a x y, v = .ref a ∧ SqT K H a [x, y, .int b.amount, .int b.part] ∧ Im K H (ptP b.one) x ∧ Im K H (ptP b.two) y := by
  obtain ⟨a, vs, h1, h2, h3⟩ := Im.unt h
  obtain ⟨x, r, rfl, hx, h3⟩ := h3.unc
  obtain ⟨y, r, rfl, hy, h3⟩ := h3.unc
  have e := ImL.uints (ns := [b.amount, b.part]) h3
  exact ⟨a, x, y, h1, by rw [e] at h2; exact h2, hx, hy⟩
theorem ptI {a : Addr} {p : Pt} (h : SqT K H a [.int p.d, .int p.n, .int p.c]) : Im K H (ptP p) (.ref a) := Im.tup_ h (ImL.ints (ns := [p.d, p.n, p.c]))
theorem bdI {a : Addr} {b : Bd} {x y : V} (h : SqT K H a [x, y, .int b.amount, .int b.part]) (hx : Im K H (ptP b.one) x) (hy : Im K H (ptP b.two) y) : Im K H (bdP b) (.ref a) := Im.tup_ h (ImL.cons_ hx (ImL.cons_ hy (ImL.ints (ns := [b.amount, b.part]))))
end
theorem map_get {α : Type} {f : α → PyData} {xs : List α} {i : Nat} {d : PyData} (h : (xs.map f)[i]? = some d) : ∃ x, xs[i]? = some x ∧ d = f x := by
  rw [List.getElem?_map] at h
  cases e : xs[i]? with
  | none => rw [e] at h; cases h
  | some x => rw [e] at h; exact ⟨x, rfl, (Option.some.inj h).symm⟩
/-! ### the drawn rows, n of them -/
def RwAt (H : Hp) (r : Addr) (n : Nat) : Prop := ∃ ns : List Int, H r = some (.lst (ns.map V.int)) ∧ ns.length = n
theorem RwAt.lst {H : Hp} {r : Addr} {n : Nat} (h : RwAt H r n) : ∃ xs, H r = some (.lst xs) := by
  obtain ⟨ns, h, _⟩ := h
  exact ⟨_, h⟩
theorem RwAt.keep {H H' : Hp} {r : Addr} {n : Nat} (e : Same H H') (h : RwAt H r n) : RwAt H' r n := by
  obtain ⟨ns, h, h2⟩ := h
  exact ⟨ns, e _ _ h, h2⟩
theorem RwAt.but {H H' : Hp} {r o : Addr} {n : Nat} (e : But o H H') (ne : r ≠ o) (h : RwAt H r n) : RwAt H' r n := by
  obtain ⟨ns, h, h2⟩ := h
  exact ⟨ns, e _ _ ne h, h2⟩
theorem RwAt.tk {H H' : Hp} {r : Addr} {n : Nat} (h : RwAt H r n) (e : But r H H') : TupK H H' := by
  obtain ⟨xs, h⟩ := h.lst
  exact TupK.but e h
theorem RwAt.ne {H : Hp} {r p : Addr} {n : Nat} (h : RwAt H r n) (e : H p = none) : p ≠ r := by
  obtain ⟨xs, h⟩ := h.lst
  exact (ne_of_none h e).symm
theorem inV_int (p : Int) (ns : List Int) : inV (.int p) (ns.map V.int) = ns.contains p := by
  unfold inV
  induction ns with
  | nil => rfl
  | cons a r ih =>
    rw [List.map_cons, List.any_cons, ih, List.contains_cons]
    show ((a == p) || r.contains p) = _
    rw [Bool.beq_comm]
theorem flat_ints : ∀ ns : List Int, (ns.map V.int).all flatV = true
  | [] => rfl
  | n :: r => by
    show (true && (r.map V.int).all flatV) = true
    rw [flat_ints r]
    rfl
theorem list_at {K : PySem.W.Frag} {H : Hp} {ds : List PyData} {vs : List V} {j : Int} (h : ImL K H ds vs) (h0 : 0 ≤ j) (h1 : j < (ds.length : Int)) : ∃ d v, ds[j.toNat]? = some d ∧ atI vs j = some v ∧ Im K H d v := by
  have hi : j.toNat < ds.length := by omega
  have e : ds[j.toNat]? = some ds[j.toNat] := List.getElem?_eq_getElem hi
  obtain ⟨v, h2, h3⟩ := h.get e
  exact ⟨_, v, e, at_of (j := j.toNat) (by omega) h2, h3⟩
end Vs

namespace Vs
open PySem PySem.Spec PyProof.Rows L2
/-! ### events, hands as data -/
structure HdM where
  pt : Option Pt
  shown : Int
  kind : Int
def opP : Option Pt → PyData
  | none => .none
  | some p => ptP p
def hdP (h : HdM) : PyData := .tuple [opP h.pt, .int h.shown, .int h.kind]
def intsP (ns : List Int) : PyData := .tuple (ns.map .int)
def ddP (d : Dd) : PyData := .tuple (.str (deedNames.getD d.place Str.empty) :: (if d.place = 8 then [intsP d.nums] else d.nums.map .int))
def evP (e : Ev) : PyData := .tuple [.bool e.asleep, intsP e.shown, intsP e.after, ddP e.deed, intsP e.knows]
theorem ints_depth (ns : List Int) : (intsP ns).depth ≤ 3 := by
  have := all_depth (f := PyData.int) (n := 1) (fun x => by simp [PyData.depth]) ns
  simp only [intsP, PyData.depth]
  omega
theorem dd_depth (d : Dd) : (ddP d).depth ≤ 6 := by
  have h1 := ints_depth d.nums
  have h2 := all_depth (f := PyData.int) (n := 1) (fun x => by simp [PyData.depth]) d.nums
  unfold ddP
  split
  · simp only [PyData.depth, PyData.depthAll]
    omega
  · simp only [PyData.depth, PyData.depthAll]
    omega
theorem ev_depth (e : Ev) : (evP e).depth ≤ 8 := by
  have h1 := ints_depth e.shown
  have h2 := ints_depth e.after
  have h3 := dd_depth e.deed
  have h4 := ints_depth e.knows
  simp only [evP, PyData.depth, PyData.depthAll]
  omega
theorem op_depth (o : Option Pt) : (opP o).depth ≤ 3 := by
  cases o with
  | none => simp [opP, PyData.depth]
  | some p => exact pt_depth p
theorem hd_depth (h : HdM) : (hdP h).depth ≤ 5 := by
  have := op_depth h.pt
  simp only [hdP, PyData.depth, PyData.depthAll]
  omega
theorem evs_depth (es : List Ev) : (PyData.list (es.map evP)).depth ≤ 64 := Nat.le_trans (ldepth ev_depth es) (by decide)
theorem hds_depth (es : List HdM) : (PyData.list (es.map hdP)).depth ≤ 64 := Nat.le_trans (ldepth hd_depth es) (by decide)
section
variable {K : PySem.W.Frag} {H : Hp}
theorem Im.uns {z : Str} {v : V} (h : Im K H (.str z) v) : v = .str z := by rw [Im] at h; exact h
theorem Im.unb {b : Bool} {v : V} (h : Im K H (.bool b) v) : v = .bl b := by rw [Im] at h; exact h
theorem Im.unints {ns : List Int} {v : V} (h : Im K H (intsP ns) v) : ∃ a, v = .ref a ∧ TupI K H a ns := by
  obtain ⟨a, vs, rfl, h2, h3⟩ := Im.unt h
  rw [h3.uints] at h2
  exact ⟨a, rfl, h2⟩
theorem intsI {ns : List Int} {a : Addr} (h : TupI K H a ns) : Im K H (intsP ns) (.ref a) := Im.tup_ h ImL.ints
theorem Im.unhd {h : HdM} {v : V} (g : Im K H (hdP h) v) : ∃ a x, v = .ref a ∧ SqT K H a [x, .int h.shown, .int h.kind] ∧ Im K H (opP h.pt) x := by
  obtain ⟨a, vs, h1, h2, h3⟩ := Im.unt g
  obtain ⟨x, r, rfl, hx, h3⟩ := h3.unc
  have e := ImL.uints (ns := [h.shown, h.kind]) h3
  exact ⟨a, x, h1, by rw [e] at h2; exact h2, hx⟩
theorem hdI {h : HdM} {a : Addr} {x : V} (g : SqT K H a [x, .int h.shown, .int h.kind]) (i : Im K H (opP h.pt) x) : Im K H (hdP h) (.ref a) := Im.tup_ g (ImL.cons_ i (ImL.ints (ns := [h.shown, h.kind])))
theorem Im.unev {e : Ev} {v : V} (g : Im K H (evP e) v) : ∃ a p q d r, v = .ref a ∧ SqT K H a [.bl e.asleep, p, q, d, r] ∧ Im K H (intsP e.shown) p ∧ Im K H (intsP e.after) q ∧ Im K H (ddP e.deed) d ∧ Im K H (intsP e.knows) r := by
  obtain ⟨a, vs, h1, h2, h3⟩ := Im.unt g
  obtain ⟨x, r, rfl, hx, h3⟩ := h3.unc
  obtain ⟨p, r, rfl, hp, h3⟩ := h3.unc
  obtain ⟨q, r, rfl, hq, h3⟩ := h3.unc
  obtain ⟨d, r, rfl, hd, h3⟩ := h3.unc
  obtain ⟨k, r, rfl, hk, h3⟩ := h3.unc
  have e := h3.unn
  rw [e, hx.unb] at h2
  exact ⟨a, p, q, d, k, h1, h2, hp, hq, hd, hk⟩
theorem evI {e : Ev} {a : Addr} {p q d r : V} (h : SqT K H a [.bl e.asleep, p, q, d, r]) (h1 : Im K H (intsP e.shown) p) (h2 : Im K H (intsP e.after) q) (h3 : Im K H (ddP e.deed) d) (h4 : Im K H (intsP e.knows) r) : Im K H (evP e) (.ref a) :=
  Im.tup_ h (ImL.cons_ Im.bl_ (ImL.cons_ h1 (ImL.cons_ h2 (ImL.cons_ h3 (ImL.cons_ h4 ImL.nil_)))))
theorem dn_getD {p : Nat} (h : p < 9) : deedNames[p]? = some (deedNames.getD p Str.empty) := by
  rw [List.getD_eq_getElem?_getD, List.getElem?_eq_getElem (by rw [dn_len]; exact h)]
  rfl
/-- a deed's tuple: its name, then the rest -/
theorem Im.undd {d : Dd} {v : V} (h8 : d.place < 9) (g : Im K H (ddP d) v) : ∃ a z rest, v = .ref a ∧ deedNames[d.place]? = some z ∧ SqT K H a (.str z :: rest) ∧ ((d.place = 8 ∧ ∃ b, rest = [.ref b] ∧ TupI K H b d.nums) ∨ (d.place ≠ 8 ∧ rest = d.nums.map V.int)) := by
  obtain ⟨a, vs, h1, h2, h3⟩ := Im.unt g
  obtain ⟨x, r, rfl, hx, h3⟩ := h3.unc
  rw [hx.uns] at h2
  refine ⟨a, _, r, h1, dn_getD h8, h2, ?_⟩
  by_cases e : d.place = 8
  · rw [if_pos e] at h3
    obtain ⟨y, s, rfl, hy, h4⟩ := h3.unc
    obtain ⟨b, rfl, hb⟩ := hy.unints
    have e2 := h4.unn
    exact .inl ⟨e, b, by rw [e2], hb⟩
  · rw [if_neg e] at h3
    exact .inr ⟨e, h3.uints⟩
theorem ddI {d : Dd} {a : Addr} {z : Str} (hz : deedNames[d.place]? = some z) (h8 : d.place ≠ 8) (h : SqT K H a (.str z :: d.nums.map V.int)) : Im K H (ddP d) (.ref a) := by
  unfold ddP
  rw [if_neg h8, List.getD_eq_getElem?_getD, hz]
  exact Im.tup_ h (ImL.cons_ Im.str_ ImL.ints)
theorem ddI8 {d : Dd} {a b : Addr} (h8 : d.place = 8) (h : SqT K H a [.str "anew", .ref b]) (g : TupI K H b d.nums) : Im K H (ddP d) (.ref a) := by
  unfold ddP
  rw [if_pos h8, h8]
  exact Im.tup_ h (ImL.cons_ Im.str_ (ImL.cons_ (intsI g) ImL.nil_))
end
theorem dn_is {p q : Nat} {z w : Str} (h : deedNames[p]? = some z) (g : deedNames[q]? = some w) : decide (V.str z = V.str w) = decide (p = q) := by
  by_cases e : p = q
  · subst e
    rw [h] at g
    cases g
    rw [decide_eq_true rfl, decide_eq_true rfl]
  · rw [decide_eq_false e]
    refine decide_eq_false fun x => e ?_
    injection x with x
    subst x
    exact nd_ix dn_nodup h g
/-! ### what bounds an event has -/
def kdOf (ks : List Kd) (j : Int) : Kd := ks.getD j.toNat ⟨Str.empty, 0, some 0⟩
def hiOf (k : Kd) : Int := k.high.getD 0
def ftl (a b : Pt) (lo hi part : Int) : List Bd := [⟨a, b, hi, part⟩, ⟨b, a, -lo, part⟩]
def sinceM (goes : Bool) (e : Ev) (h : HdM) : Option Pt := if (decide (e.deed.place = 8) || (e.asleep && !goes)) = true then none else h.pt
def clockM (C : Cl) (c dev n : Int) (e : Ev) (s : Int) (h : HdM) : List Bd :=
  match sinceM C.goes e h with
  | none => ftl ⟨dev, n, c⟩ ⟨dev, n, -1⟩ 0 (hiOf (kdOf C.kinds h.kind)) c
  | some t => if s - h.shown = 0 then ftl t ⟨dev, n, -1⟩ 0 (hiOf (kdOf C.kinds h.kind)) c else
      ftl t ⟨dev, n, c⟩ ((kdOf C.kinds h.kind).low * (s - h.shown)) (hiOf (kdOf C.kinds h.kind) * (s - h.shown)) c ++ [⟨⟨dev, n, c⟩, t, -0, c⟩] ++ [⟨⟨dev, n, c⟩, ⟨dev, n - 1, -1⟩, -((kdOf C.kinds h.kind).low * (s - h.shown - 1)), c⟩] ++ ftl ⟨dev, n, c⟩ ⟨dev, n, -1⟩ 0 (hiOf (kdOf C.kinds h.kind)) c
def givenM (d : Dd) (c : Int) (i : Nat) : Option Int := if d.place = 8 then d.nums[i]? else if d.place = 1 ∧ d.nums[0]? = some c then d.nums[1]? else none
def handM (C : Cl) (c dev n : Int) (e : Ev) (i : Nat) (h : HdM) : HdM :=
  match givenM e.deed c i with
  | some k => ⟨some ⟨dev, n, -1⟩, e.after.getD i 0, k⟩
  | none => if e.after.getD i 0 ≠ e.shown.getD i 0 then ⟨some ⟨dev, n, -1⟩, e.after.getD i 0, h.kind⟩ else
      if (sinceM C.goes e h).isSome = true ∧ e.shown.getD i 0 = h.shown then h else ⟨some ⟨dev, n, c⟩, e.shown.getD i 0, h.kind⟩
def srOf (F : Fm) (j : Int) : Sr := F.sources.getD j.toNat ⟨Str.empty, 0, []⟩
def lkOf (F : Fm) (j : Int) : Lk := F.links.getD j.toNat ⟨Str.empty, 0, 0, []⟩
def clOf (F : Fm) (j : Int) : Cl := F.clocks.getD j.toNat ⟨Str.empty, 0, false, []⟩
def stP : Pt := ⟨-1, 0, -1⟩
def markM (F : Fm) (here : Pt) (d : Dd) : List Bd :=
  ftl stP here (d.nums.getD 2 0 - (kdOf (srOf F (d.nums.getD 0 0)).kinds (d.nums.getD 1 0)).low) (d.nums.getD 2 0 + hiOf (kdOf (srOf F (d.nums.getD 0 0)).kinds (d.nums.getD 1 0))) ((F.clocks.length : Int) + F.links.length + d.nums.getD 0 0)
def hearM (F : Fm) (here : Pt) (d : Dd) (k : Option Int) : List Bd :=
  let w : Pt := ⟨(lkOf F (d.nums.getD 0 0)).s, d.nums.getD 1 0, -1⟩
  [⟨here, w, -0, -1⟩] ++ match k with
    | none => []
    | some j => [⟨here, w, -(kdOf (lkOf F (d.nums.getD 0 0)).kinds j).low, (F.clocks.length : Int) + d.nums.getD 0 0⟩] ++ match (kdOf (lkOf F (d.nums.getD 0 0)).kinds j).high with
      | none => []
      | some m => [⟨w, here, m, (F.clocks.length : Int) + d.nums.getD 0 0⟩]
def cks (F : Fm) (dev : Int) : List Int := ckN F.clocks dev F.clocks.length
def dfH : HdM := ⟨none, 0, 0⟩
def cB (F : Fm) (dev n : Int) (e : Ev) (hs : List HdM) (i : Nat) : List Bd := clockM (clOf F ((cks F dev).getD i 0)) ((cks F dev).getD i 0) dev n e (e.shown.getD i 0) (hs.getD i dfH)
def cH (F : Fm) (dev n : Int) (e : Ev) (hs : List HdM) (i : Nat) : HdM := handM (clOf F ((cks F dev).getD i 0)) ((cks F dev).getD i 0) dev n e i (hs.getD i dfH)
def restM (F : Fm) (here : Pt) (d : Dd) (k : Option Int) : List Bd := if d.place = 2 then markM F here d else if d.place = 5 then hearM F here d k else []
def evB (F : Fm) (dev n : Int) (e : Ev) (hs : List HdM) (k : Option Int) : List Bd :=
  [⟨⟨dev, n, -1⟩, ⟨dev, n - 1, -1⟩, -0, -1⟩] ++ (List.range (cks F dev).length).flatMap (cB F dev n e hs) ++ restM F ⟨dev, n, -1⟩ e.deed k
def evH (F : Fm) (dev n : Int) (e : Ev) (hs : List HdM) : List HdM := (List.range (cks F dev).length).map (cH F dev n e hs)
/-! ### what is asked of them -/
structure ClK (C : Cl) : Prop where
  len : C.kinds.length ≤ 4
  lo : ∀ k ∈ C.kinds, In18 k.low
  hi : ∀ k ∈ C.kinds, ∃ h, k.high = some h ∧ In18 h
def Six (ks : List Kd) (j : Int) : Prop := 0 ≤ j ∧ j < (ks.length : Int)
/-- a kind of a clock, as its rules need it -/
structure KdC (k : Kd) : Prop where
  lo : In18 k.low
  hi : ∃ h, k.high = some h ∧ In18 h
/-- a device's event that fits the frame and the hands before it -/
structure EvFit (F : Fm) (dev : Int) (e : Ev) (hs : List HdM) (k : Option Int) : Prop where
  pl : e.deed.place < 9
  sh : e.shown.length = (cks F dev).length
  af : e.after.length = (cks F dev).length
  hl : hs.length = (cks F dev).length
  ar : e.deed.place ≠ 8 → e.deed.nums.length = arity e.deed.place
  an : e.deed.place = 8 → e.deed.nums.length = (cks F dev).length
  ma : e.deed.place = 2 → 0 ≤ e.deed.nums.getD 0 0 ∧ e.deed.nums.getD 0 0 < F.sources.length ∧ Six (srOf F (e.deed.nums.getD 0 0)).kinds (e.deed.nums.getD 1 0) ∧ (kdOf (srOf F (e.deed.nums.getD 0 0)).kinds (e.deed.nums.getD 1 0)).high.isSome = true
  hr : e.deed.place = 5 → 0 ≤ e.deed.nums.getD 0 0 ∧ e.deed.nums.getD 0 0 < F.links.length ∧ ∀ j, k = some j → Six (lkOf F (e.deed.nums.getD 0 0)).kinds j
  kc : ∀ i : Nat, i < (cks F dev).length → KdC (kdOf (clOf F ((cks F dev).getD i 0)).kinds (hs.getD i dfH).kind)
  kd : ∀ i : Nat, i < (cks F dev).length → Six (clOf F ((cks F dev).getD i 0)).kinds (hs.getD i dfH).kind
theorem ckN_in {cs : List Cl} {j : Int} : ∀ {n : Nat} {c : Int}, n ≤ cs.length → c ∈ ckN cs j n → 0 ≤ c ∧ c < (n : Int) := by
  intro n
  induction n with
  | zero => intro c _ h; simp [ckN] at h
  | succ n ih =>
    intro c hn h
    have hi : n < cs.length := hn
    by_cases e : cs[n].dev = j
    · rw [ckN_yes (List.getElem?_eq_getElem hi) e] at h
      rcases List.mem_append.mp h with h | h
      · have := ih (by omega) h
        omega
      · rw [List.mem_singleton.mp h]
        omega
    · rw [ckN_no (List.getElem?_eq_getElem hi) e] at h
      have := ih (by omega) h
      omega
theorem cks_in {F : Fm} {dev : Int} {i : Nat} (h : i < (cks F dev).length) : 0 ≤ (cks F dev).getD i 0 ∧ (cks F dev).getD i 0 < (F.clocks.length : Int) := by
  have e : (cks F dev).getD i 0 = (cks F dev)[i] := by rw [List.getD_eq_getElem?_getD, List.getElem?_eq_getElem h]; rfl
  rw [e]
  exact ckN_in (Nat.le_refl _) (List.getElem_mem h)
theorem getD_at {α : Type} {xs : List α} {d : α} {j : Int} (h0 : 0 ≤ j) (h1 : j < (xs.length : Int)) : xs[j.toNat]? = some (xs.getD j.toNat d) := by
  rw [List.getD_eq_getElem?_getD, List.getElem?_eq_getElem (by omega)]
  rfl
theorem getD_ix {α : Type} {xs : List α} {d : α} {i : Nat} (h1 : i < xs.length) : xs[i]? = some (xs.getD i d) := by
  rw [List.getD_eq_getElem?_getD, List.getElem?_eq_getElem h1]
  rfl
/-- a tuple of ints of the module's top -/
structure TupC (K : PySem.W.Frag) (mg : Str → Option Value) (x : Str) (a : Addr) (ns : List Int) : Prop where
  m : mg x = some (.ref a)
  sq : ∀ H, SqT K H a (ns.map V.int)
theorem Same.free {H H' : Hp} {a : Addr} (s : Same H H') (h : H' a = none) : H a = none := by
  cases e : H a with
  | none => rfl
  | some w => rw [s _ _ e] at h; cases h
section
variable {K : PySem.W.Frag} {H : Hp}
theorem Im.unks {ks : List Kd} {v : V} (h : Im K H (ksP ks) v) : ∃ a vs, v = .ref a ∧ SqT K H a vs ∧ ImL K H (ks.map kdP) vs := Im.unt h
theorem Im.unkd {k : Kd} {v : V} (h : Im K H (kdP k) v) : ∃ a, v = .ref a ∧ SqT K H a [.str k.name, .int k.low, hiV k.high] := by
  obtain ⟨a, vs, h1, h2, h3⟩ := Im.unt h
  obtain ⟨x, r, rfl, hx, h4⟩ := h3.unc
  obtain ⟨y, r, rfl, hy, h5⟩ := h4.unc
  obtain ⟨z, r, rfl, hz, h6⟩ := h5.unc
  have e := h6.unn
  have ez : z = hiV k.high := by
    cases eh : k.high with
    | none => rw [eh] at hz; exact Im.unn hz
    | some i => rw [eh] at hz; exact Im.uni hz
  rw [e, hx.uns, hy.uni, ez] at h2
  exact ⟨a, h1, h2⟩
theorem Im.uncl {c : Cl} {v : V} (h : Im K H (clP c) v) : ∃ a t ws, v = .ref a ∧ SqT K H a [.str c.name, .int c.dev, .bl c.goes, .ref t] ∧ SqT K H t ws ∧ ImL K H (c.kinds.map kdP) ws := by
  obtain ⟨a, vs, h1, h2, h3⟩ := Im.unt h
  obtain ⟨x, r, rfl, hx, h4⟩ := h3.unc
  obtain ⟨y, r, rfl, hy, h5⟩ := h4.unc
  obtain ⟨z, r, rfl, hz, h6⟩ := h5.unc
  obtain ⟨u, r, rfl, hu, h7⟩ := h6.unc
  obtain ⟨t, ws, rfl, g1, g2⟩ := Im.unks hu
  have e := h7.unn
  rw [e, hx.uns, hy.uni, hz.unb] at h2
  exact ⟨a, t, ws, h1, h2, g1, g2⟩
theorem Im.unlk {c : Lk} {v : V} (h : Im K H (lkP c) v) : ∃ a t ws, v = .ref a ∧ SqT K H a [.str c.name, .int c.s, .int c.r, .ref t] ∧ SqT K H t ws ∧ ImL K H (c.kinds.map kdP) ws := by
  obtain ⟨a, vs, h1, h2, h3⟩ := Im.unt h
  obtain ⟨x, r, rfl, hx, h4⟩ := h3.unc
  obtain ⟨y, r, rfl, hy, h5⟩ := h4.unc
  obtain ⟨z, r, rfl, hz, h6⟩ := h5.unc
  obtain ⟨u, r, rfl, hu, h7⟩ := h6.unc
  obtain ⟨t, ws, rfl, g1, g2⟩ := Im.unks hu
  have e := h7.unn
  rw [e, hx.uns, hy.uni, hz.uni] at h2
  exact ⟨a, t, ws, h1, h2, g1, g2⟩
theorem Im.unsr {c : Sr} {v : V} (h : Im K H (srP c) v) : ∃ a t ws, v = .ref a ∧ SqT K H a [.str c.name, .int c.dev, .ref t] ∧ SqT K H t ws ∧ ImL K H (c.kinds.map kdP) ws := by
  obtain ⟨a, vs, h1, h2, h3⟩ := Im.unt h
  obtain ⟨x, r, rfl, hx, h4⟩ := h3.unc
  obtain ⟨y, r, rfl, hy, h5⟩ := h4.unc
  obtain ⟨u, r, rfl, hu, h7⟩ := h5.unc
  obtain ⟨t, ws, rfl, g1, g2⟩ := Im.unks hu
  have e := h7.unn
  rw [e, hx.uns, hy.uni] at h2
  exact ⟨a, t, ws, h1, h2, g1, g2⟩
theorem kdI {k : Kd} {a : Addr} (h : SqT K H a [.str k.name, .int k.low, hiV k.high]) : Im K H (kdP k) (.ref a) := by
  refine Im.tup_ h (ImL.cons_ Im.str_ (ImL.cons_ Im.int_ (ImL.cons_ ?_ ImL.nil_)))
  cases k.high with
  | none => exact Im.non_
  | some i => exact Im.int_
theorem clI {c : Cl} {a t : Addr} {ws : List V} (h : SqT K H a [.str c.name, .int c.dev, .bl c.goes, .ref t]) (g : SqT K H t ws) (i : ImL K H (c.kinds.map kdP) ws) : Im K H (clP c) (.ref a) :=
  Im.tup_ h (ImL.cons_ Im.str_ (ImL.cons_ Im.int_ (ImL.cons_ Im.bl_ (ImL.cons_ (Im.tup_ g i) ImL.nil_))))
theorem lkI {c : Lk} {a t : Addr} {ws : List V} (h : SqT K H a [.str c.name, .int c.s, .int c.r, .ref t]) (g : SqT K H t ws) (i : ImL K H (c.kinds.map kdP) ws) : Im K H (lkP c) (.ref a) :=
  Im.tup_ h (ImL.cons_ Im.str_ (ImL.cons_ Im.int_ (ImL.cons_ Im.int_ (ImL.cons_ (Im.tup_ g i) ImL.nil_))))
theorem srI {c : Sr} {a t : Addr} {ws : List V} (h : SqT K H a [.str c.name, .int c.dev, .ref t]) (g : SqT K H t ws) (i : ImL K H (c.kinds.map kdP) ws) : Im K H (srP c) (.ref a) :=
  Im.tup_ h (ImL.cons_ Im.str_ (ImL.cons_ Im.int_ (ImL.cons_ (Im.tup_ g i) ImL.nil_)))
/-- the kind of a number, in its tuple -/
theorem kd_at {ks : List Kd} {ws : List V} {j : Int} (i : ImL K H (ks.map kdP) ws) (h : Six ks j) : ∃ a, atI ws j = some (.ref a) ∧ SqT K H a [.str (kdOf ks j).name, .int (kdOf ks j).low, hiV (kdOf ks j).high] := by
  obtain ⟨d, v, h1, h2, h3⟩ := list_at i h.1 (by rw [List.length_map]; exact h.2)
  obtain ⟨k, hk, rfl⟩ := map_get h1
  have e : k = kdOf ks j := by
    have := getD_at (d := (⟨Str.empty, 0, some 0⟩ : Kd)) h.1 h.2
    rw [hk] at this
    exact Option.some.inj this
  subst e
  obtain ⟨a, rfl, h4⟩ := h3.unkd
  exact ⟨a, h2, h4⟩
theorem kdOf_mem {ks : List Kd} {j : Int} (h : Six ks j) : kdOf ks j ∈ ks := List.mem_of_getElem? (getD_at h.1 h.2)
theorem cl_at {F : Fm} {vs : List V} {c : Int} (hI : ImL K H (F.clocks.map clP) vs) (c0 : 0 ≤ c) (c1 : c < (F.clocks.length : Int)) : ∃ a t ws, atI vs c = some (.ref a) ∧ SqT K H a [.str (clOf F c).name, .int (clOf F c).dev, .bl (clOf F c).goes, .ref t] ∧ SqT K H t ws ∧ ImL K H ((clOf F c).kinds.map kdP) ws := by
  obtain ⟨d2, v2, g1, g2, g3⟩ := list_at hI c0 (by rw [List.length_map]; exact c1)
  obtain ⟨C, hC, rfl⟩ := map_get g1
  have eC : C = clOf F c := by
    have := getD_at (d := (⟨Str.empty, 0, false, []⟩ : Cl)) c0 c1
    rw [hC] at this
    exact Option.some.inj this
  subst eC
  obtain ⟨a, t, ws, rfl, h1, h2, h3⟩ := Im.uncl g3
  exact ⟨a, t, ws, g2, h1, h2, h3⟩
theorem lk_at {F : Fm} {vs : List V} {c : Int} (hI : ImL K H (F.links.map lkP) vs) (c0 : 0 ≤ c) (c1 : c < (F.links.length : Int)) : ∃ a t ws, atI vs c = some (.ref a) ∧ SqT K H a [.str (lkOf F c).name, .int (lkOf F c).s, .int (lkOf F c).r, .ref t] ∧ SqT K H t ws ∧ ImL K H ((lkOf F c).kinds.map kdP) ws := by
  obtain ⟨d2, v2, g1, g2, g3⟩ := list_at hI c0 (by rw [List.length_map]; exact c1)
  obtain ⟨C, hC, rfl⟩ := map_get g1
  have eC : C = lkOf F c := by
    have := getD_at (d := (⟨Str.empty, 0, 0, []⟩ : Lk)) c0 c1
    rw [hC] at this
    exact Option.some.inj this
  subst eC
  obtain ⟨a, t, ws, rfl, h1, h2, h3⟩ := Im.unlk g3
  exact ⟨a, t, ws, g2, h1, h2, h3⟩
theorem sr_at {F : Fm} {vs : List V} {c : Int} (hI : ImL K H (F.sources.map srP) vs) (c0 : 0 ≤ c) (c1 : c < (F.sources.length : Int)) : ∃ a t ws, atI vs c = some (.ref a) ∧ SqT K H a [.str (srOf F c).name, .int (srOf F c).dev, .ref t] ∧ SqT K H t ws ∧ ImL K H ((srOf F c).kinds.map kdP) ws := by
  obtain ⟨d2, v2, g1, g2, g3⟩ := list_at hI c0 (by rw [List.length_map]; exact c1)
  obtain ⟨C, hC, rfl⟩ := map_get g1
  have eC : C = srOf F c := by
    have := getD_at (d := (⟨Str.empty, 0, []⟩ : Sr)) c0 c1
    rw [hC] at this
    exact Option.some.inj this
  subst eC
  obtain ⟨a, t, ws, rfl, h1, h2, h3⟩ := Im.unsr g3
  exact ⟨a, t, ws, g2, h1, h2, h3⟩
theorem int_at {ns : List Int} {i : Nat} (h : i < ns.length) : atI (ns.map V.int) (i : Int) = some (.int (ns.getD i 0)) := at_of (j := i) rfl (by rw [List.getElem?_map, getD_ix (d := 0) h]; rfl)
theorem mul64 {a b : Int} (h : In18 a) : (-(2 ^ 64) < a ∧ a < 2 ^ 64) ∨ (-(2 ^ 64) < b ∧ b < 2 ^ 64) := by
  unfold In18 at h
  exact .inl ⟨by omega, by omega⟩
theorem LsI.app {a b ds es} (h : LsI K H a ds) (g : LsI K H b es) : ∃ vs ws, H a = some (.lst vs) ∧ H b = some (.lst ws) ∧ vs.length = ds.length ∧ ws.length = es.length ∧ LsI K (upd H a (.lst (vs ++ ws))) a (ds ++ es) := by
  obtain ⟨vs, h1, h2⟩ := h
  obtain ⟨ws, g1, g2⟩ := g
  exact ⟨vs, ws, h1, g1, h2.len, g2.len, _, upd_same, ImL.mono (.set h1) _ (h2.app g2)⟩
end
/-- all but two lists stays -/
def Bu2 (a b : Addr) (H H' : Hp) : Prop := ∀ c u, c ≠ a → c ≠ b → H c = some u → H' c = some u
theorem Bu2.of {a b : Addr} {H H' : Hp} (s : Same H H') : Bu2 a b H H' := fun c u _ _ h => s c u h
theorem Bu2.refl {a b : Addr} {H : Hp} : Bu2 a b H H := fun c u _ _ h => h
theorem Bu2.trans {a b : Addr} {H H1 H2 : Hp} (x : Bu2 a b H H1) (y : Bu2 a b H1 H2) : Bu2 a b H H2 := fun c u h1 h2 h => y c u h1 h2 (x c u h1 h2 h)
theorem Bu2.one {a b : Addr} {H H' : Hp} (s : But a H H') : Bu2 a b H H' := fun c u h1 _ h => s c u h1 h
theorem Bu2.two {a b : Addr} {H H' : Hp} (s : But b H H') : Bu2 a b H H' := fun c u _ h2 h => s c u h2 h
theorem Bu2.tk {a b : Addr} {H H' : Hp} {xs ys : List V} (s : Bu2 a b H H') (ha : H a = some (.lst xs)) (hb : H b = some (.lst ys)) : TupK H H' :=
  ⟨fun c x h => s c _ (ne_of h ha (by intro z; cases z)) (ne_of h hb (by intro z; cases z)) h, fun c o x h => s c _ (ne_of h ha (by intro z; cases z)) (ne_of h hb (by intro z; cases z)) h⟩
theorem Bu2.same {a b : Addr} {H0 H H' : Hp} (s : Bu2 a b H H') (e : Same H0 H) (ha : H0 a = none) (hb : H0 b = none) : Same H0 H' := fun c u h => s c u (ne_of_none h ha) (ne_of_none h hb) (e c u h)
theorem ftl_len (a b : Pt) (l h p : Int) : (ftl a b l h p).length = 2 := rfl
theorem clockM_len (C : Cl) (c dev n : Int) (e : Ev) (s : Int) (h : HdM) : (clockM C c dev n e s h).length ≤ 6 := by
  unfold clockM
  split
  · rw [ftl_len]; decide
  · split
    · rw [ftl_len]; decide
    · simp only [List.length_append, ftl_len, List.length_cons, List.length_nil]
      decide
theorem hearM_len (F : Fm) (p : Pt) (d : Dd) (k : Option Int) : (hearM F p d k).length ≤ 3 := by
  unfold hearM
  simp only [List.length_append, List.length_cons, List.length_nil]
  split
  · decide
  · split <;> simp
theorem flatB_len {f : Nat → List Bd} (h : ∀ i, (f i).length ≤ 6) : ∀ n, ((List.range n).flatMap f).length ≤ 6 * n
  | 0 => Nat.le_refl _
  | n + 1 => by
    have := flatB_len h n
    have := h n
    rw [List.range_succ, List.flatMap_append, List.length_append]
    show _ + (f n ++ []).length ≤ _
    rw [List.append_nil]
    omega
theorem rangeB {f : Nat → List Bd} (n : Nat) : (List.range (n + 1)).flatMap f = (List.range n).flatMap f ++ f n := by
  rw [List.range_succ, List.flatMap_append]
  show _ ++ (f n ++ []) = _
  rw [List.append_nil]
theorem rangeH {α : Type} {f : Nat → α} (n : Nat) : (List.range (n + 1)).map f = (List.range n).map f ++ [f n] := by
  rw [List.range_succ, List.map_append]
  rfl
/-! ### views -/
def RwI (K : PySem.W.Frag) (H : Hp) (a : Addr) (es : List Ev) : Prop := LsI K H a (es.map evP)
def VwI (K : PySem.W.Frag) (H : Hp) (v : Addr) (vw : List (List Ev)) : Prop := ∃ rows, H v = some (.lst (rows.map V.ref)) ∧ Each (RwI K H) rows vw
theorem VwI.keep {K : PySem.W.Frag} {H H' : Hp} {v : Addr} {vw : List (List Ev)} (e : Same H H') (h : VwI K H v vw) : VwI K H' v vw := by
  obtain ⟨rows, h1, h2⟩ := h
  exact ⟨rows, e _ _ h1, h2.keep fun _ _ z => LsI.keep e z⟩
def dfE : Ev := ⟨false, [], [], ⟨0, []⟩, []⟩
def wordOf (F : Fm) (vw : List (List Ev)) (d : Dd) : Dd := ((vw.getD (lkOf F (d.nums.getD 0 0)).s.toNat []).getD (d.nums.getD 1 0).toNat dfE).deed
def heardM (F : Fm) (vw : List (List Ev)) (d : Dd) : Option Int := if d.place = 5 then (if (wordOf F vw d).place = 3 then some ((wordOf F vw d).nums.getD 1 0) else none) else none
/-- what is heard can be looked up -/
structure HeFit (F : Fm) (vw : List (List Ev)) (d : Dd) : Prop where
  l0 : 0 ≤ d.nums.getD 0 0
  l1 : d.nums.getD 0 0 < F.links.length
  s0 : 0 ≤ (lkOf F (d.nums.getD 0 0)).s
  s1 : (lkOf F (d.nums.getD 0 0)).s < vw.length
  n0 : 0 ≤ d.nums.getD 1 0
  n1 : d.nums.getD 1 0 < ((vw.getD (lkOf F (d.nums.getD 0 0)).s.toNat []).length : Int)
  pl : (wordOf F vw d).place < 9
  ar : (wordOf F vw d).place = 3 → (wordOf F vw d).nums.length = 2
def devS (F : Fm) (vw : List (List Ev)) (d : Nat) : Nat → List Bd × List HdM
  | 0 => ([], List.replicate (cks F d).length dfH)
  | j + 1 => ((devS F vw d j).1 ++ evB F d ((j : Int) + 1) ((vw.getD d []).getD (j + 1) dfE) (devS F vw d j).2 (heardM F vw ((vw.getD d []).getD (j + 1) dfE).deed), evH F d ((j : Int) + 1) ((vw.getD d []).getD (j + 1) dfE) (devS F vw d j).2)
def vwB (F : Fm) (vw : List (List Ev)) : List Bd := (List.range vw.length).flatMap fun d => (devS F vw d ((vw.getD d []).length - 1)).1
structure VwFit (F : Fm) (vw : List (List Ev)) : Prop where
  cl : F.clocks.length ≤ 10
  vl : vw.length ≤ 6
  el : ∀ d, (vw.getD d []).length ≤ 40
  pl : ∀ d j, d < vw.length → j + 1 < (vw.getD d []).length → ((vw.getD d []).getD (j + 1) dfE).deed.place < 9
  fit : ∀ d j, d < vw.length → j + 1 < (vw.getD d []).length → EvFit F d ((vw.getD d []).getD (j + 1) dfE) (devS F vw d j).2 (heardM F vw ((vw.getD d []).getD (j + 1) dfE).deed)
  he : ∀ d j, d < vw.length → j + 1 < (vw.getD d []).length → ((vw.getD d []).getD (j + 1) dfE).deed.place = 5 → HeFit F vw ((vw.getD d []).getD (j + 1) dfE).deed
theorem evB_len {F : Fm} (h : F.clocks.length ≤ 10) (dev n : Int) (e : Ev) (hs : List HdM) (k : Option Int) : (evB F dev n e hs k).length ≤ 64 := by
  have h1 := flatB_len (f := cB F dev n e hs) (fun i => clockM_len _ _ _ _ _ _ _) (cks F dev).length
  have h2 : (cks F dev).length ≤ 10 := Nat.le_trans (ckN_len _ _ _) h
  have h3 : (restM F ⟨dev, n, -1⟩ e.deed k).length ≤ 3 := by
    unfold restM
    split
    · show 2 ≤ 3
      decide
    · split
      · exact hearM_len _ _ _ _
      · exact Nat.zero_le _
  unfold evB
  rw [List.length_append, List.length_append, List.length_cons, List.length_nil]
  omega
theorem devS_len {F : Fm} (h : F.clocks.length ≤ 10) (vw : List (List Ev)) (d : Nat) : ∀ j, (devS F vw d j).1.length ≤ 64 * j
  | 0 => Nat.zero_le _
  | j + 1 => by
    have h1 := devS_len h vw d j
    have h2 := evB_len h d ((j : Int) + 1) ((vw.getD d []).getD (j + 1) dfE) (devS F vw d j).2 (heardM F vw ((vw.getD d []).getD (j + 1) dfE).deed)
    rw [devS, List.length_append]
    omega
theorem vwN_len {F : Fm} {vw : List (List Ev)} (h : VwFit F vw) : ∀ n, ((List.range n).flatMap fun d => (devS F vw d ((vw.getD d []).length - 1)).1).length ≤ 2560 * n
  | 0 => Nat.le_refl _
  | n + 1 => by
    have h1 := vwN_len h n
    have h2 := devS_len h.cl vw n ((vw.getD n []).length - 1)
    have h3 := h.el n
    rw [rangeB, List.length_append]
    omega
end Vs

namespace Vs
open PySem PySem.Spec PyProof.Rows L2
/-! ### the drawn rows, and lists of data beside them, each at a place of its own -/
structure Wd (K : PySem.W.Frag) (H : Hp) (r : Addr) (n : Nat) (ls : List (Addr × List PyData)) (is : List (Addr × HO)) : Prop where
  rows : RwAt H r n
  la : ∀ p ∈ ls, LsI K H p.1 p.2
  ia : ∀ p ∈ is, H p.1 = some p.2
  nd : (r :: (ls.map (·.1) ++ is.map (·.1))).Nodup
section
variable {K : PySem.W.Frag} {H H' : Hp} {r : Addr} {n : Nat} {ls : List (Addr × List PyData)} {is : List (Addr × HO)}
theorem Wd.one (h : RwAt H r n) : Wd K H r n [] [] := ⟨h, fun p hp => by simp at hp, fun p hp => by simp at hp, by simp⟩
theorem Wd.keep (w : Wd K H r n ls is) (s : Same H H') : Wd K H' r n ls is := ⟨w.rows.keep s, fun p hp => (w.la p hp).keep s, fun p hp => s _ _ (w.ia p hp), w.nd⟩
theorem Wd.nr (w : Wd K H r n ls is) {p : Addr × List PyData} (hp : p ∈ ls) : p.1 ≠ r := fun e => (List.nodup_cons.mp w.nd).1 (by rw [← e]; exact List.mem_append.mpr (.inl (List.mem_map.mpr ⟨p, hp, rfl⟩)))
theorem Wd.nri (w : Wd K H r n ls is) {p : Addr × HO} (hp : p ∈ is) : p.1 ≠ r := fun e => (List.nodup_cons.mp w.nd).1 (by rw [← e]; exact List.mem_append.mpr (.inr (List.mem_map.mpr ⟨p, hp, rfl⟩)))
theorem Wd.take (w : Wd K H r n ls is) (b : But r H H') (h : RwAt H' r n) : Wd K H' r n ls is := by
  obtain ⟨xs, hx⟩ := w.rows.lst
  exact ⟨h, fun p hp => (w.la p hp).but b hx (w.nr hp), fun p hp => b _ _ (w.nri hp) (w.ia p hp), w.nd⟩
theorem Wd.free (w : Wd K H r n ls is) {a : Addr} (h : H a = none) : a ∉ (r :: (ls.map (·.1) ++ is.map (·.1))) := fun m => by
  rcases List.mem_cons.mp m with e | m
  · exact w.rows.ne h e
  · rcases List.mem_append.mp m with m | m
    · obtain ⟨p, hp, rfl⟩ := List.mem_map.mp m
      obtain ⟨xs, hx⟩ := (w.la p hp).lst
      rw [hx] at h
      cases h
    · obtain ⟨p, hp, rfl⟩ := List.mem_map.mp m
      rw [w.ia p hp] at h
      cases h
theorem Wd.new (w : Wd K H r n ls is) (s : Same H H') {a : Addr} {ds : List PyData} (h : H a = none) (l : LsI K H' a ds) : Wd K H' r n ((a, ds) :: ls) is := by
  have w' := w.keep s
  have f := w.free h
  refine ⟨w'.rows, fun p hp => ?_, w'.ia, ?_⟩
  · rcases List.mem_cons.mp hp with e | hp
    · rw [e]; exact l
    · exact w'.la p hp
  · have nd := w.nd
    rw [List.nodup_cons] at nd ⊢
    refine ⟨fun m => ?_, ?_⟩
    · rcases List.mem_cons.mp m with e | m
      · exact f (List.mem_cons.mpr (.inl e.symm))
      · exact nd.1 m
    · show (a :: (ls.map (·.1) ++ is.map (·.1))).Nodup
      rw [List.nodup_cons]
      exact ⟨fun m => f (List.mem_cons.mpr (.inr m)), nd.2⟩
theorem Wd.newI (w : Wd K H r n ls is) (s : Same H H') {a : Addr} {o : HO} (h : H a = none) (l : H' a = some o) : Wd K H' r n ls ((a, o) :: is) := by
  have w' := w.keep s
  have f := w.free h
  refine ⟨w'.rows, w'.la, fun p hp => ?_, ?_⟩
  · rcases List.mem_cons.mp hp with e | hp
    · rw [e]; exact l
    · exact w'.ia p hp
  · have nd := w.nd
    have e : (r :: (ls.map (·.1) ++ ((a, o) :: is).map (·.1))).Perm (a :: (r :: (ls.map (·.1) ++ is.map (·.1)))) := by
      show (r :: (ls.map (·.1) ++ (a :: is.map (·.1)))).Perm _
      exact (List.Perm.cons r List.perm_middle).trans (List.Perm.swap a r _)
    rw [e.nodup_iff, List.nodup_cons]
    exact ⟨f, nd⟩
theorem set_fst (i : Nat) (a : Addr) (ds ds' : List PyData) (hi : ls[i]? = some (a, ds)) : (ls.set i (a, ds')).map (·.1) = ls.map (·.1) := by
  have hl := (List.getElem?_eq_some_iff.mp hi).1
  rw [List.map_set]
  apply List.ext_getElem?
  intro j
  by_cases e : i = j
  · subst e
    rw [List.getElem?_set_self (by rw [List.length_map]; exact hl), List.getElem?_map, hi]
    rfl
  · rw [List.getElem?_set_ne e]
theorem Wd.put (w : Wd K H r n ls is) {i : Nat} {a : Addr} {ds ds' : List PyData} {ws : List V} (hi : ls[i]? = some (a, ds)) (hI : ImL K H ds' ws) : Wd K (upd H a (.lst ws)) r n (ls.set i (a, ds')) is := by
  have hm : (a, ds) ∈ ls := List.mem_of_getElem? hi
  obtain ⟨xs, hx⟩ := (w.la _ hm).lst
  have hx : H a = some (.lst xs) := hx
  have tk : TupK H (upd H a (.lst ws)) := .set hx
  have nd2 := (List.nodup_cons.mp w.nd).2
  refine ⟨w.rows.but But.set (w.nr hm).symm, fun p hp => ?_, fun p hp => ?_, by rw [set_fst i a ds ds' hi]; exact w.nd⟩
  · obtain ⟨j, hj⟩ := List.getElem?_of_mem hp
    by_cases e : i = j
    · subst e
      rw [List.getElem?_set_self (List.getElem?_eq_some_iff.mp hi).1] at hj
      cases hj
      exact ⟨ws, upd_same, ImL.mono tk _ hI⟩
    · rw [List.getElem?_set_ne e] at hj
      have ne : p.1 ≠ a := fun ea => e (by
        have nl := (List.nodup_append.mp nd2).1
        have h1 : (ls.map (·.1))[i]? = some a := by rw [List.getElem?_map, hi]; rfl
        have h2 : (ls.map (·.1))[j]? = some a := by rw [List.getElem?_map, hj, ← ea]; rfl
        exact nd_ix nl h1 h2)
      exact (w.la p (List.mem_of_getElem? hj)).but But.set hx ne
  · have ne : p.1 ≠ a := fun ea => (List.nodup_append.mp nd2).2.2 a (List.mem_map.mpr ⟨_, hm, rfl⟩) p.1 (List.mem_map.mpr ⟨p, hp, rfl⟩) ea.symm
    rw [upd_ne ne]
    exact w.ia p hp
theorem Wd.snoc (w : Wd K H r n ls is) (i : Nat) {a : Addr} {ds : List PyData} {d : PyData} {v : V} (hi : ls[i]? = some (a, ds)) (g : Im K H d v) : ∃ vs, H a = some (.lst vs) ∧ vs.length = ds.length ∧ Wd K (upd H a (.lst (vs ++ [v]))) r n (ls.set i (a, ds ++ [d])) is := by
  obtain ⟨vs, h1, h2⟩ := w.la _ (List.mem_of_getElem? hi)
  exact ⟨vs, h1, h2.len, w.put hi (h2.snoc g)⟩
theorem Wd.app (w : Wd K H r n ls is) (i : Nat) {a b : Addr} {ds es : List PyData} (hi : ls[i]? = some (a, ds)) (g : LsI K H b es) : ∃ vs ws, H a = some (.lst vs) ∧ H b = some (.lst ws) ∧ vs.length = ds.length ∧ ws.length = es.length ∧ Wd K (upd H a (.lst (vs ++ ws))) r n (ls.set i (a, ds ++ es)) is := by
  obtain ⟨vs, h1, h2⟩ := w.la _ (List.mem_of_getElem? hi)
  obtain ⟨ws, g1, g2⟩ := g
  exact ⟨vs, ws, h1, g1, h2.len, g2.len, w.put hi (h2.app g2)⟩
theorem Wd.at (w : Wd K H r n ls is) (i : Nat) {a : Addr} {ds : List PyData} (hi : ls[i]? = some (a, ds)) : LsI K H a ds := w.la _ (List.mem_of_getElem? hi)
theorem Wd.ati (w : Wd K H r n ls is) (i : Nat) {a : Addr} {o : HO} (hi : is[i]? = some (a, o)) : H a = some o := w.ia _ (List.mem_of_getElem? hi)
theorem Wd.tk (w : Wd K H r n ls is) (b : But r H H') : TupK H H' := w.rows.tk b
theorem Wd.mk1 (h : RwAt H r n) {a : Addr} {ds : List PyData} (l : LsI K H a ds) (ne : a ≠ r) : Wd K H r n [(a, ds)] [] :=
  ⟨h, fun p hp => by rw [List.mem_singleton.mp hp]; exact l, fun p hp => by simp at hp, by simp [ne.symm]⟩
theorem Wd.news (w : Wd K H r n ls is) (s : Same H H') {ls2 : List (Addr × List PyData)} {is2 : List (Addr × HO)} (h1 : ∀ p ∈ ls2, LsI K H' p.1 p.2 ∧ H p.1 = none) (h2 : ∀ p ∈ is2, H' p.1 = some p.2 ∧ H p.1 = none) (nd : (ls2.map (·.1) ++ is2.map (·.1)).Nodup) : Wd K H' r n (ls2 ++ ls) (is2 ++ is) := by
  have w' := w.keep s
  refine ⟨w'.rows, fun p hp => ?_, fun p hp => ?_, ?_⟩
  · rcases List.mem_append.mp hp with hp | hp
    · exact (h1 p hp).1
    · exact w'.la p hp
  · rcases List.mem_append.mp hp with hp | hp
    · exact (h2 p hp).1
    · exact w'.ia p hp
  · have pm : (r :: ((ls2 ++ ls).map (·.1) ++ (is2 ++ is).map (·.1))).Perm ((ls2.map (·.1) ++ is2.map (·.1)) ++ (r :: (ls.map (·.1) ++ is.map (·.1)))) := by
      rw [List.perm_iff_count]
      intro a
      simp only [List.map_append, List.count_append, List.count_cons]
      omega
    rw [pm.nodup_iff, List.nodup_append]
    refine ⟨nd, w.nd, fun a ha b hb e => ?_⟩
    subst e
    rcases List.mem_append.mp ha with ha | ha
    · obtain ⟨p, hp, rfl⟩ := List.mem_map.mp ha
      exact w.free (h1 p hp).2 hb
    · obtain ⟨p, hp, rfl⟩ := List.mem_map.mp ha
      exact w.free (h2 p hp).2 hb
/-- taken out of the bundle -/
theorem Wd.drop (w : Wd K H r n ls is) (m : Nat) : Wd K H r n (ls.drop m) is := ⟨w.rows, fun p hp => w.la p (List.mem_of_mem_drop hp), w.ia, by
  refine List.Nodup.sublist ?_ w.nd
  refine List.Sublist.cons₂ _ (List.Sublist.append ?_ (List.Sublist.refl _))
  exact List.Sublist.map _ (List.drop_sublist m ls)⟩
end
/-- a number's text is short -/
theorem numT {i : Nat} (h : i ≤ 1000) : In18 ((0 : Int) + (i : Int)) := by
  rw [Int.zero_add]
  exact In18.small h
theorem devS2_len (F : Fm) (vw : List (List Ev)) (d : Nat) : ∀ j, (devS F vw d j).2.length = (cks F d).length
  | 0 => List.length_replicate
  | j + 1 => by
    show (evH F d _ _ _).length = _
    unfold evH
    rw [List.length_map, List.length_range]
theorem cks_none {F : Fm} (h : F.clocks = []) (d : Int) : cks F d = [] := by
  unfold cks
  rw [h]
  rfl
theorem one_getD {α : Type} (x : α) (d : Nat) (z : α) : ([x] : List α).getD d z = if d = 0 then x else z := by
  cases d with
  | zero => rfl
  | succ d => rfl
theorem flatM_congr {f g : Nat → List Bd} : ∀ {n : Nat}, (∀ i, i < n → f i = g i) → (List.range n).flatMap f = (List.range n).flatMap g
  | 0, _ => rfl
  | n + 1, h => by
    rw [rangeB, rangeB, flatM_congr fun i hi => h i (by omega), h n (by omega)]
theorem snoc_getD {α : Type} {xs : List α} {x z : α} {i : Nat} (h : i < xs.length) : (xs ++ [x]).getD i z = xs.getD i z := by
  rw [List.getD_eq_getElem?_getD, List.getD_eq_getElem?_getD, List.getElem?_append_left h]
theorem snoc_getD' {α : Type} {xs : List α} {x z : α} : (xs ++ [x]).getD xs.length z = x := by
  rw [List.getD_eq_getElem?_getD, List.getElem?_append_right (Nat.le_refl _), Nat.sub_self]
  rfl
end Vs

namespace Vs
open PySem PySem.Spec PyProof.Rows L2
theorem pe_fldK {X : Cx} {e : Expr} {f : Str} {pos : Pos} {ta : TE} (K : PySem.W.Frag) (hK : X.K = K) (he : PE X e ta) (hb : attributeBase e f X.env (eval e X.env) = eval e X.env) : PE X (.Attribute e f pos) (tFld K ta f) := by
  subst hK
  exact pe_fld he hb
/-! ### a law's own hands: a list of lists -/
def HdL (K : PySem.W.Frag) (H : Hp) (a : Addr) (h : HdM) : Prop := ∃ x, H a = some (.lst [x, .int h.shown, .int h.kind]) ∧ Im K H (opP h.pt) x
structure HLi (K : PySem.W.Frag) (H : Hp) (hl : Addr) (rs : List Addr) (hs : List HdM) : Prop where
  l : H hl = some (.lst (rs.map V.ref))
  e : Each (HdL K H) rs hs
  n : hl ∉ rs
section
variable {K : PySem.W.Frag} {H H' : Hp} {hl : Addr} {rs : List Addr} {hs : List HdM}
theorem HdL.keep {a h} (e : Same H H') (g : HdL K H a h) : HdL K H' a h := by
  obtain ⟨x, h1, h2⟩ := g
  exact ⟨x, e _ _ h1, Im.mono (.of e) _ h2⟩
theorem HdL.but {o a : Addr} {xs : List V} {h : HdM} (e : But o H H') (ho : H o = some (.lst xs)) (n : a ≠ o) (g : HdL K H a h) : HdL K H' a h := by
  obtain ⟨x, h1, h2⟩ := g
  exact ⟨x, e _ _ n h1, Im.mono (.but e ho) _ h2⟩
theorem HLi.keep (e : Same H H') (g : HLi K H hl rs hs) : HLi K H' hl rs hs := ⟨e _ _ g.l, g.e.keep fun _ _ z => z.keep e, g.n⟩
theorem Each.imp {α : Type} {P P' : Addr → α → Prop} {as xs} (h : Each P as xs) (f : ∀ a x, a ∈ as → P a x → P' a x) : Each P' as xs := ⟨h.1, fun i a x h1 h2 => f a x (List.mem_of_getElem? h1) (h.2 i a x h1 h2)⟩
theorem HLi.but {o : Addr} {xs : List V} (e : But o H H') (ho : H o = some (.lst xs)) (n : o ∉ hl :: rs) (g : HLi K H hl rs hs) : HLi K H' hl rs hs := by
  rw [List.mem_cons, not_or] at n
  exact ⟨e _ _ (Ne.symm n.1) g.l, g.e.imp fun a _ ha z => z.but e ho fun x => n.2 (x ▸ ha), g.n⟩
theorem HLi.free {a : Addr} (g : HLi K H hl rs hs) (h : H a = none) : a ∉ hl :: rs := fun m => by
  rcases List.mem_cons.mp m with e | m
  · rw [e, g.l] at h; cases h
  · obtain ⟨i, hi⟩ := List.getElem?_of_mem m
    obtain ⟨x, _, y, h1, _⟩ := g.e.get hi
    rw [h1] at h
    cases h
/-- one hand is put in another's place -/
theorem HLi.set (g : HLi K H hl rs hs) {a : Addr} {h : HdM} (na : a ≠ hl) (ha : HdL K H a h) (i : Nat) : HLi K (upd H hl (.lst ((rs.set i a).map V.ref))) hl (rs.set i a) (hs.set i h) := by
  have b : But hl H (upd H hl (.lst ((rs.set i a).map V.ref))) := But.set
  refine ⟨upd_same, (g.e.set ha).imp fun c z hc q => q.but b g.l ?_, fun m => ?_⟩
  · intro e
    rcases List.mem_or_eq_of_mem_set hc with m | m
    · exact g.n (e ▸ m)
    · exact na (m.symm.trans e)
  · rcases List.mem_or_eq_of_mem_set m with m | m
    · exact g.n m
    · exact na m.symm
variable {r : Addr} {n : Nat} {ls : List (Addr × List PyData)} {is : List (Addr × HO)}
def adrs (r : Addr) (ls : List (Addr × List PyData)) (is : List (Addr × HO)) : List Addr := r :: (ls.map (·.1) ++ is.map (·.1))
theorem Wd.but (w : Wd K H r n ls is) {o : Addr} {xs : List V} (e : But o H H') (ho : H o = some (.lst xs)) (no : o ∉ adrs r ls is) : Wd K H' r n ls is := by
  unfold adrs at no
  rw [List.mem_cons, List.mem_append, not_or, not_or] at no
  refine ⟨w.rows.but e (Ne.symm no.1), fun p hp => (w.la p hp).but e ho fun x => no.2.1 (x ▸ List.mem_map.mpr ⟨p, hp, rfl⟩), fun p hp => e _ _ (fun x => no.2.2 (x ▸ List.mem_map.mpr ⟨p, hp, rfl⟩)) (w.ia p hp), w.nd⟩
/-- the bundle, and hands beside it -/
structure Hw (K : PySem.W.Frag) (H : Hp) (r : Addr) (n : Nat) (ls : List (Addr × List PyData)) (is : List (Addr × HO)) (hl : Addr) (rs : List Addr) (hs : List HdM) : Prop where
  w : Wd K H r n ls is
  h : HLi K H hl rs hs
  d : ∀ a ∈ hl :: rs, a ∉ adrs r ls is
theorem Hw.keep (g : Hw K H r n ls is hl rs hs) (e : Same H H') : Hw K H' r n ls is hl rs hs := ⟨g.w.keep e, g.h.keep e, g.d⟩
theorem Hw.take (g : Hw K H r n ls is hl rs hs) (b : But r H H') (h : RwAt H' r n) : Hw K H' r n ls is hl rs hs := by
  obtain ⟨xs, hx⟩ := g.w.rows.lst
  exact ⟨g.w.take b h, g.h.but b hx fun m => g.d r m (List.mem_cons_self), g.d⟩
theorem Hw.new (g : Hw K H r n ls is hl rs hs) (s : Same H H') {a : Addr} {ds : List PyData} (h : H a = none) (l : LsI K H' a ds) : Hw K H' r n ((a, ds) :: ls) is hl rs hs := by
  refine ⟨g.w.new s h l, g.h.keep s, fun b hb m => ?_⟩
  unfold adrs at m
  rcases List.mem_cons.mp m with e | m
  · exact g.d b hb (e ▸ List.mem_cons_self)
  · rcases List.mem_append.mp m with m | m
    · rcases List.mem_cons.mp m with e | m
      · have e : b = a := e
        rw [e] at hb
        exact g.h.free h hb
      · exact g.d b hb (List.mem_cons.mpr (.inr (List.mem_append.mpr (.inl m))))
    · exact g.d b hb (List.mem_cons.mpr (.inr (List.mem_append.mpr (.inr m))))
theorem Hw.put (g : Hw K H r n ls is hl rs hs) {i : Nat} {a : Addr} {ds ds' : List PyData} {ws : List V} (hi : ls[i]? = some (a, ds)) (hI : ImL K H ds' ws) : Hw K (upd H a (.lst ws)) r n (ls.set i (a, ds')) is hl rs hs := by
  have hm : (a, ds) ∈ ls := List.mem_of_getElem? hi
  obtain ⟨xs, hx⟩ := (g.w.la _ hm).lst
  have hx : H a = some (.lst xs) := hx
  have ha : a ∈ adrs r ls is := List.mem_cons.mpr (.inr (List.mem_append.mpr (.inl (List.mem_map.mpr ⟨_, hm, rfl⟩))))
  refine ⟨g.w.put hi hI, g.h.but But.set hx fun m => g.d a m ha, fun b hb m => g.d b hb ?_⟩
  unfold adrs at m ⊢
  rw [set_fst i a ds ds' hi] at m
  exact m
theorem Hw.snoc (g : Hw K H r n ls is hl rs hs) (i : Nat) {a : Addr} {ds : List PyData} {d : PyData} {v : V} (hi : ls[i]? = some (a, ds)) (q : Im K H d v) : ∃ vs, H a = some (.lst vs) ∧ vs.length = ds.length ∧ Hw K (upd H a (.lst (vs ++ [v]))) r n (ls.set i (a, ds ++ [d])) is hl rs hs := by
  obtain ⟨vs, h1, h2⟩ := g.w.la _ (List.mem_of_getElem? hi)
  exact ⟨vs, h1, h2.len, g.put hi (h2.snoc q)⟩
theorem Hw.drop (g : Hw K H r n ls is hl rs hs) (m : Nat) : Hw K H r n (ls.drop m) is hl rs hs := ⟨g.w.drop m, g.h, fun b hb z => g.d b hb (by
  unfold adrs at z ⊢
  rcases List.mem_cons.mp z with e | z
  · exact List.mem_cons.mpr (.inl e)
  · rcases List.mem_append.mp z with z | z
    · obtain ⟨p, hp, rfl⟩ := List.mem_map.mp z
      exact List.mem_cons.mpr (.inr (List.mem_append.mpr (.inl (List.mem_map.mpr ⟨p, List.mem_of_mem_drop hp, rfl⟩))))
    · exact List.mem_cons.mpr (.inr (List.mem_append.mpr (.inr z))))⟩
/-- the hands are other ones -/
theorem Hw.hands (g : Hw K H r n ls is hl rs hs) {rs' : List Addr} {hs' : List HdM} (b : But hl H H') (h : HLi K H' hl rs' hs') (fp : ∀ a ∈ rs', a ∈ rs ∨ H a = none) : Hw K H' r n ls is hl rs' hs' := by
  refine ⟨g.w.but b g.h.l (g.d hl List.mem_cons_self), h, fun a ha m => ?_⟩
  rcases List.mem_cons.mp ha with e | ha
  · exact g.d hl List.mem_cons_self (e ▸ m)
  · rcases fp a ha with q | q
    · exact g.d a (List.mem_cons.mpr (.inr q)) m
    · exact g.w.free q m
end
theorem Wd.sub {K : PySem.W.Frag} {H : Hp} {r : Addr} {n : Nat} {ls ls' : List (Addr × List PyData)} {is : List (Addr × HO)} (w : Wd K H r n ls is) (s : List.Sublist ls' ls) : Wd K H r n ls' is := ⟨w.rows, fun p hp => w.la p (s.subset hp), w.ia, List.Nodup.sublist (List.Sublist.cons₂ _ (List.Sublist.append (List.Sublist.map _ s) (List.Sublist.refl _))) w.nd⟩
theorem adrs_sub {r : Addr} {ls ls' : List (Addr × List PyData)} {is : List (Addr × HO)} (s : List.Sublist ls' ls) {a : Addr} (h : a ∈ adrs r ls' is) : a ∈ adrs r ls is := (List.Sublist.cons₂ _ (List.Sublist.append (List.Sublist.map _ s) (List.Sublist.refl _))).subset h
section
variable {K : PySem.W.Frag} {H H' : Hp} {hl : Addr} {rs : List Addr} {hs : List HdM} {r : Addr} {n : Nat} {ls : List (Addr × List PyData)} {is : List (Addr × HO)}
theorem Hw.sub {ls' : List (Addr × List PyData)} (g : Hw K H r n ls is hl rs hs) (s : List.Sublist ls' ls) : Hw K H r n ls' is hl rs hs := ⟨g.w.sub s, g.h, fun a ha m => g.d a ha (adrs_sub s m)⟩
theorem Wd.add (w : Wd K H r n ls is) {a : Addr} {ds : List PyData} (f : a ∉ adrs r ls is) (l : LsI K H a ds) : Wd K H r n ((a, ds) :: ls) is := by
  unfold adrs at f
  refine ⟨w.rows, fun p hp => ?_, w.ia, ?_⟩
  · rcases List.mem_cons.mp hp with e | hp
    · rw [e]; exact l
    · exact w.la p hp
  · have nd := w.nd
    rw [List.nodup_cons] at nd ⊢
    refine ⟨fun m => ?_, ?_⟩
    · rcases List.mem_cons.mp m with e | m
      · exact f (List.mem_cons.mpr (.inl e.symm))
      · exact nd.1 m
    · show (a :: (ls.map (·.1) ++ is.map (·.1))).Nodup
      rw [List.nodup_cons]
      exact ⟨fun m => f (List.mem_cons.mpr (.inr m)), nd.2⟩
theorem Hw.add (g : Hw K H r n ls is hl rs hs) {a : Addr} {ds : List PyData} (f : a ∉ adrs r ls is) (f2 : a ∉ hl :: rs) (l : LsI K H a ds) : Hw K H r n ((a, ds) :: ls) is hl rs hs := by
  refine ⟨g.w.add f l, g.h, fun b hb m => ?_⟩
  unfold adrs at m
  rcases List.mem_cons.mp m with e | m
  · exact g.d b hb (e ▸ List.mem_cons_self)
  · rcases List.mem_append.mp m with m | m
    · rcases List.mem_cons.mp m with e | m
      · have e : b = a := e
        rw [e] at hb
        exact f2 hb
      · exact g.d b hb (List.mem_cons.mpr (.inr (List.mem_append.mpr (.inl m))))
    · exact g.d b hb (List.mem_cons.mpr (.inr (List.mem_append.mpr (.inr m))))
/-- rows drawn while a new list was made -/
theorem Hw.taken (g : Hw K H r n ls is hl rs hs) (b : But r H H') (h : RwAt H' r n) {a : Addr} {ds : List PyData} (na : H a = none) (l : LsI K H' a ds) : Hw K H' r n ((a, ds) :: ls) is hl rs hs := (g.take b h).add (g.w.free na) (g.h.free na) l
end
theorem ints_map (ns : List Int) : ns.map PyData.int = ns.map PyData.int := rfl
theorem LsI.ofInts {K : PySem.W.Frag} {H : Hp} {a : Addr} {ns : List Int} (h : H a = some (.lst (ns.map V.int))) : LsI K H a (ns.map PyData.int) := ⟨_, h, ImL.ints⟩
theorem LsI.toInts {K : PySem.W.Frag} {H : Hp} {a : Addr} {ns : List Int} (h : LsI K H a (ns.map PyData.int)) : H a = some (.lst (ns.map V.int)) := by
  obtain ⟨vs, h1, h2⟩ := h
  rw [h2.uints] at h1
  exact h1
/-! ### all clocks of one device -/
theorem ckN_all {cs : List Cl} {j : Int} (h : ∀ c ∈ cs, c.dev = j) : ∀ n, n ≤ cs.length → ckN cs j n = (List.range n).map fun (i : Nat) => (i : Int)
  | 0, _ => rfl
  | n + 1, hn => by
    have hi : n < cs.length := hn
    rw [ckN_yes (List.getElem?_eq_getElem hi) (h _ (List.getElem_mem hi)), ckN_all h n (by omega), rangeH]
theorem range_getD {n i : Nat} (h : i < n) : ((List.range n).map fun (i : Nat) => (i : Int)).getD i 0 = (i : Int) := by
  rw [List.getD_eq_getElem?_getD, List.getElem?_map, List.getElem?_range h]
  rfl
theorem set_mid {α : Type} {A B : List α} {x b : α} {i : Nat} (h : A.length = i) : (A ++ b :: B).set i x = A ++ x :: B := by
  subst h
  rw [List.set_append_right _ _ (Nat.le_refl _), Nat.sub_self]
  rfl
end Vs

namespace Vs
open PySem PySem.Spec PyProof.Rows L2
/-! ### a clock that runs (law 24): what it shows, its kind, how old its unit is and how long, what was drawn -/
structure Cs where
  v : Int
  k : Int
  e : Int
  l : Int
  m : Int
def Cs.ns (c : Cs) : List Int := [c.v, c.k, 0, c.e, c.l, c.m]
def loK (ks : List Kd) (k : Int) : Int := (kdOf ks k).low
def hiK (ks : List Kd) (k : Int) : Int := hiOf (kdOf ks k)
structure CsOk (ks : List Kd) (c : Cs) : Prop where
  e0 : 0 ≤ c.e
  el : c.e < c.l
  ll : loK ks c.k ≤ c.l
  lh : c.l ≤ hiK ks c.k
  k6 : Six ks c.k
  m0 : 0 ≤ c.m
structure Ran (ks : List Kd) (c d : Cs) (a : Int) : Prop where
  k : d.k = c.k
  ok : CsOk ks d
  u : c.v ≤ d.v
  z : d.v = c.v → d.e = c.e + a ∧ d.l = c.l
  p : c.v < d.v → ∃ S, a = (c.l - c.e) + S + d.e ∧ loK ks c.k * (d.v - c.v - 1) ≤ S ∧ S ≤ hiK ks c.k * (d.v - c.v - 1)
theorem Ran.refl {ks : List Kd} {c : Cs} (h : CsOk ks c) : Ran ks c c 0 := ⟨rfl, h, Int.le_refl _, fun _ => ⟨by omega, rfl⟩, fun h => by omega⟩
theorem Ran.one {ks : List Kd} {c d : Cs} {a : Int} (h : Ran ks c d a) (g : d.e + 1 < d.l) : Ran ks c ⟨d.v, d.k, d.e + 1, d.l, d.m⟩ (a + 1) := by
  have o := h.ok
  refine ⟨h.k, ⟨by have := o.e0; show 0 ≤ d.e + 1; omega, g, o.ll, o.lh, o.k6, o.m0⟩, h.u, fun z => ?_, fun z => ?_⟩
  · obtain ⟨z1, z2⟩ := h.z z
    exact ⟨by show d.e + 1 = c.e + (a + 1); omega, z2⟩
  · obtain ⟨S, s1, s2, s3⟩ := h.p z
    exact ⟨S, by show a + 1 = (c.l - c.e) + S + (d.e + 1); omega, s2, s3⟩
theorem Ran.next {ks : List Kd} {c d : Cs} {a l : Int} (h : Ran ks c d a) (g : ¬ d.e + 1 < d.l) (l1 : loK ks c.k ≤ l) (l2 : l ≤ hiK ks c.k) (l0 : 0 < l) : Ran ks c ⟨d.v + 1, d.k, 0, l, d.m + 1⟩ (a + 1) := by
  have o := h.ok
  have ek := h.k
  have eu := h.u
  have el := o.el
  have ll := o.ll
  have lh := o.lh
  rw [ek] at ll lh
  refine ⟨h.k, ⟨Int.le_refl _, l0, by rw [ek]; exact l1, by rw [ek]; exact l2, o.k6, by have := o.m0; show 0 ≤ d.m + 1; omega⟩, by show c.v ≤ d.v + 1; omega, fun z => ?_, fun z => ?_⟩
  · have z : d.v + 1 = c.v := z
    omega
  · by_cases e : d.v = c.v
    · obtain ⟨z1, z2⟩ := h.z e
      refine ⟨0, by show a + 1 = (c.l - c.e) + 0 + 0; omega, ?_, ?_⟩
      · show loK ks c.k * (d.v + 1 - c.v - 1) ≤ 0
        rw [show d.v + 1 - c.v - 1 = 0 from by omega, Int.mul_zero]
        exact Int.le_refl _
      · show 0 ≤ hiK ks c.k * (d.v + 1 - c.v - 1)
        rw [show d.v + 1 - c.v - 1 = 0 from by omega, Int.mul_zero]
        exact Int.le_refl _
    · obtain ⟨S, s1, s2, s3⟩ := h.p (by omega)
      refine ⟨S + d.l, by show a + 1 = (c.l - c.e) + (S + d.l) + 0; omega, ?_, ?_⟩
      · show loK ks c.k * (d.v + 1 - c.v - 1) ≤ S + d.l
        rw [show d.v + 1 - c.v - 1 = (d.v - c.v - 1) + 1 from by omega, Int.mul_add, Int.mul_one]
        omega
      · show S + d.l ≤ hiK ks c.k * (d.v + 1 - c.v - 1)
        rw [show d.v + 1 - c.v - 1 = (d.v - c.v - 1) + 1 from by omega, Int.mul_add, Int.mul_one]
        omega
/-- a bound is met by the times of its points -/
def Met (t : Pt → Option Int) (b : Bd) : Prop := ∃ x y, t b.one = some x ∧ t b.two = some y ∧ y ≤ x + b.amount
theorem Met.mono {t t' : Pt → Option Int} (h : ∀ p x, t p = some x → t' p = some x) {b : Bd} (m : Met t b) : Met t' b := by
  obtain ⟨x, y, h1, h2, h3⟩ := m
  exact ⟨x, y, h _ _ h1, h _ _ h2, h3⟩
structure HdT (t : Pt → Option Int) (T : Int) (c : Cs) (h : HdM) : Prop where
  k : h.kind = c.k
  p : ∀ q, h.pt = some q → t q = some (T - c.e) ∧ h.shown = c.v
theorem ftl_met {t : Pt → Option Int} {a b : Pt} {lo hi part x y : Int} (ha : t a = some x) (hb : t b = some y) (h1 : lo ≤ y - x) (h2 : y - x ≤ hi) : ∀ z ∈ ftl a b lo hi part, Met t z := by
  intro z hz
  unfold ftl at hz
  rcases List.mem_cons.mp hz with e | hz
  · rw [e]
    exact ⟨x, y, ha, hb, by show y ≤ x + hi; omega⟩
  · rw [List.mem_singleton.mp hz]
    exact ⟨y, x, hb, ha, by show x ≤ y + -lo; omega⟩
/-- what the law's clock does before a look -/
def Went (ks : List Kd) (goes asleep : Bool) (c d : Cs) (a : Int) : Prop := if (goes || !asleep) = true then Ran ks c d a else d = c
/-- what its device does to it then -/
inductive Done (ks : List Kd) (d : Cs) : Cs → Dd → Prop
  | note : Done ks d d ⟨0, []⟩
  | set (v l m : Int) : v ≠ d.v → CsOk ks ⟨v, d.k, 0, l, m⟩ → Done ks d ⟨v, d.k, 0, l, m⟩ ⟨0, []⟩
  | kind (k l m : Int) : CsOk ks ⟨d.v, k, 0, l, m⟩ → Done ks d ⟨d.v, k, 0, l, m⟩ ⟨1, [0, k]⟩
theorem clock24 {C : Cl} {t : Pt → Option Int} {T T' n : Int} {c d : Cs} {e : Ev} {h : HdM} (hp : e.deed.place ≠ 8) (hlo : 0 ≤ loK C.kinds c.k) (w : Went C.kinds C.goes e.asleep c d (T' - T)) (ok : CsOk C.kinds c) (hh : HdT t T c h) (h0 : t ⟨0, n - 1, -1⟩ = some T) (h1 : t ⟨0, n, -1⟩ = some T') (h2 : t ⟨0, n, 0⟩ = some (T' - d.e)) : ∀ b ∈ clockM C 0 0 n e d.v h, Met t b := by
  have dok : CsOk C.kinds d ∧ d.k = c.k := by
    unfold Went at w
    split at w
    · exact ⟨w.ok, w.k⟩
    · rw [w]; exact ⟨ok, rfl⟩
  obtain ⟨dok, dk⟩ := dok
  have e0 := dok.e0
  have el := dok.el
  have lh := dok.lh
  have c0 := ok.e0
  have cl := ok.el
  have c1 := ok.ll
  have c2 := ok.lh
  rw [dk] at lh
  have hk : h.kind = c.k := hh.k
  have last : ∀ b ∈ ftl ⟨0, n, 0⟩ ⟨0, n, -1⟩ 0 (hiOf (kdOf C.kinds h.kind)) 0, Met t b := ftl_met h2 h1 (by omega) (by rw [hk]; show _ ≤ hiK C.kinds c.k; omega)
  unfold clockM
  cases hs : sinceM C.goes e h with
  | none => exact last
  | some q =>
    have hrun : (C.goes || !e.asleep) = true ∧ h.pt = some q := by
      unfold sinceM at hs
      rw [decide_eq_false hp, Bool.false_or] at hs
      cases hg : C.goes <;> cases ha : e.asleep <;> rw [hg, ha] at hs <;> simp at hs ⊢ <;> exact hs
    obtain ⟨hrun, hq⟩ := hrun
    unfold Went at w
    rw [if_pos hrun] at w
    obtain ⟨tq, hv⟩ := hh.p q hq
    dsimp only
    by_cases z : d.v - h.shown = 0
    · rw [if_pos z]
      obtain ⟨z1, z2⟩ := w.z (by omega)
      exact ftl_met tq h1 (by omega) (by rw [hk]; show _ ≤ hiK C.kinds c.k; omega)
    · rw [if_neg z]
      have u := w.u
      obtain ⟨S, s1, s2, s3⟩ := w.p (by omega)
      rw [hv, hk]
      have m1 : loK C.kinds c.k * (d.v - c.v) = loK C.kinds c.k * (d.v - c.v - 1) + loK C.kinds c.k := by
        rw [show d.v - c.v = (d.v - c.v - 1) + 1 from by omega, Int.mul_add, Int.mul_one, Int.add_sub_cancel]
      have m2 : hiK C.kinds c.k * (d.v - c.v) = hiK C.kinds c.k * (d.v - c.v - 1) + hiK C.kinds c.k := by
        rw [show d.v - c.v = (d.v - c.v - 1) + 1 from by omega, Int.mul_add, Int.mul_one, Int.add_sub_cancel]
      have m3 : 0 ≤ loK C.kinds c.k * (d.v - c.v - 1) := Int.mul_nonneg hlo (by omega)
      intro b hb
      rcases List.mem_append.mp hb with hb | hb
      · rcases List.mem_append.mp hb with hb | hb
        · rcases List.mem_append.mp hb with hb | hb
          · exact ftl_met tq h2 (by show loK C.kinds c.k * (d.v - c.v) ≤ _; omega) (by show _ ≤ hiK C.kinds c.k * (d.v - c.v); omega) b hb
          · rw [List.mem_singleton.mp hb]
            exact ⟨_, _, h2, tq, by show T - c.e ≤ T' - d.e + -0; omega⟩
        · rw [List.mem_singleton.mp hb]
          exact ⟨_, _, h2, h0, by show T ≤ T' - d.e + -(loK C.kinds c.k * (d.v - c.v - 1)); omega⟩
      · rw [hk] at last
        exact last b hb
theorem hand24 {C : Cl} {t : Pt → Option Int} {T T' n : Int} {c d f : Cs} {e : Ev} {h : HdM} (w : Went C.kinds C.goes e.asleep c d (T' - T)) (dn : Done C.kinds d f e.deed) (hsh : e.shown = [d.v]) (haf : e.after = [f.v]) (hh : HdT t T c h) (h1 : t ⟨0, n, -1⟩ = some T') (h2 : t ⟨0, n, 0⟩ = some (T' - d.e)) : HdT t T' f (handM C 0 0 n e 0 h) := by
  have dk : d.k = c.k := by
    unfold Went at w
    split at w
    · exact w.k
    · rw [w]
  have hk : h.kind = c.k := hh.k
  unfold handM
  rw [hsh, haf]
  generalize hd : e.deed = D at *
  cases dn with
  | kind k l m o =>
    have hg : givenM ⟨1, [0, k]⟩ 0 0 = some k := rfl
    rw [hg]
    exact ⟨rfl, fun q hq => by cases hq; exact ⟨by rw [h1]; show some T' = some (T' - 0); rw [Int.sub_zero], rfl⟩⟩
  | set v l m ne o =>
    have hg : givenM ⟨0, []⟩ 0 0 = none := rfl
    rw [hg]
    dsimp only
    rw [if_pos (show ([v] : List Int).getD 0 0 ≠ [d.v].getD 0 0 from ne)]
    exact ⟨by show h.kind = d.k; omega, fun q hq => by cases hq; exact ⟨by rw [h1]; show some T' = some (T' - 0); rw [Int.sub_zero], rfl⟩⟩
  | note =>
    have hg : givenM ⟨0, []⟩ 0 0 = none := rfl
    rw [hg]
    dsimp only
    rw [if_neg (show ¬ ([d.v].getD 0 0 ≠ [d.v].getD 0 0) from fun z => z rfl)]
    split
    · rename_i g
      obtain ⟨g1, g2⟩ := g
      have hrun : (C.goes || !e.asleep) = true ∧ (sinceM C.goes e h) = h.pt := by
        unfold sinceM at g1 ⊢
        rw [hd] at g1 ⊢
        have e8 : decide ((⟨0, []⟩ : Dd).place = 8) = false := rfl
        rw [e8, Bool.false_or] at g1 ⊢
        cases hg : C.goes <;> cases ha : e.asleep <;> rw [hg, ha] at g1 <;> simp at g1 ⊢
      obtain ⟨hrun, hq⟩ := hrun
      unfold Went at w
      rw [if_pos hrun] at w
      rw [hq] at g1
      refine ⟨by omega, fun q hq2 => ?_⟩
      obtain ⟨tq, hv⟩ := hh.p q hq2
      have g2 : d.v = h.shown := g2
      obtain ⟨z1, z2⟩ := w.z (by omega)
      exact ⟨by rw [tq]; congr 1; omega, by omega⟩
    · exact ⟨by show h.kind = d.k; omega, fun q hq => by cases hq; exact ⟨h2, rfl⟩⟩
/-! ### a display whose keys are tuples -/
def mergeT (kvs : List (List Key × V)) (more : List (List Key × Addr × V)) : List (List Key × V) := more.foldl (fun acc z => putK acc z.1 z.2.2) kvs
def tDispT (trs : List (TE × TE)) : TE := fun σ H Q => ∀ p, H p = none → tPairs trs σ (upd H p (.dT [])) fun ps H2 => H2 p = some (.dT []) ∧ ∃ kvs : List (List Key × Addr × V), ps = kvs.map (fun z => (V.ref z.2.1, z.2.2)) ∧ (∀ z ∈ kvs, H2 z.2.1 = some (.tup (z.1.map kV))) ∧ kvs.length ≤ 15 ∧ Q (.ref p) (upd H2 p (.dT (mergeT [] kvs)))
theorem carriesT {P : Program} {w : World} {H : Hp} {h : Heap} (ok : HOk P w H h) : ∀ {kvs : List (List Key × Addr × V)} {ws : List (Value × Value)}, VV (kvs.map fun z => (V.ref z.2.1, z.2.2)) ws → (∀ z ∈ kvs, H z.2.1 = some (.tup (z.1.map kV))) → ∃ rs : List (List Key × Addr × Value), CarriesH (tupleKind (mixKind P w)) h ws rs ∧ ∀ (acc : List (List Key × V)) (bcc : List (List Key × Addr × Value)), KT H acc bcc → KT H (mergeT acc kvs) (storedAllH bcc rs)
  | [], _, r, _ => by rw [List.map_nil] at r; cases r; exact ⟨[], True.intro, fun _ _ q => q⟩
  | p :: kvs, _, r, hk => by
    rw [List.map_cons] at r
    cases r with
    | @cons a b as bs h1 t =>
      obtain ⟨rs, c, q⟩ := carriesT ok t fun z hz => hk z (List.mem_cons.mpr (.inr hz))
      obtain ⟨b1, b2⟩ := b
      obtain ⟨r1, r2⟩ := h1
      have e1 : b1 = Value.ref p.2.1 := r1
      have hp := hk p (List.mem_cons.mpr (.inl rfl))
      exact ⟨(p.1, p.2.1, b2) :: rs, ⟨e1, rfl, key_of ok hp, c⟩, fun acc bcc g => q _ _ (g.put p.1 hp r2)⟩
theorem length_mergeT : ∀ (more : List (List Key × Addr × V)) (kvs : List (List Key × V)), (mergeT kvs more).length ≤ kvs.length + more.length
  | [], kvs => by show kvs.length ≤ kvs.length + 0; omega
  | p :: r, kvs => by
    have h1 := length_mergeT r (putK kvs p.1 p.2.2)
    have h2 := length_putK kvs p.1 p.2.2
    show (mergeT (putK kvs p.1 p.2.2) r).length ≤ _
    rw [List.length_cons]; omega
theorem pe_dispT {X : Cx} {pos : Pos} {keys : List (Option Expr)} {values : List Expr} {trs : List (TE × TE)} (hu : X.A.units + 1 < cLine) (h : PPs X pos keys values trs) (hall : keys.all (·.isSome) = true) (hl : keys.length = values.length) (h0 : keys ≠ [])
    (h15 : keys.length ≤ 15) : PE X (.Dict keys values pos) (tDispT trs) := by
  refine ⟨fun pins s σ H Q I q => ?_⟩
  have hn := I.hok.fresh (Nat.le_refl s.heap.objs.size)
  have I1 := I.laid (a := s.heap.objs.size) (o := .dT []) (h' := s.heap.push { cls := .type "dict", data := .dict #[] }) (t' := s.toks) (fun _ _ q => Heap.get?_push_of_some _ q) (Nat.le_refl _) (dt_empty s.heap I.big)
  have hnl := pairTrees_length keys values X.env pos hall hl
  have hne : pairTrees keys values X.env pos ≠ [] := fun he => by
    rw [he] at hnl
    exact h0 (List.length_eq_zero_iff.mp hnl.symm)
  rw [arm_eval_Dict, zip_pairTrees keys values X.env pos hall hl, dictDisplay_pairs _ hne (by omega)]
  have hr : (tupleKind (mixKind X.prog X.w)).room X.A := by
    first | exact hu | (show _ < _; omega)
  refine wpAny_bind (wpAny_standAt (wpAny_bind (wpAny_subDictH (knd := tupleKind (mixKind X.prog X.w)) (Q := fun d s' => wpAny (model X.prog X.w) X.A (pure (Value.ref d)) _ X.xe s') hr (by omega) (thn (h.run pins _ σ _ _ I1 (q _ hn)) fun ws s2 ⟨ps, H2, I2, rel, e, kvs, ep, hk, lk, q2⟩ => ?_))))
  subst ep
  obtain ⟨rs, c, g⟩ := carriesT I2.hok rel hk
  obtain ⟨z, hd, xs, r0, dd⟩ := dt_of I2.hok e
  cases r0
  refine ⟨rs, c, dd, fun h' tk dd' hs => wpAny_pure ⟨.ref s.heap.objs.size, _, ?_, rfl, q2⟩⟩
  have hz : (mergeT [] kvs).length ≤ sizeLine := by
    have h1 := length_mergeT kvs []
    rw [List.length_nil] at h1
    rw [sizeLine_eq]; omega
  obtain ⟨o, es, ep, ho, h2, h3, h4, _, h5⟩ := dd'
  refine d_write I2 (by rw [e]; exact True.intro) hs ⟨_, ho⟩ ⟨hz, hd, _, (g [] [] .nil).keeps fun c ys ec => ?_, o, es, ep, ho, h2, h3, h4, h5⟩
  rw [upd_ne (ne_of ec e (fun z => nomatch z))]
  exact ec
end Vs

namespace Vs
open PySem PySem.Spec PyProof.Rows L2
/-! ### a store: things that change, each with a role -/
inductive Cell
  | ob (o : HO)
  | ls (ds : List PyData)
  | rw (n : Nat)
def mov : HO → Bool
  | .lst _ => true
  | .ins _ _ _ => true
  | .dK _ => true
  | .dT _ => true
  | _ => false
def CellAt (K : PySem.W.Frag) (H : Hp) (a : Addr) : Cell → Prop
  | .ob o => H a = some o ∧ mov o = true
  | .ls ds => LsI K H a ds
  | .rw n => RwAt H a n
theorem TupK.butM {H H' : Hp} {o : Addr} {u : HO} (e : But o H H') (ho : H o = some u) (hm : mov u = true) : TupK H H' :=
  ⟨fun _ _ h => e _ _ (ne_of h ho (by intro z; subst z; cases hm)) h, fun _ _ _ h => e _ _ (ne_of h ho (by intro z; subst z; cases hm)) h⟩
section
variable {K : PySem.W.Frag} {H H' : Hp} {a o : Addr} {c : Cell}
theorem CellAt.mv (h : CellAt K H a c) : ∃ u, H a = some u ∧ mov u = true := by
  cases c with
  | ob u => exact ⟨u, h.1, h.2⟩
  | ls ds => obtain ⟨vs, h1, _⟩ := h; exact ⟨_, h1, rfl⟩
  | rw n => obtain ⟨ns, h1, _⟩ := h; exact ⟨_, h1, rfl⟩
theorem CellAt.ne (h : CellAt K H a c) (n : H o = none) : a ≠ o := fun e => by
  obtain ⟨u, hu, _⟩ := h.mv
  rw [e, n] at hu
  cases hu
theorem CellAt.tk (h : CellAt K H a c) (e : But a H H') : TupK H H' := by
  obtain ⟨u, hu, hm⟩ := h.mv
  exact TupK.butM e hu hm
theorem CellAt.move (e : ∀ u, H a = some u → H' a = some u) (t : TupK H H') (h : CellAt K H a c) : CellAt K H' a c := by
  cases c with
  | ob u => exact ⟨e _ h.1, h.2⟩
  | ls ds => obtain ⟨vs, h1, h2⟩ := h; exact ⟨vs, e _ h1, ImL.mono t _ h2⟩
  | rw n => obtain ⟨ns, h1, h2⟩ := h; exact ⟨ns, e _ h1, h2⟩
end
def fu {R α : Type} [DecidableEq R] (f : R → α) (r : R) (x : α) : R → α := fun s => if s = r then x else f s
theorem fu_same {R α : Type} [DecidableEq R] {f : R → α} {r : R} {x : α} : fu f r x r = x := if_pos rfl
theorem fu_ne {R α : Type} [DecidableEq R] {f : R → α} {r s : R} {x : α} (h : s ≠ r) : fu f r x s = f s := if_neg h
structure Sto {R : Type} (K : PySem.W.Frag) (H : Hp) (pl : R → Addr) (ct : R → Option Cell) : Prop where
  at_ : ∀ r c, ct r = some c → CellAt K H (pl r) c
  inj : ∀ r s c d, ct r = some c → ct s = some d → pl r = pl s → r = s
section
variable {R : Type} {K : PySem.W.Frag} {H H' : Hp} {pl : R → Addr} {ct : R → Option Cell}
theorem Sto.keep (S : Sto K H pl ct) (e : Same H H') : Sto K H' pl ct := ⟨fun r c h => (S.at_ r c h).move (fun u hu => e _ _ hu) (.of e), S.inj⟩
theorem Sto.ne (S : Sto K H pl ct) {r : R} {c : Cell} (h : ct r = some c) {a : Addr} (n : H a = none) : pl r ≠ a := (S.at_ r c h).ne n
theorem Sto.tk (S : Sto K H pl ct) {r : R} {c : Cell} (h : ct r = some c) (b : But (pl r) H H') : TupK H H' := (S.at_ r c h).tk b
theorem Sto.sub (S : Sto K H pl ct) {ct' : R → Option Cell} (h : ∀ r c, ct' r = some c → ct r = some c) : Sto K H pl ct' := ⟨fun r c e => S.at_ r c (h r c e), fun r s c d e1 e2 => S.inj r s c d (h _ _ e1) (h _ _ e2)⟩
theorem Sto.ob (S : Sto K H pl ct) {r : R} {o : HO} (h : ct r = some (.ob o)) : H (pl r) = some o := (S.at_ r _ h).1
theorem Sto.ls (S : Sto K H pl ct) {r : R} {ds : List PyData} (h : ct r = some (.ls ds)) : LsI K H (pl r) ds := S.at_ r _ h
theorem Sto.rw (S : Sto K H pl ct) {r : R} {n : Nat} (h : ct r = some (.rw n)) : RwAt H (pl r) n := S.at_ r _ h
theorem Sto.cast (S : Sto K H pl ct) {ct' : R → Option Cell} (h : ct = ct') : Sto K H pl ct' := h ▸ S
variable [DecidableEq R]
theorem Sto.set (S : Sto K H pl ct) {r : R} {c c' : Cell} (h : ct r = some c) (b : But (pl r) H H') (g : CellAt K H' (pl r) c') : Sto K H' pl (fu ct r (some c')) := by
  have t := S.tk h b
  refine ⟨fun s d e => ?_, fun s q d1 d2 e1 e2 => ?_⟩
  · by_cases z : s = r
    · subst z
      rw [fu_same] at e
      cases e
      exact g
    · rw [fu_ne z] at e
      exact (S.at_ s d e).move (fun u hu => b _ _ (fun w => z (S.inj _ _ _ _ e h w)) hu) t
  · have f : ∀ s d, fu ct r (some c') s = some d → ∃ d', ct s = some d' := fun s d e => by
      by_cases z : s = r
      · subst z; exact ⟨_, h⟩
      · rw [fu_ne z] at e; exact ⟨_, e⟩
    obtain ⟨_, f1⟩ := f _ _ e1
    obtain ⟨_, f2⟩ := f _ _ e2
    exact S.inj _ _ _ _ f1 f2
/-- the same thing again after a change in its place that keeps what is told of it -/
theorem Sto.same (S : Sto K H pl ct) {r : R} {c : Cell} (h : ct r = some c) (b : But (pl r) H H') (g : CellAt K H' (pl r) c) : Sto K H' pl ct := by
  have e : fu ct r (some c) = ct := funext fun s => by
    by_cases z : s = r
    · subst z; rw [fu_same, h]
    · rw [fu_ne z]
  rw [← e]
  exact S.set h b g
theorem Sto.new (S : Sto K H pl ct) (r : R) {a : Addr} {c : Cell} (e : Same H H') (n : H a = none) (g : CellAt K H' a c) : Sto K H' (fu pl r a) (fu ct r (some c)) := by
  refine ⟨fun s d h => ?_, fun s q d1 d2 h1 h2 w => ?_⟩
  · by_cases z : s = r
    · subst z
      rw [fu_same] at h ⊢
      cases h
      exact g
    · rw [fu_ne z] at h ⊢
      exact (S.keep e).at_ s d h
  · by_cases z1 : s = r
    · by_cases z2 : q = r
      · rw [z1, z2]
      · subst z1
        rw [fu_same, fu_ne z2] at w
        rw [fu_ne z2] at h2
        exact absurd w.symm (S.ne h2 n)
    · by_cases z2 : q = r
      · subst z2
        rw [fu_same, fu_ne z1] at w
        rw [fu_ne z1] at h1
        exact absurd w (S.ne h1 n)
      · rw [fu_ne z1, fu_ne z2] at w
        rw [fu_ne z1] at h1
        rw [fu_ne z2] at h2
        exact S.inj _ _ _ _ h1 h2 w
end
/-! ### min with a default, max of a tuple -/
theorem hu64 {k : Nat} {A : Around} (h : Room k A) : A.units + 64 < cLine := by
  have := h.un
  omega
theorem reads_ints {h : Heap} : ∀ (ns : List Int) (vs : List Value), Vals (ns.map V.int) vs → ReadsAll h vs (ns.map PyData.int) []
  | [], vs, e => by
    cases e
    exact .nil
  | n :: r, vs, e => by
    cases e with
    | cons h1 h2 =>
      obtain ⟨t, rfl⟩ := h1
      have := reads_ints (h := h) r _ h2
      exact ReadsAll.cons (as := []) (bs := []) (.int n t) this
theorem ints_depthAll : ∀ ns : List Int, PyData.depthAll (ns.map PyData.int) ≤ 1
  | [] => by simp [PyData.depthAll]
  | n :: r => by
    have := ints_depthAll r
    simp only [List.map_cons, PyData.depthAll, PyData.depth]
    omega
theorem ints_alike (ns : List Int) : PySem.W.AlikeAll (ns.map PyData.int) := by
  refine ⟨fun x hx y hy => ?_, fun x hx => ?_⟩
  · obtain ⟨i, _, rfl⟩ := List.mem_map.mp hx
    obtain ⟨j, _, rfl⟩ := List.mem_map.mp hy
    rfl
  · obtain ⟨i, _, rfl⟩ := List.mem_map.mp hx
    intro z
    cases z
theorem reads_int {h : Heap} {v : Value} {m : Int} {bs : List Addr} (g : Reads h v (.int m) bs) : RelV (.int m) v := by
  cases g with
  | int i t => exact ⟨t, rfl⟩
def rMinDf (K : PySem.W.Frag) (xs zs : List V) (H : Hp) (Q : VK) : Prop := ∃ (a : Addr) (n : Int) (ns : List Int) (d : V), xs = [.ref a] ∧ zs = [d] ∧ SqL K H a ((n :: ns).map V.int) ∧ Q (.int (ns.foldl min n)) H
theorem cr_minDf {X : Cx} (hc : X.calm = true) (hu : X.A.units + 64 < cLine) : CallRK X (.builtin "min") ["default"] (rMinDf X.K) := by
  intro pins s σ H xs zs us ws Q I rx rz h
  obtain ⟨a, n, ns, d, rfl, rfl, hl, q⟩ := h
  obtain ⟨u, rfl, ru⟩ := rx.one
  obtain rfl : u = Value.ref a := ru
  obtain ⟨z, rfl, rz⟩ := rz.one
  obtain ⟨its, r2, ⟨o, k, e1, e2, _, e4⟩, _⟩ := I.list hl
  have hd := ints_depthAll (n :: ns)
  refine PySem.W.min_list_default (vs := its.toArray) (xs := (n :: ns).map PyData.int) (as := []) (I.ok.hd hc) ⟨o, e1, e2, k, e4⟩ (reads_ints _ _ r2) (ints_alike (n :: ns)) (by omega) (fun e => by cases e) ?_
  intro y ys i v h' tk bs e hv hr hk
  cases e
  rw [PySem.W.minD_ints] at hr
  exact ⟨_, _, I.kept hk, reads_int hr, q⟩
def rMaxT (K : PySem.W.Frag) (xs : List V) (H : Hp) (Q : VK) : Prop := ∃ (a : Addr) (n : Int) (ns : List Int), xs = [.ref a] ∧ SqT K H a ((n :: ns).map V.int) ∧ Q (.int (ns.foldl max n)) H
theorem cr_maxT {X : Cx} (hc : X.calm = true) (hu : X.A.units + 64 < cLine) : CallR X (.builtin "max") (rMaxT X.K) := by
  intro pins s σ H xs us Q I rx h
  obtain ⟨a, n, ns, rfl, hl, q⟩ := h
  obtain ⟨u, rfl, ru⟩ := rx.one
  obtain rfl : u = Value.ref a := ru
  obtain ⟨its, r2, ⟨o, e1, e2, k, e4⟩, _⟩ := I.tuple hl
  have hd := ints_depthAll (n :: ns)
  refine PySem.W.max_tuple_data (vs := its.toArray) (x := PyData.int n) (xs := ns.map PyData.int) (as := []) (I.ok.hd hc) ⟨o, e1, e2, k, e4⟩ (reads_ints _ _ r2) (ints_alike (n :: ns)) (by show X.A.units + 1 + PyData.depthAll ((n :: ns).map PyData.int) < cLine; omega) ?_
  intro i v h' tk bs hv hr hk
  rw [PySem.W.maxD_ints] at hr
  exact ⟨_, _, I.kept hk, reads_int hr, q⟩
end Vs

namespace Vs
open PySem PySem.Spec PyProof.Rows L2
/-! ### dict comprehensions whose keys are tuples -/
section
variable {X : Cx} {pins : List (Addr × Obj)} {σ : L2.St} {H : Hp} {s : Shared}
theorem key_ofT {b : Addr} {k : List Key} (I : Inv X pins σ H s) (e : H b = some (.tup (k.map kV))) : (tupleKind (mixKind X.prog X.w)).is s.heap k b := by
  obtain ⟨its, r, pl, hz⟩ := I.tuple (SqT.of e)
  obtain ⟨o, h1, h2, n, h3⟩ := pl
  exact ⟨o, its.toArray, n, h1, h2, h3, by simpa using items_are r⟩
theorem d_dictSetT {E : Value → Shared → Prop} {D b : Addr} {kvs : List (List Key × V)} {k : List Key} {v : V} {r : Value} {Q : Unit → Shared → Prop} (hu : X.A.units + 1 < cLine) (I : Inv X pins σ H s) (hD : H D = some (.dT kvs)) (hz : kvs.length < sizeLine) (hk : H b = some (.tup (k.map kV))) (rv : RelV v r)
    (q : ∀ s', Inv X pins σ (upd H D (.dT (putK kvs k v))) s' → Q () s') : wpAny (model X.prog X.w) X.A (dictSet D (.ref b) r) Q E s := by
  obtain ⟨z, hd, xs, rel, dd⟩ := dt_of I.hok hD
  have hl := rel.length
  have hr : (tupleKind (mixKind X.prog X.w)).room X.A := by
    first | exact hu | (show _ < _; omega)
  refine wpAny_dictSet_heap (knd := tupleKind (mixKind X.prog X.w)) hr (key_ofT I hk) dd (fun h' dd' hs => q _ ?_) (by omega)
  obtain ⟨o, es, ep, ho, h2, h3, h4, _, h5⟩ := dd'
  have hz2 : (putK kvs k v).length ≤ sizeLine := by
    have := length_putK kvs k v
    omega
  refine d_write I (by rw [hD]; exact True.intro) hs ⟨_, ho⟩ ⟨hz2, hd, _, (rel.put k hk rv).keeps fun c ys ec => ?_, o, es, ep, ho, h2, h3, h4, h5⟩
  rw [upd_ne (ne_of ec hD (fun z => nomatch z))]
  exact ec
end
def tDcT (wi : TI) (g : TG) (tt : TT) (tk tv : TE) (vs : List Nat) : TE := fun σ H Q => wi σ H fun J H1 => ∀ D, H1 D = none → ∃ W : Nat → Nat → Hp → Prop, (∃ m, W 0 m (upd H1 D (.dT []))) ∧ ∀ i m H, W i m H → (J.stop i H ∧ Q (.ref D) H) ∨ (J.go i H ∧ ∃ Nx : Hp → Prop, (∀ H', Nx H' → ∃ m', m' < m ∧ W (i + 1) m' H') ∧ ∀ x H', J.yld i H x H' → g x (wipe σ vs) H' fun σ2 H2 => wipe σ2 vs = wipe σ vs ∧ tt σ2 H2 fun b H3 => if b = true then tk σ2 H3 fun y H4 => tv σ2 H4 fun z H5 => ∃ kvs k b, y = .ref b ∧ H5 b = some (.tup (k.map kV)) ∧ H5 D = some (.dT kvs) ∧ kvs.length < sizeLine ∧ Nx (upd H5 D (.dT (putK kvs k z))) else Nx H3)
theorem lookup_mem {β : Type} : ∀ {l : List (Str × β)} {x : Str} {c : β}, l.lookup x = some c → (x, c) ∈ l
  | [], _, _, h => by cases h
  | (a, b) :: r, x, c, h => by
    simp only [List.lookup] at h
    split at h
    · rename_i e
      cases h
      rw [eq_of_beq e]
      exact List.mem_cons_self
    · exact List.mem_cons_of_mem _ (lookup_mem h)
theorem dcT_loop {X : Cx} {kx vx tg iter : Expr} {ifs : List Expr} {scope : Scope} {pos : Pos} {g : TG} {tt : TT} {tk tv : TE} {J : It} {fp : List Addr} {it D : Addr} {tn : Nat → Heap → Prop} {vs : List Nat} {σ : L2.St} {H : Hp} {s : Shared} {W : Nat → Nat → Hp → Prop} {m0 : Nat} {Qd : Hp → Prop} {R : Result → Shared → Prop} (hu : X.A.units + 1 < cLine) (hc : X.calm = true) (hxe : X.xe = fun _ _ => False) (T : Turn X.prog X.w X.K tg J fp it tn) (hg : PG X tg g) (ht : PTs X ifs tt) (hk : PE X kx tk) (he : PE X vx tv)
    (hW : ∀ i m H, W i m H → (J.stop i H ∧ Qd H) ∨ (J.go i H ∧ ∃ Nx : Hp → Prop, (∀ H', Nx H' → ∃ m', m' < m ∧ W (i + 1) m' H') ∧ ∀ x H', J.yld i H x H' → g x (wipe σ vs) H' fun σ2 H2 => wipe σ2 vs = wipe σ vs ∧ tt σ2 H2 fun b H3 => if b = true then tk σ2 H3 fun y H4 => tv σ2 H4 fun z H5 => ∃ kvs k b, y = .ref b ∧ H5 b = some (.tup (k.map kV)) ∧ H5 D = some (.dT kvs) ∧ kvs.length < sizeLine ∧ Nx (upd H5 D (.dT (putK kvs k z))) else Nx H3))
    (I : Inv X [] (wipe σ vs) H s) (t0 : tn 0 s.heap) (f0 : ∀ b ∈ fp, FpOk X [] H b) (w0 : W 0 m0 H) (hR : ∀ s' H', Inv X [] (wipe σ vs) H' s' → Qd H' → R (.ok .next) s') :
    codeAny (model X.prog X.w) X.A (.compLoop (.DictComp kx vx [⟨tg, iter, ifs, 0⟩] scope pos) 0 (.ref it) (.ref D) X.env) R s := by
  refine compLoop_anyD (fun n s => ∃ i H', Inv X [] (wipe σ vs) H' s ∧ tn i s.heap ∧ W i n H' ∧ ∀ b ∈ fp, FpOk X [] H' b) ?_ m0 ⟨0, H, I, t0, w0, f0⟩
  rintro n s ⟨i, H5, I5, t5, w5, f5⟩
  rcases hW i n H5 w5 with ⟨st, q⟩ | ⟨go, Nx, hNx, step⟩
  · refine thn (T.done X rfl rfl rfl hc i [] s _ H5 _ I5 f5 t5 st) fun r s6 ⟨hr, I6⟩ => ?_
    subst hr
    exact hR _ _ I6 q
  refine thn (T.item X rfl rfl rfl hc i [] s _ H5 _ I5 f5 t5 go) fun r s6 ⟨u, hr, h6⟩ => ?_
  subst hr
  refine thn h6 fun _ s7 ⟨x, H7, I7, r7, y7, t7, n7⟩ => ?_
  have I7p := I7.pinned (fun b hb => ⟨n7 b hb, (f5 b hb).2⟩) (T.obj (i + 1) _ t7)
  have back : ∀ (σ8 : L2.St) (H8 : Hp) (s8 : Shared), Inv X ([] ++ pinsAt fp s7.heap) σ8 H8 s8 → wipe σ8 vs = wipe σ vs → Nx H8 → ∃ m, m < n ∧ ∃ i H', Inv X [] (wipe σ vs) H' s8 ∧ tn i s8.heap ∧ W i m H' ∧ ∀ b ∈ fp, FpOk X [] H' b := by
    intro σ8 H8 s8 I8 hw nx
    obtain ⟨m, hm, w8⟩ := hNx H8 nx
    have I9 : Inv X [] (wipe σ vs) H8 s8 := by
      rw [← hw]
      exact (I8.unpinned).weak (wipe_length _ _) fun i v h => (wipe_some h).1
    have pn : ∀ b ∈ fp, ∀ o, s7.heap.get? b = some o → s8.heap.get? b = some o ∧ H8 b = none := fun b hb o ho => by
      have := I8.pin (b, o) (List.mem_append.mpr (.inr (mem_pinsAt hb ho)))
      exact ⟨this.1, this.2.1⟩
    refine ⟨m, hm, i + 1, H8, I9, T.keep _ _ _ t7 fun b hb o ho => (pn b hb o ho).1, w8, fun b hb => ?_⟩
    obtain ⟨o, ho, _⟩ := T.obj _ _ t7 b hb
    exact ⟨(pn b hb o ho).2, (f5 b hb).2⟩
  have nx : ∀ {α : Type} {t : Sem α} {Q Q' : α → Shared → Prop} {E : Value → Shared → Prop} {s : Shared}, wpAny (model X.prog X.w) X.A t Q X.xe s → (∀ a s, Q a s → Q' a s) → wpAny (model X.prog X.w) X.A t Q' E s := fun h k => thnF (by rw [hxe] at h; exact h) k
  refine nx (hg.run _ s7 _ H7 x u _ I7p r7 (step x H7 y7)) fun _ s8 ⟨σ8, H8, I8, hw8, q8⟩ => ?_
  refine nx (ht.run _ s8 σ8 H8 _ I8 q8) fun b s9 ⟨H9, I9, q9⟩ => ?_
  cases b with
  | false => exact back _ _ _ I9 hw8 q9
  | true =>
    refine nx (hk.run _ s9 σ8 H9 _ I9 q9) fun kv s10 ⟨y, H10, I10, ry, q10⟩ => ?_
    refine nx (he.run _ s10 σ8 H10 _ I10 q10) fun vv s11 ⟨z, H11, I11, rz, kvs, k, b, ey, hb, hD, hz, nxt⟩ => ?_
    subst ey
    obtain rfl : kv = Value.ref b := ry
    exact d_dictSetT hu I11 hD hz hb rz fun s' I' => back _ _ _ I' hw8 nxt
theorem pe_dcT {X : Cx} {kx vx tg iter : Expr} {ifs : List Expr} {scope : Scope} {own : List (Str × Nat)} {pos : Pos} {wi : TI} {g : TG} {tt : TT} {tk tv : TE} (hu : X.A.units + 1 < cLine) (hc : X.calm = true) (hN : X.N.Nodup) (hi : PI X tg iter wi) (ok : BlkOk X.N X.env.scope scope own)
    (hg : ∀ (s : Shared) (H : Hp) (C : Addr) (cl : List (Str × Addr)) (fp : List Addr), PG (X.blk s H scope (compEnvC scope cl C X.env) fp) tg g)
    (ht : ∀ (s : Shared) (H : Hp) (C : Addr) (cl : List (Str × Addr)) (fp : List Addr), PTs (X.blk s H scope (compEnvC scope cl C X.env) fp) ifs tt)
    (hk : ∀ (s : Shared) (H : Hp) (C : Addr) (cl : List (Str × Addr)) (fp : List Addr), PE (X.blk s H scope (compEnvC scope cl C X.env) fp) kx tk)
    (he : ∀ (s : Shared) (H : Hp) (C : Addr) (cl : List (Str × Addr)) (fp : List Addr), PE (X.blk s H scope (compEnvC scope cl C X.env) fp) vx tv)
    (hs : ∀ x : Value, foldedSetIterable iter X.env x = pure x := by intro _; rfl) : PE X (.DictComp kx vx [⟨tg, iter, ifs, 0⟩] scope pos) (tDcT wi g tt tk tv (own.map (·.2))) := by
  refine ⟨fun pins s σ H Q I h => ?_⟩
  rw [arm_eval_DictComp]
  refine wpAny_comprehension_free (gs := []) rfl hs (closure_ok fun y hy hf => I.ok.has _ (ok.free y hy hf)) ok.kind (fun x hx hl => by rw [ok.uniq x hx, hl]) ?_
  refine thn (hi.run pins s σ H _ I h) fun v s1 h1 => thn h1 fun u s2 ⟨it, fp, tn, J, H1, eu, I1, T, t0, hfp, r⟩ => ?_
  subst eu
  have nD : H1 s2.heap.objs.size = none := I1.hok.fresh (Nat.le_refl _)
  obtain ⟨W, ⟨m0, w0⟩, hW⟩ := r s2.heap.objs.size nD
  refine wpAny_newObj_type ?_
  have I2 := I1.laid (a := s2.heap.objs.size) (o := .dT []) (h' := s2.heap.push { cls := .type "dict", data := .dict #[] }) (t' := s2.toks) (fun _ _ q => Heap.get?_push_of_some _ q) (Nat.le_refl _) (dt_empty s2.heap I1.big)
  have hfp2 : ∀ b ∈ fp, FpOk X pins (upd H1 s2.heap.objs.size (.dT [])) b ∧ b < (s2.heap.push { cls := Value.type "dict", data := Data.dict #[] }).objs.size := by
    intro b hb
    obtain ⟨o, ho, _⟩ := T.obj 0 _ t0 b hb
    have lt : b < s2.heap.objs.size := by
      refine Nat.lt_of_not_le fun z => ?_
      rw [Heap.get?_none_of_le z] at ho
      cases ho
    refine ⟨⟨by rw [upd_ne (Nat.ne_of_lt lt)]; exact (hfp b hb).1, (hfp b hb).2⟩, ?_⟩
    show b < (s2.heap.objs.push _).size
    rw [Array.size_push]
    exact Nat.lt_succ_of_lt lt
  have t02 : tn 0 (s2.heap.push { cls := Value.type "dict", data := Data.dict #[] }) := T.keep 0 _ _ t0 fun b hb o ho => Heap.get?_push_of_some _ ho
  have I3 : Inv X pins σ (upd H1 s2.heap.objs.size (.dT [])) { heap := s2.heap.push { cls := Value.type "dict", data := Data.dict #[] }, gens := s2.gens, drawn := s2.drawn, toks := s2.toks, os := s2.os } := I2
  clear I2
  clear t0
  obtain ⟨s3, e3⟩ : ∃ x : Shared, x = { heap := s2.heap.push { cls := Value.type "dict", data := Data.dict #[] }, gens := s2.gens, drawn := s2.drawn, toks := s2.toks, os := s2.os } := ⟨_, rfl⟩
  have hh : s2.heap.push { cls := Value.type "dict", data := Data.dict #[] } = s3.heap := by rw [e3]
  rw [hh] at hfp2 t02
  rw [← e3] at I3 ⊢
  refine newEnv_comp ?_
  have Ib := block_start I3 ok hN hfp2
  have szC : s3.heap.objs.size ≤ s3.heap.objs.size := Nat.le_refl _
  have tn0 : tn 0 (pushCells (s3.heap.push { cls := Value.type "dict", data := Data.dict #[] }) scope.names) := T.keep 0 _ _ t02 fun b hb o ho => pushCells_keeps _ _ _ _ (Heap.get?_push_of_some _ ho)
  suffices main : codeAny (model X.prog X.w) X.A (.compLoop (.DictComp kx vx [⟨tg, iter, ifs, 0⟩] scope pos) 0 (.ref it) (.ref s2.heap.objs.size) (compEnvC scope (cellsFrom (s3.heap.objs.size + 1) scope.names (cloFrom X.env.cells scope.names [])) s3.heap.objs.size X.env)) (compPost (model X.prog X.w) X.A X.xe none (EP X pins σ Q) (Value.ref s2.heap.objs.size) s3.heap.objs.size) { heap := pushCells (s3.heap.push { cls := Value.type "dict", data := Data.dict #[] }) scope.names, gens := s3.gens, drawn := s3.drawn, toks := s3.toks, os := s3.os } from
    codeAny_compStart_dict main (T.self _ 0 _ _ _ tn0 main)
  · refine dcT_loop (X := X.blk s3 (upd H1 s2.heap.objs.size (.dT [])) scope (compEnvC scope (cellsFrom (s3.heap.objs.size + 1) scope.names (cloFrom X.env.cells scope.names [])) s3.heap.objs.size X.env) fp) hu hc rfl T (hg _ _ _ _ _) (ht _ _ _ _ _) (hk _ _ _ _ _) (he _ _ _ _ _) hW Ib ?_ ?_ w0 ?_
    · exact tn0
    · intro b hb
      obtain ⟨⟨g1, g2, g3, g4, g5, g6⟩, lt⟩ := hfp2 b hb
      refine ⟨g1, Nat.ne_of_lt lt, fun m => ?_, .inl hb, fun x c hl e => ?_, fun p hp => by cases hp⟩
      · rcases List.mem_cons.mp (I3.stkSub b m) with z | z
        · exact g2 z
        · exact g3 z
      · have hm := lookup_mem hl
        have hm2 : (x, c) ∈ cellsFrom (s3.heap.push { cls := Value.type "dict", data := Data.dict #[] }).objs.size scope.names (cloFrom X.env.cells scope.names []) := by
          rw [show (s3.heap.push { cls := Value.type "dict", data := Data.dict #[] }).objs.size = s3.heap.objs.size + 1 from Array.size_push ..]
          exact hm
        rcases cells_mem hm2 with z | ⟨_, z, _⟩
        · rcases cloFrom_mem z with z | ⟨z1, z2⟩
          · cases z
          · obtain ⟨c', hc'⟩ := I.ok.has _ (ok.free _ z1 rfl)
            rw [hc'] at z2
            exact g5 x c' hc' (z2.symm.trans e)
        · rw [show (s3.heap.push { cls := Value.type "dict", data := Data.dict #[] }).objs.size = s3.heap.objs.size + 1 from Array.size_push ..] at z
          rw [e] at z
          exact absurd lt (Nat.not_lt_of_le (Nat.le_of_succ_le z))
    · intro s' H' I' q
      have I4 : Inv X pins σ H' s' := I3.call' I'.os I'.base I'.hok I'.bare fun b hb => by
        obtain ⟨⟨g1, g2, g3, g4, g5, g6⟩, lt⟩ := hfp2 b hb
        exact ⟨g4, g2, g5, g6⟩
      obtain ⟨m, hm, _⟩ := I'.loc
      have hC : FpOk X pins H' s3.heap.objs.size := I3.fpOk (Nat.le_refl _) I'.free
      refine ⟨m, hm, fun h' sb => ⟨.ref s2.heap.objs.size, H', ?_, rfl, q⟩⟩
      obtain ⟨g1, g2, g3, g4, g5, g6⟩ := hC
      exact I4.turned (fun b o ne ho => by rw [sb.2 b ne]; exact ho) g1 g2 g4 g5 g6
theorem dc_it {J : It} {n : Nat} {G : Hp → Prop} {Y : Nat → Hp → V → Hp → Prop} (w : Walk J n G Y) {g : TG} {tt : TT} {tk tv : TE} {vs : List Nat} {σ : L2.St} {H1 : Hp} {D : Addr} {Qd : Hp → Prop} (Pv : Nat → Hp → Prop) (h0 : Pv 0 (upd H1 D (.dT []))) (hG : ∀ i H, i ≤ n → Pv i H → G H)
    (hs : ∀ i x H H', i < n → Pv i H → Y i H x H' → g x (wipe σ vs) H' fun σ2 H2 => wipe σ2 vs = wipe σ vs ∧ tt σ2 H2 fun b H3 => if b = true then tk σ2 H3 fun y H4 => tv σ2 H4 fun z H5 => ∃ kvs k b, y = .ref b ∧ H5 b = some (.tup (k.map kV)) ∧ H5 D = some (.dT kvs) ∧ kvs.length < sizeLine ∧ Pv (i + 1) (upd H5 D (.dT (putK kvs k z))) else Pv (i + 1) H3)
    (hd : ∀ H, Pv n H → Qd H) :
    ∃ W : Nat → Nat → Hp → Prop, (∃ m, W 0 m (upd H1 D (.dT []))) ∧ ∀ i m H, W i m H → (J.stop i H ∧ Qd H) ∨ (J.go i H ∧ ∃ Nx : Hp → Prop, (∀ H', Nx H' → ∃ m', m' < m ∧ W (i + 1) m' H') ∧ ∀ x H', J.yld i H x H' → g x (wipe σ vs) H' fun σ2 H2 => wipe σ2 vs = wipe σ vs ∧ tt σ2 H2 fun b H3 => if b = true then tk σ2 H3 fun y H4 => tv σ2 H4 fun z H5 => ∃ kvs k b, y = .ref b ∧ H5 b = some (.tup (k.map kV)) ∧ H5 D = some (.dT kvs) ∧ kvs.length < sizeLine ∧ Nx (upd H5 D (.dT (putK kvs k z))) else Nx H3) := by
  refine ⟨fun i m H => i + m = n ∧ Pv i H, ⟨n, by omega, h0⟩, ?_⟩
  rintro i m H ⟨e, p⟩
  by_cases hi : i < n
  · refine .inr ⟨w.goes i H hi (hG i H (by omega) p), Pv (i + 1), fun H' p' => ⟨m - 1, by omega, by omega, p'⟩, fun x H' y => ?_⟩
    exact hs i x H H' hi p (w.yields i H x H' hi (hG i H (by omega) p) y)
  · have ei : i = n := by omega
    subst ei
    exact .inl ⟨w.stops H (hG _ H (Nat.le_refl _) p), hd H p⟩
end Vs

namespace Vs
open PySem PySem.Spec PyProof.Rows L2
/-! ### a tuple in a set of tuples -/
theorem nth_dm {m : Nat} : ∀ (c : Nat) {p : SetTable.Probe}, p.dummy = none → (nth m p c).dummy = none
  | 0, _, h => h
  | c + 1, p, h => by
    rw [nth_succ]
    have := nth_dm (m := m) c h
    unfold adv
    split <;> exact this
theorem search_no {P : Program} {w : World} {A : Around} {E : Value → Shared → Prop} {s : Shared} {a : Addr} {L : List (Addr × List Int)} {es : Array (Int × Value)} {ep : Nat} {t : SetTable} (T : SetTR P w s.heap a L es ep t) {x : Addr} {k : List Int} (hx : IsT P w s.heap k x) (hA : (TK P w).room A) {K : Nat} (hK : K < 10 * SetTable.turns t.mask) (hKf : way t.mask (thash P w k) K ∉ t.place.toList)
    (hKb : ∀ c, c < K → way t.mask (thash P w k) c ∈ t.place.toList) {Q : SetFound → Shared → Prop} (q1 : ∀ i, k ∈ L.map (·.2) → Q (.there (some i)) s) (q2 : ∀ j, k ∉ L.map (·.2) → Q (.free j false) s) :
    ∀ (f c : Nat) (stand : Option SetTable.Probe), stand.getD (t.probeStart (thash P w k)) = nth t.mask (runAt t.mask (SetTable.bits (thash P w k) % (t.mask + 1)) (SetTable.bits (thash P w k))) c → c ≤ K → K - c < f →
      (∀ (i : Nat) (p : Addr × List Int), L[i]? = some p → p.2 = k → ∃ c', c ≤ c' ∧ c' < K ∧ t.place.toList[i]? = some (way t.mask (thash P w k) c')) →
      wpAny (model P w) A (setSearchFrom a (.ref x) (thash P w k) false f stand) Q E s := by
  intro f
  induction f with
  | zero => intro c stand _ _ h; omega
  | succ f ih =>
    intro c stand hst hc hf hin
    obtain ⟨o, ho, hex, hda⟩ := T.ob
    rw [setSearchFrom_succ]
    refine wpAny_bind (wpAny_setState_of ho hda T.fits ?_)
    dsimp only
    rw [if_neg T.gw]
    have hes : ∀ {i : Nat} {p : Addr × List Int}, L[i]? = some p → (fun i => (Option.map (fun x => x.1) es[i]?).getD 0) i = thash P w p.2 := fun {i p} hp => by
      show (Option.map (fun x => x.1) es[i]?).getD 0 = _
      rw [T.entry hp]
      rfl
    have hplace : ∀ {i j : Nat}, t.place.toList[i]? = some j → ∃ p, L[i]? = some p := fun {i j} h => by
      have h1 := (List.getElem?_eq_some_iff.mp h).1
      have h2 := T.tab.sz
      rw [List.length_map] at h2
      rw [Array.length_toList] at h1
      exact ⟨L[i], List.getElem?_eq_getElem (by omega)⟩
    rw [hst]
    have hy : ∀ y ∈ List.map (fun x => x.2) (Array.filter (fun x => x.1 == thash P w k) es).toList, ∃ k' c, y = Value.ref c ∧ IsT P w s.heap k' c := by
      intro y hy
      obtain ⟨e, he, rfl⟩ := List.mem_map.mp hy
      rw [Array.toList_filter] at he
      have he2 := (List.mem_filter.mp he).1
      rw [T.rows] at he2
      obtain ⟨p, hp, rfl⟩ := List.mem_map.mp he2
      exact ⟨p.2, p.1, rfl, T.tup p hp⟩
    have spec := go_spec t T.tab.ris T.tab.dm (fun i => (Option.map (fun x => x.1) es[i]?).getD 0) (thash P w k) (10 * SetTable.turns t.mask) (K - c) (nth t.mask (runAt t.mask (SetTable.bits (thash P w k) % (t.mask + 1)) (SetTable.bits (thash P w k))) c) (nth_dm c rfl) (by omega)
      (fun d hd => by rw [← nth_add]; exact hKb (c + d) (by omega)) (by rw [← nth_add, show c + (K - c) = K from by omega]; exact hKf)
    have probe_eq : ∀ hashAt p, SetTable.probe t hashAt (thash P w k) p = SetTable.probe.go t hashAt (thash P w k) (10 * SetTable.turns t.mask) p := fun _ _ => rfl
    rw [probe_eq]
    rcases spec with ⟨d, i, hd, hpl, hh, hbef, hgo⟩ | ⟨hbef, hgo⟩
    · rw [hgo]
      dsimp only
      obtain ⟨p, hp⟩ := hplace hpl
      have rest : wpAny (model P w) A (searchRest a (.ref x) (thash P w k) false f es t (nth t.mask (nth t.mask (runAt t.mask (SetTable.bits (thash P w k) % (t.mask + 1)) (SetTable.bits (thash P w k))) c) d).j i (nth t.mask (nth t.mask (runAt t.mask (SetTable.bits (thash P w k) % (t.mask + 1)) (SetTable.bits (thash P w k))) c) (d + 1))) Q E s := by
        unfold searchRest
        rw [T.entry hp]
        dsimp only
        refine wpAny_bind (wpAny_holding ((TK P w).eqBool hA (T.tup p (List.mem_of_getElem? hp)) hx ?_))
        refine wpAny_bind (wpAny_setState_of ho hda T.fits ?_)
        dsimp only
        rw [Bool.false_and, if_neg Bool.false_ne_true, sameMem]
        dsimp only
        rw [if_pos rfl, slot_live T.tab.ris hpl]
        dsimp only
        rw [T.entry hp]
        dsimp only
        refine wpAny_bind (wpAny_isSame_ref_self ?_)
        rw [if_pos rfl]
        refine wpAny_bind (wpAny_pure ?_)
        dsimp only
        by_cases e : p.2 = k
        · rw [decide_eq_true e, if_pos rfl]
          exact wpAny_pure (q1 i (List.mem_map.mpr ⟨p, List.mem_of_getElem? hp, e⟩))
        · rw [decide_eq_false e, if_neg Bool.false_ne_true]
          refine ih (c + (d + 1)) _ (by show nth _ _ _ = _; exact (nth_add _ _ _ _).symm) (by omega) (by omega) fun i' p' hp' ek => ?_
          obtain ⟨c', h1, h2, h3⟩ := hin i' p' hp' ek
          refine ⟨c', ?_, h2, h3⟩
          refine Nat.le_of_not_lt fun z => ?_
          have h3' : t.place.toList[i']? = some (nth t.mask (nth t.mask (runAt t.mask (SetTable.bits (thash P w k) % (t.mask + 1)) (SetTable.bits (thash P w k))) c) (c' - c)).j := by
            rw [← nth_add, show c + (c' - c) = c' from by omega]
            exact h3
          by_cases z2 : c' - c < d
          · exact hbef _ _ z2 h3' ((hes hp').trans (by rw [ek]))
          · have e2 : c' - c = d := by omega
            rw [e2] at h3'
            have s1 := slot_live T.tab.ris hpl
            have s2 := slot_live T.tab.ris h3'
            rw [s1] at s2
            injection s2 with s2
            subst s2
            rw [hp] at hp'
            cases hp'
            exact e ek
      by_cases hl : t.led = true
      · rw [hl]
        rw [if_neg (by decide)]
        exact rest
      · have hl2 : t.led = false := by simpa using hl
        rw [hl2, if_pos (show (!false) = true from rfl)]
        refine wpAny_bind (seen_tup hx hy ?_)
        rw [if_neg Bool.false_ne_true]
        exact rest
    · rw [hgo]
      dsimp only
      refine wpAny_pure (q2 _ fun m => ?_)
      obtain ⟨p, hp, ek⟩ := List.mem_map.mp m
      obtain ⟨i, hi⟩ := List.getElem?_of_mem hp
      obtain ⟨c', h1, h2, h3⟩ := hin i p hi ek
      refine hbef (c' - c) i (by omega) ?_ ((hes hi).trans (by rw [ek]))
      rw [← nth_add, show c + (c' - c) = c' from by omega]
      exact h3
theorem setFind_tup {P : Program} {w : World} {A : Around} {E : Value → Shared → Prop} {s : Shared} {a : Addr} {L : List (Addr × List Int)} (T0 : SetT0 P w s.heap a L) (ht : ∀ p ∈ L, IsT P w s.heap p.2 p.1) {x : Addr} {k : List Int} (hx : IsT P w s.heap k x) (hA : (TK P w).room A) {Q : Option Nat → Shared → Prop} (q : ∀ r : Option Nat, r.isSome = decide (k ∈ L.map (·.2)) → Q r s) : wpAny (model P w) A (setFind a (.ref x) (thash P w k)) Q E s := by
  obtain ⟨es, ep, t, T⟩ := T0.full ht
  obtain ⟨o, ho, hex, hda⟩ := T.ob
  unfold setFind
  rw [setFindIn.eq_def]
  dsimp only
  refine wpAny_bind (wpAny_setState_of ho hda T.fits ?_)
  dsimp only
  rw [if_neg (show ¬ byScan (Value.ref x) es = true from by unfold byScan; intro z; cases z)]
  obtain ⟨K, hK, hKf, hKb⟩ := T.tab.first (by
    have := T.room
    rw [List.length_map]
    omega) (thash P w k)
  unfold setSearch
  refine wpAny_bind (search_no T hx hA hK hKf hKb (fun i m => ?_) (fun j m => ?_) 100000 0 none (by show t.probeStart _ = _; exact start_run t _) (Nat.zero_le _) ?_ fun i p hp ek => ?_)
  · exact wpAny_pure (q _ (decide_eq_true m).symm)
  · exact wpAny_pure (q _ (decide_eq_false m).symm)
  · have m := T.tab.mok
    rw [Nat.sub_zero]
    refine Nat.lt_of_lt_of_le hK ?_
    rcases m with e | e | e <;> rw [e] <;> decide
  · have hi : i < L.length := (List.getElem?_eq_some_iff.mp hp).1
    have h2 := T.tab.sz
    rw [List.length_map] at h2
    have hj : t.place.toList[i]? = some (t.place.toList[i]'(by rw [Array.length_toList]; omega)) := List.getElem?_eq_getElem _
    obtain ⟨c', h1, h3⟩ := T.tab.before hKf (show (L.map fun p => thash P w p.2)[i]? = some (thash P w k) from by rw [List.getElem?_map, hp, ← ek]; rfl) hj
    exact ⟨c', Nat.zero_le _, h1, by rw [h3]; exact hj⟩
theorem meets_inTup {P : Program} {w : World} (a x : Addr) (k : List Int) (L : List (Addr × List Int)) : MeetsIn P w (Builtin.«frozenset.__contains__» { pos := [.ref a, .ref x] }) (fun A R s => A.units + 1 < cLine ∧ SetT0 P w s.heap a L ∧ (∀ p ∈ L, IsT P w s.heap p.2 p.1) ∧ IsT P w s.heap k x ∧ ∀ t : Nat, R (.ok (.ret (.bool (decide (k ∈ L.map (·.2)))))) { s with toks := t }) := by
  refine MeetsIn.of_wp fun A R s h => ?_
  obtain ⟨hA, hT, ht, hx, q⟩ := h
  have hr : (TK P w).room A.in1 := tupleKind_room_in1 hA
  unfold Builtin.«frozenset.__contains__» Builtin.Frozenset.oneOther
  refine wpAny_bind ?_
  show wpAny _ _ (Builtin.Frozenset.addrOf (Value.ref a) >>= fun s => pure (s, Value.ref x)) _ _ _
  refine wpAny_bind ?_
  show wpAny _ _ (pure a) _ _ _
  refine wpAny_pure (wpAny_pure ?_)
  dsimp only
  refine wpAny_bind ?_
  unfold Builtin.Frozenset.withSetAsKey
  refine wpAny_tryCatch ?_
  unfold setContains
  refine wpAny_holding (wpAny_bind ((TK P w).pyHash hr hx ?_))
  refine wpAny_bind ?_
  refine setFind_tup (s := { heap := s.heap, gens := s.gens, drawn := s.drawn, toks := s.toks + (TK P w).draws k, os := s.os }) hT ht hx hr fun r hr2 => ?_
  refine wpAny_pure ?_
  rw [hr2]
  exact wpAny_pure ⟨_, rfl, q _⟩
def rInTO (K : PySem.W.Frag) (P : Program) (w : World) (x y : V) (H : Hp) (Q : VK) : Prop := ∃ (a b : Addr) (L : List (Addr × List Int)) (k : List Int), x = .ref b ∧ y = .ref a ∧ H a = some (SetTO P w a L) ∧ (∀ p ∈ L, SqT K H p.1 (p.2.map V.int)) ∧ SqT K H b (k.map V.int) ∧ Q (.bl (decide (k ∈ L.map (·.2)))) H
theorem op_inTO {X : Cx} (hu : X.A.units + 64 < cLine) : OpR X (compareOp .In) (rInTO X.K X.prog X.w) := by
  intro pins s σ H x y v u Q I rx ry h
  obtain ⟨a, b, L, k, rfl, rfl, hH, hL, hb, q⟩ := h
  obtain rfl : v = Value.ref b := rx
  obtain rfl : u = Value.ref a := ry
  have hT : SetT0 X.prog X.w s.heap a L := (I.hok a _ hH).1
  obtain ⟨es, ep, t, ⟨o, ho, hex, hda⟩, _⟩ := hT.ex
  refine In_slot (T := "set") ⟨o, ho, hex.1⟩ PySem.F.slot_set_contains ?_
  refine call_meetsIn PySem.F.slot_set_contains ⟨o, ho, hex.1⟩ PySem.entry_set_contains (PySem.F.args_set_contains_2 _ _) (meets_inTup a b k L) ⟨by omega, hT, fun p hp => I.isT (hL p hp), I.isT hb, fun t => ?_⟩
  show wpAny (model X.prog X.w) X.A (truthy (Value.bool (decide (k ∈ L.map (·.2))))) _ X.xe _
  have r : RelV (V.bl (decide (k ∈ L.map fun p => p.2))) (Value.bool (decide (k ∈ L.map fun p => p.2))) := rfl
  first
    | exact wpAny_truthy_bool ⟨_, H, I.tok _, r, q⟩
    | exact wpAny_pure ⟨_, H, I.tok _, r, q⟩
    | (unfold truthy; exact wpAny_pure ⟨_, H, I.tok _, r, q⟩)
/-! ### d[k] where k is a tuple wherever it stands -/
section
variable {X : Cx} {pins : List (Addr × Obj)} {σ : L2.St} {H : Hp} {s : Shared} {a b : Addr} {kvs : List (List Key × V)} {k : List Key}
theorem key_ofR (I : Inv X pins σ H s) (e : SqT X.K H b (k.map kV)) : (tupleKind (mixKind X.prog X.w)).is s.heap k b := by
  obtain ⟨its, r, pl, hz⟩ := I.tuple e
  obtain ⟨o, h1, h2, n, h3⟩ := pl
  exact ⟨o, its.toArray, n, h1, h2, h3, by simpa using items_are r⟩
/-- a dict with tuples for keys, to be read: as it is or locked -/
def DTat (H : Hp) (a : Addr) (kvs : List (List Key × V)) : Prop := H a = some (.dT kvs) ∨ ∃ o, H a = some (.frz o (.dT kvs))
def tDGetR (K : PySem.W.Frag) (td ty : TE) : TE := fun σ H Q => td σ H fun x H1 => ty σ H1 fun y H2 => ∃ a kvs k b v, x = .ref a ∧ H2 a = some (.dT kvs) ∧ y = .ref b ∧ SqT K H2 b (k.map kV) ∧ valV kvs k = some v ∧ Q v H2
theorem pe_dgetR {o i : Expr} {pos : Pos} {td ty : TE} (K : PySem.W.Frag) (hK : X.K = K) (hu : X.A.units + 1 < cLine) (ho : PE X o td) (hi : PE X i ty) (hs : NoSl i) : PE X (.Subscript o i pos) (tDGetR K td ty) := by
  subst hK
  refine ⟨fun pins s σ H Q I h => ?_⟩
  refine subD_of PySem.F.slot_dict_getitem.lookup hs (thn (ho.run pins s σ H _ I h) fun u s1 ⟨x, H1, I1, rx, q1⟩ => thn (hi.run pins s1 σ H1 _ I1 q1) fun iv s2 ⟨y, H2, I2, ry, a, kvs, k, b, v, ex, e, ey, eb, l, q2⟩ => ?_)
  subst ex ey
  obtain rfl : u = Value.ref a := rx
  cases (show iv = Value.ref b from ry)
  obtain ⟨z, hd, xs, rel, dd⟩ := dt_of I2.hok e
  refine ⟨dd.typeIs, ?_⟩
  obtain ⟨w', hw, rw'⟩ := RelO.some_of (v := v) (o := (atKey xs k).map (·.2)) (by rw [← l]; exact rel.val k)
  obtain ⟨p, hp, hp2⟩ := Option.map_eq_some_iff.mp hw
  refine wpAny_getItem_heap (tupleKind_room_in1 hu) (key_ofR I2 eb) dd hp ?_
  rw [hp2]
  exact ⟨v, H2, I2.tok _, rw', q2⟩
end
end Vs

namespace Vs
open PySem PySem.Spec PyProof.Rows L2
/-! ### tables of distances as data -/
def ptK (p : Pt) : List Key := [.inl p.d, .inl p.n, .inl p.c]
theorem ptK_inj {p q : Pt} (h : ptK p = ptK q) : p = q := by
  unfold ptK at h
  injection h with h1 h
  injection h with h2 h
  injection h with h3 _
  injection h1 with h1
  injection h2 with h2
  injection h3 with h3
  cases p; cases q
  simp only at h1 h2 h3
  rw [h1, h2, h3]
theorem ptK_map (p : Pt) : (ptK p).map kV = [.int p.d, .int p.n, .int p.c] := rfl
def plK (ps : List Pt) : List (List Key × V) := ps.zipIdx.map fun z => (ptK z.1, V.int (z.2 : Int))
theorem plK_len (ps : List Pt) : (plK ps).length = ps.length := by
  unfold plK
  rw [List.length_map, List.length_zipIdx]
theorem plK_get {ps : List Pt} {i : Nat} {p : Pt} (h : ps[i]? = some p) : (plK ps)[i]? = some (ptK p, .int (i : Int)) := by
  unfold plK
  rw [List.getElem?_map, List.getElem?_zipIdx, h]
  simp
theorem plK_get' {ps : List Pt} {i : Nat} {k : List Key} {v : V} (h : (plK ps)[i]? = some (k, v)) : ∃ p, ps[i]? = some p ∧ k = ptK p ∧ v = .int (i : Int) := by
  have hi := (List.getElem?_eq_some_iff.mp h).1
  rw [plK_len] at hi
  have e : ps[i]? = some ps[i] := List.getElem?_eq_getElem hi
  have := plK_get e
  rw [this] at h
  injection h with h
  injection h with h1 h2
  exact ⟨_, e, h1.symm, h2.symm⟩
theorem plK_snoc (ps : List Pt) (p : Pt) : plK (ps ++ [p]) = plK ps ++ [(ptK p, .int (ps.length : Int))] := by
  apply List.ext_getElem?
  intro i
  by_cases h : i < ps.length
  · rw [List.getElem?_append_left (by rw [plK_len]; exact h)]
    have e : ps[i]? = some ps[i] := List.getElem?_eq_getElem h
    rw [plK_get e, plK_get (show (ps ++ [p])[i]? = some ps[i] from by rw [List.getElem?_append_left h]; exact e)]
  · by_cases h2 : i = ps.length
    · subst h2
      rw [List.getElem?_append_right (by rw [plK_len]; exact Nat.le_refl _), plK_len, Nat.sub_self]
      rw [plK_get (p := p) (by rw [List.getElem?_append_right (Nat.le_refl _), Nat.sub_self]; rfl)]
      rfl
    · rw [List.getElem?_eq_none (by rw [plK_len, List.length_append, List.length_singleton]; omega), List.getElem?_eq_none (by rw [List.length_append, plK_len, List.length_singleton]; omega)]
theorem valV_ix {kvs : List (List Key × V)} {i : Nat} {k : List Key} {v : V} (nd : (kvs.map (·.1)).Nodup) (h : kvs[i]? = some (k, v)) : valV kvs k = some v := by
  unfold valV
  have hm : (k, v) ∈ kvs := List.mem_of_getElem? h
  induction kvs generalizing i with
  | nil => cases hm
  | cons a r ih =>
    rw [List.map_cons, List.nodup_cons] at nd
    rw [List.find?_cons]
    by_cases e : a.1 = k
    · rw [decide_eq_true e]
      show some a.2 = some v
      rcases List.mem_cons.mp hm with z | z
      · rw [← z]
      · exact absurd (List.mem_map.mpr ⟨_, z, rfl⟩) (e ▸ nd.1)
    · rw [decide_eq_false e]
      rcases List.mem_cons.mp hm with z | z
      · rw [← z] at e; exact absurd rfl e
      · obtain ⟨j, hj⟩ := List.getElem?_of_mem z
        exact ih nd.2 hj z
theorem plK_keys (ps : List Pt) : (plK ps).map (·.1) = ps.map ptK := by
  unfold plK
  rw [List.map_map]
  apply List.ext_getElem?
  intro i
  rw [List.getElem?_map, List.getElem?_zipIdx, List.getElem?_map]
  cases ps[i]? <;> rfl
theorem plK_nodup {ps : List Pt} (h : ps.Nodup) : ((plK ps).map (·.1)).Nodup := by
  rw [plK_keys]
  exact List.Pairwise.map _ (fun a b e g => e (ptK_inj g)) h
theorem plK_val {ps : List Pt} (nd : ps.Nodup) {i : Nat} {p : Pt} (h : ps[i]? = some p) : valV (plK ps) (ptK p) = some (.int (i : Int)) := valV_ix (plK_nodup nd) (plK_get h)
theorem idx_get {ps : List Pt} {p : Pt} (h : p ∈ ps) : ps[ps.idxOf p]? = some p := by
  have hl := List.idxOf_lt_length_iff.mpr h
  rw [List.getElem?_eq_getElem hl, List.getElem_idxOf hl]
theorem putK_new {kvs : List (List Key × V)} {k : List Key} {v : V} (h : k ∉ kvs.map (·.1)) : putK kvs k v = kvs ++ [(k, v)] := by
  unfold putK
  rw [if_neg]
  intro z
  obtain ⟨a, ha, e⟩ := List.any_eq_true.mp z
  exact h (List.mem_map.mpr ⟨a, ha, of_decide_eq_true e⟩)
theorem plK_put {ps : List Pt} {p : Pt} (h : p ∉ ps) : putK (plK ps) (ptK p) (.int (ps.length : Int)) = plK (ps ++ [p]) := by
  rw [putK_new, plK_snoc]
  rw [plK_keys]
  intro m
  obtain ⟨q, hq, e⟩ := List.mem_map.mp m
  exact h (ptK_inj e ▸ hq)
abbrev Row := List (Option Int)
structure TbM where
  pts : List Pt
  d : List Row
  ok : Bool
def rowO (r : Row) : HO := .lst (r.map hiV)
def nearB (a : Int) (o : Option Int) : Bool := match o with
  | none => true
  | some b => decide (a < b)
def cellM (d : List Row) (i j : Nat) : Option Int := (d.getD i []).getD j none
def onw1 (re reach : Row) (w : Int) (i : Nat) : Option (Nat × Int) := match re.getD i none with
  | none => none
  | some r => if nearB (w + r) (reach.getD i none) = true then some (i, w + r) else none
def onwN (re reach : Row) (w : Int) (n : Nat) : List (Nat × Int) := (List.range n).filterMap (onw1 re reach w)
def negB (o : Option Int) (w : Int) : Bool := match o with
  | none => false
  | some b => decide (b + w < 0)
def rowM1 (a : Int) (r : Row) (x : Nat × Int) : Row := if nearB (a + x.2) (r.getD x.1 none) = true then r.set x.1 (some (a + x.2)) else r
def rowM (s e : Nat) (w : Int) (on : List (Nat × Int)) (r : Row) : Row := match r.getD s none with
  | none => r
  | some a => if nearB (a + w) (r.getD e none) = true then on.foldl (rowM1 a) r else r
def shortM (d : List Row) (s e : Nat) (w : Int) : List Row := d.map (rowM s e w (onwN (d.getD e []) (d.getD s []) w (d.getD e []).length))
def putM (T : TbM) (s e : Nat) (w : Int) : TbM :=
  if negB (cellM T.d e s) w = true then ⟨T.pts, T.d, false⟩ else if nearB w (cellM T.d s e) = true then ⟨T.pts, shortM T.d s e w, T.ok⟩ else T
def addM (T : TbM) (p : Pt) : TbM := ⟨T.pts ++ [p], T.d.map (· ++ [none]) ++ [List.replicate T.pts.length none ++ [some 0]], T.ok⟩
def keptM (T : TbM) (ns : List Pt) : List Pt := T.pts.filter fun p => decide (p ∈ ns)
def keepM (T : TbM) (ns : List Pt) : TbM := ⟨keptM T ns, (keptM T ns).map fun p => (keptM T ns).map fun q => cellM T.d (T.pts.idxOf p) (T.pts.idxOf q), T.ok⟩
def distM (T : TbM) (p q : Pt) : Option Int := cellM T.d (T.pts.idxOf p) (T.pts.idxOf q)
structure TbOk (T : TbM) : Prop where
  nd : T.pts.Nodup
  few : T.pts.length ≤ 40
  dl : T.d.length = T.pts.length
  rl : ∀ r ∈ T.d, r.length = T.pts.length
theorem rowM1_len (a : Int) (r : Row) (x : Nat × Int) : (rowM1 a r x).length = r.length := by
  unfold rowM1
  split
  · rw [List.length_set]
  · rfl
theorem fold1_len (a : Int) : ∀ (on : List (Nat × Int)) (r : Row), (on.foldl (rowM1 a) r).length = r.length
  | [], _ => rfl
  | x :: on, r => by rw [List.foldl_cons, fold1_len a on, rowM1_len]
theorem rowM_len (s e : Nat) (w : Int) (on : List (Nat × Int)) (r : Row) : (rowM s e w on r).length = r.length := by
  unfold rowM
  split
  · rfl
  · split
    · exact fold1_len _ _ _
    · rfl
theorem TbOk.put {T : TbM} (h : TbOk T) (s e : Nat) (w : Int) : TbOk (putM T s e w) := by
  unfold putM
  split
  · exact ⟨h.nd, h.few, h.dl, h.rl⟩
  · split
    · refine ⟨h.nd, h.few, by show (shortM _ _ _ _).length = _; unfold shortM; rw [List.length_map]; exact h.dl, fun r hr => ?_⟩
      obtain ⟨r', hr', rfl⟩ := List.mem_map.mp hr
      rw [rowM_len]
      exact h.rl r' hr'
    · exact h
theorem TbOk.add {T : TbM} (h : TbOk T) {p : Pt} (hp : p ∉ T.pts) (hl : T.pts.length < 40) : TbOk (addM T p) := by
  refine ⟨?_, ?_, ?_, fun r hr => ?_⟩
  · show (T.pts ++ [p]).Nodup
    rw [List.nodup_append]
    exact ⟨h.nd, by simp, fun a ha b hb e => hp (by rw [List.mem_singleton.mp hb] at e; exact e ▸ ha)⟩
  · show (T.pts ++ [p]).length ≤ 40
    rw [List.length_append, List.length_singleton]; omega
  · show (T.d.map _ ++ [_]).length = (T.pts ++ [p]).length
    rw [List.length_append, List.length_map, List.length_append, h.dl]
    rfl
  · show r.length = (T.pts ++ [p]).length
    rw [List.length_append, List.length_singleton]
    rcases List.mem_append.mp hr with m | m
    · obtain ⟨r', hr', rfl⟩ := List.mem_map.mp m
      rw [List.length_append, h.rl r' hr']
      rfl
    · rw [List.mem_singleton.mp m, List.length_append, List.length_replicate]
      rfl
theorem TbOk.keep {T : TbM} (h : TbOk T) (ns : List Pt) : TbOk (keepM T ns) := by
  refine ⟨h.nd.filter _, Nat.le_trans (List.length_filter_le _ _) h.few, by show (List.map _ _).length = (keptM T ns).length; rw [List.length_map], fun r hr => ?_⟩
  obtain ⟨p, _, rfl⟩ := List.mem_map.mp hr
  rw [List.length_map]
  rfl
theorem paired_at {α β : Type} {R : α → β → Prop} : ∀ {xs : List α} {ys : List β} (h : Paired R xs ys) {i : Nat} {x : α}, xs[i]? = some x → ∃ y, ys[i]? = some y ∧ R x y
  | _, _, .nil, _, _, e => by simp at e
  | _, _, .cons h t, 0, _, e => by
    cases e
    exact ⟨_, rfl, h⟩
  | _, _, .cons h t, i + 1, _, e => paired_at t (i := i) e
theorem onwN_succ (re reach : Row) (w : Int) (n : Nat) : onwN re reach w (n + 1) = onwN re reach w n ++ (onw1 re reach w n).toList := by
  unfold onwN
  rw [List.range_succ, List.filterMap_append]
  congr 1
theorem onw1_fst {re reach : Row} {w : Int} {i : Nat} {x : Nat × Int} (h : onw1 re reach w i = some x) : x.1 = i := by
  unfold onw1 at h
  split at h
  · cases h
  · split at h
    · cases h; rfl
    · cases h
theorem onwN_lt (re reach : Row) (w : Int) (n : Nat) : ∀ x ∈ onwN re reach w n, x.1 < n := by
  intro x hx
  unfold onwN at hx
  obtain ⟨i, hi, e⟩ := List.mem_filterMap.mp hx
  rw [onw1_fst e]
  exact List.mem_range.mp hi
theorem onwN_len (re reach : Row) (w : Int) (n : Nat) : (onwN re reach w n).length ≤ n := by
  unfold onwN
  have := List.length_filterMap_le (onw1 re reach w) (List.range n)
  rw [List.length_range] at this
  exact this
theorem onw1_of_none {re reach : Row} {w : Int} {i : Nat} (h : re.getD i none = none) : onw1 re reach w i = none := by
  unfold onw1
  rw [h]
theorem onw1_of_some {re reach : Row} {w r : Int} {i : Nat} (h : re.getD i none = some r) : onw1 re reach w i = if nearB (w + r) (reach.getD i none) = true then some (i, w + r) else none := by
  unfold onw1
  rw [h]
theorem rowM_none {s e : Nat} {w : Int} {on : List (Nat × Int)} {r : Row} (h : r.getD s none = none) : rowM s e w on r = r := by
  unfold rowM
  rw [h]
theorem rowM_some {s e : Nat} {w a : Int} {on : List (Nat × Int)} {r : Row} (h : r.getD s none = some a) : rowM s e w on r = if nearB (a + w) (r.getD e none) = true then on.foldl (rowM1 a) r else r := by
  unfold rowM
  rw [h]
theorem set_self {α : Type} {d : List α} {i : Nat} {r : α} (h : d[i]? = some r) : d.set i r = d := by
  apply List.ext_getElem?
  intro j
  by_cases e : i = j
  · subst e
    rw [List.getElem?_set_self (List.getElem?_eq_some_iff.mp h).1, h]
  · rw [List.getElem?_set_ne e]
theorem mid_get {f : Row → Row} {d : List Row} {i : Nat} {r : Row} (h : d[i]? = some r) : ((d.take i).map f ++ d.drop i)[i]? = some r := by
  have hi := (List.getElem?_eq_some_iff.mp h).1
  have hl : ((d.take i).map f).length = i := by rw [List.length_map, List.length_take]; omega
  rw [List.getElem?_append_right (by omega), hl, Nat.sub_self, List.getElem?_drop, Nat.add_zero, h]
theorem mid_set {f : Row → Row} {d : List Row} {i : Nat} {r : Row} (h : d[i]? = some r) : (d.take (i + 1)).map f ++ d.drop (i + 1) = ((d.take i).map f ++ d.drop i).set i (f r) := by
  have hi := (List.getElem?_eq_some_iff.mp h).1
  have hl : ((d.take i).map f).length = i := by rw [List.length_map, List.length_take]; omega
  have e : d.drop i = r :: d.drop (i + 1) := by
    rw [List.drop_eq_getElem_cons hi]
    congr 1
    exact Option.some.inj ((List.getElem?_eq_getElem hi).symm.trans h)
  rw [List.take_add_one, h, List.map_append, e, List.set_append_right _ _ (by omega), hl, Nat.sub_self, List.append_assoc]
  rfl
theorem TbOk.short {T : TbM} (h : TbOk T) (s e : Nat) (w : Int) : TbOk ⟨T.pts, shortM T.d s e w, T.ok⟩ := by
  refine ⟨h.nd, h.few, by show (shortM _ _ _ _).length = _; unfold shortM; rw [List.length_map]; exact h.dl, fun r hr => ?_⟩
  obtain ⟨r', hr', rfl⟩ := List.mem_map.mp hr
  rw [rowM_len]
  exact h.rl r' hr'
theorem mk_sameT {H : Hp} {x dx C : Addr} (nx : H x = none) (ndx : H dx = none) : Same H (upd (upd H dx (.own x)) x (.ins C dx [])) := fun c w hc => by
  rw [upd_ne (ne_of_none hc nx), upd_ne (ne_of_none hc ndx)]
  exact hc
theorem takeS {α : Type} {xs : List α} {i : Nat} {x : α} (h : xs[i]? = some x) : xs.take (i + 1) = xs.take i ++ [x] := by rw [List.take_add_one, h]; rfl
end Vs

namespace Vs
open PySem PySem.Spec PyProof.Rows L2
/-! ### the distances of a table are least: never negative around, and no way round is shorter -/
def DLe (o : Option Int) (x : Int) : Prop := ∃ c, o = some c ∧ c ≤ x
theorem DLe.mono {o : Option Int} {x y : Int} (h : DLe o x) (l : x ≤ y) : DLe o y := by
  obtain ⟨c, h1, h2⟩ := h
  exact ⟨c, h1, by omega⟩
theorem near_no {x : Int} {o : Option Int} (h : ¬ nearB x o = true) : DLe o x := by
  cases o with
  | none => exact absurd rfl h
  | some b =>
    have h2 : ¬ x < b := fun z => h (decide_eq_true z)
    exact ⟨b, rfl, by omega⟩
theorem near_lt {x b : Int} {o : Option Int} (h : nearB x o = true) (e : o = some b) : x < b := by
  rw [e] at h
  exact of_decide_eq_true h
structure TbGd (T : TbM) : Prop where
  ok : TbOk T
  dg : ∀ i, i < T.pts.length → cellM T.d i i = some 0
  tr : ∀ i j k, i < T.pts.length → j < T.pts.length → k < T.pts.length → ∀ a b, cellM T.d i j = some a → cellM T.d j k = some b → DLe (cellM T.d i k) (a + b)
def newC (o : Option (Nat × Int)) (a : Int) (old : Option Int) : Option Int := match o with
  | none => old
  | some x => if nearB (a + x.2) old = true then some (a + x.2) else old
theorem getD_set {r : Row} {i j : Nat} {v : Option Int} (h : i < r.length) : (r.set i v).getD j none = if i = j then v else r.getD j none := by
  rw [List.getD_eq_getElem?_getD, List.getD_eq_getElem?_getD, List.getElem?_set]
  by_cases e : i = j
  · subst e
    rw [if_pos rfl, if_pos rfl, if_pos h]
    rfl
  · rw [if_neg e, if_neg e]
theorem fold_at (re reach : Row) (w a : Int) (r : Row) : ∀ (n : Nat), n ≤ r.length → ∀ j, ((onwN re reach w n).foldl (rowM1 a) r).getD j none = if j < n then newC (onw1 re reach w j) a (r.getD j none) else r.getD j none
  | 0, _, j => by
    rw [if_neg (by omega)]
    rfl
  | n + 1, h, j => by
    have ih := fold_at re reach w a r n (by omega)
    rw [onwN_succ, List.foldl_append]
    cases e : onw1 re reach w n with
    | none =>
      show ((onwN re reach w n).foldl (rowM1 a) r).getD j none = _
      rw [ih j]
      by_cases c : j = n
      · rw [c, if_neg (by omega), if_pos (by omega), e]
        rfl
      · by_cases c2 : j < n
        · rw [if_pos c2, if_pos (by omega)]
        · rw [if_neg c2, if_neg (by omega)]
    | some x =>
      have hx := onw1_fst e
      have hl : ((onwN re reach w n).foldl (rowM1 a) r).length = r.length := fold1_len _ _ _
      have hn := ih n
      rw [if_neg (by omega)] at hn
      show (rowM1 a ((onwN re reach w n).foldl (rowM1 a) r) x).getD j none = _
      generalize (onwN re reach w n).foldl (rowM1 a) r = F at *
      unfold rowM1
      rw [hx, hn]
      by_cases c : j = n
      · subst c
        rw [if_pos (Nat.lt_succ_self j), e]
        show (if nearB (a + x.2) (r.getD j none) = true then F.set j (some (a + x.2)) else F).getD j none = if nearB (a + x.2) (r.getD j none) = true then some (a + x.2) else r.getD j none
        by_cases nb : nearB (a + x.2) (r.getD j none) = true
        · rw [if_pos nb, if_pos nb, getD_set (by omega), if_pos rfl]
        · rw [if_neg nb, if_neg nb]
          exact hn
      · have rest : (if j < n then newC (onw1 re reach w j) a (r.getD j none) else r.getD j none) = (if j < n + 1 then newC (onw1 re reach w j) a (r.getD j none) else r.getD j none) := by
          by_cases c2 : j < n
          · rw [if_pos c2, if_pos (by omega)]
          · rw [if_neg c2, if_neg (by omega)]
        by_cases nb : nearB (a + x.2) (r.getD n none) = true
        · rw [if_pos nb, getD_set (by omega), if_neg (fun z => c z.symm), ih j, rest]
        · rw [if_neg nb, ih j, rest]
/-- what a bound makes of a distance -/
def putC (T : TbM) (s e : Nat) (w : Int) (i j : Nat) : Option Int := match cellM T.d i s with
  | none => cellM T.d i j
  | some a => if nearB (a + w) (cellM T.d i e) = true then newC (match cellM T.d e j with | none => none | some r => if nearB (w + r) (cellM T.d s j) = true then some (j, w + r) else none) a (cellM T.d i j) else cellM T.d i j
theorem getD_map {α β : Type} {f : α → β} {xs : List α} {i : Nat} {a : α} {b : β} (h : i < xs.length) : (xs.map f).getD i b = f (xs.getD i a) := by
  rw [List.getD_eq_getElem?_getD, List.getD_eq_getElem?_getD, List.getElem?_map, List.getElem?_eq_getElem h]
  rfl
theorem short_cell {T : TbM} (ok : TbOk T) {s e i j : Nat} {w : Int} (hi : i < T.pts.length) (hj : j < T.pts.length) (he : e < T.pts.length) : cellM (shortM T.d s e w) i j = putC T s e w i j := by
  have li : i < T.d.length := by rw [ok.dl]; exact hi
  have rl : ∀ k, k < T.pts.length → (T.d.getD k []).length = T.pts.length := fun k hk => by
    refine ok.rl _ (List.mem_of_getElem? (i := k) ?_)
    have lk : k < T.d.length := by rw [ok.dl]; exact hk
    rw [List.getD_eq_getElem?_getD, List.getElem?_eq_getElem lk]
    rfl
  show ((shortM T.d s e w).getD i []).getD j none = _
  unfold shortM
  rw [getD_map (a := []) li]
  unfold rowM putC
  show (match (T.d.getD i []).getD s none with | none => T.d.getD i [] | some a => _).getD j none = (match (T.d.getD i []).getD s none with | none => _ | some a => _)
  cases (T.d.getD i []).getD s none with
  | none => rfl
  | some a =>
    show (if nearB (a + w) ((T.d.getD i []).getD e none) = true then (onwN (T.d.getD e []) (T.d.getD s []) w (T.d.getD e []).length).foldl (rowM1 a) (T.d.getD i []) else T.d.getD i []).getD j none = (if nearB (a + w) ((T.d.getD i []).getD e none) = true then _ else _)
    split
    · rw [fold_at _ _ _ _ _ _ (by rw [rl e he, rl i hi]; exact Nat.le_refl _) j, if_pos (by rw [rl e he]; exact hj)]
      rfl
    · rfl
section
variable {T : TbM} {s e i j k : Nat} {w : Int}
theorem putC_le (T : TbM) (s e : Nat) (w : Int) (i j : Nat) {x : Int} (h : DLe (cellM T.d i j) x) : DLe (putC T s e w i j) x := by
  have hn : ∀ {o a}, DLe (newC o a (cellM T.d i j)) x := by
    intro o a
    unfold newC
    split
    · exact h
    · split
      · rename_i y c
        obtain ⟨b, h1, h2⟩ := h
        exact ⟨_, rfl, by have := near_lt c h1; omega⟩
      · exact h
  unfold putC
  split
  · exact h
  · split
    · exact hn
    · exact h
theorem putC_src {c : Int} (h : putC T s e w i j = some c) : cellM T.d i j = some c ∨ ∃ a b, cellM T.d i s = some a ∧ cellM T.d e j = some b ∧ c = a + w + b := by
  unfold putC at h
  split at h
  · exact .inl h
  · rename_i a ha
    split at h
    · unfold newC at h
      split at h
      · exact .inl h
      · rename_i y hy
        split at h
        · right
          split at hy
          · cases hy
          · rename_i r hr
            split at hy
            · cases hy
              cases h
              exact ⟨a, r, ha, hr, by show a + (w + r) = _; omega⟩
            · cases hy
        · exact .inl h
    · exact .inl h
theorem putC_new (g : TbGd T) (hi : i < T.pts.length) (hj : j < T.pts.length) (hs : s < T.pts.length) (he : e < T.pts.length) {a b : Int} (h1 : cellM T.d i s = some a) (h2 : cellM T.d e j = some b) : DLe (putC T s e w i j) (a + w + b) := by
  unfold putC
  rw [h1]
  show DLe (if nearB (a + w) (cellM T.d i e) = true then newC (match cellM T.d e j with | none => none | some r => if nearB (w + r) (cellM T.d s j) = true then some (j, w + r) else none) a (cellM T.d i j) else cellM T.d i j) _
  split
  · rw [h2]
    show DLe (newC (if nearB (w + b) (cellM T.d s j) = true then some (j, w + b) else none) a (cellM T.d i j)) _
    split
    · show DLe (if nearB (a + (w + b)) (cellM T.d i j) = true then some (a + (w + b)) else cellM T.d i j) _
      split
      · exact ⟨_, rfl, by omega⟩
      · rename_i c
        exact (near_no c).mono (by omega)
    · rename_i c
      obtain ⟨y, h3, h4⟩ := near_no c
      exact (g.tr i s j hi hs hj a y h1 h3).mono (by omega)
  · rename_i c
    obtain ⟨y, h3, h4⟩ := near_no c
    exact (g.tr i e j hi he hj y b h3 h2).mono (by omega)
end
theorem neg_no {o : Option Int} {w b : Int} (h : ¬ negB o w = true) (e : o = some b) : 0 ≤ b + w := by
  rw [e] at h
  have h2 : ¬ b + w < 0 := fun z => h (decide_eq_true z)
  omega
theorem put_cell {T : TbM} (g : TbGd T) {s e : Nat} {w : Int} (hs : s < T.pts.length) (he : e < T.pts.length) (nn : ¬ negB (cellM T.d e s) w = true) : TbGd (putM T s e w) ∧ (putM T s e w).ok = T.ok ∧ DLe (cellM (putM T s e w).d s e) w ∧ ∀ i j, i < T.pts.length → j < T.pts.length → ∀ x, DLe (cellM T.d i j) x → DLe (cellM (putM T s e w).d i j) x := by
  have okp := g.ok.put s e w
  unfold putM at okp ⊢
  rw [if_neg nn] at okp ⊢
  by_cases c : nearB w (cellM T.d s e) = true
  · rw [if_pos c] at okp ⊢
    have sc : ∀ {i j : Nat}, i < T.pts.length → j < T.pts.length → cellM (shortM T.d s e w) i j = putC T s e w i j := fun {i j} hi hj => short_cell g.ok hi hj he
    have up : ∀ i j : Nat, i < T.pts.length → j < T.pts.length → ∀ x, DLe (cellM T.d i j) x → DLe (cellM (shortM T.d s e w) i j) x := fun i j hi hj x h => by
      rw [sc hi hj]
      exact putC_le T s e w i j h
    have way : ∀ {i j : Nat}, i < T.pts.length → j < T.pts.length → ∀ {a b : Int}, cellM T.d i s = some a → cellM T.d e j = some b → DLe (cellM (shortM T.d s e w) i j) (a + w + b) := fun {i j} hi hj {a b} h1 h2 => by
      rw [sc hi hj]
      exact putC_new g hi hj hs he h1 h2
    refine ⟨⟨okp, fun i hi => ?_, fun i j k hi hj hk a b h1 h2 => ?_⟩, rfl, ?_, up⟩
    · have hi : i < T.pts.length := hi
      show cellM (shortM T.d s e w) i i = some 0
      obtain ⟨c, h1, h2⟩ := up i i hi hi 0 ⟨0, g.dg i hi, Int.le_refl _⟩
      rw [h1]
      rw [sc hi hi] at h1
      rcases putC_src h1 with h3 | ⟨a, b, h3, h4, h5⟩
      · rw [g.dg i hi] at h3
        exact h3.symm
      · obtain ⟨y, h6, h7⟩ := g.tr e i s he hi hs b a h4 h3
        have := neg_no nn h6
        have : c = 0 := by omega
        rw [this]
    · have hi : i < T.pts.length := hi
      have hj : j < T.pts.length := hj
      have hk : k < T.pts.length := hk
      have h1 : cellM (shortM T.d s e w) i j = some a := h1
      have h2 : cellM (shortM T.d s e w) j k = some b := h2
      show DLe (cellM (shortM T.d s e w) i k) (a + b)
      rw [sc hi hj] at h1
      rw [sc hj hk] at h2
      rcases putC_src h1 with h3 | ⟨a1, b1, h3, h4, h5⟩
      · rcases putC_src h2 with h6 | ⟨a2, b2, h6, h7, h8⟩
        · exact up i k hi hk _ (g.tr i j k hi hj hk a b h3 h6)
        · obtain ⟨y, h9, h10⟩ := g.tr i j s hi hj hs a a2 h3 h6
          exact (way hi hk h9 h7).mono (by omega)
      · rcases putC_src h2 with h6 | ⟨a2, b2, h6, h7, h8⟩
        · obtain ⟨y, h9, h10⟩ := g.tr e j k he hj hk b1 b h4 h6
          exact (way hi hk h3 h9).mono (by omega)
        · obtain ⟨y, h9, h10⟩ := g.tr e j s he hj hs b1 a2 h4 h6
          have := neg_no nn h9
          exact (way hi hk h3 h7).mono (by omega)
    · show DLe (cellM (shortM T.d s e w) s e) w
      exact (way hs he (g.dg s hs) (g.dg e he)).mono (by omega)
  · rw [if_neg c] at okp ⊢
    exact ⟨g, rfl, near_no c, fun i j _ _ x h => h⟩
theorem addM_cell {T : TbM} (ok : TbOk T) {p : Pt} {i j : Nat} (hi : i < T.pts.length + 1) (hj : j < T.pts.length + 1) : cellM (addM T p).d i j = if i < T.pts.length then (if j < T.pts.length then cellM T.d i j else none) else if j < T.pts.length then none else some 0 := by
  show ((T.d.map (· ++ [none]) ++ [List.replicate T.pts.length none ++ [some 0]]).getD i []).getD j none = _
  by_cases c : i < T.pts.length
  · rw [if_pos c]
    have li : i < T.d.length := by rw [ok.dl]; exact c
    have e : (T.d.map (· ++ [none]) ++ [List.replicate T.pts.length none ++ [some 0]]).getD i [] = T.d.getD i [] ++ [none] := by
      rw [List.getD_eq_getElem?_getD, List.getElem?_append_left (by rw [List.length_map]; exact li), List.getElem?_map, List.getD_eq_getElem?_getD, List.getElem?_eq_getElem li]
      rfl
    have rl : (T.d.getD i []).length = T.pts.length := by
      refine ok.rl _ (List.mem_of_getElem? (i := i) ?_)
      rw [List.getD_eq_getElem?_getD, List.getElem?_eq_getElem li]
      rfl
    rw [e]
    by_cases c2 : j < T.pts.length
    · rw [if_pos c2, List.getD_eq_getElem?_getD, List.getElem?_append_left (by rw [rl]; exact c2)]
      show _ = (T.d.getD i []).getD j none
      rw [List.getD_eq_getElem?_getD (l := T.d.getD i [])]
    · rw [if_neg c2, List.getD_eq_getElem?_getD, List.getElem?_append_right (by rw [rl]; omega), rl, show j - T.pts.length = 0 by omega]
      rfl
  · rw [if_neg c]
    have e : (T.d.map (· ++ [none]) ++ [List.replicate T.pts.length none ++ [some 0]]).getD i [] = List.replicate T.pts.length none ++ [some 0] := by
      rw [List.getD_eq_getElem?_getD, List.getElem?_append_right (by rw [List.length_map, ok.dl]; omega), List.length_map, ok.dl, show i - T.pts.length = 0 by omega]
      rfl
    rw [e]
    by_cases c2 : j < T.pts.length
    · rw [if_pos c2, List.getD_eq_getElem?_getD, List.getElem?_append_left (by rw [List.length_replicate]; exact c2), List.getElem?_replicate, if_pos c2]
      rfl
    · rw [if_neg c2, List.getD_eq_getElem?_getD, List.getElem?_append_right (by rw [List.length_replicate]; omega), List.length_replicate, show j - T.pts.length = 0 by omega]
      rfl
theorem TbGd.add {T : TbM} (g : TbGd T) {p : Pt} (np : p ∉ T.pts) (few : T.pts.length < 40) : TbGd (addM T p) := by
  have len : (addM T p).pts.length = T.pts.length + 1 := by show (T.pts ++ [p]).length = _; rw [List.length_append, List.length_singleton]
  refine ⟨g.ok.add np few, fun i hi => ?_, fun i j k hi hj hk a b h1 h2 => ?_⟩
  · rw [len] at hi
    rw [addM_cell g.ok hi hi]
    by_cases c : i < T.pts.length
    · rw [if_pos c, if_pos c]; exact g.dg i c
    · rw [if_neg c, if_neg c]
  · rw [len] at hi hj hk
    rw [addM_cell g.ok hi hj] at h1
    rw [addM_cell g.ok hj hk] at h2
    rw [addM_cell g.ok hi hk]
    by_cases ci : i < T.pts.length <;> by_cases cj : j < T.pts.length <;> by_cases ck : k < T.pts.length <;> simp only [ci, cj, ck, if_true, if_false] at h1 h2 ⊢ <;> first | exact g.tr i j k ci cj ck a b h1 h2 | (cases h1; done) | (cases h2; done) | skip
    cases h1
    cases h2
    exact ⟨0, rfl, by omega⟩
theorem idx_lt {ps : List Pt} {p : Pt} (h : p ∈ ps) : ps.idxOf p < ps.length := List.idxOf_lt_length_iff.mpr h
theorem keep_cell {T : TbM} {ns : List Pt} {i j : Nat} (hi : i < (keptM T ns).length) (hj : j < (keptM T ns).length) : cellM (keepM T ns).d i j = cellM T.d (T.pts.idxOf (keptM T ns)[i]) (T.pts.idxOf (keptM T ns)[j]) := by
  show (((keptM T ns).map fun p => (keptM T ns).map fun q => cellM T.d (T.pts.idxOf p) (T.pts.idxOf q)).getD i []).getD j none = _
  rw [List.getD_eq_getElem?_getD, List.getD_eq_getElem?_getD, List.getElem?_map, List.getElem?_eq_getElem hi]
  show (((keptM T ns).map fun q => cellM T.d (T.pts.idxOf (keptM T ns)[i]) (T.pts.idxOf q))[j]?).getD none = _
  rw [List.getElem?_map, List.getElem?_eq_getElem hj]
  rfl
theorem kept_in {T : TbM} {ns : List Pt} {p : Pt} (h : p ∈ keptM T ns) : p ∈ T.pts := (List.mem_filter.mp h).1
theorem TbGd.keep {T : TbM} (g : TbGd T) (ns : List Pt) : TbGd (keepM T ns) := by
  have lt : ∀ {i} (hi : i < (keptM T ns).length), T.pts.idxOf (keptM T ns)[i] < T.pts.length := fun hi => idx_lt (kept_in (List.getElem_mem hi))
  refine ⟨g.ok.keep ns, fun i hi => ?_, fun i j k hi hj hk a b h1 h2 => ?_⟩
  · have hi : i < (keptM T ns).length := hi
    rw [keep_cell hi hi]
    exact g.dg _ (lt hi)
  · have hi : i < (keptM T ns).length := hi
    have hj : j < (keptM T ns).length := hj
    have hk : k < (keptM T ns).length := hk
    rw [keep_cell hi hj] at h1
    rw [keep_cell hj hk] at h2
    rw [keep_cell hi hk]
    exact g.tr _ _ _ (lt hi) (lt hj) (lt hk) a b h1 h2
theorem keep_dist {T : TbM} {ns : List Pt} {p q : Pt} (hp : p ∈ keptM T ns) (hq : q ∈ keptM T ns) : distM (keepM T ns) p q = distM T p q := by
  show cellM (keepM T ns).d ((keptM T ns).idxOf p) ((keptM T ns).idxOf q) = _
  rw [keep_cell (idx_lt hp) (idx_lt hq), List.getElem_idxOf, List.getElem_idxOf]
  rfl
theorem put_dist {T : TbM} {s e : Nat} {w : Int} {p q : Pt} : distM (putM T s e w) p q = cellM (putM T s e w).d (T.pts.idxOf p) (T.pts.idxOf q) := by
  unfold distM
  have h : (putM T s e w).pts = T.pts := by
    unfold putM
    split
    · rfl
    · split <;> rfl
  rw [h]
theorem TbGd.self {T : TbM} (g : TbGd T) {p : Pt} (h : p ∈ T.pts) : distM T p p = some 0 := g.dg _ (idx_lt h)
theorem TbGd.way {T : TbM} (g : TbGd T) {p q r : Pt} (hp : p ∈ T.pts) (hq : q ∈ T.pts) (hr : r ∈ T.pts) {a b : Int} (h1 : distM T p q = some a) (h2 : distM T q r = some b) : DLe (distM T p r) (a + b) := g.tr _ _ _ (idx_lt hp) (idx_lt hq) (idx_lt hr) a b h1 h2
theorem TbGd.nil : TbGd ⟨[], [], true⟩ := ⟨⟨List.nodup_nil, by decide, rfl, fun r h => by cases h⟩, fun i h => absurd h (Nat.not_lt_zero i), fun i j k h => absurd h (Nat.not_lt_zero i)⟩
/-- the time of a point -/
def IsTm (T : TbM) (p : Pt) (m : Int) : Prop := (∃ q ∈ T.pts, distM T q p = some m) ∧ ∀ q ∈ T.pts, ∀ c, distM T q p = some c → m ≤ c
theorem IsTm.one {T : TbM} {p : Pt} {m n : Int} (h : IsTm T p m) (g : IsTm T p n) : m = n := by
  obtain ⟨⟨q, hq, e⟩, h2⟩ := h
  obtain ⟨⟨q', hq', e'⟩, g2⟩ := g
  have := h2 _ hq' _ e'
  have := g2 _ hq _ e
  omega
theorem IsTm.met {T : TbM} (gd : TbGd T) {p q : Pt} (hp : p ∈ T.pts) (hq : q ∈ T.pts) {m n w : Int} (h : IsTm T p m) (g : IsTm T q n) (d : DLe (distM T p q) w) : n ≤ m + w := by
  obtain ⟨⟨k, hk, e⟩, _⟩ := h
  obtain ⟨c, hc, lc⟩ := d
  obtain ⟨x, hx, lx⟩ := gd.way hk hp hq e hc
  have := g.2 _ hk _ hx
  omega
theorem erase_kept {T : TbM} (nd : T.pts.Nodup) (k : Nat) : keptM T (T.pts.eraseIdx k) = T.pts.eraseIdx k := by
  unfold keptM
  generalize T.pts = ps at *
  induction ps generalizing k with
  | nil => rfl
  | cons p r ih =>
    have n1 := (List.nodup_cons.mp nd).1
    have n2 := (List.nodup_cons.mp nd).2
    cases k with
    | zero =>
      show List.filter (fun q => decide (q ∈ r)) (p :: r) = r
      rw [List.filter_cons, if_neg (by rw [decide_eq_true_iff]; exact n1)]
      exact List.filter_eq_self.mpr fun q hq => decide_eq_true hq
    | succ k =>
      show List.filter (fun q => decide (q ∈ p :: r.eraseIdx k)) (p :: r) = p :: r.eraseIdx k
      rw [List.filter_cons, if_pos (decide_eq_true List.mem_cons_self)]
      congr 1
      refine Eq.trans (List.filter_congr fun q hq => ?_) (ih k n2)
      apply decide_eq_decide.mpr
      exact ⟨fun m => (List.mem_cons.mp m).resolve_left fun e => n1 (e ▸ hq), fun m => List.mem_cons_of_mem _ m⟩
end Vs

namespace Vs
open PySem PySem.Spec PyProof.Rows L2
/-! ### chains of bounds, and how the law finds their least sums -/
structure Ar where
  u : Nat
  v : Nat
  w : Int
inductive Wk (arcs : List Ar) : Nat → Nat → Int → Prop where
  | nil (i : Nat) : Wk arcs i i 0
  | snoc {i j : Nat} {a : Int} (h : Wk arcs i j a) {z : Ar} (m : z ∈ arcs) (e : z.u = j) : Wk arcs i z.v (a + z.w)
theorem Wk.trans {arcs : List Ar} {i j k : Nat} {a b : Int} (h : Wk arcs i j a) (g : Wk arcs j k b) : Wk arcs i k (a + b) := by
  induction g with
  | nil => rw [Int.add_zero]; exact h
  | snoc _ m e ih => rw [← Int.add_assoc]; exact .snoc ih m e
theorem Wk.mono {arcs brcs : List Ar} (s : arcs ⊆ brcs) {i j : Nat} {a : Int} (h : Wk arcs i j a) : Wk brcs i j a := by
  induction h with
  | nil => exact .nil _
  | snoc _ m e ih => exact .snoc ih (s m) e
structure ClD (D : Nat → Nat → Option Int) (n : Nat) (arcs : List Ar) : Prop where
  dg : ∀ i, i < n → D i i = some 0
  tr : ∀ i j k, i < n → j < n → k < n → ∀ a b, D i j = some a → D j k = some b → DLe (D i k) (a + b)
  ar : ∀ z ∈ arcs, z.u < n ∧ z.v < n ∧ DLe (D z.u z.v) z.w
  at' : ∀ i j, i < n → j < n → ∀ c, D i j = some c → Wk arcs i j c
def relax (best : Row) (z : Ar) : Row := match best.getD z.u none with
  | none => best
  | some a => if nearB (a + z.w) (best.getD z.v none) = true then best.set z.v (some (a + z.w)) else best
theorem relax_len (best : Row) (z : Ar) : (relax best z).length = best.length := by
  unfold relax
  split
  · rfl
  · split
    · rw [List.length_set]
    · rfl
theorem relax_le {best : Row} {z : Ar} {v : Nat} {x : Int} (hv : z.v < best.length) (h : DLe (best.getD v none) x) : DLe ((relax best z).getD v none) x := by
  unfold relax
  split
  · exact h
  · split
    · rename_i a _ c
      rw [getD_set hv]
      split
      · rename_i e
        rw [e] at c
        obtain ⟨b, h1, h2⟩ := h
        exact ⟨_, rfl, by have := near_lt c h1; omega⟩
      · exact h
    · exact h
theorem relax_own {best : Row} {z : Ar} {a : Int} (hv : z.v < best.length) (h : DLe (best.getD z.u none) a) : DLe ((relax best z).getD z.v none) (a + z.w) := by
  obtain ⟨b, h1, h2⟩ := h
  unfold relax
  rw [h1]
  show DLe ((if nearB (b + z.w) (best.getD z.v none) = true then best.set z.v (some (b + z.w)) else best).getD z.v none) _
  split
  · rw [getD_set hv, if_pos rfl]
    exact ⟨_, rfl, by omega⟩
  · rename_i c
    exact (near_no c).mono (by omega)
section
variable {D : Nat → Nat → Option Int} {n s : Nat} {arcs : List Ar}
/-- sound: never less than the distance -/
structure Snd (D : Nat → Nat → Option Int) (n s : Nat) (best : Row) : Prop where
  len : best.length = n
  ge : ∀ v, v < n → ∀ x, best.getD v none = some x → DLe (D s v) x
  own : DLe (best.getD s none) 0
theorem Snd.relax (c : ClD D n arcs) (hs : s < n) {best : Row} (h : Snd D n s best) {z : Ar} (m : z ∈ arcs) : Snd D n s (relax best z) := by
  obtain ⟨h1, h2, d, hd, ld⟩ := c.ar z m
  refine ⟨by rw [relax_len, h.len], fun v hv x hx => ?_, relax_le (by rw [h.len]; exact h2) h.own⟩
  unfold Vs.relax at hx
  split at hx
  · exact h.ge v hv x hx
  · rename_i a ha
    split at hx
    · rw [getD_set (by rw [h.len]; exact h2)] at hx
      split at hx
      · rename_i e
        cases hx
        obtain ⟨y, hy, ly⟩ := h.ge _ h1 _ ha
        rw [← e]
        exact (c.tr _ _ _ hs h1 h2 _ _ hy hd).mono (by omega)
      · exact h.ge v hv x hx
    · exact h.ge v hv x hx
theorem Snd.fold (c : ClD D n arcs) (hs : s < n) : ∀ (l : List Ar) (best : Row), l ⊆ arcs → Snd D n s best → Snd D n s (l.foldl Vs.relax best)
  | [], _, _, h => h
  | z :: l, best, sub, h => Snd.fold c hs l _ (fun y hy => sub (List.mem_cons_of_mem _ hy)) (h.relax c hs (sub List.mem_cons_self))
theorem fold_le (c : ClD D n arcs) {v : Nat} {x : Int} : ∀ (l : List Ar) (best : Row), l ⊆ arcs → best.length = n → DLe (best.getD v none) x → DLe ((l.foldl relax best).getD v none) x
  | [], _, _, _, h => h
  | z :: l, best, sub, hl, h => fold_le c l _ (fun y hy => sub (List.mem_cons_of_mem _ hy)) (by rw [relax_len, hl]) (relax_le (by rw [hl]; exact (c.ar z (sub List.mem_cons_self)).2.1) h)
theorem fold_own (c : ClD D n arcs) {z : Ar} {a : Int} : ∀ (l : List Ar) (best : Row), l ⊆ arcs → best.length = n → z ∈ l → DLe (best.getD z.u none) a → DLe ((l.foldl relax best).getD z.v none) (a + z.w)
  | [], _, _, _, m, _ => by cases m
  | y :: l, best, sub, hl, m, h => by
    have sub' : l ⊆ arcs := fun y hy => sub (List.mem_cons_of_mem _ hy)
    have hy := (c.ar y (sub List.mem_cons_self)).2.1
    rcases List.mem_cons.mp m with e | m
    · subst e
      exact fold_le c l _ sub' (by rw [relax_len, hl]) (relax_own (by rw [hl]; exact hy) h)
    · exact fold_own c l _ sub' (by rw [relax_len, hl]) m (relax_le (by rw [hl]; exact hy) h)
def setB (D : Nat → Nat → Option Int) (s : Nat) (best : Row) (v : Nat) : Bool := match D s v with
  | none => true
  | some c => !nearB c (best.getD v none)
theorem setB_iff {best : Row} {v : Nat} : setB D s best v = true ↔ ∀ c, D s v = some c → DLe (best.getD v none) c := by
  unfold setB
  cases h : D s v with
  | none =>
    constructor
    · intro _ c hc
      cases hc
    · intro _
      rfl
  | some c =>
    show (!nearB c (best.getD v none)) = true ↔ _
    constructor
    · intro g d hd
      cases hd
      exact near_no (by rw [Bool.not_eq_true'] at g; rw [g]; decide)
    · intro g
      obtain ⟨b, h1, h2⟩ := g c rfl
      rw [Bool.not_eq_true']
      cases e : nearB c (best.getD v none) with
      | false => rfl
      | true => have := near_lt e h1; omega
theorem find_arc (c : ClD D n arcs) (hs : s < n) {best : Row} (own : setB D s best s = true) {i : Nat} {v : Nat} {x : Int} (h : Wk arcs i v x) (ei : i = s) (hv : v < n) (hd : D s v = some x) (un : ¬ setB D s best v = true) :
    ∃ z ∈ arcs, ∃ a, D s z.u = some a ∧ D s z.v = some (a + z.w) ∧ setB D s best z.u = true ∧ ¬ setB D s best z.v = true := by
  induction h with
  | nil => rw [ei] at un; exact absurd own un
  | @snoc j a h z m e ih =>
    obtain ⟨h1, h2, d, hd2, ld⟩ := c.ar z m
    have wk_ge : ∀ {j y}, Wk arcs i j y → j < n → DLe (D s j) y := fun {j y} g => by
      induction g with
      | nil => intro _; rw [ei, c.dg s hs]; exact ⟨0, rfl, Int.le_refl _⟩
      | @snoc j' a' _ z' m' e' ih' =>
        intro _
        obtain ⟨g1, g2, d', hd', ld'⟩ := c.ar z' m'
        obtain ⟨y', hy', ly'⟩ := ih' (by rw [← e']; exact g1)
        exact (c.tr s z'.u z'.v hs g1 g2 y' d' (by rw [e']; exact hy') hd').mono (by omega)
    obtain ⟨y, hy, ly⟩ := wk_ge h (by rw [← e]; exact h1)
    have hyu : D s z.u = some y := by rw [e]; exact hy
    obtain ⟨q, hq, lq⟩ := c.tr s z.u z.v hs h1 h2 y d hyu hd2
    rw [hd] at hq
    cases hq
    have ya : y = a := by omega
    subst ya
    by_cases st : setB D s best z.u = true
    · exact ⟨z, m, y, hyu, hd, st, un⟩
    · exact ih (by rw [← e]; exact h1) hy (by rw [← e]; exact st)
theorem filt_lt {p q : Nat → Bool} : ∀ (l : List Nat), (∀ x ∈ l, p x = true → q x = true) → (∃ x ∈ l, q x = true ∧ ¬ p x = true) → (l.filter p).length < (l.filter q).length
  | [], _, ⟨x, m, _⟩ => by cases m
  | a :: l, h, ⟨x, m, h1, h2⟩ => by
    have le : (l.filter p).length ≤ (l.filter q).length := filt_le l fun x hx => h x (List.mem_cons_of_mem _ hx)
    rcases List.mem_cons.mp m with e | m
    · rw [e] at h1 h2
      rw [List.filter_cons, if_neg h2, List.filter_cons, if_pos h1, List.length_cons]
      omega
    · have ih := filt_lt l (fun x hx => h x (List.mem_cons_of_mem _ hx)) ⟨x, m, h1, h2⟩
      have ha := h a List.mem_cons_self
      rw [List.filter_cons, List.filter_cons]
      by_cases pa : p a = true
      · rw [if_pos pa, if_pos (ha pa), List.length_cons, List.length_cons]; omega
      · rw [if_neg pa]
        split
        · rw [List.length_cons]; omega
        · exact ih
where
  filt_le {p q : Nat → Bool} : ∀ (l : List Nat), (∀ x ∈ l, p x = true → q x = true) → (l.filter p).length ≤ (l.filter q).length
  | [], _ => Nat.le_refl _
  | a :: l, h => by
    have ih := filt_le l fun x hx => h x (List.mem_cons_of_mem _ hx)
    have ha := h a List.mem_cons_self
    rw [List.filter_cons, List.filter_cons]
    by_cases pa : p a = true
    · rw [if_pos pa, if_pos (ha pa), List.length_cons, List.length_cons]; omega
    · rw [if_neg pa]
      split
      · rw [List.length_cons]; omega
      · exact ih
def unS (D : Nat → Nat → Option Int) (n s : Nat) (best : Row) : Nat := ((List.range n).filter fun v => !setB D s best v).length
theorem round_set (c : ClD D n arcs) {best : Row} (hl : best.length = n) {v : Nat} (h : setB D s best v = true) : setB D s (arcs.foldl relax best) v = true :=
  setB_iff.mpr fun x hx => fold_le c arcs best (fun _ h => h) hl (setB_iff.mp h x hx)
theorem round_un (c : ClD D n arcs) (hs : s < n) {best : Row} (h : Snd D n s best) : unS D n s (arcs.foldl relax best) ≤ unS D n s best - 1 := by
  have sub : ∀ x ∈ List.range n, (!setB D s (arcs.foldl relax best) x) = true → (!setB D s best x) = true := fun x _ hx => by
    cases e : setB D s best x with
    | false => rfl
    | true => rw [round_set c h.len e] at hx; cases hx
  by_cases z : unS D n s best = 0
  · have := filt_lt.filt_le (p := fun x => !setB D s (arcs.foldl relax best) x) (q := fun x => !setB D s best x) (List.range n) sub
    unfold unS at *
    omega
  · have : ∃ v, v < n ∧ ¬ setB D s best v = true := by
      unfold unS at z
      obtain ⟨v, hv⟩ := List.exists_mem_of_length_pos (Nat.pos_of_ne_zero z)
      obtain ⟨m, hm⟩ := List.mem_filter.mp hv
      exact ⟨v, List.mem_range.mp m, fun e => by rw [e] at hm; cases hm⟩
    obtain ⟨v, hv, un⟩ := this
    have own : setB D s best s = true := setB_iff.mpr fun x hx => by
      rw [c.dg s hs] at hx
      cases hx
      exact h.own
    cases hd : D s v with
    | none => exact absurd (setB_iff.mpr fun x hx => by rw [hd] at hx; cases hx) un
    | some x =>
      obtain ⟨a, m, y, h1, h2, h3, h4⟩ := find_arc c hs own (c.at' s v hs hv x hd) rfl hv hd un
      have done : setB D s (arcs.foldl relax best) a.v = true := setB_iff.mpr fun x hx => by
        rw [h2] at hx
        cases hx
        exact fold_own c arcs best (fun _ h => h) h.len m (setB_iff.mp h3 y h1)
      have := filt_lt (p := fun x => !setB D s (arcs.foldl relax best) x) (q := fun x => !setB D s best x) (List.range n) sub ⟨a.v, List.mem_range.mpr (c.ar a m).2.1, by
        cases e : setB D s best a.v with
        | false => rfl
        | true => exact absurd e h4, by rw [done]; decide⟩
      unfold unS at *
      omega
def iterR (arcs : List Ar) : Nat → Row → Row
  | 0, b => b
  | k + 1, b => arcs.foldl relax (iterR arcs k b)
theorem iter_ok (c : ClD D n arcs) (hs : s < n) {best : Row} (h : Snd D n s best) : ∀ k, Snd D n s (iterR arcs k best) ∧ unS D n s (iterR arcs k best) ≤ n - k
  | 0 => by
    refine ⟨h, ?_⟩
    have := List.length_filter_le (fun v => !setB D s best v) (List.range n)
    rw [List.length_range] at this
    unfold unS iterR
    omega
  | k + 1 => by
    obtain ⟨h1, h2⟩ := iter_ok c hs h k
    refine ⟨Snd.fold c hs arcs _ (fun _ h => h) h1, ?_⟩
    have := round_un c hs h1
    show unS D n s (arcs.foldl relax (iterR arcs k best)) ≤ _
    omega
theorem least_is (c : ClD D n arcs) (hs : s < n) : iterR arcs n ((List.replicate n none).set s (some 0)) = (List.range n).map (D s) := by
  have h0 : Snd D n s ((List.replicate n none).set s (some 0)) := by
    refine ⟨by rw [List.length_set, List.length_replicate], fun v hv x hx => ?_, ?_⟩
    · rw [getD_set (by rw [List.length_replicate]; exact hs)] at hx
      split at hx
      · rename_i e
        cases hx
        rw [← e, c.dg s hs]
        exact ⟨0, rfl, Int.le_refl _⟩
      · rw [List.getD_eq_getElem?_getD, List.getElem?_replicate] at hx
        split at hx <;> cases hx
    · rw [getD_set (by rw [List.length_replicate]; exact hs), if_pos rfl]
      exact ⟨0, rfl, Int.le_refl _⟩
  obtain ⟨h1, h2⟩ := iter_ok c hs h0 n
  generalize iterR arcs n ((List.replicate n none).set s (some 0)) = best at *
  have zero : unS D n s best = 0 := by omega
  have all : ∀ v, v < n → setB D s best v = true := fun v hv => by
    cases e : setB D s best v with
    | true => rfl
    | false =>
      have m : v ∈ (List.range n).filter fun v => !setB D s best v := List.mem_filter.mpr ⟨List.mem_range.mpr hv, by rw [e]; rfl⟩
      unfold unS at zero
      rw [List.length_eq_zero_iff.mp zero] at m
      cases m
  apply List.ext_getElem
  · rw [h1.len, List.length_map, List.length_range]
  · intro v g1 g2
    have hv : v < n := by rw [← h1.len]; exact g1
    rw [List.getElem_map, List.getElem_range]
    have e : best.getD v none = best[v] := by rw [List.getD_eq_getElem?_getD, List.getElem?_eq_getElem g1]; rfl
    rw [← e]
    have st := setB_iff.mp (all v hv)
    have ge := h1.ge v hv
    cases hd : D s v with
    | none =>
      cases hb : best.getD v none with
      | none => rfl
      | some x => obtain ⟨y, hy, _⟩ := ge x hb; rw [hd] at hy; cases hy
    | some x =>
      obtain ⟨y, hy, ly⟩ := st x hd
      obtain ⟨z, hz, lz⟩ := ge y hy
      rw [hd] at hz
      cases hz
      rw [hy, show y = x by omega]
end
/-! ### a table and its bounds -/
theorem put_iff {T : TbM} (g : TbGd T) {s e : Nat} {w : Int} (hs : s < T.pts.length) (he : e < T.pts.length) (nn : ¬ negB (cellM T.d e s) w = true) {i j : Nat} (hi : i < T.pts.length) (hj : j < T.pts.length) {c : Int} (h : cellM (putM T s e w).d i j = some c) :
    cellM T.d i j = some c ∨ ∃ a b, cellM T.d i s = some a ∧ cellM T.d e j = some b ∧ c = a + w + b := by
  unfold putM at h
  rw [if_neg nn] at h
  split at h
  · have h : cellM (shortM T.d s e w) i j = some c := h
    rw [short_cell g.ok hi hj he] at h
    exact putC_src h
  · exact .inl h
theorem ClD.put {T : TbM} (g : TbGd T) {arcs : List Ar} (c : ClD (cellM T.d) T.pts.length arcs) {s e : Nat} {w : Int} (hs : s < T.pts.length) (he : e < T.pts.length) (nn : ¬ negB (cellM T.d e s) w = true) : ClD (cellM (putM T s e w).d) T.pts.length (arcs ++ [⟨s, e, w⟩]) := by
  obtain ⟨g2, _, own, old⟩ := put_cell g hs he nn
  have len : (putM T s e w).pts.length = T.pts.length := by
    have h : (putM T s e w).pts = T.pts := by
      unfold putM
      split
      · rfl
      · split <;> rfl
    rw [h]
  have sub : arcs ⊆ arcs ++ [⟨s, e, w⟩] := fun x hx => List.mem_append_left _ hx
  refine ⟨fun i hi => g2.dg i (by rw [len]; exact hi), fun i j k hi hj hk => g2.tr i j k (by rw [len]; exact hi) (by rw [len]; exact hj) (by rw [len]; exact hk), fun z hz => ?_, fun i j hi hj x hx => ?_⟩
  · rcases List.mem_append.mp hz with m | m
    · obtain ⟨h1, h2, h3⟩ := c.ar z m
      exact ⟨h1, h2, old _ _ h1 h2 _ h3⟩
    · rw [List.mem_singleton.mp m]
      exact ⟨hs, he, own⟩
  · rcases put_iff g hs he nn hi hj hx with h | ⟨a, b, h1, h2, h3⟩
    · exact (c.at' i j hi hj x h).mono sub
    · have w1 := (c.at' i s hi hs a h1).mono sub
      have w2 := (c.at' e j he hj b h2).mono sub
      rw [h3]
      exact (Wk.snoc w1 (z := ⟨s, e, w⟩) (List.mem_append_right _ (List.mem_singleton.mpr rfl)) rfl).trans w2
end Vs

namespace Vs
open PySem PySem.Spec PyProof.Rows L2
/-! ### a table beside one that keeps all points that ever were -/
theorem DLe_ext {o1 o2 : Option Int} (h : ∀ x, DLe o1 x ↔ DLe o2 x) : o1 = o2 := by
  cases h1 : o1 with
  | none =>
    cases h2 : o2 with
    | none => rfl
    | some b =>
      obtain ⟨c, hc, _⟩ := (h b).mpr ⟨b, h2, Int.le_refl _⟩
      rw [h1] at hc
      cases hc
  | some a =>
    cases h2 : o2 with
    | none =>
      obtain ⟨c, hc, _⟩ := (h a).mp ⟨a, h1, Int.le_refl _⟩
      rw [h2] at hc
      cases hc
    | some b =>
      obtain ⟨c, hc, l1⟩ := (h a).mp ⟨a, h1, Int.le_refl _⟩
      rw [h2] at hc
      cases hc
      obtain ⟨d, hd, l2⟩ := (h b).mpr ⟨b, h2, Int.le_refl _⟩
      rw [h1] at hd
      cases hd
      rw [show a = b by omega]
theorem put_DLe {T : TbM} (g : TbGd T) {s e : Nat} {w : Int} (hs : s < T.pts.length) (he : e < T.pts.length) (nn : ¬ negB (cellM T.d e s) w = true) {i j : Nat} (hi : i < T.pts.length) (hj : j < T.pts.length) (x : Int) :
    DLe (cellM (putM T s e w).d i j) x ↔ DLe (cellM T.d i j) x ∨ ∃ a b, cellM T.d i s = some a ∧ cellM T.d e j = some b ∧ a + w + b ≤ x := by
  obtain ⟨g2, hok, own, old⟩ := put_cell g hs he nn
  have len : (putM T s e w).pts.length = T.pts.length := by
    have h : (putM T s e w).pts = T.pts := by
      unfold putM
      split
      · rfl
      · split <;> rfl
    rw [h]
  constructor
  · rintro ⟨c, hc, lc⟩
    rcases put_iff g hs he nn hi hj hc with h | ⟨a, b, h1, h2, h3⟩
    · exact .inl ⟨c, h, lc⟩
    · exact .inr ⟨a, b, h1, h2, by omega⟩
  · rintro (h | ⟨a, b, h1, h2, h3⟩)
    · exact old i j hi hj x h
    · obtain ⟨y, hy, ly⟩ := old i s hi hs a ⟨a, h1, Int.le_refl _⟩
      obtain ⟨z, hz, lz⟩ := old e j he hj b ⟨b, h2, Int.le_refl _⟩
      obtain ⟨v, hv, lv⟩ := own
      obtain ⟨u, hu, lu⟩ := g2.tr i s e (by rw [len]; exact hi) (by rw [len]; exact hs) (by rw [len]; exact he) y v hy hv
      exact (g2.tr i e j (by rw [len]; exact hi) (by rw [len]; exact he) (by rw [len]; exact hj) u z hu hz).mono (by omega)
/-- the table's points have numbers in the one that keeps all -/
structure Gho (T G : TbM) (ms : List Nat) : Prop where
  gt : TbGd T
  gg : TbGd G
  len : ms.length = T.pts.length
  lt : ∀ m ∈ ms, m < G.pts.length
  nd : ms.Nodup
  ce : ∀ i j m n, ms[i]? = some m → ms[j]? = some n → cellM T.d i j = cellM G.d m n
theorem Gho.nil : Gho ⟨[], [], true⟩ ⟨[], [], true⟩ [] := ⟨TbGd.nil, TbGd.nil, rfl, fun m h => (by cases h), List.nodup_nil, fun i j m n h => (by simp at h)⟩
theorem Gho.at {T G : TbM} {ms : List Nat} (h : Gho T G ms) {i : Nat} (hi : i < T.pts.length) : ∃ m, ms[i]? = some m ∧ m < G.pts.length := by
  have hl := h.len
  have e : ms[i]? = some (ms[i]'(by omega)) := List.getElem?_eq_getElem _
  exact ⟨_, e, h.lt _ (List.mem_of_getElem? e)⟩
theorem Gho.neg {T G : TbM} {ms : List Nat} (h : Gho T G ms) {s e m n : Nat} (hs : ms[s]? = some m) (he : ms[e]? = some n) (w : Int) : negB (cellM T.d e s) w = negB (cellM G.d n m) w := by rw [h.ce e s n m he hs]
theorem Gho.put {T G : TbM} {ms : List Nat} (h : Gho T G ms) {s e m n : Nat} {w : Int} (hs : ms[s]? = some m) (he : ms[e]? = some n) (nn : ¬ negB (cellM T.d e s) w = true) : Gho (putM T s e w) (putM G m n w) ms := by
  have pT : (putM T s e w).pts = T.pts := by
    unfold putM
    split
    · rfl
    · split <;> rfl
  have pG : (putM G m n w).pts = G.pts := by
    unfold putM
    split
    · rfl
    · split <;> rfl
  have hl := h.len
  have ls : s < T.pts.length := by have := (List.getElem?_eq_some_iff.mp hs).1; omega
  have le : e < T.pts.length := by have := (List.getElem?_eq_some_iff.mp he).1; omega
  have lm := h.lt m (List.mem_of_getElem? hs)
  have ln := h.lt n (List.mem_of_getElem? he)
  have ng : ¬ negB (cellM G.d n m) w = true := by rw [← h.neg hs he]; exact nn
  refine ⟨(put_cell h.gt ls le nn).1, (put_cell h.gg lm ln ng).1, by rw [pT]; exact h.len, by rw [pG]; exact h.lt, h.nd, fun i j p q hp hq => DLe_ext fun x => ?_⟩
  have li : i < T.pts.length := by have := (List.getElem?_eq_some_iff.mp hp).1; omega
  have lj : j < T.pts.length := by have := (List.getElem?_eq_some_iff.mp hq).1; omega
  rw [put_DLe h.gt ls le nn li lj, put_DLe h.gg lm ln ng (h.lt p (List.mem_of_getElem? hp)) (h.lt q (List.mem_of_getElem? hq)), h.ce i j p q hp hq, h.ce i s p m hp hs, h.ce e j n q he hq]
theorem Gho.add {T G : TbM} {ms : List Nat} (h : Gho T G ms) {p q : Pt} (np : p ∉ T.pts) (fp : T.pts.length < 40) (nq : q ∉ G.pts) (fq : G.pts.length < 40) : Gho (addM T p) (addM G q) (ms ++ [G.pts.length]) := by
  have lT : (addM T p).pts.length = T.pts.length + 1 := by show (T.pts ++ [p]).length = _; rw [List.length_append, List.length_singleton]
  have lG : (addM G q).pts.length = G.pts.length + 1 := by show (G.pts ++ [q]).length = _; rw [List.length_append, List.length_singleton]
  have hl := h.len
  refine ⟨h.gt.add np fp, h.gg.add nq fq, by rw [List.length_append, lT, hl]; rfl, fun m hm => ?_, ?_, fun i j m n hm hn => ?_⟩
  · rw [lG]
    rcases List.mem_append.mp hm with z | z
    · have := h.lt m z; omega
    · rw [List.mem_singleton.mp z]; omega
  · rw [List.nodup_append]
    refine ⟨h.nd, by simp, fun a ha b hb e => ?_⟩
    have := h.lt a ha
    rw [e, List.mem_singleton.mp hb] at this
    omega
  · have key : ∀ {i m}, (ms ++ [G.pts.length])[i]? = some m → (i < T.pts.length ∧ ms[i]? = some m ∧ m < G.pts.length) ∨ (i = T.pts.length ∧ m = G.pts.length) := fun {i m} z => by
      by_cases c : i < ms.length
      · rw [List.getElem?_append_left c] at z
        exact .inl ⟨by omega, z, h.lt m (List.mem_of_getElem? z)⟩
      · rw [List.getElem?_append_right (by omega)] at z
        have k := (List.getElem?_eq_some_iff.mp z).1
        rw [List.length_singleton] at k
        rw [show i - ms.length = 0 by omega] at z
        cases z
        exact .inr ⟨by omega, rfl⟩
    rcases key hm with ⟨a1, a2, a3⟩ | ⟨a1, a2⟩ <;> rcases key hn with ⟨b1, b2, b3⟩ | ⟨b1, b2⟩
    · rw [addM_cell h.gt.ok (by omega) (by omega), addM_cell h.gg.ok (by omega) (by omega), if_pos a1, if_pos b1, if_pos a3, if_pos b3]
      exact h.ce i j m n a2 b2
    · rw [addM_cell h.gt.ok (by omega) (by omega), addM_cell h.gg.ok (by omega) (by omega), if_pos a1, if_neg (by omega), if_pos a3, if_neg (by omega)]
    · rw [addM_cell h.gt.ok (by omega) (by omega), addM_cell h.gg.ok (by omega) (by omega), if_neg (by omega), if_pos b1, if_neg (by omega), if_pos b3]
    · rw [addM_cell h.gt.ok (by omega) (by omega), addM_cell h.gg.ok (by omega) (by omega), if_neg (by omega), if_neg (by omega), if_neg (by omega), if_neg (by omega)]
/-- the numbers of the points that are kept -/
def keptN (T : TbM) (ns : List Pt) (ms : List Nat) : List Nat := (keptM T ns).map fun p => ms.getD (T.pts.idxOf p) 0
theorem Gho.keep {T G : TbM} {ms : List Nat} (h : Gho T G ms) (ns : List Pt) : Gho (keepM T ns) G (keptN T ns ms) := by
  have hl := h.len
  have at' : ∀ {p}, p ∈ keptM T ns → ms[T.pts.idxOf p]? = some (ms.getD (T.pts.idxOf p) 0) := fun {p} hp => by
    have := idx_lt (kept_in hp)
    rw [List.getD_eq_getElem?_getD, List.getElem?_eq_getElem (by omega)]
    rfl
  refine ⟨h.gt.keep ns, h.gg, by unfold keptN; rw [List.length_map]; rfl, fun m hm => ?_, ?_, fun i j m n hm hn => ?_⟩
  · obtain ⟨p, hp, rfl⟩ := List.mem_map.mp hm
    exact h.lt _ (List.mem_of_getElem? (at' hp))
  · unfold keptN
    rw [List.nodup_iff_pairwise_ne, List.pairwise_map]
    have nd : (keptM T ns).Nodup := h.gt.ok.nd.filter _
    refine List.Pairwise.imp_of_mem (fun {p q} hp hq ne e => ?_) nd
    have e1 := at' hp
    have e2 := at' hq
    rw [e] at e1
    have ei := nd_ix h.nd e1 e2
    have i1 := idx_get (kept_in hp)
    have i2 := idx_get (kept_in hq)
    rw [ei, i2] at i1
    exact ne (Option.some.inj i1).symm
  · unfold keptN at hm hn
    rw [List.getElem?_map] at hm hn
    cases hi : (keptM T ns)[i]? with
    | none => rw [hi] at hm; cases hm
    | some p =>
      cases hj : (keptM T ns)[j]? with
      | none => rw [hj] at hn; cases hn
      | some q =>
        rw [hi] at hm
        rw [hj] at hn
        cases hm
        cases hn
        obtain ⟨li, ei⟩ := List.getElem?_eq_some_iff.mp hi
        obtain ⟨lj, ej⟩ := List.getElem?_eq_some_iff.mp hj
        rw [keep_cell li lj, ei, ej]
        exact h.ce _ _ _ _ (at' (List.mem_of_getElem? hi)) (at' (List.mem_of_getElem? hj))
end Vs

namespace Vs
open PySem PySem.Spec PyProof.Rows L2
/-! ### rings below 0, as the law finds them -/
section
variable {D : Nat → Nat → Option Int} {n : Nat} {arcs : List Ar}
/-- the least distance to a point from any point -/
def IsL (D : Nat → Nat → Option Int) (n : Nat) (v : Nat) (x : Int) : Prop := (∃ s, s < n ∧ D s v = some x) ∧ ∀ t, t < n → ∀ y, D t v = some y → x ≤ y
theorem ex_min (f : Nat → Option Int) : ∀ n, (∃ s, s < n ∧ ∃ x, f s = some x) → ∃ x, (∃ s, s < n ∧ f s = some x) ∧ ∀ t, t < n → ∀ y, f t = some y → x ≤ y
  | 0, ⟨s, h, _⟩ => absurd h (Nat.not_lt_zero s)
  | n + 1, ⟨s, hs, x, hx⟩ => by
    by_cases c : ∃ s, s < n ∧ ∃ x, f s = some x
    · obtain ⟨m, ⟨s', h1, h2⟩, h3⟩ := ex_min f n c
      cases hn : f n with
      | none =>
        refine ⟨m, ⟨s', by omega, h2⟩, fun t ht y hy => ?_⟩
        by_cases e : t = n
        · rw [e, hn] at hy; cases hy
        · exact h3 t (by omega) y hy
      | some z =>
        by_cases le : m ≤ z
        · refine ⟨m, ⟨s', by omega, h2⟩, fun t ht y hy => ?_⟩
          by_cases e : t = n
          · rw [e, hn] at hy; cases hy; exact le
          · exact h3 t (by omega) y hy
        · refine ⟨z, ⟨n, by omega, hn⟩, fun t ht y hy => ?_⟩
          by_cases e : t = n
          · rw [e, hn] at hy; cases hy; exact Int.le_refl _
          · have := h3 t (by omega) y hy; omega
    · have e : s = n := by
        rcases (by omega : s < n ∨ s = n) with h | h
        · exact absurd ⟨s, h, x, hx⟩ c
        · exact h
      subst e
      refine ⟨x, ⟨s, by omega, hx⟩, fun t ht y hy => ?_⟩
      by_cases e : t = s
      · rw [e, hx] at hy; cases hy; exact Int.le_refl _
      · exact absurd ⟨t, by omega, y, hy⟩ c
theorem ex_L (c : ClD D n arcs) {v : Nat} (hv : v < n) : ∃ x, IsL D n v x := ex_min (fun s => D s v) n ⟨v, hv, 0, c.dg v hv⟩
theorem IsL.le0 (c : ClD D n arcs) {v : Nat} (hv : v < n) {x : Int} (h : IsL D n v x) : x ≤ 0 := h.2 v hv 0 (c.dg v hv)
theorem IsL.one {v : Nat} {x y : Int} (h : IsL D n v x) (g : IsL D n v y) : x = y := by
  obtain ⟨⟨s, h1, h2⟩, h3⟩ := h
  obtain ⟨⟨t, g1, g2⟩, g3⟩ := g
  have := h3 t g1 y g2
  have := g3 s h1 x h2
  omega
theorem IsL.step (c : ClD D n arcs) {z : Ar} (m : z ∈ arcs) {x y : Int} (h : IsL D n z.u x) (g : IsL D n z.v y) : y ≤ x + z.w := by
  obtain ⟨h1, h2, d, hd, ld⟩ := c.ar z m
  obtain ⟨s, hs, e⟩ := h.1
  obtain ⟨q, hq, lq⟩ := c.tr s z.u z.v hs h1 h2 x d e hd
  have := g.2 s hs q hq
  omega
/-- never less than the least -/
structure SndL (D : Nat → Nat → Option Int) (n : Nat) (best : Row) : Prop where
  len : best.length = n
  all : ∀ v, v < n → ∃ b, best.getD v none = some b ∧ b ≤ 0
  ge : ∀ v, v < n → ∀ x, IsL D n v x → ∀ b, best.getD v none = some b → x ≤ b
theorem SndL.relax (c : ClD D n arcs) {best : Row} (h : SndL D n best) {z : Ar} (m : z ∈ arcs) : SndL D n (relax best z) := by
  obtain ⟨h1, h2, _⟩ := c.ar z m
  refine ⟨by rw [relax_len, h.len], fun v hv => ?_, fun v hv x hx b hb => ?_⟩
  · obtain ⟨b, e, l⟩ := h.all v hv
    obtain ⟨b', e', l'⟩ := relax_le (z := z) (by rw [h.len]; exact h2) (⟨b, e, Int.le_refl _⟩ : DLe (best.getD v none) b)
    exact ⟨b', e', by omega⟩
  · unfold Vs.relax at hb
    split at hb
    · exact h.ge v hv x hx b hb
    · rename_i a ha
      split at hb
      · rw [getD_set (by rw [h.len]; exact h2)] at hb
        split at hb
        · rename_i e
          cases hb
          obtain ⟨y, hy⟩ := ex_L c h1
          have l1 := h.ge _ h1 y hy a ha
          rw [← e] at hx
          have l2 := hy.step c m hx
          omega
        · exact h.ge v hv x hx b hb
      · exact h.ge v hv x hx b hb
theorem SndL.fold (c : ClD D n arcs) : ∀ (l : List Ar) (best : Row), l ⊆ arcs → SndL D n best → SndL D n (l.foldl Vs.relax best)
  | [], _, _, h => h
  | z :: l, best, sub, h => SndL.fold c l _ (fun y hy => sub (List.mem_cons_of_mem _ hy)) (h.relax c (sub List.mem_cons_self))
/-- settled: it is the least -/
noncomputable def setL (D : Nat → Nat → Option Int) (n : Nat) (best : Row) (v : Nat) : Bool := by
  classical
  exact decide (∀ x, IsL D n v x → DLe (best.getD v none) x)
theorem setL_iff {best : Row} {v : Nat} : setL D n best v = true ↔ ∀ x, IsL D n v x → DLe (best.getD v none) x := by
  classical
  unfold setL
  exact decide_eq_true_iff
theorem find_arcL (c : ClD D n arcs) {best : Row} (h : SndL D n best) {s : Nat} (hs : s < n) {i v : Nat} {x : Int} (g : Wk arcs i v x) (ei : i = s) (hv : v < n) (hd : D s v = some x) (hL : IsL D n v x) (un : ¬ setL D n best v = true) :
    ∃ z ∈ arcs, ∃ a, IsL D n z.u a ∧ IsL D n z.v (a + z.w) ∧ setL D n best z.u = true ∧ ¬ setL D n best z.v = true := by
  induction g with
  | nil =>
    exfalso
    apply un
    refine setL_iff.mpr fun y hy => ?_
    obtain ⟨b, hb, lb⟩ := h.all i hv
    have := hy.one hL
    exact ⟨b, hb, by omega⟩
  | @snoc j a g z m e ih =>
    obtain ⟨h1, h2, d, hd2, ld⟩ := c.ar z m
    have wk_ge : ∀ {j y}, Wk arcs i j y → j < n → DLe (D s j) y := fun {j y} g => by
      induction g with
      | nil => intro _; rw [ei, c.dg s hs]; exact ⟨0, rfl, Int.le_refl _⟩
      | @snoc j' a' _ z' m' e' ih' =>
        intro _
        obtain ⟨g1, g2, d', hd', ld'⟩ := c.ar z' m'
        obtain ⟨y', hy', ly'⟩ := ih' (by rw [← e']; exact g1)
        exact (c.tr s z'.u z'.v hs g1 g2 y' d' (by rw [e']; exact hy') hd').mono (by omega)
    obtain ⟨y, hy, ly⟩ := wk_ge g (by rw [← e]; exact h1)
    have hyu : D s z.u = some y := by rw [e]; exact hy
    obtain ⟨q, hq, lq⟩ := c.tr s z.u z.v hs h1 h2 y d hyu hd2
    rw [hd] at hq
    cases hq
    have ya : y = a := by omega
    subst ya
    have Lu : IsL D n z.u y := by
      refine ⟨⟨s, hs, hyu⟩, fun t ht p hp => ?_⟩
      obtain ⟨q, hq, lq⟩ := c.tr t z.u z.v ht h1 h2 p d hp hd2
      have := hL.2 t ht q hq
      omega
    by_cases st : setL D n best z.u = true
    · exact ⟨z, m, y, Lu, hL, st, un⟩
    · exact ih (by rw [← e]; exact h1) hy (by rw [← e]; exact Lu) (by rw [← e]; exact st)
noncomputable def unL (D : Nat → Nat → Option Int) (n : Nat) (best : Row) : Nat := ((List.range n).filter fun v => !setL D n best v).length
theorem round_setL (c : ClD D n arcs) {best : Row} (hl : best.length = n) {v : Nat} (h : setL D n best v = true) : setL D n (arcs.foldl relax best) v = true :=
  setL_iff.mpr fun x hx => fold_le c arcs best (fun _ h => h) hl (setL_iff.mp h x hx)
theorem round_unL (c : ClD D n arcs) {best : Row} (h : SndL D n best) : unL D n (arcs.foldl relax best) ≤ unL D n best - 1 := by
  have sub : ∀ x ∈ List.range n, (!setL D n (arcs.foldl relax best) x) = true → (!setL D n best x) = true := fun x _ hx => by
    cases e : setL D n best x with
    | false => rfl
    | true => rw [round_setL c h.len e] at hx; cases hx
  by_cases z : unL D n best = 0
  · have := filt_lt.filt_le (p := fun x => !setL D n (arcs.foldl relax best) x) (q := fun x => !setL D n best x) (List.range n) sub
    unfold unL at *
    omega
  · have : ∃ v, v < n ∧ ¬ setL D n best v = true := by
      unfold unL at z
      obtain ⟨v, hv⟩ := List.exists_mem_of_length_pos (Nat.pos_of_ne_zero z)
      obtain ⟨m, hm⟩ := List.mem_filter.mp hv
      exact ⟨v, List.mem_range.mp m, fun e => by rw [e] at hm; cases hm⟩
    obtain ⟨v, hv, un⟩ := this
    obtain ⟨x, hx⟩ := ex_L c hv
    obtain ⟨s, hs, e⟩ := hx.1
    obtain ⟨a, m, y, h1, h2, h3, h4⟩ := find_arcL c h hs (c.at' s v hs hv x e) rfl hv e hx un
    have done : setL D n (arcs.foldl relax best) a.v = true := setL_iff.mpr fun x hx => by
      rw [hx.one h2]
      exact fold_own c arcs best (fun _ h => h) h.len m (setL_iff.mp h3 y h1)
    have := filt_lt (p := fun x => !setL D n (arcs.foldl relax best) x) (q := fun x => !setL D n best x) (List.range n) sub ⟨a.v, List.mem_range.mpr (c.ar a m).2.1, by
      cases e : setL D n best a.v with
      | false => rfl
      | true => exact absurd e h4, by rw [done]; decide⟩
    unfold unL at *
    omega
theorem ring_rows (c : ClD D n arcs) : ∀ k, SndL D n (iterR arcs k (List.replicate n (some 0))) ∧ unL D n (iterR arcs k (List.replicate n (some 0))) ≤ n - k
  | 0 => by
    have g : ∀ v, v < n → (List.replicate n (some (0 : Int))).getD v none = some 0 := fun v hv => by
      rw [List.getD_eq_getElem?_getD, List.getElem?_replicate, if_pos hv]
      rfl
    refine ⟨⟨List.length_replicate, fun v hv => ⟨0, g v hv, Int.le_refl _⟩, fun v hv x hx b hb => ?_⟩, ?_⟩
    · rw [show (iterR arcs 0 (List.replicate n (some 0))) = List.replicate n (some 0) from rfl, g v hv] at hb
      cases hb
      exact hx.le0 c hv
    · have := List.length_filter_le (fun v => !setL D n (List.replicate n (some 0)) v) (List.range n)
      rw [List.length_range] at this
      unfold unL iterR
      omega
  | k + 1 => by
    obtain ⟨h1, h2⟩ := ring_rows c k
    refine ⟨SndL.fold c arcs _ (fun _ h => h) h1, ?_⟩
    have := round_unL c h1
    show unL D n (arcs.foldl relax (iterR arcs k (List.replicate n (some 0)))) ≤ _
    omega
def lowB (best : Row) (z : Ar) : Bool := match best.getD z.u none, best.getD z.v none with
  | some a, some b => decide (a + z.w < b)
  | _, _ => false
/-- without a ring below 0 the last round lowers nothing -/
theorem still (c : ClD D n arcs) {z : Ar} (m : z ∈ arcs) : ∀ {k}, n ≤ k → lowB (iterR arcs k (List.replicate n (some 0))) z = false
  | k, hk => by
    obtain ⟨h1, h2⟩ := ring_rows c k
    generalize iterR arcs k (List.replicate n (some 0)) = best at *
    have zero : unL D n best = 0 := by omega
    have all : ∀ v, v < n → setL D n best v = true := fun v hv => by
      cases e : setL D n best v with
      | true => rfl
      | false =>
        have m : v ∈ (List.range n).filter fun v => !setL D n best v := List.mem_filter.mpr ⟨List.mem_range.mpr hv, by rw [e]; rfl⟩
        unfold unL at zero
        rw [List.length_eq_zero_iff.mp zero] at m
        cases m
    obtain ⟨z1, z2, _⟩ := c.ar z m
    obtain ⟨a, ea, _⟩ := h1.all z.u z1
    obtain ⟨b, eb, _⟩ := h1.all z.v z2
    obtain ⟨x, hx⟩ := ex_L c z1
    obtain ⟨y, hy⟩ := ex_L c z2
    obtain ⟨b', e', l'⟩ := setL_iff.mp (all z.v z2) y hy
    rw [eb] at e'
    cases e'
    have := h1.ge z.u z1 x hx a ea
    have := hx.step c m hy
    unfold lowB
    rw [ea, eb]
    exact decide_eq_false (by omega)
/-- with one each round lowers something -/
theorem never_still {best : Row} {brcs : List Ar} {e s : Nat} {y w : Int} (g : Wk arcs e s y) (neg : y + w < 0) (m : (⟨s, e, w⟩ : Ar) ∈ brcs) (sub : arcs ⊆ brcs) (all : ∀ z ∈ brcs, ∃ a b, best.getD z.u none = some a ∧ best.getD z.v none = some b ∧ ¬ a + z.w < b) : False := by
  obtain ⟨a, b, h1, h2, h3⟩ := all _ m
  have h1 : best.getD s none = some a := h1
  have h2 : best.getD e none = some b := h2
  have h3 : ¬ a + w < b := h3
  have walk : ∀ {j y}, Wk arcs e j y → ∃ x, best.getD j none = some x ∧ x ≤ b + y := fun {j y} g => by
    induction g with
    | nil => exact ⟨b, h2, by omega⟩
    | @snoc j a' _ z mz ez ih =>
      obtain ⟨x, hx, lx⟩ := ih
      obtain ⟨p, q, g1, g2, g3⟩ := all z (sub mz)
      rw [ez, hx] at g1
      cases g1
      exact ⟨q, g2, by omega⟩
  obtain ⟨x, hx, lx⟩ := walk g
  rw [h1] at hx
  cases hx
  omega
end
end Vs

namespace Vs
open PySem PySem.Spec PyProof.Rows L2
/-! ### name = {key: value for ..} on one line, the name a local -/
theorem dcT_core {X : Cx} {pins : List (Addr × Obj)} {s : Shared} {σ : L2.St} {H : Hp} {Q : VK} {kx vx tg iter : Expr} {ifs : List Expr} {scope : Scope} {own : List (Str × Nat)} {pos pos' : Pos} {wi : TI} {g : TG} {tt : TT} {tk tv : TE} {use : Option (Value → Sem Unit)} {Qf : Value → Shared → Prop} (hu : X.A.units + 1 < cLine) (hc : X.calm = true) (hN : X.N.Nodup) (hi : PI X tg iter wi) (ok : BlkOk X.N X.env.scope scope own)
    (hg : ∀ (s : Shared) (H : Hp) (C : Addr) (cl : List (Str × Addr)) (fp : List Addr), PG (X.blk s H scope (compEnvC scope cl C X.env) fp) tg g)
    (ht : ∀ (s : Shared) (H : Hp) (C : Addr) (cl : List (Str × Addr)) (fp : List Addr), PTs (X.blk s H scope (compEnvC scope cl C X.env) fp) ifs tt)
    (hk : ∀ (s : Shared) (H : Hp) (C : Addr) (cl : List (Str × Addr)) (fp : List Addr), PE (X.blk s H scope (compEnvC scope cl C X.env) fp) kx tk)
    (he : ∀ (s : Shared) (H : Hp) (C : Addr) (cl : List (Str × Addr)) (fp : List Addr), PE (X.blk s H scope (compEnvC scope cl C X.env) fp) vx tv)
    (hs : ∀ x : Value, foldedSetIterable iter X.env x = pure x) (I : Inv X pins σ H s) (h : tDcT wi g tt tk tv (own.map (·.2)) σ H Q)
    (hRR : ∀ D C s' m H', Inv X pins σ H' s' → Q (.ref D) H' → s'.heap.Ns C m → FpOk X pins H' C → compPost (model X.prog X.w) X.A X.xe use Qf (.ref D) C (.ok .next) s') :
    wpAny (model X.prog X.w) X.A (comprehension (.DictComp kx vx [⟨tg, iter, ifs, 0⟩] scope pos) scope X.env pos' newDict false (eval iter X.env) use) Qf X.xe s := by
  refine wpAny_comprehension_free (use := use) (gs := []) rfl hs (closure_ok fun y hy hf => I.ok.has _ (ok.free y hy hf)) ok.kind (fun x hx hl => by rw [ok.uniq x hx, hl]) ?_
  refine thn (hi.run pins s σ H _ I h) fun v s1 h1 => thn h1 fun u s2 ⟨it, fp, tn, J, H1, eu, I1, T, t0, hfp, r⟩ => ?_
  subst eu
  have nD : H1 s2.heap.objs.size = none := I1.hok.fresh (Nat.le_refl _)
  obtain ⟨W, ⟨m0, w0⟩, hW⟩ := r s2.heap.objs.size nD
  refine wpAny_newObj_type ?_
  have I2 := I1.laid (a := s2.heap.objs.size) (o := .dT []) (h' := s2.heap.push { cls := .type "dict", data := .dict #[] }) (t' := s2.toks) (fun _ _ q => Heap.get?_push_of_some _ q) (Nat.le_refl _) (dt_empty s2.heap I1.big)
  have hfp2 : ∀ b ∈ fp, FpOk X pins (upd H1 s2.heap.objs.size (.dT [])) b ∧ b < (s2.heap.push { cls := Value.type "dict", data := Data.dict #[] }).objs.size := by
    intro b hb
    obtain ⟨o, ho, _⟩ := T.obj 0 _ t0 b hb
    have lt : b < s2.heap.objs.size := by
      refine Nat.lt_of_not_le fun z => ?_
      rw [Heap.get?_none_of_le z] at ho
      cases ho
    refine ⟨⟨by rw [upd_ne (Nat.ne_of_lt lt)]; exact (hfp b hb).1, (hfp b hb).2⟩, ?_⟩
    show b < (s2.heap.objs.push _).size
    rw [Array.size_push]
    exact Nat.lt_succ_of_lt lt
  have t02 : tn 0 (s2.heap.push { cls := Value.type "dict", data := Data.dict #[] }) := T.keep 0 _ _ t0 fun b hb o ho => Heap.get?_push_of_some _ ho
  have I3 : Inv X pins σ (upd H1 s2.heap.objs.size (.dT [])) { heap := s2.heap.push { cls := Value.type "dict", data := Data.dict #[] }, gens := s2.gens, drawn := s2.drawn, toks := s2.toks, os := s2.os } := I2
  clear I2
  clear t0
  obtain ⟨s3, e3⟩ : ∃ x : Shared, x = { heap := s2.heap.push { cls := Value.type "dict", data := Data.dict #[] }, gens := s2.gens, drawn := s2.drawn, toks := s2.toks, os := s2.os } := ⟨_, rfl⟩
  have hh : s2.heap.push { cls := Value.type "dict", data := Data.dict #[] } = s3.heap := by rw [e3]
  rw [hh] at hfp2 t02
  rw [← e3] at I3 ⊢
  refine newEnv_comp ?_
  have Ib := block_start I3 ok hN hfp2
  have szC : s3.heap.objs.size ≤ s3.heap.objs.size := Nat.le_refl _
  have tn0 : tn 0 (pushCells (s3.heap.push { cls := Value.type "dict", data := Data.dict #[] }) scope.names) := T.keep 0 _ _ t02 fun b hb o ho => pushCells_keeps _ _ _ _ (Heap.get?_push_of_some _ ho)
  suffices main : codeAny (model X.prog X.w) X.A (.compLoop (.DictComp kx vx [⟨tg, iter, ifs, 0⟩] scope pos) 0 (.ref it) (.ref s2.heap.objs.size) (compEnvC scope (cellsFrom (s3.heap.objs.size + 1) scope.names (cloFrom X.env.cells scope.names [])) s3.heap.objs.size X.env)) (compPost (model X.prog X.w) X.A X.xe use Qf (Value.ref s2.heap.objs.size) s3.heap.objs.size) { heap := pushCells (s3.heap.push { cls := Value.type "dict", data := Data.dict #[] }) scope.names, gens := s3.gens, drawn := s3.drawn, toks := s3.toks, os := s3.os } from
    codeAny_compStart_dict main (T.self _ 0 _ _ _ tn0 main)
  · refine dcT_loop (X := X.blk s3 (upd H1 s2.heap.objs.size (.dT [])) scope (compEnvC scope (cellsFrom (s3.heap.objs.size + 1) scope.names (cloFrom X.env.cells scope.names [])) s3.heap.objs.size X.env) fp) hu hc rfl T (hg _ _ _ _ _) (ht _ _ _ _ _) (hk _ _ _ _ _) (he _ _ _ _ _) hW Ib ?_ ?_ w0 ?_
    · exact tn0
    · intro b hb
      obtain ⟨⟨g1, g2, g3, g4, g5, g6⟩, lt⟩ := hfp2 b hb
      refine ⟨g1, Nat.ne_of_lt lt, fun m => ?_, .inl hb, fun x c hl e => ?_, fun p hp => by cases hp⟩
      · rcases List.mem_cons.mp (I3.stkSub b m) with z | z
        · exact g2 z
        · exact g3 z
      · have hm := lookup_mem hl
        have hm2 : (x, c) ∈ cellsFrom (s3.heap.push { cls := Value.type "dict", data := Data.dict #[] }).objs.size scope.names (cloFrom X.env.cells scope.names []) := by
          rw [show (s3.heap.push { cls := Value.type "dict", data := Data.dict #[] }).objs.size = s3.heap.objs.size + 1 from Array.size_push ..]
          exact hm
        rcases cells_mem hm2 with z | ⟨_, z, _⟩
        · rcases cloFrom_mem z with z | ⟨z1, z2⟩
          · cases z
          · obtain ⟨c', hc'⟩ := I.ok.has _ (ok.free _ z1 rfl)
            rw [hc'] at z2
            exact g5 x c' hc' (z2.symm.trans e)
        · rw [show (s3.heap.push { cls := Value.type "dict", data := Data.dict #[] }).objs.size = s3.heap.objs.size + 1 from Array.size_push ..] at z
          rw [e] at z
          exact absurd lt (Nat.not_lt_of_le (Nat.le_of_succ_le z))
    · intro s' H' I' q
      have I4 : Inv X pins σ H' s' := I3.call' I'.os I'.base I'.hok I'.bare fun b hb => by
        obtain ⟨⟨g1, g2, g3, g4, g5, g6⟩, lt⟩ := hfp2 b hb
        exact ⟨g4, g2, g5, g6⟩
      obtain ⟨m, hm, _⟩ := I'.loc
      have hC : FpOk X pins H' s3.heap.objs.size := I3.fpOk (Nat.le_refl _) I'.free
      exact hRR s2.heap.objs.size s3.heap.objs.size s' m H' I4 q hm hC

theorem sw_trueD {kx vx : Expr} {gs : List Comprehension} {scope : Scope} {pos py : Pos} {y : Str} {l : Nat} {env : Env} (hk : env.scope.kind = .function) (hy : env.scope.names.lookup y = some .local) (hl : (py.line == pos.line) = true)
    (ha : (scope.names.any fun (n, k) => n == y && (k == .local || k == .cell)) = false) : swapsWith (.DictComp kx vx gs scope pos) (some (.Name y py)) l env = pure true := by
  have ky : env.kindOf y = some .local := hy
  have hb : env.blockKind = .function := by unfold Env.blockKind; rw [hk]; rfl
  unfold swapsWith
  simp only [hb, ky, ha, Expr.pos, hl]
  rfl
theorem ps_setDcT {X : Cx} {i : Nat} {y : Str} {py : Pos} {kx vx tg iter : Expr} {ifs : List Expr} {scope : Scope} {own : List (Str × Nat)} {pos spos : Pos} {wi : TI} {g : TG} {tt : TT} {tk tv : TE} (hyl : X.env.scope.names.lookup y = some .local) (hy : X.N[i]? = some y)
    (hsw : swapsWith (.DictComp kx vx [⟨tg, iter, ifs, 0⟩] scope pos) (some (.Name y py)) spos.line X.env = pure true) (hu : X.A.units + 1 < cLine) (hc : X.calm = true) (hN : X.N.Nodup) (hi : PI X tg iter wi) (ok : BlkOk X.N X.env.scope scope own)
    (hg : ∀ (s : Shared) (H : Hp) (C : Addr) (cl : List (Str × Addr)) (fp : List Addr), PG (X.blk s H scope (compEnvC scope cl C X.env) fp) tg g)
    (ht : ∀ (s : Shared) (H : Hp) (C : Addr) (cl : List (Str × Addr)) (fp : List Addr), PTs (X.blk s H scope (compEnvC scope cl C X.env) fp) ifs tt)
    (hk : ∀ (s : Shared) (H : Hp) (C : Addr) (cl : List (Str × Addr)) (fp : List Addr), PE (X.blk s H scope (compEnvC scope cl C X.env) fp) kx tk)
    (he : ∀ (s : Shared) (H : Hp) (C : Addr) (cl : List (Str × Addr)) (fp : List Addr), PE (X.blk s H scope (compEnvC scope cl C X.env) fp) vx tv)
    (hs : ∀ x : Value, foldedSetIterable iter X.env x = pure x := by intro _; rfl) :
    PS X (.Assign [.Name y py] (.DictComp kx vx [⟨tg, iter, ifs, 0⟩] scope pos) spos) (tAsg (tDcT wi g tt tk tv (own.map (·.2))) (gName i)) := by
  refine ⟨fun pins s σ H D I h => ?_⟩
  rw [exec_Assign_Name_used _ _ _ _ hsw]
  refine wpAny_bind (wpAny_standAt (wpAny_bind ?_))
  show wpAny _ X.A (do let _ ← comprehension (.DictComp kx vx [⟨tg, iter, ifs, 0⟩] scope pos) scope X.env (firstIterPos [⟨tg, iter, ifs, 0⟩] pos) newDict false (eval iter X.env) (some (assign (.Name y py) X.env))) _ _ s
  have h : tDcT wi g tt tk tv (own.map (·.2)) σ H (fun x H1 => gName i x σ H1 D.nx) := h
  refine wpAny_bind (thn (dcT_core (Qf := fun _ s' => SP X pins D .next s') hu hc hN hi ok hg ht hk he hs I h fun L C s' m H' I' q hn f => ?_) fun _ s' hq => wpAny_pure (wpAny_pure hq))
  show wpAny _ _ (assign (.Name y py) X.env (.ref L)) _ _ _
  refine wpAny_assign_Name (store_ok2 (v := V.ref L) I' hN hy (.inl hyl) rfl (fun s2 I2 ⟨a, sb, ha⟩ => ?_) (.inr hyl))
  obtain ⟨f0, f1, f2, f3, f4, f5⟩ := f
  have haC : C ≠ a := by
    rcases ha with z | z
    · rw [z]; exact f1
    · exact fun e => f4 y a z e.symm
  refine ⟨m, hn.sameBut sb haC, fun h3 sb3 => ?_⟩
  exact ⟨_, H', I2.turned (t' := s2.toks) (fun b o hb e => (sb3.2 b hb).trans e) f0 f1 f3 f4 f5, q⟩
end Vs

namespace Vs
open PySem PySem.Spec PyProof.Rows L2

/-! ### sorted(xs, key=f): f a def of the program that gives a new pair of ints -/
abbrev XNone : CXT := fun _ _ _ _ _ _ => False
/-- the key that belongs to an item -/
abbrev KeyIs (k : V → Int × Int) (H : Hp) (κ x : V) : Prop := ∃ t, κ = V.ref t ∧ H t = some (.tup [.int (k x).1, .int (k x).2])
theorem paired_snoc {α β : Type} {R : α → β → Prop} {x : α} {y : β} : ∀ {l : List α} {m : List β}, Paired R l m → R x y → Paired R (l ++ [x]) (m ++ [y])
  | _, _, .nil, r => .cons r .nil
  | _, _, .cons a t, r => .cons a (paired_snoc t r)
theorem prd_at {α β : Type} {R : α → β → Prop} : ∀ {l : List α} {m : List β}, Paired R l m → ∀ p ∈ l.zip m, R p.1 p.2
  | _, _, .nil, _, h => absurd h (by simp)
  | _, _, .cons r t, p, h => by
    rw [List.zip_cons_cons] at h
    rcases List.mem_cons.mp h with e | h
    · rw [e]; exact r
    · exact prd_at t p h
theorem paired_len {α β : Type} {R : α → β → Prop} : ∀ {l : List α} {m : List β}, Paired R l m → l.length = m.length
  | _, _, .nil => rfl
  | _, _, .cons r t => by rw [List.length_cons, List.length_cons, paired_len t]

section
variable {X : Cx} {pins : List (Addr × Obj)} {σ : L2.St} {a f kS : Addr} {xs : List V} {k : V → Int × Int} {n c : Nat} {fd : FuncData} {ps : List Str} {sp : Sp} {R : PySem.Fin → Shared → Prop} {E : Value → Shared → Prop}

/-- what each of the pairs (key, item) holds -/
abbrev KI (k : V → Int × Int) (h : Heap) (p : Keyed) : Prop := Srt.IsPair h p.1 (k (backV p.2)).1 (k (backV p.2)).2 ∧ ∃ t, p.2 = Value.ref t
abbrev ltK (k : V → Int × Int) (p q : Keyed) : Bool := ltP k (backV p.2) (backV q.2)
theorem ltK_swo (k : V → Int × Int) : SrtO.Swo (ltK k) := ⟨fun x y => (ltP_swo k).asym _ _, fun x y z => (ltP_swo k).tr _ _ _⟩
/-- which pair of ints an address holds -/
noncomputable def pairV (h : Heap) (v : Value) : Int × Int := by
  classical
  exact if e : ∃ q : Int × Int, Srt.IsPair h v q.1 q.2 then e.choose else (0, 0)
theorem isPair_uniq {h : Heap} {v : Value} {x y x' y' : Int} (p : Srt.IsPair h v x y) (q : Srt.IsPair h v x' y') : x = x' ∧ y = y' := by
  obtain ⟨a, o, t, u, n, rfl, h1, _, h2⟩ := p
  obtain ⟨a', o', t', u', n', e, h1', _, h2'⟩ := q
  cases e
  rw [h1] at h1'
  cases h1'
  rw [h2] at h2'
  cases h2'
  exact ⟨rfl, rfl⟩
theorem pairV_is {h : Heap} {v : Value} {q : Int × Int} (p : Srt.IsPair h v q.1 q.2) : pairV h v = q := by
  unfold pairV
  have ex : ∃ q : Int × Int, Srt.IsPair h v q.1 q.2 := ⟨q, p⟩
  rw [dif_pos ex]
  have z := isPair_uniq ex.choose_spec p
  exact Prod.ext z.1 z.2
theorem ki_cmp {prog : Program} {w : World} {A : Around} {s : Shared} {ps : List Keyed} {l : Addr} (h2 : 2 ≤ ps.length) (hl : ∀ o, s.heap.get? l = some o → o.cls ≠ .type "tuple") (hp : ∀ p ∈ ps, KI k s.heap p) :
    ∃ κ, (∀ (Q : SortKind → Shared → Prop) (E : Value → Shared → Prop), Q κ s → wpAny (model prog w) A (keyKind' (ps.map (·.1)).toArray) Q E s) ∧ SrtO.Cmp prog w A s κ (fun p => p ∈ ps) (ltK k) := by
  have hv : ∀ v ∈ ps.map (·.1), Srt.IsPair s.heap v (pairV s.heap v).1 (pairV s.heap v).2 := fun v hv => by
    obtain ⟨p, hm, rfl⟩ := List.mem_map.mp hv
    have q := (hp p hm).1
    rw [pairV_is (q := k (backV p.2)) q]
    exact q
  obtain ⟨κ, h1, hc⟩ := SrtO.pairs_sortableO (prog := prog) (w := w) (A := A) (s := s) (a := l) (vs := ps.map (·.1)) (k := pairV s.heap) (by rw [List.length_map]; omega) hv hl s.heap fun _ _ _ e => e
  refine ⟨κ, h1, fun p q hm hm' => ?_⟩
  have z := hc p q (List.mem_map.mpr ⟨p, hm, rfl⟩) (List.mem_map.mpr ⟨q, hm', rfl⟩)
  have e1 := pairV_is (q := k (backV p.2)) (hp p hm).1
  have e2 := pairV_is (q := k (backV q.2)) (hp q hm').1
  show wpAny (model prog w) A (keyLt' κ p.1 q.1) (fun r s' => s' = s ∧ r = SrtO.lexB (k (backV p.2)) (k (backV q.2))) _ s
  rw [← e1, ← e2]
  exact z

theorem zip_arr (x y : List Value) : (x.toArray.zip y.toArray).toList = x.zip y := by simp
theorem zip_fst : ∀ (x y : List Value), x.length = y.length → (x.zip y).map (·.1) = x
  | [], _, _ => by simp
  | a :: x, [], h => absurd h (by simp)
  | a :: x, b :: y, h => by
    rw [List.zip_cons_cons, List.map_cons, zip_fst x y (by simpa using h)]
theorem zip_snd : ∀ (x y : List Value), x.length = y.length → (x.zip y).map (·.2) = y
  | [], [], _ => by simp
  | [], b :: y, h => absurd h (by simp)
  | a :: x, [], h => absurd h (by simp)
  | a :: x, b :: y, h => by
    rw [List.zip_cons_cons, List.map_cons, zip_snd x y (by simpa using h)]

/-- the sort itself and what is behind it -/
theorem ksT_end {s : Shared} {H : Hp} {ks : List V} {kits its : List Value} (I : Inv X pins σ H s) (hA : H a = some (.frz (seqObj "list" #[] c) (.lst []))) (hS : H kS = some (.lst ks)) (hn : ∀ o' u', X.H_0 a ≠ some (.frz o' u'))
    (hks : Vals ks kits) (rv : Vals xs its) (hz : xs.length ≤ sizeLine) (er : ∀ u ∈ its, ∃ t, u = Value.ref t) (eb : xs = its.map backV) (hp : Paired (KeyIs k H) ks xs)
    (h : ∀ s' H2 ys, Inv X pins σ H2 s' → (∀ b o, b ≠ a → b ≠ kS → H b = some o → H2 b = some o) → H2 a = some (.lst ys) → SrtO.Srtd (ltP k) ys → SrtO.Stb (ltP k) ys xs → R (.done (.ret .none)) s') :
    wpAny (model X.prog X.w) X.A.in1.in1 (ksk_end a false its.toArray c (.ref kS) kits.toArray) R E s := by
  have hak : a ≠ kS := fun e => by rw [e, hS] at hA; cases hA
  have hl1 := hks.length
  have hl2 := rv.length
  have hl3 := paired_len hp
  have hlz : kits.length = its.length := by omega
  have hsz : its.toArray.size = its.length := by simp
  -- the pairs
  have hKI : ∀ p ∈ kits.zip its, KI k s.heap p := by
    intro p hm
    have e1 : (p.2 ∈ its) := (List.of_mem_zip hm).2
    obtain ⟨i, hi, hpi⟩ := List.mem_iff_getElem.mp hm
    rw [List.length_zip] at hi
    have hik : i < kits.length := by omega
    have hii : i < its.length := by omega
    have hix : i < xs.length := by omega
    have hikk : i < ks.length := by omega
    have e2 : p = (kits[i], its[i]) := by rw [← hpi, List.getElem_zip]
    have e3 : xs[i] = backV its[i] := by
      subst eb
      rw [List.getElem_map]
    have e4 := prd_at hp (ks[i], xs[i]) (List.mem_iff_getElem.mpr ⟨i, by rw [List.length_zip]; omega, by rw [List.getElem_zip]⟩)
    obtain ⟨t, et, ht⟩ := e4
    have et' : ks[i] = V.ref t := et
    obtain ⟨u, eu, ru⟩ := hks.get (i := i) (x := ks[i]) (List.getElem?_eq_getElem hikk)
    rw [List.getElem?_eq_getElem hik] at eu
    have eu' : kits[i] = u := Option.some.inj eu
    rw [et'] at ru
    have ru' : u = Value.ref t := ru
    obtain ⟨_, its2, r2, o, ho, hc, m, hd⟩ := I.hok _ _ ht
    obtain ⟨u1, u2, rfl, ri, rj⟩ := vals2 r2
    obtain ⟨t1, rfl⟩ := ri
    obtain ⟨t2, rfl⟩ := rj
    rw [e2]
    refine ⟨?_, er _ (List.getElem_mem hii)⟩
    show Srt.IsPair s.heap kits[i] (k (backV its[i])).1 (k (backV its[i])).2
    rw [← e3, eu', ru']
    exact ⟨t, o, t1, t2, m, rfl, ho, hc, hd⟩
  -- the end
  have tail : ∀ st : SortSt, SrtO.Srtd (ltK k) (arrOf st).toList → SrtO.Stb (ltK k) (arrOf st).toList (kits.zip its) → failedOf st = none → wpAny (model X.prog X.w) X.A.in1.in1 (ksk_tail a false c (.ref kS) st) R E s := by
    intro st h1 h2 h3
    have hm : ∀ p ∈ (arrOf st).toList, p.2 ∈ its := fun p hp' => (List.of_mem_zip (h2.perm.mem_iff.mp hp')).2
    have ee : ((arrOf st).toList.map (·.2)).map backV = (arrOf st).toList.map fun p => backV p.2 := by rw [List.map_map] <;> rfl
    have ls : (arrOf st).toList.length = xs.length := by rw [h2.len, List.length_zip]; omega
    have hb2 : SrtO.Stb (ltP k) ((arrOf st).toList.map fun p => backV p.2) xs := by
      have q := SrtO.Stb.map (ltP_swo k) (fun p : Keyed => backV p.2) h2
      have e5 : (kits.zip its).map (fun p : Keyed => backV p.2) = xs := by
        rw [eb, ← zip_snd kits its hlz, List.map_map]
        rw [zip_snd kits its hlz]
        rfl
      rw [e5] at q
      exact q
    have hs2 : SrtO.Srtd (ltP k) ((arrOf st).toList.map fun p => backV p.2) := SrtO.srtd_map h1
    obtain ⟨hzk, kit2, ep, rk, _, hok⟩ := I.lstM hS
    unfold ksk_tail
    try dsimp only
    refine wpAny_bind (listUpdate_at hok rfl ?_ (by rw [List.size_toArray, ← rk.length]; exact hzk) (Nat.zero_le _))
    refine wpAny_bind (wpAny_letGo ?_)
    have I1 := I.lset (f := fun _ => #[]) (its' := []) (ys := []) (t' := s.toks) hS hok rfl .nil (Nat.zero_le _)
    have hA1 : upd H kS (.lst []) a = some (.frz (seqObj "list" #[] c) (.lst [])) := by rw [upd_ne hak]; exact hA
    have ho1 := (I1.hok a _ hA1).1
    refine wpAny_bind (seqEpoch_at ho1 rfl ?_)
    have I2 := I1.unlock hA1 hn
    have hvs : Vals ((arrOf st).toList.map fun p => backV p.2) ((arrOf st).toList.map (·.2)) := by
      rw [← ee]
      exact vals_back fun u hu => by
        obtain ⟨p, hp', rfl⟩ := List.mem_map.mp hu
        exact er _ (hm p hp')
    have I3 := I2.lset (l := a) (xs := []) (its := []) (its' := (arrOf st).toList.map (·.2)) (ys := (arrOf st).toList.map fun p => backV p.2) (f := fun _ => (arrOf st).map (·.2)) (t' := s.toks) upd_same ho1
      (by rw [← Array.toList_map, Array.toArray_toList]) hvs (by rw [List.length_map, ls]; exact hz)
    refine wpAny_bind (listUpdate_at ho1 rfl ?_ (Nat.zero_le _) ?_)
    · rw [h3]
      simp only [bne_self_eq_false, Bool.false_eq_true, if_false]
      refine wpAny_pure (h _ _ _ I3 (fun b o hb hb2 e => ?_) upd_same hs2 hb2)
      rw [upd_ne hb, upd_ne hb, upd_ne hb2]
      exact e
    · simp only [Bool.false_eq_true, if_false]
      rw [Array.size_map, ← Array.length_toList, ls]
      omega
  have step : ∀ t : Sem PySem.Fin, wpAny (model X.prog X.w) X.A.in1.in1 t R E s → wpAny (model X.prog X.w) X.A.in1.in1 (if false = true then (do let _ ← rule "list.sort.reverse"; t) else t) R E s := by
    intro t ht
    exact ht
  unfold ksk_end
  try dsimp only
  refine step _ ?_
  simp only [Bool.false_eq_true, if_false]
  by_cases h2 : its.toArray.size < 2
  · rw [if_pos h2, if_pos h2]
    refine wpAny_bind (wpAny_pure ?_)
    rw [StateT.run_pure]
    refine wpAny_bind (wpAny_pure ?_)
    try dsimp only
    refine tail (SortSt.mk' general' (kits.toArray.zip its.toArray) #[] 7 none) ?_ (SrtO.Stb.of_eq (zip_arr _ _)) rfl
    show SrtO.Srtd (ltK k) (kits.toArray.zip its.toArray).toList
    rw [zip_arr]
    have hlt : (kits.zip its).length < 2 := by rw [List.length_zip]; omega
    generalize kits.zip its = l at hlt
    match l, hlt with
    | [], _ => exact List.Pairwise.nil
    | [v], _ => exact List.pairwise_singleton _ _
    | _ :: _ :: l, h => exact absurd h (by rw [List.length_cons, List.length_cons]; omega)
  · rw [if_neg h2, if_neg h2]
    have ho1 := (I.hok a _ hA).1
    obtain ⟨κ, hkind, hT⟩ := ki_cmp (k := k) (prog := X.prog) (w := X.w) (A := X.A.in1.in1) (s := s) (ps := kits.zip its) (l := a) (by rw [List.length_zip]; omega) (fun o e => by
      rw [ho1] at e
      cases e
      exact fun z => absurd (Value.type.inj z) (by decide)) hKI
    rw [zip_fst kits its hlz] at hkind
    refine wpAny_bind (hkind _ _ ?_)
    refine wpAny_bind (wpAny_mono (SrtO.wpS_sortO (st0 := SortSt.mk' κ (kits.toArray.zip its.toArray) #[] 7 none)
      (Q := fun _ st' => SrtO.Srtd (ltK k) (arrOf st').toList ∧ SrtO.Stb (ltK k) (arrOf st').toList (kits.zip its) ∧ failedOf st' = none) (ltK_swo k) hT rfl (fun p hm => by
        have hm' : p ∈ (kits.toArray.zip its.toArray).toList := hm
        rw [zip_arr] at hm'
        exact hm') rfl rfl fun st' a1 a2 a3 => ⟨a1, by
          have a2' : SrtO.Stb (ltK k) (arrOf st').toList (kits.toArray.zip its.toArray).toList := a2
          rw [zip_arr] at a2'
          exact a2', a3⟩) ?_ fun _ _ e => e)
    rintro ⟨⟨⟩, st'⟩ s' ⟨rfl, hp1, hp2, hf⟩
    try dsimp only
    exact tail st' hp1 hp2 hf
end
end Vs
namespace Vs
open PySem PySem.Spec PyProof.Rows L2
section
variable {X : Cx} {pins : List (Addr × Obj)} {σ : L2.St} {a f kS : Addr} {xs : List V} {k : V → Int × Int} {n c : Nat} {fd : FuncData} {ps : List Str} {sp : Sp} {R : PySem.Fin → Shared → Prop} {E : Value → Shared → Prop}
theorem ksT_rest {s : Shared} {H : Hp} {its : List Value} (I : Inv X pins σ H s) (hA : H a = some (.frz (seqObj "list" #[] c) (.lst []))) (hS : H kS = some (.lst [])) (hn : ∀ o' u', X.H_0 a ≠ some (.frz o' u'))
    (rv : Vals xs its) (hz : xs.length ≤ sizeLine) (er : ∀ u ∈ its, ∃ t, u = Value.ref t) (eb : xs = its.map backV)
    (F : FnOk X.prog X.w X.K X.mg X.base XNone n f fd ps sp) (hr : Room (n + 2) X.A) (hb : Binds X.K fd ps [])
    (hk : ∀ x ∈ xs, ∀ (H1 : Hp) (Q : VK), (∀ b o, b ≠ kS → H b = some o → H1 b = some o) → (∀ t H2, Same H1 H2 → H2 t = some (.tup [.int (k x).1, .int (k x).2]) → Q (.ref t) H2) → sp [x] H1 Q (fun _ _ _ => False))
    (h : ∀ s' H2 ys, Inv X pins σ H2 s' → (∀ b o, b ≠ a → b ≠ kS → H b = some o → H2 b = some o) → H2 a = some (.lst ys) → SrtO.Srtd (ltP k) ys → SrtO.Stb (ltP k) ys xs → R (.done (.ret .none)) s') :
    wpAny (model X.prog X.w) X.A.in1.in1 (ksk_rest a (.ref f) false its.toArray c (.ref kS)) R E s := by
  have hak : a ≠ kS := fun e => by rw [e, hS] at hA; cases hA
  unfold ksk_rest
  refine wpAny_bind (wpAny_rule ?_)
  first
    | rw [List.forIn_toArray]
    | (rw [← Array.forIn_toList]; simp only [List.toList_toArray])
    | rw [← Array.forIn_toList]
  refine wpAny_bind (ksk_fold (fun i s' => ∃ Hi ks, Inv X pins σ Hi s' ∧ (∀ b o, b ≠ kS → H b = some o → Hi b = some o) ∧ Hi kS = some (.lst ks) ∧ Paired (KeyIs k Hi) ks (xs.take i)) its 0 s
    ⟨H, [], I, fun _ _ _ e => e, hS, by rw [List.take_zero]; exact .nil⟩ ?step ?done)
  case step =>
    rintro j u s' hx ⟨Hi, ks, I1, b1, hk1, hp1⟩
    simp only [Nat.zero_add] at hp1 ⊢
    have hj : j < its.length := (List.getElem?_eq_some_iff.mp hx).1
    have hjx : j < xs.length := by rw [rv.length]; exact hj
    have exj : xs[j]? = some xs[j] := List.getElem?_eq_getElem hjx
    obtain ⟨u', eu, ru⟩ := rv.get exj
    rw [hx] at eu
    cases eu
    have sp1 := hk xs[j] (List.getElem_mem hjx) Hi (fun v H2 => ∃ t, v = V.ref t ∧ Same Hi H2 ∧ H2 t = some (.tup [.int (k xs[j]).1, .int (k xs[j]).2])) b1 (fun t H2 e1 e2 => ⟨t, rfl, e1, e2⟩)
    have hlp : ([u] ++ ([] : List Value)).length = ps.length := by
      have q := F.len _ _ _ _ sp1
      exact q
    refine wpAny_bind (wpAny_attempt (wpAny_call (codeAny_mono (F.run X.A.in1.in1 X.stack s' Hi ⟨[u], []⟩ ([u] ++ []) [xs[j]] _ _ (hr.in1.in1) I1.env0.in1.in1 (hb s' [u] I1.kIn hlp) (.cons ru .nil) sp1) fun r s'' hq => ?_)))
    cases r with
    | error e => exact False.elim hq
    | ok fl =>
      cases fl with
      | next => exact False.elim hq
      | brk => exact False.elim hq
      | cont => exact False.elim hq
      | ret w1 =>
        obtain ⟨v, H2, I2, rv2, t, rfl, sm, ht⟩ := I1.after hq
        have ew : w1 = Value.ref t := rv2
        subst ew
        have hk2 : H2 kS = some (.lst ks) := sm _ _ hk1
        obtain ⟨hzk, kit2, ep, rk, hkl, hok⟩ := I2.lstM hk2
        have hlk : ks.length = j := by
          rw [paired_len hp1, List.length_take]
          omega
        have hl2 : (ks ++ [V.ref t]).length ≤ sizeLine := by
          rw [List.length_append, hlk, List.length_singleton]
          omega
        have I3 := I2.lset (l := kS) (f := (·.push (Value.ref t))) (its' := kit2 ++ [Value.ref t]) (ys := ks ++ [V.ref t]) (t' := s''.toks) hk2 hok (by simp) (rk.append (.cons rfl .nil)) hl2
        show wpAny (model X.prog X.w) X.A.in1.in1 (Builtin.List.listUpdate (.ref kS) (·.push (Value.ref t)) >>= _) _ _ _
        refine wpAny_bind (listUpdate_at hok rfl ?_ (by rw [List.size_toArray, ← hkl]; omega) (by rw [Array.size_push, List.size_toArray, ← hkl]; omega))
        refine wpAny_pure ⟨rfl, _, _, I3, fun b o hb e => by rw [upd_ne hb]; exact sm _ _ (b1 b o hb e), upd_same, ?_⟩
        have ek : xs.take (j + 1) = xs.take j ++ [xs[j]] := by rw [List.take_add_one, exj]; simp
        have nt : ∀ t' ys, H2 t' = some (.tup ys) → t' ≠ kS := fun t' ys e z => by rw [z, hk2] at e; cases e
        rw [ek]
        refine paired_snoc (Paired.mapP hp1 fun κ x ⟨t', e1, e2⟩ => ⟨t', e1, ?_⟩) ⟨t, rfl, ?_⟩
        · have e3 := sm _ _ e2
          rw [upd_ne (nt _ _ e3)]
          exact e3
        · rw [upd_ne (nt _ _ ht)]
          exact ht
  case done =>
    rintro s' ⟨Hi, ks, I1, b1, hk1, hp1⟩
    have e0 : xs.take (0 + its.length) = xs := List.take_of_length_le (by rw [rv.length]; omega)
    rw [e0] at hp1
    obtain ⟨hzk, kit2, ep, rk, hkl, hok⟩ := I1.lstM hk1
    refine wpAny_bind (listItems_at hok rfl ?_)
    refine ksT_end I1 (b1 _ _ hak hA) hk1 hn rk rv hz er eb hp1 fun s2 H2 ys I2 b2 e2 h1 h2 => h s2 H2 ys I2 (fun b o hb hb2 e => b2 b o hb hb2 (b1 b o hb2 e)) e2 h1 h2

theorem ksT_tree {s : Shared} {H : Hp} (I : Inv X pins σ H s) (ha : H a = some (.lst xs)) (hx : ∀ x ∈ xs, ∃ t, x = V.ref t)
    (F : FnOk X.prog X.w X.K X.mg X.base XNone n f fd ps sp) (hr : Room (n + 2) X.A) (hb : Binds X.K fd ps [])
    (hk : ∀ x ∈ xs, ∀ (H1 : Hp) (Q : VK), (∀ b o, b ≠ a → H b = some o → H1 b = some o) → (∀ t H2, Same H1 H2 → H2 t = some (.tup [.int (k x).1, .int (k x).2]) → Q (.ref t) H2) → sp [x] H1 Q (fun _ _ _ => False))
    (h : ∀ s' H2 ys, Inv X pins σ H2 s' → (∀ b o, b ≠ a → H b = some o → H2 b = some o) → H2 a = some (.lst ys) → SrtO.Srtd (ltP k) ys → SrtO.Stb (ltP k) ys xs → R (.done (.ret .none)) s') :
    wpAny (model X.prog X.w) X.A.in1.in1 (ksk_tree a (.ref f) false) R E s := by
  obtain ⟨hz, its, e0, rv, hlen, ho⟩ := I.lstM ha
  obtain ⟨eb, er⟩ := refs_back rv hx
  unfold ksk_tree
  refine wpAny_bind (listItems_at ho rfl ?_)
  refine wpAny_bind (listUpdate_at ho rfl ?_ (by rw [List.size_toArray]; omega) (Nat.zero_le _))
  obtain ⟨c, hc⟩ : ∃ c, (s.heap.update a (Obj.mapSeq fun _ => #[])).get? a = some (seqObj "list" #[] c) := ⟨_, get?_update_seq ho (fun _ => #[])⟩
  have I1 := I.lset (f := fun _ => #[]) (its' := []) (ys := []) (t' := s.toks) ha ho rfl .nil (Nat.zero_le _)
  have hnf := I1.nofrz (d := a) (u := .lst []) upd_same trivial
  obtain ⟨od, I2⟩ := I1.lock (d := a) (u := .lst []) upd_same trivial
  have e1 := (I2.hok a _ upd_same).1
  have eo : od = seqObj "list" #[] c := Option.some.inj (e1.symm.trans hc)
  subst eo
  refine wpAny_bind (seqEpoch_at hc rfl ?_)
  refine wpAny_bind (wpAny_newTuple ?_ (by show its.length ≤ _; omega))
  have I3 := I2.kept (h' := (s.heap.update a (Obj.mapSeq fun _ => #[])).push (seqObj "tuple" its.toArray 0)) (t' := s.toks) fun _ _ q => Heap.get?_push_of_some _ q
  refine wpAny_bind (wpAny_newList ?_ (Nat.zero_le _))
  have fr := I3.fresh
  have I4 := I3.lnew (its := []) (ys := []) (t' := s.toks) .nil (Nat.zero_le _)
  refine wpAny_holding ?_
  have hA3 : ∀ b o, b ≠ a → H b = some o → upd (upd H a (.lst [])) a (.frz (seqObj "list" #[] c) (.lst [])) b = some o := fun b o hb e => by rw [upd_ne hb, upd_ne hb]; exact e
  have hak : a ≠ ((s.heap.update a (Obj.mapSeq fun _ => #[])).push (seqObj "tuple" its.toArray 0)).objs.size := fun z => by
    have fr' : upd (upd H a (.lst [])) a (.frz (seqObj "list" #[] c) (.lst [])) ((s.heap.update a (Obj.mapSeq fun _ => #[])).push (seqObj "tuple" its.toArray 0)).objs.size = none := fr
    rw [← z, upd_same] at fr'
    cases fr'
  have hA4 : ∀ b o, b ≠ a → H b = some o → b ≠ ((s.heap.update a (Obj.mapSeq fun _ => #[])).push (seqObj "tuple" its.toArray 0)).objs.size := fun b o hb e z => by
    have q := hA3 b o hb e
    have fr' : upd (upd H a (.lst [])) a (.frz (seqObj "list" #[] c) (.lst [])) ((s.heap.update a (Obj.mapSeq fun _ => #[])).push (seqObj "tuple" its.toArray 0)).objs.size = none := fr
    rw [← z, q] at fr'
    cases fr'
  refine ksT_rest (kS := ((s.heap.update a (Obj.mapSeq fun _ => #[])).push (seqObj "tuple" its.toArray 0)).objs.size) (c := c) I4 ?_ upd_same hnf rv hz er eb F hr hb (fun x hm H1 Q b q => hk x hm H1 Q (fun b' o hb' e => ?_) q) fun s' H2 ys I5 b5 e5 h1 h2 => h s' H2 ys I5 (fun b o hb e => ?_) e5 h1 h2
  · show upd _ _ _ a = _
    rw [upd_ne hak, upd_same]
  · refine b b' o (hA4 b' o hb' e) ?_
    show upd _ _ _ b' = _
    rw [upd_ne (hA4 b' o hb' e)]
    exact hA3 b' o hb' e
  · refine b5 b o hb (hA4 b o hb e) ?_
    show upd _ _ _ b = _
    rw [upd_ne (hA4 b o hb e)]
    exact hA3 b o hb e

/-- sorted(xs, key=f): a new list, by the keys, equal ones in their order -/
def rSortKT (K : PySem.W.Frag) (f : Addr) (sp : Sp) : List V → List V → Hp → VK → Prop := fun vs zs H Q => ∃ (a : Addr) (xs : List V) (k : V → Int × Int), vs = [V.ref a] ∧ zs = [V.ref f] ∧ SqL K H a xs ∧ (∀ x ∈ xs, ∃ t, x = V.ref t) ∧
  (∀ x ∈ xs, ∀ (H1 : Hp) (Q : VK), Same H H1 → (∀ t H2, Same H1 H2 → H2 t = some (.tup [.int (k x).1, .int (k x).2]) → Q (.ref t) H2) → sp [x] H1 Q (fun _ _ _ => False)) ∧
  ∀ ys p H2, Same H H2 → H p = none → H2 p = some (.lst ys) → SrtO.Srtd (ltP k) ys → SrtO.Stb (ltP k) ys xs → Q (.ref p) H2
theorem cr_sortKT (F : FnOk X.prog X.w X.K X.mg X.base XNone n f fd ps sp) (hr : Room (n + 2) X.A) (hb : Binds X.K fd ps []) : CallRK X (.builtin "sorted") [Str.ofString "key"] (rSortKT X.K f sp) := by
  intro pins s σ H vs zs us ws Q I r rz h
  obtain ⟨l, xs, k, rfl, rfl, hs, hx, hk, q⟩ := h
  obtain rfl := Vals.ref1 r
  obtain ⟨w1, rfl, ew⟩ := vals1 rz
  obtain rfl : w1 = Value.ref f := ew
  obtain ⟨its, rv, hl, hz⟩ := I.list hs
  have hz' : its.length ≤ sizeLine := by rw [← rv.length]; exact hz
  show wpAny (model X.prog X.w) X.A (call (.builtin "sorted") [.ref l] [(Str.ofString "key", .ref f)]) _ _ _
  refine call_function_entry_kw kind_sorted plain_sorted entry_sorted (ksk_s1 _ _) ?_
  unfold Builtin.«sorted»
  refine wpAny_bind (m := checkCount "sorted" 1 1 _) (wpAny_pure ?_)
  refine wpAny_bind (collect_list hl.isList ?_ hz')
  refine wpAny_bind (wpAny_newList ?_ hz')
  have keep : ∀ b o, s.heap.get? b = some o → ((s.heap.push (seqObj "list" #[] 0)).update s.heap.objs.size (Obj.mapSeq (· ++ its.toArray))).get? b = some o := fun b o q => by
    have hlt : b < s.heap.objs.size := Heap.lt_size q
    rw [Heap.get?_update_ne _ _ _ _ (Nat.ne_of_lt hlt)]
    exact Heap.get?_push_of_some _ q
  have I1 := I.kept (h' := (s.heap.push (seqObj "list" #[] 0)).update s.heap.objs.size (Obj.mapSeq (· ++ its.toArray))) (t' := s.toks) keep
  have fr := I1.fresh
  have I2 := I1.lnew (its := its) (ys := xs) (t' := s.toks) rv hz
  have hoL : (((s.heap.push (seqObj "list" #[] 0)).update s.heap.objs.size (Obj.mapSeq (· ++ its.toArray))).push (seqObj "list" its.toArray 0)).get? ((s.heap.push (seqObj "list" #[] 0)).update s.heap.objs.size (Obj.mapSeq (· ++ its.toArray))).objs.size = some (seqObj "list" its.toArray 0) := Heap.get?_push_size _ rfl
  have hD : ∀ b o, H b = some o → b ≠ ((s.heap.push (seqObj "list" #[] 0)).update s.heap.objs.size (Obj.mapSeq (· ++ its.toArray))).objs.size := fun b o e z => by
    have fr' : H ((s.heap.push (seqObj "list" #[] 0)).update s.heap.objs.size (Obj.mapSeq (· ++ its.toArray))).objs.size = none := fr
    rw [← z, e] at fr'
    cases fr'
  refine wpAny_bind (wpAny_holding (wpAny_call_entry_kw slot_list_sort ⟨_, hoL, rfl⟩ entry_list_sort ?_ (ksk_l1 _ _)))
  rw [ksk_t1]
  refine ksT_tree I2 upd_same hx F hr hb (fun x hm H1 Q' b q' => hk x hm H1 Q' (fun b' o e => ?_) q') fun s' H2 ys I3 b3 e3 h1 h2 => ⟨_, rfl, ?_⟩
  · refine b b' o (hD b' o e) ?_
    show upd _ _ _ b' = _
    rw [upd_ne (hD b' o e)]
    exact e
  · refine wpAny_pure ⟨_, rfl, .ref _, H2, I3, rfl, q ys _ H2 (fun b o e => ?_) fr e3 h1 h2⟩
    refine b3 b o (hD b o e) ?_
    show upd _ _ _ b = _
    rw [upd_ne (hD b o e)]
    exact e
end
end Vs

namespace Vs
open PySem PySem.Spec PyProof.Rows L2
/-! ### stretches as data -/
structure Stc where
  lo : Option Int
  hi : Option Int
def endP : Option Int → PyData
  | none => .none
  | some b => .int b
def stcP (s : Stc) : PyData := .tuple [endP s.lo, endP s.hi]
abbrev stcO (s : Stc) : HO := .tup [hiV s.lo, hiV s.hi]
theorem stc_depth (s : Stc) : (stcP s).depth ≤ 3 := by
  obtain ⟨a, b⟩ := s
  cases a <;> cases b <;> simp [stcP, endP, PyData.depth, PyData.depthAll]
theorem stcs_depth (ss : List Stc) : (PyData.list (ss.map stcP)).depth ≤ 64 := Nat.le_trans (ldepth stc_depth ss) (by decide)
/-- a list of stretches, each a tuple made in the run -/
structure StcL (H : Hp) (l : Addr) (bs : List Addr) (ss : List Stc) : Prop where
  l : H l = some (.lst (bs.map V.ref))
  e : Each (fun b s => H b = some (stcO s)) bs ss
theorem StcL.keep {H H' : Hp} {l bs ss} (h : StcL H l bs ss) (e : Same H H') : StcL H' l bs ss := ⟨e _ _ h.l, h.e.1, fun i b s h1 h2 => e _ _ (h.e.2 i b s h1 h2)⟩
theorem endI {K : PySem.W.Frag} {H : Hp} (o : Option Int) : Im K H (endP o) (hiV o) := by
  cases o with
  | none => exact Im.non_
  | some b => exact Im.int_
theorem stcI {K : PySem.W.Frag} {H : Hp} {a : Addr} {s : Stc} (h : H a = some (stcO s)) : Im K H (stcP s) (.ref a) := Im.tup_ (SqT.of h) (ImL.cons_ (endI _) (ImL.cons_ (endI _) ImL.nil_))
theorem StcL.im {K : PySem.W.Frag} {H : Hp} : ∀ {bs : List Addr} {ss : List Stc}, Each (fun b s => H b = some (stcO s)) bs ss → ImL K H (ss.map stcP) (bs.map V.ref)
  | [], [], _ => ImL.nil_
  | [], s :: ss, h => absurd h.1 (by simp)
  | b :: bs, [], h => absurd h.1 (by simp)
  | b :: bs, s :: ss, h => ImL.cons_ (stcI (h.2 0 b s rfl rfl)) (StcL.im ⟨by have := h.1; simpa using this, fun i b' s' h1 h2 => h.2 (i + 1) b' s' h1 h2⟩)
theorem StcL.ls {K : PySem.W.Frag} {H : Hp} {l bs ss} (h : StcL H l bs ss) : LsI K H l (ss.map stcP) := ⟨_, h.l, StcL.im h.e⟩
theorem StcL.len {H : Hp} {l bs ss} (h : StcL H l bs ss) : bs.length = ss.length := h.e.1

/-! ### what joins them -/
def keyS (s : Stc) : Int × Int := match s.lo with
  | none => (0, 0)
  | some l => (1, l)
abbrev ltS (s t : Stc) : Bool := SrtO.lexB (keyS s) (keyS t)
theorem ltS_swo : SrtO.Swo ltS := by
  refine ⟨fun x y h => ?_, fun x y z h1 h2 => ?_⟩
  · have a := SrtO.lexB_iff.mp h
    refine SrtO.lexB_no.mpr ?_
    omega
  · have a := SrtO.lexB_no.mp h1
    have b := SrtO.lexB_no.mp h2
    refine SrtO.lexB_no.mpr ?_
    omega
/-- a number is beyond an end by more than one -/
def beyB : Option Int → Option Int → Bool
  | some a, some b => decide (a > b + 1)
  | _, _ => false
def gEnd : Option Int → Option Int → Option Int
  | some a, some b => some (if b > a then b else a)
  | _, _ => none
def joinStep (J : List Stc) (s : Stc) : List Stc := match J.getLast? with
  | none => J ++ [s]
  | some t => if beyB s.lo t.hi = true then J ++ [s] else J.dropLast ++ [⟨t.lo, gEnd t.hi s.hi⟩]
/-- one begins no later than the other -/
def befB (s t : Stc) : Bool := match s.lo, t.lo with
  | none, _ => true
  | some _, none => false
  | some a, some b => decide (a ≤ b)
theorem befB_lt (s t : Stc) : befB s t = !ltS t s := by
  obtain ⟨a, x⟩ := s
  obtain ⟨b, y⟩ := t
  unfold befB ltS keyS SrtO.lexB
  cases a with
  | none => cases b <;> simp
  | some a =>
    cases b with
    | none => simp
    | some b =>
      by_cases h : a ≤ b
      · have h2 : ¬ b < a := by omega
        simp [h, h2]
      · have h2 : b < a := by omega
        simp [h, h2]
/-- the place of the first one of those that begin first -/
def firstB (l : List Stc) : Nat → Nat
  | 0 => 0
  | n + 1 => match l[firstB l n]?, l[n]? with
    | some s, some t => if befB s t = true then firstB l n else n
    | _, _ => firstB l n
theorem firstB_lt {l : List Stc} (hl : 0 < l.length) : ∀ n, n ≤ l.length → firstB l n < l.length
  | 0, _ => hl
  | n + 1, h => by
    have ih := firstB_lt hl n (by omega)
    unfold firstB
    rw [List.getElem?_eq_getElem ih, List.getElem?_eq_getElem (show n < l.length by omega)]
    show (if _ then _ else _) < _
    split
    · exact ih
    · omega
theorem firstB_is {l : List Stc} (hl : 0 < l.length) : ∀ n, n ≤ l.length → ∀ s, l[firstB l n]? = some s → (∀ k t, k < n → l[k]? = some t → ltS t s = false) ∧ ∀ k t, k < firstB l n → l[k]? = some t → ltS s t = true
  | 0, _, s, h => ⟨fun k t hk _ => absurd hk (by omega), fun k t hk _ => absurd hk (by show ¬ k < 0; omega)⟩
  | n + 1, h, s, hs => by
    have lt := firstB_lt hl n (by omega)
    have hn : n < l.length := by omega
    have e1 : l[firstB l n]? = some l[firstB l n] := List.getElem?_eq_getElem lt
    have e2 : l[n]? = some l[n] := List.getElem?_eq_getElem hn
    obtain ⟨i1, i2⟩ := firstB_is hl n (by omega) _ e1
    have ef : firstB l (n + 1) = if befB l[firstB l n] l[n] = true then firstB l n else n := by
      rw [firstB, e1, e2]
    rw [ef] at hs ⊢
    have O := ltS_swo
    by_cases c : befB l[firstB l n] l[n] = true
    · rw [if_pos c] at hs ⊢
      have es : s = l[firstB l n] := by rw [e1] at hs; exact (Option.some.inj hs).symm
      rw [es]
      have c2 : ltS l[n] l[firstB l n] = false := by
        rw [befB_lt] at c
        simpa using c
      refine ⟨fun k t hk ht => ?_, i2⟩
      rcases (by omega : k < n ∨ k = n) with hk | hk
      · exact i1 k t hk ht
      · subst hk
        rw [e2] at ht
        cases ht
        exact c2
    · rw [if_neg c] at hs ⊢
      have es : s = l[n] := by rw [e2] at hs; exact (Option.some.inj hs).symm
      rw [es]
      have c2 : ltS l[n] l[firstB l n] = true := by
        rw [befB_lt] at c
        simpa using c
      have lo : ∀ k t, k < n → l[k]? = some t → ltS l[n] t = true := fun k t hk ht => O.ltle c2 (i1 k t hk ht)
      refine ⟨fun k t hk ht => ?_, lo⟩
      rcases (by omega : k < n ∨ k = n) with hk | hk
      · exact O.asym _ _ (lo k t hk ht)
      · subst hk
        rw [e2] at ht
        cases ht
        exact O.refl _
/-- the stretches by their begins -/
def selS : Nat → List Stc → List Stc
  | 0, _ => []
  | n + 1, l => match l[firstB l l.length]? with
    | none => []
    | some s => s :: selS n (l.eraseIdx (firstB l l.length))
theorem selS_is : ∀ (n : Nat) (l : List Stc), l.length = n → SrtO.Srtd ltS (selS n l) ∧ SrtO.Stb ltS (selS n l) l
  | 0, l, h => by
    have e : l = [] := List.eq_nil_of_length_eq_zero h
    subst e
    exact ⟨List.Pairwise.nil, SrtO.Stb.refl _⟩
  | n + 1, l, h => by
    have hl : 0 < l.length := by omega
    have lt := firstB_lt hl l.length (Nat.le_refl _)
    obtain ⟨i1, i2⟩ := firstB_is hl l.length (Nat.le_refl _) _ (List.getElem?_eq_getElem lt)
    unfold selS
    rw [List.getElem?_eq_getElem lt]
    generalize hf : firstB l l.length = f at *
    have hr : (l.eraseIdx f).length = n := by rw [List.length_eraseIdx, if_pos lt]; omega
    obtain ⟨j1, j2⟩ := selS_is n (l.eraseIdx f) hr
    have el : l = l.take f ++ [l[f]] ++ l.drop (f + 1) := by simp
    have ee : l.eraseIdx f = l.take f ++ l.drop (f + 1) := List.eraseIdx_eq_take_drop_succ l f
    show SrtO.Srtd ltS (l[f] :: selS n (l.eraseIdx f)) ∧ SrtO.Stb ltS (l[f] :: selS n (l.eraseIdx f)) l
    refine ⟨List.pairwise_cons.mpr ⟨fun y hy => ?_, j1⟩, ?_⟩
    · have hm := j2.perm.mem_iff.mp hy
      obtain ⟨k, hk⟩ := List.getElem?_of_mem (List.mem_of_mem_eraseIdx hm)
      exact i1 k y (List.getElem?_eq_some_iff.mp hk).1 hk
    · have sw : SrtO.Stb ltS ([l[f]] ++ l.take f) (l.take f ++ [l[f]]) := SrtO.Stb.swap ltS_swo fun a ha b hb => by
        rw [List.mem_singleton.mp ha]
        obtain ⟨k, hk⟩ := List.getElem?_of_mem hb
        have hkf : k < f := by
          have q := (List.getElem?_eq_some_iff.mp hk).1
          rw [List.length_take] at q
          omega
        rw [List.getElem?_take_of_lt hkf] at hk
        exact i2 k b hkf hk
      have q1 : SrtO.Stb ltS ([l[f]] ++ selS n (l.eraseIdx f)) ([l[f]] ++ (l.take f ++ l.drop (f + 1))) := by
        rw [← ee]
        exact (SrtO.Stb.refl _).app j2
      have q2 : SrtO.Stb ltS ([l[f]] ++ l.take f ++ l.drop (f + 1)) (l.take f ++ [l[f]] ++ l.drop (f + 1)) := sw.app (SrtO.Stb.refl _)
      rw [List.append_assoc] at q2
      have q3 := q1.trans q2
      rw [← el] at q3
      exact q3
theorem stb_flip {α : Type} {lt : α → α → Bool} {l m n : List α} (a : SrtO.Stb lt l n) (b : SrtO.Stb lt m n) : SrtO.Stb lt l m := ⟨a.perm.trans b.perm.symm, fun x => (a.cls x).trans (b.cls x).symm⟩
theorem sorted_sel {l m : List Stc} (h1 : SrtO.Srtd ltS m) (h2 : SrtO.Stb ltS m l) : m = selS l.length l :=
  SrtO.stb_uniq ltS_swo h1 (selS_is _ l rfl).1 (stb_flip h2 (selS_is _ l rfl).2)
theorem selS_sorted {l : List Stc} (h : SrtO.Srtd ltS l) : selS l.length l = l := (sorted_sel h (SrtO.Stb.refl _)).symm
def joinS (l : List Stc) : List Stc := (selS l.length l).foldl joinStep []

/-! ### the numbers of stretches -/
def isIn (s : Stc) (x : Int) : Bool := (match s.lo with | none => true | some a => decide (a ≤ x)) && (match s.hi with | none => true | some b => decide (x ≤ b))
theorem isIn_iff {s : Stc} {x : Int} : isIn s x = true ↔ (∀ a, s.lo = some a → a ≤ x) ∧ ∀ b, s.hi = some b → x ≤ b := by
  obtain ⟨a, b⟩ := s
  unfold isIn
  cases a <;> cases b <;> simp
def inS (l : List Stc) (x : Int) : Bool := l.any fun s => isIn s x
theorem inS_iff {l : List Stc} {x : Int} : inS l x = true ↔ ∃ s ∈ l, isIn s x = true := by
  unfold inS
  rw [List.any_eq_true]
/-- no later than -/
def leO (a b : Option Int) : Prop := ∀ y, a = some y → ∃ z, b = some z ∧ y ≤ z
theorem leO_of {s t : Stc} (h : ltS t s = false) : leO s.lo t.lo := by
  intro y hy
  have q := SrtO.lexB_no.mp h
  unfold keyS at q
  rw [hy] at q
  cases ht : t.lo with
  | none =>
    rw [ht] at q
    simp at q
  | some z =>
    rw [ht] at q
    simp at q
    exact ⟨z, rfl, by omega⟩
theorem of_leO {s t : Stc} (h : leO s.lo t.lo) : ltS t s = false := by
  refine SrtO.lexB_no.mpr ?_
  unfold keyS
  cases hs : s.lo with
  | none => cases ht : t.lo <;> simp
  | some y =>
    obtain ⟨z, hz, le⟩ := h y hs
    rw [hz]
    simp
    omega
theorem leO_trans {a b c : Option Int} (h1 : leO a b) (h2 : leO b c) : leO a c := fun y hy => by
  obtain ⟨z, hz, l1⟩ := h1 y hy
  obtain ⟨u, hu, l2⟩ := h2 z hz
  exact ⟨u, hu, by omega⟩
theorem leO_refl (a : Option Int) : leO a a := fun y hy => ⟨y, hy, Int.le_refl _⟩
/-- what is joined so far: ascending, each beyond the one before; the last begins before what comes -/
structure Jd (J : List Stc) : Prop where
  srt : SrtO.Srtd ltS J
  gap : ∀ (i : Nat) s t, J[i]? = some s → J[i + 1]? = some t → beyB t.lo s.hi = true
theorem snoc_or {α : Type} (J : List α) : J = [] ∨ ∃ I t, J = I ++ [t] := by
  cases J with
  | nil => exact .inl rfl
  | cons x l => exact .inr (SrtO.snoc_of (by simp))
theorem joinStep_nil (s : Stc) : joinStep [] s = [s] := rfl
theorem joinStep_app (I : List Stc) (t s : Stc) : joinStep (I ++ [t]) s = if beyB s.lo t.hi = true then I ++ [t] ++ [s] else I ++ [⟨t.lo, gEnd t.hi s.hi⟩] := by
  have e1 : (I ++ [t]).getLast? = some t := by simp
  have e2 : (I ++ [t]).dropLast = I := by simp
  unfold joinStep
  rw [e1, e2]
theorem Jd.step {J : List Stc} {s : Stc} (h : Jd J) (hs : ∀ t ∈ J, leO t.lo s.lo) : Jd (joinStep J s) ∧ (∀ t ∈ joinStep J s, leO t.lo s.lo) ∧ ∀ x, inS (joinStep J s) x = (inS J x || isIn s x) := by
  rcases snoc_or J with e | ⟨I, t, e⟩
  · subst e
    rw [joinStep_nil]
    refine ⟨⟨List.pairwise_singleton _ _, fun i a b h1 h2 => ?_⟩, fun t ht => ?_, fun x => ?_⟩
    · have q := (List.getElem?_eq_some_iff.mp h2).1
      simp at q
    · rw [List.mem_singleton.mp ht]
      exact leO_refl _
    · simp [inS]
  · subst e
    rw [joinStep_app]
    have ht : leO t.lo s.lo := hs t (by simp)
    by_cases c : beyB s.lo t.hi = true
    · rw [if_pos c]
      refine ⟨⟨SrtO.srtd_snoc h.srt fun y hy => of_leO (hs y hy), fun i a b h1 h2 => ?_⟩, fun y hy => ?_, fun x => ?_⟩
      · by_cases hi : i + 1 < (I ++ [t]).length
        · rw [List.getElem?_append_left (by omega)] at h1
          rw [List.getElem?_append_left hi] at h2
          exact h.gap i a b h1 h2
        · have hlt := (List.getElem?_eq_some_iff.mp h2).1
          simp at hlt hi
          have ei : i = I.length := by omega
          subst ei
          have e1 : a = t := by
            rw [List.getElem?_append_left (by simp)] at h1
            simpa using h1.symm
          have e2 : b = s := by
            rw [List.getElem?_append_right (by simp)] at h2
            simpa using h2.symm
          rw [e1, e2]
          exact c
      · rcases List.mem_append.mp hy with m | m
        · exact hs y m
        · rw [List.mem_singleton.mp m]
          exact leO_refl _
      · simp [inS, Bool.or_assoc]
    · rw [if_neg c]
      have srtI : SrtO.Srtd ltS I := (SrtO.srtd_app.mp h.srt).1
      have lastI : ∀ y ∈ I, ltS t y = false := fun y hy => (SrtO.srtd_app.mp h.srt).2.2 y hy t (by simp)
      refine ⟨⟨SrtO.srtd_snoc srtI fun y hy => lastI y hy, fun i a b h1 h2 => ?_⟩, fun y hy => ?_, fun x => ?_⟩
      · by_cases hi : i + 1 < I.length
        · rw [List.getElem?_append_left (by omega)] at h1
          rw [List.getElem?_append_left hi] at h2
          exact h.gap i a b (by rw [List.getElem?_append_left (by omega)]; exact h1) (by rw [List.getElem?_append_left hi]; exact h2)
        · have hlt := (List.getElem?_eq_some_iff.mp h2).1
          simp at hlt
          have ei : i + 1 = I.length := by omega
          have h1' := h1
          rw [List.getElem?_append_left (by omega)] at h1'
          have e2 : b = ⟨t.lo, gEnd t.hi s.hi⟩ := by
            rw [List.getElem?_append_right (by omega), ei] at h2
            simpa using h2.symm
          rw [e2]
          exact h.gap i a t (by rw [List.getElem?_append_left (by omega)]; exact h1') (by rw [List.getElem?_append_right (by omega), ei]; simp)
      · rcases List.mem_append.mp hy with m | m
        · exact hs y (List.mem_append_left _ m)
        · rw [List.mem_singleton.mp m]
          exact ht
      · have core : isIn ⟨t.lo, gEnd t.hi s.hi⟩ x = (isIn t x || isIn s x) := by
          rw [Bool.eq_iff_iff, Bool.or_eq_true, isIn_iff, isIn_iff, isIn_iff]
          obtain ⟨tl, th⟩ := t
          obtain ⟨sl, sh⟩ := s
          simp only at ht c ⊢
          constructor
          · rintro ⟨h1, h2⟩
            cases th with
            | none => exact .inl ⟨h1, fun b hb => by cases hb⟩
            | some b =>
              by_cases xb : x ≤ b
              · exact .inl ⟨h1, fun b' hb => by cases hb; exact xb⟩
              · refine .inr ⟨fun a ha => ?_, fun b' hb => ?_⟩
                · subst ha
                  simp [beyB] at c
                  omega
                · subst hb
                  have := h2 (if b' > b then b' else b) rfl
                  split at this <;> omega
          · rintro (⟨h1, h2⟩ | ⟨h1, h2⟩)
            · refine ⟨h1, fun b hb => ?_⟩
              cases th with
              | none => simp [gEnd] at hb
              | some b1 =>
                cases sh with
                | none => simp [gEnd] at hb
                | some b2 =>
                  have q := h2 b1 rfl
                  simp only [gEnd, Option.some.injEq] at hb
                  split at hb <;> omega
            · refine ⟨fun a ha => ?_, fun b hb => ?_⟩
              · obtain ⟨z, hz, le⟩ := ht a ha
                have := h1 z hz
                omega
              · cases th with
                | none => simp [gEnd] at hb
                | some b1 =>
                  cases sh with
                  | none => simp [gEnd] at hb
                  | some b2 =>
                    have q := h2 b2 rfl
                    simp only [gEnd, Option.some.injEq] at hb
                    split at hb <;> omega
        unfold inS
        rw [List.any_append, List.any_append]
        simp only [List.any_cons, List.any_nil, Bool.or_false]
        rw [core, Bool.or_assoc]
theorem Jd.fold : ∀ {l : List Stc} {J : List Stc}, SrtO.Srtd ltS l → Jd J → (∀ t ∈ J, ∀ s ∈ l, leO t.lo s.lo) → Jd (l.foldl joinStep J) ∧ ∀ x, inS (l.foldl joinStep J) x = (inS J x || inS l x)
  | [], J, _, h, _ => ⟨h, fun x => by simp [inS]⟩
  | s :: l, J, hl, h, ho => by
    obtain ⟨a1, a2, a3⟩ := h.step fun t ht => ho t ht s (by simp)
    have hsl := List.pairwise_cons.mp hl
    obtain ⟨b1, b2⟩ := Jd.fold hsl.2 a1 fun t ht u hu => leO_trans (a2 t ht) (leO_of (hsl.1 u hu))
    refine ⟨b1, fun x => ?_⟩
    show inS (l.foldl joinStep (joinStep J s)) x = _
    rw [b2, a3]
    show _ = (inS J x || inS (s :: l) x)
    simp only [inS, List.any_cons, Bool.or_assoc]
theorem Jd.nil : Jd [] := ⟨List.Pairwise.nil, fun i s t h => by simp at h⟩
theorem joinS_jd (l : List Stc) : Jd (joinS l) := (Jd.fold (selS_is _ l rfl).1 Jd.nil fun t ht => by simp at ht).1
theorem any_perm {l m : List Stc} (h : l.Perm m) (x : Int) : inS l x = inS m x := by
  rw [Bool.eq_iff_iff, inS_iff, inS_iff]
  exact ⟨fun ⟨s, a, b⟩ => ⟨s, h.mem_iff.mp a, b⟩, fun ⟨s, a, b⟩ => ⟨s, h.mem_iff.mpr a, b⟩⟩
theorem joinS_in (l : List Stc) (x : Int) : inS (joinS l) x = inS l x := by
  have q := (Jd.fold (selS_is _ l rfl).1 Jd.nil fun t ht => by simp at ht).2 x
  unfold joinS
  rw [q]
  show (false || _) = _
  rw [Bool.false_or]
  exact any_perm (selS_is _ l rfl).2.perm x
theorem fold_jd : ∀ {l : List Stc} {J : List Stc}, Jd (J ++ l) → l.foldl joinStep J = J ++ l
  | [], J, _ => by simp
  | s :: l, J, h => by
    have e : joinStep J s = J ++ [s] := by
      rcases snoc_or J with e | ⟨I, t, e⟩
      · subst e
        exact joinStep_nil s
      · subst e
        rw [joinStep_app, if_pos (h.gap I.length t s (by simp) (by simp))]
    show l.foldl joinStep (joinStep J s) = _
    rw [e, fold_jd (J := J ++ [s]) (by rw [List.append_assoc]; exact h), List.append_assoc]
    rfl
theorem joinS_twice (l : List Stc) : joinS (joinS l) = joinS l := by
  have j := joinS_jd l
  generalize joinS l = J at *
  unfold joinS
  rw [selS_sorted j.srt]
  exact fold_jd (J := []) j
theorem joinStep_len (J : List Stc) (s : Stc) : (joinStep J s).length ≤ J.length + 1 := by
  rcases snoc_or J with e | ⟨I, t, e⟩
  · subst e
    rw [joinStep_nil]
    simp
  · subst e
    rw [joinStep_app]
    split <;> simp
theorem joinFold_len : ∀ (l J : List Stc), (l.foldl joinStep J).length ≤ J.length + l.length
  | [], J => by simp
  | s :: l, J => by
    have := joinFold_len l (joinStep J s)
    have := joinStep_len J s
    show (l.foldl joinStep (joinStep J s)).length ≤ _
    rw [List.length_cons]
    omega
theorem selS_len (l : List Stc) : (selS l.length l).length = l.length := (selS_is _ l rfl).2.len
theorem joinS_len (l : List Stc) : (joinS l).length ≤ l.length := by
  have := joinFold_len (selS l.length l) []
  rw [selS_len] at this
  simpa [joinS] using this
end Vs
namespace Vs
open PySem PySem.Spec PyProof.Rows L2
theorem hvN {o : Option Int} : decide (hiV o = V.non) = o.isNone := by
  cases o with
  | none => exact decide_eq_true rfl
  | some b => exact decide_eq_false (by intro z; cases z)
theorem hvNn {o : Option Int} : (!decide (hiV o = V.non)) = o.isSome := by
  rw [hvN]
  cases o <;> rfl
theorem refAt {bs : List Addr} {i : Nat} {v : V} (h : (bs.map V.ref)[i]? = some v) : ∃ b, bs[i]? = some b ∧ v = .ref b := by
  rw [List.getElem?_map] at h
  cases e : bs[i]? with
  | none => rw [e] at h; cases h
  | some b => rw [e] at h; exact ⟨b, rfl, (Option.some.inj h).symm⟩
theorem isIn_no {a x : Int} {h : Option Int} (c : ¬ a ≤ x) : isIn ⟨some a, h⟩ x = false := by
  show (decide (a ≤ x) && _) = false
  rw [decide_eq_false c]
  rfl
theorem isIn_yes {a x : Int} {h : Option Int} (c : a ≤ x) : isIn ⟨some a, h⟩ x = isIn ⟨none, h⟩ x := by
  show (decide (a ≤ x) && _) = _
  rw [decide_eq_true c]
  rfl
theorem any_bools {f : Stc → Bool} : ∀ ss : List Stc, ((ss.map f).any fun b => b) = ss.any f
  | [] => rfl
  | s :: ss => by
    rw [List.map_cons, List.any_cons, List.any_cons, any_bools ss]
end Vs
namespace Vs
open PySem PySem.Spec PyProof.Rows L2
/-- the stretch that a value is -/
def endV : V → Option Int
  | .int i => some i
  | _ => none
def stcOf (H : Hp) : V → Stc
  | .ref a => match H a with
    | some (.tup [x, y]) => ⟨endV x, endV y⟩
    | _ => ⟨none, none⟩
  | _ => ⟨none, none⟩
theorem endV_hiV (o : Option Int) : endV (hiV o) = o := by cases o <;> rfl
theorem stcOf_is {H : Hp} {b : Addr} {s : Stc} (h : H b = some (stcO s)) : stcOf H (.ref b) = s := by
  have e : stcOf H (.ref b) = ⟨endV (hiV s.lo), endV (hiV s.hi)⟩ := by
    show (match H b with
      | some (.tup [x, y]) => (⟨endV x, endV y⟩ : Stc)
      | _ => ⟨none, none⟩) = _
    rw [h]
  rw [e]
  rw [endV_hiV, endV_hiV]
theorem stcOf_all {H : Hp} {bs : List Addr} {ss : List Stc} (h : Each (fun b s => H b = some (stcO s)) bs ss) : (bs.map V.ref).map (stcOf H) = ss := by
  refine List.ext_getElem (by rw [List.length_map, List.length_map]; exact h.1) fun i h1 h2 => ?_
  rw [List.getElem_map, List.getElem_map]
  refine stcOf_is (h.2 i _ _ (List.getElem?_eq_getElem ?_) (List.getElem?_eq_getElem h2))
  rw [List.length_map, List.length_map] at h1
  exact h1
/-- one more, or the last one changed -/
theorem StcL.snoc {H : Hp} {l b : Addr} {bs : List Addr} {ss : List Stc} {s : Stc} (h : StcL H l bs ss) (hb : H b = some (stcO s)) : StcL (upd H l (.lst (bs.map V.ref ++ [V.ref b]))) l (bs ++ [b]) (ss ++ [s]) := by
  have ne : ∀ c t, H c = some (stcO t) → c ≠ l := fun c t e z => by rw [z, h.l] at e; cases e
  refine ⟨by rw [upd_same, List.map_append]; rfl, by rw [List.length_append, List.length_append, h.e.1]; rfl, fun i c t h1 h2 => ?_⟩
  by_cases hi : i < bs.length
  · rw [List.getElem?_append_left hi] at h1
    rw [List.getElem?_append_left (by rw [← h.e.1]; exact hi)] at h2
    have q := h.e.2 i c t h1 h2
    show upd H l _ c = _
    rw [upd_ne (ne _ _ q)]
    exact q
  · have hlt := (List.getElem?_eq_some_iff.mp h1).1
    rw [List.length_append, List.length_singleton] at hlt
    have ei : i = bs.length := by omega
    subst ei
    rw [List.getElem?_append_right (Nat.le_refl _)] at h1
    rw [List.getElem?_append_right (by rw [← h.e.1]; exact Nat.le_refl _), h.e.1] at h2
    simp at h1 h2
    subst h1
    subst h2
    show upd H l _ b = _
    rw [upd_ne (ne _ _ hb)]
    exact hb
theorem StcL.last {H : Hp} {l b : Addr} {bs : List Addr} {ss : List Stc} {s t : Stc} (h : StcL H l bs (ss ++ [t])) (hb : H b = some (stcO s)) : StcL (upd H l (.lst ((bs.map V.ref).set ss.length (V.ref b)))) l (bs.set ss.length b) (ss ++ [s]) := by
  have ne : ∀ c t, H c = some (stcO t) → c ≠ l := fun c t e z => by rw [z, h.l] at e; cases e
  have hlen : bs.length = ss.length + 1 := by rw [h.e.1]; simp
  refine ⟨by rw [upd_same, List.map_set], by rw [List.length_set, hlen]; simp, fun i c u h1 h2 => ?_⟩
  by_cases hi : i = ss.length
  · subst hi
    rw [List.getElem?_set_self (by omega)] at h1
    rw [List.getElem?_append_right (Nat.le_refl _)] at h2
    simp at h1 h2
    subst h1
    subst h2
    show upd H l _ b = _
    rw [upd_ne (ne _ _ hb)]
    exact hb
  · rw [List.getElem?_set_ne (Ne.symm hi)] at h1
    have hlt := (List.getElem?_eq_some_iff.mp h2).1
    simp at hlt
    rw [List.getElem?_append_left (by omega)] at h2
    have q := h.e.2 i c u h1 (by rw [List.getElem?_append_left (by omega)]; exact h2)
    show upd H l _ c = _
    rw [upd_ne (ne _ _ q)]
    exact q
end Vs
namespace Vs
open PySem PySem.Spec PyProof.Rows L2
theorem ixLast {n m : Nat} (h : n = m + 1) : ixN n (-1) = some m := by
  subst h
  unfold ixN
  rw [if_neg (by omega), if_pos (by omega)]
  congr 1
  omega
theorem StcL.lastAt {H : Hp} {l : Addr} {bs : List Addr} {I : List Stc} {t : Stc} (h : StcL H l bs (I ++ [t])) : ∃ c, atI (bs.map V.ref) (-1) = some (.ref c) ∧ H c = some (stcO t) ∧ bs.length = I.length + 1 := by
  have hlen : bs.length = I.length + 1 := by rw [h.e.1]; simp
  have hi : I.length < bs.length := by omega
  refine ⟨bs[I.length], ?_, h.e.2 I.length _ _ (List.getElem?_eq_getElem hi) (by simp), hlen⟩
  unfold atI
  rw [ixLast (m := I.length) (by rw [List.length_map]; exact hlen)]
  show (bs.map V.ref)[I.length]? = _
  rw [List.getElem?_map, List.getElem?_eq_getElem hi]
  rfl
theorem StcL.ne {H : Hp} {l b : Addr} {bs : List Addr} {ss : List Stc} {xs : List V} (h : StcL H l bs ss) (e : H b = some (.tup xs)) : b ≠ l := fun z => by rw [z, h.l] at e; cases e
end Vs
namespace Vs
open PySem PySem.Spec PyProof.Rows L2
theorem StcL.but {H H' : Hp} {l o : Addr} {bs : List Addr} {ss : List Stc} {xs : List V} (h : StcL H l bs ss) (e : But o H H') (ho : H o = some (.lst xs)) (n : l ≠ o) : StcL H' l bs ss :=
  ⟨e _ _ n h.l, h.e.1, fun i b s h1 h2 => e _ _ (fun z => by have q := h.e.2 i b s h1 h2; rw [z, ho] at q; cases q) (h.e.2 i b s h1 h2)⟩
theorem StcL.pop {H H' : Hp} {l : Addr} {bs : List Addr} {ss : List Stc} {j : Nat} (h : StcL H l bs ss) (e : But l H H') (e2 : H' l = some (.lst ((bs.map V.ref).eraseIdx j))) : StcL H' l (bs.eraseIdx j) (ss.eraseIdx j) := by
  refine ⟨by rw [e2, List.eraseIdx_eq_take_drop_succ, List.eraseIdx_eq_take_drop_succ, List.map_append, List.map_take, List.map_drop], by rw [List.length_eraseIdx, List.length_eraseIdx, h.e.1], fun i b s h1 h2 => ?_⟩
  rw [List.getElem?_eraseIdx] at h1 h2
  have go : ∀ m, bs[m]? = some b → ss[m]? = some s → H' b = some (stcO s) := fun m q1 q2 => by
    have q := h.e.2 m b s q1 q2
    exact e _ _ (h.ne q) q
  split at h1
  · rename_i c
    rw [if_pos c] at h2
    exact go _ h1 h2
  · rename_i c
    rw [if_neg c] at h2
    exact go _ h1 h2
theorem seqIx {j n : Nat} (h : j < n) : seqIndex? (j : Int) n = some j := by
  unfold seqIndex?
  have h1 : ¬ ((j : Int) < 0) := by omega
  have h2 : decide ((0 : Int) ≤ (j : Int)) = true := decide_eq_true (by omega)
  have h3 : decide ((j : Int) < (n : Int)) = true := decide_eq_true (by omega)
  simp only [h1, if_false, h2, h3, Bool.and_self, if_true]
  rfl
theorem selS_cons {L : List Stc} {s : Stc} {m : Nat} (hl : L.length = m + 1) (hs : L[firstB L L.length]? = some s) : selS L.length L = s :: selS m (L.eraseIdx (firstB L L.length)) := by
  have e : selS (m + 1) L = match L[firstB L L.length]? with
    | none => []
    | some s => s :: selS m (L.eraseIdx (firstB L L.length)) := rfl
  rw [hs] at e
  exact (congrArg (fun z => selS z L) hl).trans e
theorem firstB_step {l : List Stc} {n : Nat} {s t : Stc} (hs : l[firstB l n]? = some s) (ht : l[n]? = some t) : firstB l (n + 1) = if befB s t = true then firstB l n else n := by
  rw [firstB, hs, ht]
theorem eq0_no {n : Nat} (h : n ≠ 0) : ¬ decide (V.int (n : Int) = V.int 0) = true := by
  intro c
  have q := of_decide_eq_true c
  injection q with q
  omega
theorem iteNo {c : Bool} {P Q : Prop} (h : c = false) (q : Q) : if c = true then P else Q := by subst h; exact q
theorem iteYs {c : Bool} {P Q : Prop} (h : c = true) (q : P) : if c = true then P else Q := by subst h; exact q
end Vs

set_option maxHeartbeats 1000000
namespace Cb
open PySem PySem.Spec PyProof.Rows
/-! ### facts of the type itertools.combinations -/
theorem own_ : Manifest.owners.lookup (String.ofList ['s', 'n', 'o', 'i', 't', 'a', 'n', 'i', 'b', 'm', 'o', 'c', '.', 's', 'l', 'o', 'o', 't', 'r', 'e', 't', 'i'].reverse) = some Manifest.sig_itertools_combinations := by kernel_rfl
theorem sl_next : Slot "itertools.combinations" "__next__" "itertools.combinations.__next__" :=
  .of (owner := "itertools.combinations") (n := "__next__") (by rw [typeLookup_type, builtinLookup_eq_fast]; kernel_rfl) (by decide +kernel) (by decide +kernel) (by decide +kernel)
    (by first | exact .inl (by decide +kernel) | exact .inr (by decide +kernel)) (by rw [isSubtype_type]; kernel_rfl)
theorem en_next : entryFor table "itertools.combinations.__next__" = some Builtin.«itertools.combinations.__next__» := entryFor_of_tree (by kernel_rfl)
theorem ar_next (a : Value) : argsOk "itertools.combinations.__next__" ⟨[a], []⟩ := by
  unfold argsOk
  rw [signature?_of (id := "itertools.combinations.__next__") (n := ['_', '_', 't', 'x', 'e', 'n', '_', '_']) (o := ['s', 'n', 'o', 'i', 't', 'a', 'n', 'i', 'b', 'm', 'o', 'c', '.', 's', 'l', 'o', 'o', 't', 'r', 'e', 't', 'i']) (by kernel_rfl) own_]
  kernel_rfl
theorem sl_iter : Slot "itertools.combinations" "__iter__" "itertools.combinations.__iter__" :=
  .of (owner := "itertools.combinations") (n := "__iter__") (by rw [typeLookup_type, builtinLookup_eq_fast]; kernel_rfl) (by decide +kernel) (by decide +kernel) (by decide +kernel)
    (by first | exact .inl (by decide +kernel) | exact .inr (by decide +kernel)) (by rw [isSubtype_type]; kernel_rfl)
theorem ar_iter (a : Value) : argsOk "itertools.combinations.__iter__" ⟨[a], []⟩ := by
  unfold argsOk
  rw [signature?_of (id := "itertools.combinations.__iter__") (n := ['_', '_', 'r', 'e', 't', 'i', '_', '_']) (o := ['s', 'n', 'o', 'i', 't', 'a', 'n', 'i', 'b', 'm', 'o', 'c', '.', 's', 'l', 'o', 'o', 't', 'r', 'e', 't', 'i']) (by kernel_rfl) own_]
  kernel_rfl
theorem en_iter : entryFor table "itertools.combinations.__iter__" = some Builtin.«dict_keyiterator.__iter__» :=
  entryFor_alias (id' := "dict_keyiterator.__iter__") (by kernel_rfl) (by first | rfl | decide +kernel | (unfold String.splitOn; simp +decide [String.splitOnAux])) (by decide +kernel) (by kernel_rfl)
theorem sl_init : Slot "itertools.combinations" "__init__" "object.__init__" :=
  .of (owner := "object") (n := "__init__") (by rw [typeLookup_type, builtinLookup_eq_fast]; kernel_rfl) (by decide +kernel) (by decide +kernel) (by decide +kernel)
    (by first | exact .inl (by decide +kernel) | exact .inr (by decide +kernel)) (by rw [isSubtype_type]; kernel_rfl)
theorem mro_ : mroOf (.type "itertools.combinations") = pure [.type "itertools.combinations", .type "object"] := by rw [mroOf_type]; kernel_rfl
theorem new_ : typeLookup (.type "itertools.combinations") "__new__" = pure (some (.builtin "itertools.combinations.__new__")) := by rw [typeLookup_type, builtinLookup_eq_fast]; kernel_rfl
theorem sub_ : isSubtype (.type "itertools.combinations") (.type "itertools.combinations") = pure true := by rw [isSubtype_type]; kernel_rfl
theorem called_ : TypeCalled "itertools.combinations" "itertools.combinations.__new__" "object.__init__" :=
  ⟨by decide +kernel, by decide +kernel, ⟨_, _, mro_⟩, madeBy_type mro_ new_ (by decide +kernel), by decide +kernel, sub_, sl_init⟩
theorem tc_ (a b : Value) : checkTypeCall "itertools.combinations" ⟨[a, b], []⟩ = pure () := by kernel_rfl
theorem nc_ (a b : Value) : checkBuiltinCall "itertools.combinations.__new__" ⟨[.type "itertools.combinations", a, b], []⟩ = pure () := by kernel_rfl
theorem en_new : entryFor table "itertools.combinations.__new__" = some Builtin.«itertools.combinations.__new__» := entryFor_of_tree (by kernel_rfl)
theorem nolen_ : typeLookup (.type "itertools.combinations") "__len__" = pure none := by rw [typeLookup_type, builtinLookup_eq_fast]; kernel_rfl
theorem nohint_ : typeLookup (.type "itertools.combinations") "__length_hint__" = pure none := by rw [typeLookup_type, builtinLookup_eq_fast]; kernel_rfl
theorem cls_ (x y : Value) : Builtin.Itertools.itClassAndRest "combinations" ⟨[.type "itertools.combinations", x, y], []⟩ = pure (.type "itertools.combinations", [x, y]) := by
  have e : ("itertools." ++ "combinations" : String) = "itertools.combinations" := by decide
  unfold Builtin.Itertools.itClassAndRest
  simp only [e, isType, sub_, pure_bind, Bool.not_true, Bool.false_eq_true, if_false]
theorem bind_ (x y : Value) : Builtin.Itertools.itBindNamed "combinations" ["iterable", "r"] 2 2 [x, y] [] = pure [some x, some y] := by
  first | rfl | kernel_rfl
theorem hasno_ : typeHasDict (.type "itertools.combinations") = false := by first | decide +kernel | kernel_rfl
end Cb

namespace Cb
open PySem PySem.Spec PyProof.Rows L2 Vs
/-- which choice comes next: the last place that can go on goes on, those behind it follow it -/
def cGo (n : Nat) (l : List Nat) : Option (List Nat) := ((List.range l.length).reverse.find? fun i => l.getD i 0 != i + n - l.length).map fun i => l.take i ++ (List.range (l.length - i)).map fun j => l.getD i 0 + 1 + j
/-- the object: its pool, what is under way, the last one handed out, the places -/
abbrev cObj (T : Addr) (st : Int) (lv : Value) (idx : List Nat) : Obj := { cls := .type "itertools.combinations", dict := none, data := .fields ([Value.ref T, .int st 0, lv] ++ idx.map fun (i : Nat) => Value.int (i : Int) 0).toArray, slots := #[] }
section
variable {prog : Program} {w : World} {A : Around} {E : Value → Shared → Prop} {s : Shared}
theorem numbers_at {m T : Addr} {st : Int} {lv : Value} {idx : List Nat} {Q : List Nat → Shared → Prop} (hm : s.heap.get? m = some (cObj T st lv idx)) (h : Q idx s) : wpAny (model prog w) A (Builtin.Itertools.itNumbersFrom (.ref m) 3) Q E s := by
  unfold Builtin.Itertools.itNumbersFrom
  refine wpAny_bind (wpAny_load hm ?_)
  have key : ∀ r, r = idx → Q r s := fun r e => e ▸ h
  refine wpAny_pure (key _ ?_)
  rw [List.toList_toArray]
  show (List.map _ (idx.map fun (i : Nat) => Value.int (i : Int) 0)) = idx
  rw [List.map_map]
  conv => rhs; rw [← List.map_id idx]
  refine List.map_congr_left fun i _ => ?_
  show ((i : Int)).toNat = i
  omega
theorem intf_at {m T : Addr} {st : Int} {lv : Value} {idx : List Nat} {Q : Int → Shared → Prop} (hm : s.heap.get? m = some (cObj T st lv idx)) (h : Q st s) : wpAny (model prog w) A (Builtin.Itertools.itIntField (.ref m) 1) Q E s := by
  unfold Builtin.Itertools.itIntField
  refine wpAny_bind (wpAny_field hm rfl (x := .int st 0) rfl ?_)
  exact wpAny_pure h
/-- what is handed out: a new tuple of the pool's items at the places -/
abbrev cTup (its : List Value) (idx : List Nat) : Obj := { cls := .type "tuple", data := .seq (idx.map fun i => its.toArray.getD i .none).toArray }
theorem hand_at {m T : Addr} {lv : Value} {idx : List Nat} {its : List Value} {k : Nat} {Q : Value → Shared → Prop} (hm : s.heap.get? m = some (cObj T 1 lv idx)) {oT : Obj} (hT : s.heap.get? T = some oT) (hcl : oT.cls = .type "tuple") (hd : oT.data = .seq its.toArray k) (hz : idx.length ≤ sizeLine)
    (h : ∀ h', h'.get? m = some (cObj T 1 (.ref s.heap.objs.size) idx) → h'.get? s.heap.objs.size = some (cTup its idx) → (∀ b o, b ≠ m → s.heap.get? b = some o → h'.get? b = some o) → Q (.ref s.heap.objs.size) { s with heap := h' }) :
    wpAny (model prog w) A (do
      let result ← (do let items ← Builtin.Itertools.itPoolItems (.ref T); newTuple (idx.map fun i => items.getD i .none))
      let before ← field (.ref m) 2
      setField (.ref m) 2 result
      letGo [before] [result]
      ret result) (fun fin s' => ∃ v, fin = .done (.ret v) ∧ Q v s') E s := by
  refine wpAny_bind (wpAny_bind ?_)
  unfold Builtin.Itertools.itPoolItems
  refine wpAny_bind (wpAny_seqItems hT hd ?_)
  refine wpAny_pure ?_
  refine wpAny_newTuple ?_ (by show (idx.map _).length ≤ _; rw [List.length_map]; exact hz)
  have hne : m ≠ s.heap.objs.size := Nat.ne_of_lt (Heap.lt_size hm)
  have hm1 : (s.heap.push (cTup its idx)).get? m = some (cObj T 1 lv idx) := Heap.get?_push_of_some _ hm
  have hp1 : (s.heap.push (cTup its idx)).get? s.heap.objs.size = some (cTup its idx) := Heap.get?_push_size _ rfl
  refine wpAny_bind (wpAny_field hm1 rfl (x := lv) rfl ?_)
  refine wpAny_bind (wpAny_setField_rec hm1 (by simp) fun h' g1 g2 => ?_)
  refine wpAny_bind (wpAny_letGo ?_)
  refine wpAny_pure ⟨_, rfl, h h' ?_ ?_ fun b o hb e => (g2.2 b hb).trans (Heap.get?_push_of_some _ e)⟩
  · rw [g1]
    simp
  · exact (g2.2 _ (Ne.symm hne)).trans hp1
theorem next_fresh {m T : Addr} {lv : Value} {idx : List Nat} {its : List Value} {k : Nat} {Q : Value → Shared → Prop} (hm : s.heap.get? m = some (cObj T 0 lv idx)) {oT : Obj} (hT : s.heap.get? T = some oT) (hcl : oT.cls = .type "tuple") (hd : oT.data = .seq its.toArray k) (hz : idx.length ≤ sizeLine)
    (h : ∀ p h', h'.get? m = some (cObj T 1 (.ref p) idx) → s.heap.objs.size ≤ p → h'.get? p = some (cTup its idx) → (∀ b o, b ≠ m → s.heap.get? b = some o → h'.get? b = some o) → Q (.ref p) { s with heap := h' }) :
    wpAny (model prog w) A (Builtin.«itertools.combinations.__next__» ⟨[.ref m], []⟩) (fun fin s' => ∃ v, fin = .done (.ret v) ∧ Q v s') E s := by
  refine wpAny_bind (m := slotArgs "__next__" 0 _) (wpAny_pure ?_)
  show wpAny _ _ (field (.ref m) 0 >>= _) _ _ _
  refine wpAny_bind (wpAny_field hm rfl (x := .ref T) rfl ?_)
  refine wpAny_bind (numbers_at hm ?_)
  refine wpAny_bind (intf_at hm ?_)
  show wpAny _ _ (setField (.ref m) 1 (rawInt 1) >>= _) _ _ _
  have hTm : T ≠ m := fun e => by
    rw [e, hm] at hT
    exact absurd (Value.type.inj ((congrArg Obj.cls (Option.some.inj hT)).trans hcl)) (by decide)
  refine wpAny_bind (wpAny_setField_rec hm (by simp) fun h1 g1 g2 => ?_)
  have g1' : h1.get? m = some (cObj T 1 lv idx) := by rw [g1]; simp [rawInt]
  refine hand_at (s := { s with heap := h1 }) g1' ((g2.2 T hTm).trans hT) hcl hd hz fun h' a b c => ?_
  have sz : h1.objs.size = s.heap.objs.size := g2.1
  refine h h1.objs.size h' a (Nat.le_of_eq sz.symm) b fun y o hy e => c y o hy ((g2.2 y hy).trans e)
theorem next_go {m T : Addr} {lv : Value} {idx nx : List Nat} {its : List Value} {k : Nat} {Q : Value → Shared → Prop} (hm : s.heap.get? m = some (cObj T 1 lv idx)) {oT : Obj} (hT : s.heap.get? T = some oT) (hcl : oT.cls = .type "tuple") (hd : oT.data = .seq its.toArray k) (hz : nx.length ≤ sizeLine) (hg : cGo its.length idx = some nx)
    (h : ∀ p h', h'.get? m = some (cObj T 1 (.ref p) nx) → s.heap.objs.size ≤ p → h'.get? p = some (cTup its nx) → (∀ b o, b ≠ m → s.heap.get? b = some o → h'.get? b = some o) → Q (.ref p) { s with heap := h' }) :
    wpAny (model prog w) A (Builtin.«itertools.combinations.__next__» ⟨[.ref m], []⟩) (fun fin s' => ∃ v, fin = .done (.ret v) ∧ Q v s') E s := by
  refine wpAny_bind (m := slotArgs "__next__" 0 _) (wpAny_pure ?_)
  show wpAny _ _ (field (.ref m) 0 >>= _) _ _ _
  refine wpAny_bind (wpAny_field hm rfl (x := .ref T) rfl ?_)
  refine wpAny_bind (numbers_at hm ?_)
  refine wpAny_bind (intf_at hm ?_)
  have hTm : T ≠ m := fun e => by
    rw [e, hm] at hT
    exact absurd (Value.type.inj ((congrArg Obj.cls (Option.some.inj hT)).trans hcl)) (by decide)
  show wpAny _ _ (Builtin.Itertools.itPoolItems (.ref T) >>= _) _ _ _
  refine wpAny_bind ?_
  unfold Builtin.Itertools.itPoolItems
  refine wpAny_bind (wpAny_seqItems hT hd ?_)
  refine wpAny_pure ?_
  have same : ∀ o : Option (List Nat), (match (List.range idx.length).reverse.find? (fun i => idx.getD i 0 != i + its.toArray.size - idx.length) with | none => none | some i => some (idx.take i ++ (List.range (idx.length - i)).map (idx.getD i 0 + 1 + ·))) = o → o = some nx := fun o e => by
    rw [← e, ← hg]
    unfold cGo
    have sz : its.toArray.size = its.length := by simp
    rw [sz]
    generalize (List.range idx.length).reverse.find? _ = o
    cases o <;> rfl
  split
  · rename_i nx' heq
    have e : nx' = nx := Option.some.inj (same _ heq)
    subst e
    show wpAny _ _ (Builtin.Itertools.itSetNumbersFrom (.ref m) 3 nx' >>= _) _ _ _
    refine wpAny_bind ?_
    unfold Builtin.Itertools.itSetNumbersFrom
    have up : (cObj T 1 lv idx).mapFields (fun fs => fs.extract 0 3 ++ (nx'.map fun (n : Nat) => rawInt n).toArray) = cObj T 1 lv nx' := by
      simp [Obj.mapFields, rawInt]
    have g1 : (s.heap.update m (Obj.mapFields fun fs => fs.extract 0 3 ++ (nx'.map fun (n : Nat) => rawInt n).toArray)).get? m = some (cObj T 1 lv nx') := by
      rw [Heap.get?_update_self _ hm (by rw [up]; rfl)]
      rw [up]
    have oth : ∀ b o, b ≠ m → s.heap.get? b = some o → (s.heap.update m (Obj.mapFields fun fs => fs.extract 0 3 ++ (nx'.map fun (n : Nat) => rawInt n).toArray)).get? b = some o := fun b o hb e => (Heap.get?_update_other _ _ (Ne.symm hb)).trans e
    have usz : (s.heap.update m (Obj.mapFields fun fs => fs.extract 0 3 ++ (nx'.map fun (n : Nat) => rawInt n).toArray)).objs.size = s.heap.objs.size := Heap.size_update ..
    refine wpAny_updateFields hm rfl ?_ (by simp; omega)
    generalize s.heap.update m (Obj.mapFields fun fs => fs.extract 0 3 ++ (nx'.map fun (n : Nat) => rawInt n).toArray) = h1 at *
    refine hand_at (s := { s with heap := h1 }) g1 (oth T _ hTm hT) hcl hd hz fun h' a b c => ?_
    exact h h1.objs.size h' a (Nat.le_of_eq usz.symm) b fun y o hy e => c y o hy (oth y o hy e)
  · rename_i heq
    have e := same _ heq
    cases e
theorem next_stop {m T : Addr} {lv : Value} {idx : List Nat} {its : List Value} {k : Nat} {Q : Value → Shared → Prop} {E : Value → Shared → Prop} (hh : A.handled = none) (hm : s.heap.get? m = some (cObj T 1 lv idx)) {oT : Obj} (hT : s.heap.get? T = some oT) (hcl : oT.cls = .type "tuple") (hd : oT.data = .seq its.toArray k) (hg : cGo its.length idx = none)
    (h : ∀ e h', (∃ o, h'.get? e = some o ∧ o.cls = .type "StopIteration") → h'.get? m = some (cObj T 2 lv idx) → (∀ b o, b ≠ m → s.heap.get? b = some o → h'.get? b = some o) → E (.ref e) { s with heap := h' }) :
    wpAny (model prog w) A (Builtin.«itertools.combinations.__next__» ⟨[.ref m], []⟩) (fun fin s' => ∃ v, fin = .done (.ret v) ∧ Q v s') E s := by
  refine wpAny_bind (m := slotArgs "__next__" 0 _) (wpAny_pure ?_)
  show wpAny _ _ (field (.ref m) 0 >>= _) _ _ _
  refine wpAny_bind (wpAny_field hm rfl (x := .ref T) rfl ?_)
  refine wpAny_bind (numbers_at hm ?_)
  refine wpAny_bind (intf_at hm ?_)
  show wpAny _ _ (Builtin.Itertools.itPoolItems (.ref T) >>= _) _ _ _
  refine wpAny_bind ?_
  unfold Builtin.Itertools.itPoolItems
  refine wpAny_bind (wpAny_seqItems hT hd ?_)
  refine wpAny_pure ?_
  have same : ∀ o : Option (List Nat), (match (List.range idx.length).reverse.find? (fun i => idx.getD i 0 != i + its.toArray.size - idx.length) with | none => none | some i => some (idx.take i ++ (List.range (idx.length - i)).map (idx.getD i 0 + 1 + ·))) = o → o = none := fun o e => by
    rw [← e, ← hg]
    unfold cGo
    have sz : its.toArray.size = its.length := by simp
    rw [sz]
    generalize (List.range idx.length).reverse.find? _ = o
    cases o <;> rfl
  split
  · rename_i nx' heq
    have e := same _ heq
    cases e
  · refine wpAny_bind (wpAny_setField_rec hm (by simp) fun h1 g1 g2 => ?_)
    have g1' : h1.get? m = some (cObj T 2 lv idx) := by rw [g1]; simp [rawInt]
    have hml : m < h1.objs.size := Heap.lt_size g1'
    show wpAny _ _ (newExc (.type "StopIteration") [] >>= _) _ _ _
    refine wpAny_bind ?_
    simp only [newExc, newTuple]
    refine wpAny_bind (wpAny_newObj_type ?_ (by size_fits))
    refine wpAny_bind (m := firstArgMember _ _) (wpAny_of_eq (a := Value.none) (by first | rfl | (simp only [firstArgMember]; rfl)) ?_)
    refine wpAny_newObj_type ?_ (by size_fits)
    simp only [raiseNew]
    refine wpAny_bind (wpAny_bind (wpAny_handled ?_))
    rw [hh]
    refine wpAny_pure (wpAny_throw ?_)
    exact h _ _ ⟨_, Heap.get?_push_size _ rfl, rfl⟩ (Heap.get?_push_of_some _ (Heap.get?_push_of_some _ g1')) fun b o hb e => Heap.get?_push_of_some _ (Heap.get?_push_of_some _ ((g2.2 b hb).trans e))
theorem next_over {m T : Addr} {lv : Value} {idx : List Nat} {its : List Value} {k : Nat} {Q : Value → Shared → Prop} {E : Value → Shared → Prop} (hh : A.handled = none) (hm : s.heap.get? m = some (cObj T 2 lv idx))
    (h : ∀ e h', (∃ o, h'.get? e = some o ∧ o.cls = .type "StopIteration") → (∀ b o, s.heap.get? b = some o → h'.get? b = some o) → E (.ref e) { s with heap := h' }) :
    wpAny (model prog w) A (Builtin.«itertools.combinations.__next__» ⟨[.ref m], []⟩) (fun fin s' => ∃ v, fin = .done (.ret v) ∧ Q v s') E s := by
  refine wpAny_bind (m := slotArgs "__next__" 0 _) (wpAny_pure ?_)
  show wpAny _ _ (field (.ref m) 0 >>= _) _ _ _
  refine wpAny_bind (wpAny_field hm rfl (x := .ref T) rfl ?_)
  refine wpAny_bind (numbers_at hm ?_)
  refine wpAny_bind (intf_at hm ?_)
  show wpAny _ _ (rule "itertools.combinations.ended" >>= _) _ _ _
  refine wpAny_bind (wpAny_rule ?_)
  show wpAny _ _ (newExc (.type "StopIteration") [] >>= _) _ _ _
  refine wpAny_bind ?_
  simp only [newExc, newTuple]
  refine wpAny_bind (wpAny_newObj_type ?_ (by size_fits))
  refine wpAny_bind (m := firstArgMember _ _) (wpAny_of_eq (a := Value.none) (by first | rfl | (simp only [firstArgMember]; rfl)) ?_)
  refine wpAny_newObj_type ?_ (by size_fits)
  simp only [raiseNew]
  refine wpAny_bind (wpAny_bind (wpAny_handled ?_))
  rw [hh]
  refine wpAny_pure (wpAny_throw ?_)
  exact h _ _ ⟨_, Heap.get?_push_size _ rfl, rfl⟩ fun b o e => Heap.get?_push_of_some _ (Heap.get?_push_of_some _ e)
theorem isC {m T : Addr} {st : Int} {lv : Value} {idx : List Nat} (hm : s.heap.get? m = some (cObj T st lv idx)) : s.TypeIs (.ref m) "itertools.combinations" := ⟨_, hm, rfl⟩
theorem iterC {m T : Addr} {st : Int} {lv : Value} {idx : List Nat} {Q : Value → Shared → Prop} (hm : s.heap.get? m = some (cObj T st lv idx)) (h : Q (.ref m) s) : wpAny (model prog w) A (pyIter (.ref m)) Q E s := by
  refine wpAny_pyIter_slot (isC hm) sl_iter (wpAny_call_entry sl_iter (isC hm) en_iter ?_ (ar_iter _))
  show wpAny _ _ (ret (.ref m)) _ _ s
  exact wpAny_pure ⟨_, rfl, "itertools.combinations", _, isC hm, sl_next.lookup, h⟩
/-- what is still to come -/
def Nx1 (n : Nat) : List Nat → List (List Nat) → Prop
  | idx, [] => cGo n idx = none
  | idx, c :: r => cGo n idx = some c ∧ Nx1 n c r
def Nx (n : Nat) (st : Int) (idx : List Nat) (rest : List (List Nat)) : Prop := (st = 0 ∧ ∃ r, rest = idx :: r ∧ Nx1 n idx r) ∨ (st = 1 ∧ Nx1 n idx rest) ∨ (st = 2 ∧ rest = [])
theorem nextC {m T : Addr} {st : Int} {lv : Value} {idx c : List Nat} {rest : List (List Nat)} {its : List Value} {k : Nat} {Q : Option Value → Shared → Prop} (hm : s.heap.get? m = some (cObj T st lv idx)) {oT : Obj} (hT : s.heap.get? T = some oT) (hcl : oT.cls = .type "tuple") (hd : oT.data = .seq its.toArray k) (hz : c.length ≤ sizeLine) (hx : Nx its.length st idx (c :: rest))
    (h : ∀ p h', h'.get? m = some (cObj T 1 (.ref p) c) → s.heap.objs.size ≤ p → h'.get? p = some (cTup its c) → (∀ b o, b ≠ m → s.heap.get? b = some o → h'.get? b = some o) → Nx its.length 1 c rest → Q (some (.ref p)) { s with heap := h' }) :
    wpAny (model prog w) A (pyNext (.ref m)) Q E s := by
  unfold pyNext
  refine wpAny_bind (wpAny_attempt (wpAny_callSpecial?_slot (name := Str.ofString "__next__") (isC hm) sl_next (wpAny_call_entry sl_next (isC hm) en_next ?_ (ar_next _))))
  rcases hx with ⟨rfl, r, e, hx⟩ | ⟨rfl, hx⟩ | ⟨rfl, e⟩
  · cases e
    exact next_fresh hm hT hcl hd hz fun p h' a b d e => wpAny_pure (h p h' a b d e (.inr (.inl ⟨rfl, hx⟩)))
  · obtain ⟨g, hx⟩ := hx
    exact next_go hm hT hcl hd hz g fun p h' a b d e => wpAny_pure (h p h' a b d e (.inr (.inl ⟨rfl, hx⟩)))
  · cases e
theorem endC {m T : Addr} {st : Int} {lv : Value} {idx : List Nat} {its : List Value} {k : Nat} {Q : Option Value → Shared → Prop} (hh : A.handled = none) (hm : s.heap.get? m = some (cObj T st lv idx)) {oT : Obj} (hT : s.heap.get? T = some oT) (hcl : oT.cls = .type "tuple") (hd : oT.data = .seq its.toArray k) (hx : Nx its.length st idx [])
    (h : ∀ h', (∀ b o, b ≠ m → s.heap.get? b = some o → h'.get? b = some o) → Q none { s with heap := h' }) :
    wpAny (model prog w) A (pyNext (.ref m)) Q E s := by
  have hh1 : A.in1.handled = none := hh
  unfold pyNext
  refine wpAny_bind (wpAny_attempt (wpAny_callSpecial?_slot (name := Str.ofString "__next__") (isC hm) sl_next (wpAny_call_entry sl_next (isC hm) en_next ?_ (ar_next _))))
  rcases hx with ⟨rfl, r, e, hx⟩ | ⟨rfl, hx⟩ | ⟨rfl, e⟩
  · cases e
  · refine next_stop hh1 hm hT hcl hd hx fun e h' ⟨o, ho, hc⟩ _ kp => ?_
    refine wpAny_bind (wpAny_isInstance (T := "StopIteration") (b := true) ⟨o, ho, hc⟩ isSubtype_stop ?_)
    exact wpAny_pure (h h' kp)
  · refine next_over (its := its) (k := k) hh1 hm fun e h' ⟨o, ho, hc⟩ kp => ?_
    refine wpAny_bind (wpAny_isInstance (T := "StopIteration") (b := true) ⟨o, ho, hc⟩ isSubtype_stop ?_)
    exact wpAny_pure (h h' fun b o _ e => kp b o e)
end
/-- numbers as values -/
abbrev nV (c : List Nat) : List V := c.map fun (i : Nat) => V.int (i : Int)
theorem pick_vals {N : Nat} {its : List Value} (hv : Vals (nV (List.range N)) its) : ∀ {c : List Nat}, (∀ i ∈ c, i < N) → Vals (nV c) (c.map fun i => its.toArray.getD i .none)
  | [], _ => .nil
  | i :: c, h => by
    have hi := h i List.mem_cons_self
    have e : (nV (List.range N))[i]? = some (V.int (i : Int)) := by
      rw [List.getElem?_map, List.getElem?_range hi]
      rfl
    obtain ⟨u, hu, ru⟩ := hv.get e
    refine .cons ?_ (pick_vals hv fun j hj => h j (List.mem_cons_of_mem _ hj))
    have e2 : its.toArray.getD i .none = u := by
      have hl := (List.getElem?_eq_some_iff.mp hu).1
      have e3 := (List.getElem?_eq_some_iff.mp hu).2
      simp [hl, e3]
    show L2.RelV (V.int (i : Int)) (its.toArray.getD i .none)
    rw [e2]
    exact ru
section
variable {X : Cx} {pins : List (Addr × Obj)} {σ : L2.St} {m T S : Addr} {N : Nat} {R : Result → Shared → Prop}
theorem loopC (hh : X.A.handled = none) : ∀ (rest : List (List Nat)) {s : Shared} {H : Hp} {st : Int} {lv : Value} {idx : List Nat} {ds : List Addr} {cs : List (List Nat)}, Inv X pins σ H s → s.heap.get? m = some (cObj T st lv idx) → FpOk X pins H m → H T = some (.tup (nV (List.range N))) → H S = some (.lst (ds.map V.ref)) → Each (fun d c => H d = some (.tup (nV c))) ds cs →
    (∀ c ∈ rest, (∀ i ∈ c, i < N) ∧ c.length ≤ 1000) → ds.length + rest.length ≤ 100000 → Nx N st idx rest →
    (∀ s' H' es, Inv X pins σ H' s' → (∀ b o, b ≠ S → H b = some o → H' b = some o) → H' S = some (.lst (es.map V.ref)) → Each (fun d c => H' d = some (.tup (nV c))) es (cs ++ rest) → R (.ok (.ret .none)) s') →
    codeAny (model X.prog X.w) X.A.in1 (.builtin "list.extend.loop" ⟨[.ref S, .ref m, .none], []⟩) R s
  | [], s, H, st, lv, idx, ds, cs, I, hm, fp, hT, hS, hE, hr, hl, hx, hR => by
    obtain ⟨_, its, rv, oT, ho, hcl, k, hd⟩ := I.hok T _ hT
    have en : its.length = N := by rw [← rv.length, List.length_map, List.length_range]
    refine codeAny_builtin F.entry_extend_loop ?_
    rw [Around.under_plainId F.plain_extend_loop _]
    show wpAny _ X.A.in1.in1 (pyNext (.ref m) >>= _) _ _ s
    refine wpAny_bind (endC (its := its) (k := k) hh hm ho hcl hd (by rw [en]; exact hx) fun h' kp => ?_)
    have I2 := I.turnedL (h' := h') (t' := s.toks) (ch := [m]) (fun b o hb e => kp b o (fun z => hb (by rw [z]; exact List.mem_singleton.mpr rfl)) e) (fun b hb => by rw [List.mem_singleton.mp hb]; exact fp)
    exact wpAny_pure (hR _ H ds I2 (fun _ _ _ e => e) hS (by rw [List.append_nil]; exact hE))
  | c :: rest, s, H, st, lv, idx, ds, cs, I, hm, fp, hT, hS, hE, hr, hl, hx, hR => by
    obtain ⟨_, its, rv, oT, ho, hcl, k, hd⟩ := I.hok T _ hT
    have en : its.length = N := by rw [← rv.length, List.length_map, List.length_range]
    obtain ⟨hc1, hc2⟩ := hr c List.mem_cons_self
    have hz : c.length ≤ sizeLine := Nat.le_of_lt (sizes' (by omega))
    refine codeAny_builtin F.entry_extend_loop ?_
    rw [Around.under_plainId F.plain_extend_loop _]
    show wpAny _ X.A.in1.in1 (pyNext (.ref m) >>= _) _ _ s
    refine wpAny_bind (nextC (its := its) (k := k) hm ho hcl hd hz (by rw [en]; exact hx) fun p h' g1 g2 g3 kp hx2 => ?_)
    rw [en] at hx2
    have np : H p = none := I.hok.fresh g2
    have I2 := I.turnedNew (h' := h') (t' := s.toks) (ch := [m]) (T := p) (ob := .tup (nV c)) (fun b o hb e => kp b o (fun z => hb (by rw [z]; exact List.mem_singleton.mpr rfl)) e) (fun b hb => by rw [List.mem_singleton.mp hb]; exact fp) g2
      ⟨by rw [List.length_map]; exact hz, _, pick_vals rv hc1, _, g3, rfl, _, rfl⟩
    have mp : m ≠ p := Nat.ne_of_lt (Nat.lt_of_lt_of_le (Heap.lt_size hm) g2)
    have Sp : S ≠ p := fun e => by rw [← e, hS] at np; cases np
    have Sm : S ≠ m := fun e => by rw [e, fp.1] at hS; cases hS
    have hS2 : upd H p (.tup (nV c)) S = some (.lst (ds.map V.ref)) := by rw [upd_ne Sp]; exact hS
    obtain ⟨hzS, itS, eS, rS, lS, hoS⟩ := I2.lstM hS2
    rw [List.length_map] at lS
    have I3 := I2.lset (l := S) (f := (·.push (Value.ref p))) (its' := itS ++ [Value.ref p]) (ys := (ds ++ [p]).map V.ref) (t' := s.toks) hS2 hoS (by simp) (by rw [List.map_append]; exact rS.append (.cons rfl .nil)) (by rw [List.length_map, List.length_append, List.length_singleton]; rw [List.length_cons] at hl; exact Nat.le_of_lt (sizes' (by omega)))
    show wpAny _ X.A.in1.in1 (updateSeq S (·.push (.ref p)) >>= _) _ _ _
    refine wpAny_bind ?_
    rw [List.length_cons] at hl
    refine wpAny_updateSeq hoS rfl (wpAny_pure ⟨plainId_quiet F.plain_extend_loop _, ?_⟩) (by rw [List.size_toArray, ← lS]; exact Nat.le_of_lt (sizes' (by omega))) (by show (Array.push _ _).size ≤ _; rw [Array.size_push, List.size_toArray, ← lS]; have := sizes' (n := ds.length) (by omega); omega)
    have nS : ∀ b xs, H b = some (.tup xs) → b ≠ S := fun b xs e z => by rw [z, hS] at e; cases e
    have nP : ∀ b o, H b = some o → b ≠ p := fun b o e z => by rw [z, np] at e; cases e
    have up : ∀ b xs, H b = some (.tup xs) → upd (upd H p (.tup (nV c))) S (.lst ((ds ++ [p]).map V.ref)) b = some (.tup xs) := fun b xs e => by
      rw [upd_ne (nS b xs e), upd_ne (nP b _ e)]
      exact e
    refine loopC (lv := .ref p) hh rest I3 ?_ ?_ (up _ _ hT) upd_same ((hE.keep fun d c' z => up _ _ z).snoc ?_) (fun c' hc' => hr c' (List.mem_cons_of_mem _ hc')) (by rw [List.length_append, List.length_singleton]; omega) hx2 fun s' H' es I4 k4 e4 E4 => hR s' H' es I4 (fun b o hb e => k4 b o hb (by rw [upd_ne hb, upd_ne (nP b o e)]; exact e)) e4 (by rw [← List.append_cons] at E4; exact E4)
    · exact (Heap.get?_update_other _ _ Sm).trans g1
    · refine ⟨?_, fp.2⟩
      rw [upd_ne (Ne.symm Sm), upd_ne mp]
      exact fp.1
    · rw [upd_ne (Ne.symm Sp), upd_same]
end
end Cb

namespace Cb
open PySem PySem.Spec PyProof.Rows L2 Vs
section
variable {prog : Program} {w : World} {A : Around} {E : Value → Shared → Prop} {s : Shared}
theorem ssize_ {k : Nat} {t : Tok} (hk : k ≤ 1000) : Builtin.Itertools.itSsizeArg (.int (k : Int) t) = pure (k : Int) := by
  have h1 : ¬ ((k : Int) < -(2 ^ 63 : Int)) := by omega
  have h2 : ¬ ((k : Int) ≥ 2 ^ 63) := by omega
  have h3 : (decide ((k : Int) < -(2 ^ 63 : Int)) || decide ((k : Int) ≥ 2 ^ 63)) = false := by rw [decide_eq_false h1, decide_eq_false h2]; rfl
  unfold Builtin.Itertools.itSsizeArg asIndex asInt?
  simp only [pure_bind]
  rw [h3]
  rfl
theorem new_c (rg : Addr) (k : Nat) (t : Tok) : MeetsIn prog w (Builtin.«itertools.combinations.__new__» ⟨[.type "itertools.combinations", .ref rg, .int (k : Int) t], []⟩)
    (fun A R s => A.handled = none ∧ ∃ (N : Nat) (u v z : Tok), IsRange s.heap rg 0 (N : Int) 1 u v z ∧ N ≤ 1000 ∧ k ≤ 1000 ∧ ∀ (h1 : Heap) (tk : Nat) (its : List Value), (∀ b o, s.heap.get? b = some o → h1.get? b = some o) → Vals (nV (List.range N)) its →
      R (.ok (.ret (.ref (h1.objs.size + 1)))) { s with heap := (h1.push { cls := .type "tuple", data := .seq its.toArray }).push (cObj h1.objs.size (if k > N then 2 else 0) .none (List.range k)), toks := tk }) :=
  .of_wp fun A R s h => by
    obtain ⟨hh, N, u, v, z, hr, hN, hk, q⟩ := h
    have hh1 : A.in1.handled = none := hh
    unfold Builtin.«itertools.combinations.__new__»
    refine wpAny_bind ?_
    show wpAny _ _ (Builtin.Itertools.itClassAndRest "combinations" _ >>= _) _ _ _
    refine wpAny_bind (wpAny_of_eq (cls_ _ _) ?_)
    try dsimp only
    show wpAny _ _ (Builtin.Itertools.itBindNamed "combinations" ["iterable", "r"] 2 2 [.ref rg, .int (k : Int) t] [] >>= _) _ _ _
    refine wpAny_bind (wpAny_of_eq (bind_ _ _) ?_)
    try dsimp only
    show wpAny _ _ (Builtin.Itertools.itSsizeArg (.int (k : Int) t) >>= _) _ _ _
    refine wpAny_bind (wpAny_of_eq (ssize_ hk) ?_)
    try dsimp only
    refine wpAny_bind (collect_range (n := N) hh1 hr (small_one (by omega) (by omega) (by omega) (by omega)) (by rw [rangeSize_nat]; omega) (by omega) fun h1 tk acc kp hi => ?_)
    have hv : Vals (nV (List.range N)) acc.toList := by
      have q1 := vals_rg (a := 0) (b := (N : Int)) (acc := acc) (by rw [show ((N : Int) - 0).toNat = N by omega]; exact hi)
      have e : rgV 0 (N : Int) = nV (List.range N) := by
        unfold rgV
        rw [show ((N : Int) - 0).toNat = N by omega]
        refine List.map_congr_left fun i _ => ?_
        rw [Int.zero_add]
      rw [e] at q1
      exact q1
    have al : acc.toList.length = N := by rw [← hv.length, List.length_map, List.length_range]
    try dsimp only
    rw [if_neg (by omega : ¬ ((k : Int) < 0))]
    have tm : Builtin.Itertools.itTooMany (k : Int) = false := by
      unfold Builtin.Itertools.itTooMany
      exact decide_eq_false (by omega)
    rw [tm]
    simp only [Bool.false_eq_true, if_false]
    refine wpAny_bind (wpAny_newTuple ?_ (by show acc.toList.length ≤ _; rw [al]; exact Nat.le_of_lt (sizes' (by omega))))
    refine wpAny_pure ?_
    try dsimp only
    have e0 : (h1.push { cls := .type "tuple", data := .seq acc.toList.toArray }).get? h1.objs.size = some { cls := .type "tuple", data := .seq acc.toList.toArray } := Heap.get?_push_size _ rfl
    show wpAny _ _ (Builtin.Itertools.itNewRecord (.type "itertools.combinations") _ >>= _) _ _ _
    refine wpAny_bind ?_
    unfold Builtin.Itertools.itNewRecord
    rw [hasno_]
    rw [if_pos (show (!false) = true from rfl)]
    have ek : ((k : Int)).toNat = k := by omega
    have ef : ([Value.ref h1.objs.size, rawInt (if ((k : Int)).toNat > acc.toList.length then 2 else 0), Value.none] ++ List.map (fun (i : Nat) => rawInt (i : Int)) (List.range ((k : Int)).toNat)) = [Value.ref h1.objs.size, .int (if k > N then 2 else 0) 0, Value.none] ++ (List.range k).map fun (i : Nat) => Value.int (i : Int) 0 := by
      rw [ek, al]
      rfl
    rw [ef]
    refine wpAny_newObj_type ?_ ?_
    · refine wpAny_pure ⟨_, rfl, ?_⟩
      have sz : (h1.push { cls := .type "tuple", data := .seq acc.toList.toArray }).objs.size = h1.objs.size + 1 := Heap.size_push ..
      rw [sz]
      exact q h1 tk acc.toList kp hv
    · show (Array.size _) ≤ sizeLine + 2
      rw [List.size_toArray, List.length_append, List.length_map, List.length_range]
      have := sizes' (n := k) (by omega)
      show 3 + k ≤ _
      omega
theorem callC {rg : Addr} {N k : Nat} {t u v z : Tok} {Q : Value → Shared → Prop} (hh : A.handled = none) (hr : IsRange s.heap rg 0 (N : Int) 1 u v z) (hN : N ≤ 1000) (hk : k ≤ 1000)
    (h : ∀ (h1 : Heap) (tk : Nat) (its : List Value), (∀ b o, s.heap.get? b = some o → h1.get? b = some o) → Vals (nV (List.range N)) its →
      Q (.ref (h1.objs.size + 1)) { s with heap := (h1.push { cls := .type "tuple", data := .seq its.toArray }).push (cObj h1.objs.size (if k > N then 2 else 0) .none (List.range k)), toks := tk }) :
    wpAny (model prog w) A (call (.type "itertools.combinations") [.ref rg, .int (k : Int) t]) Q E s := by
  refine callType_newIn called_ (by decide) (tc_ _ _) (nc_ _ _) (fun obj => F.args_object_init_3 obj _ _) en_new (new_c rg k t) ⟨hh, N, u, v, z, hr, hN, hk, fun h1 tk its kp hv => ?_⟩
  have sz : (h1.push { cls := .type "tuple", data := .seq its.toArray }).objs.size = h1.objs.size + 1 := Heap.size_push ..
  have e1 : ((h1.push { cls := .type "tuple", data := .seq its.toArray }).push (cObj h1.objs.size (if k > N then 2 else 0) .none (List.range k))).get? (h1.objs.size + 1) = some (cObj h1.objs.size (if k > N then 2 else 0) .none (List.range k)) := by
    rw [← sz]
    exact Heap.get?_push_size _ rfl
  show _ ∧ _
  exact ⟨⟨_, e1, rfl⟩, h h1 tk its kp hv⟩
end
section
variable {X : Cx} {pins : List (Addr × Obj)} {σ : L2.St} {m T : Addr} {N : Nat}
theorem listC (hh : X.A.handled = none) {rest : List (List Nat)} {s : Shared} {H : Hp} {st : Int} {lv : Value} {idx : List Nat} {Q : VK} (I : Inv X pins σ H s) (hm : s.heap.get? m = some (cObj T st lv idx)) (fp : FpOk X pins H m) (hT : H T = some (.tup (nV (List.range N))))
    (hr : ∀ c ∈ rest, (∀ i ∈ c, i < N) ∧ c.length ≤ 1000) (hl : rest.length ≤ 100000) (hx : Nx N st idx rest)
    (hq : ∀ p H' es, Same H H' → H p = none → H' p = some (.lst (es.map V.ref)) → Each (fun d c => H' d = some (.tup (nV c))) es rest → Q (.ref p) H') :
    wpAny (model X.prog X.w) X.A (call (.type "list") [.ref m]) (EP X pins σ Q) X.xe s := by
  have fr := I.fresh
  have hlt : m < s.heap.objs.size := Heap.lt_size hm
  have hSm : s.heap.objs.size ≠ m := Nat.ne_of_gt hlt
  refine callType_codes (Q₁ := fun obj s₁ => obj = .ref s.heap.objs.size ∧ s₁ = { s with heap := s.heap.push { cls := .type "list", data := .seq #[] } }) F.called_list (F.typeCall_list_1 _) F.entry_list_init (code_list_new _ ⟨rfl, rfl⟩) fun obj s₁ h₁ => ?_
  obtain ⟨rfl, rfl⟩ := h₁
  have hS : (s.heap.push { cls := .type "list", data := .seq #[] }).get? s.heap.objs.size = some { cls := .type "list", data := .seq #[] } := Heap.get?_push_size _ rfl
  have I1 := I.lnew (its := []) (ys := []) (t' := s.toks) .nil (Nat.zero_le _)
  refine ⟨⟨_, hS, rfl⟩, F.args_list_init_2 _ _, ?_⟩
  show wpAny _ X.A.in1.in1 (Builtin.List.listItems (.ref s.heap.objs.size) >>= _) _ _ _
  refine wpAny_bind (listItems_at hS rfl ?_)
  show wpAny _ X.A.in1.in1 (Builtin.List.listUpdate (.ref s.heap.objs.size) (fun _ => #[]) >>= _) _ _ _
  refine wpAny_bind (listUpdate_at hS rfl ?_ (Nat.zero_le _) (Nat.zero_le _))
  have I2 := I1.lset (l := s.heap.objs.size) (f := fun _ => #[]) (its' := []) (ys := []) (t' := s.toks) upd_same hS rfl .nil (Nat.zero_le _)
  rw [upd_upd] at I2
  have m2 : ((s.heap.push { cls := .type "list", data := .seq #[] }).update s.heap.objs.size (Obj.mapSeq fun _ => #[])).get? m = some (cObj T st lv idx) := (Heap.get?_update_other _ _ hSm).trans (Heap.get?_push_of_some _ hm)
  generalize (s.heap.push { cls := .type "list", data := .seq #[] }).update s.heap.objs.size (Obj.mapSeq fun _ => #[]) = h2 at *
  refine wpAny_bind (wpAny_letGo ?_)
  show wpAny _ X.A.in1.in1 (Builtin.List.listExtendWith (.ref s.heap.objs.size) (.ref m) .none) _ _ _
  unfold Builtin.List.listExtendWith
  refine wpAny_bind (wpAny_typeOf (isC (s := { s with heap := h2 }) m2) ?_)
  have c1 : Builtin.List.listSameRef (.ref s.heap.objs.size) (.ref m) = false := by simp [Builtin.List.listSameRef, hSm]
  have c2 : (Value.type "itertools.combinations" == Value.type "list") = false := by decide
  have c3 : (Value.type "itertools.combinations" == Value.type "tuple") = false := by decide
  simp only [c1, c2, c3, Bool.or_false, Bool.false_eq_true, if_false]
  refine wpAny_bind (iterC (s := { s with heap := h2 }) m2 ?_)
  refine wpAny_bind (wpAny_holding ?_)
  unfold Builtin.List.listLengthHint
  refine wpAny_bind (wpAny_specialOf (isC (s := { s with heap := h2 }) m2) nolen_ ?_)
  show wpAny _ X.A.in1.in1 (specialOf (Value.ref m) (Str.ofString "__length_hint__") >>= _) _ _ _
  refine wpAny_bind (wpAny_specialOf (isC (s := { s with heap := h2 }) m2) nohint_ ?_)
  refine wpAny_pure ?_
  show wpAny _ X.A.in1.in1 (rule "list.extend.makes-room" >>= _) _ _ _
  refine wpAny_bind (wpAny_rule ?_)
  show wpAny _ X.A.in1.in1 (Builtin.List.listTouch (.ref s.heap.objs.size) >>= _) _ _ _
  refine wpAny_bind ?_
  show wpAny _ X.A.in1.in1 (updateSeq s.heap.objs.size (·.push .none) >>= fun _ => updateSeq s.heap.objs.size (·.pop)) _ _ _
  obtain ⟨_, it2, e2, r2, l2, ho2⟩ := I2.lstM upd_same
  have z2 : it2 = [] := List.eq_nil_of_length_eq_zero l2.symm
  subst z2
  refine wpAny_bind (wpAny_updateSeq ho2 rfl ?_ (Nat.zero_le _) (by show 1 ≤ _; decide))
  have I3 := I2.lset (l := s.heap.objs.size) (f := (·.push Value.none)) (its' := [Value.none]) (ys := [V.non]) (t' := s.toks) upd_same ho2 rfl (.cons rfl .nil) (by show 1 ≤ sizeLine; decide)
  rw [upd_upd] at I3
  have m3 : (h2.update s.heap.objs.size (Obj.mapSeq (·.push Value.none))).get? m = some (cObj T st lv idx) := (Heap.get?_update_other _ _ hSm).trans m2
  generalize h2.update s.heap.objs.size (Obj.mapSeq (·.push Value.none)) = h3 at *
  obtain ⟨_, it3, e3, r3, l3, ho3⟩ := I3.lstM upd_same
  have r3' := r3
  obtain ⟨w3, hw3, _⟩ := vals1 r3'
  subst hw3
  refine wpAny_updateSeq ho3 rfl ?_ (by show 1 ≤ _; decide) (by show 0 ≤ _; decide)
  have I4 := I3.lset (l := s.heap.objs.size) (f := (·.pop)) (its' := []) (ys := []) (t' := s.toks) upd_same ho3 rfl .nil (Nat.zero_le _)
  rw [upd_upd] at I4
  have m4 : (h3.update s.heap.objs.size (Obj.mapSeq (·.pop))).get? m = some (cObj T st lv idx) := (Heap.get?_update_other _ _ hSm).trans m3
  generalize h3.update s.heap.objs.size (Obj.mapSeq (·.pop)) = h4 at *
  refine wpAny_pure ⟨plainId_quiet F.plain_extend_loop _, ?_⟩
  have nS : ∀ b o, H b = some o → b ≠ s.heap.objs.size := fun b o e z => by rw [z, fr] at e; cases e
  refine loopC (ds := []) (cs := []) hh rest I4 m4 ⟨by rw [upd_ne (Ne.symm hSm)]; exact fp.1, fp.2⟩ (by rw [upd_ne (nS _ _ hT)]; exact hT) upd_same Each.nil hr (by simpa using hl) hx fun s' H' es I5 k5 e5 E5 => ?_
  exact ⟨rfl, .ref s.heap.objs.size, H', I5, rfl, hq _ H' es (fun b o e => k5 b o (nS b o e) (by rw [upd_ne (nS b o e)]; exact e)) fr e5 (by simpa using E5)⟩
end
end Cb
namespace Cb
open PySem PySem.Spec PyProof.Rows L2 Vs
theorem cr_rng1 {X : Cx} : CallR X (.type "range") (fun vs H Q => ∃ n, vs = [V.int n] ∧ ∀ p, H p = none → Q (.ref p) (upd H p (.rng 0 n))) := by
  intro pins s σ H vs us Q I r h
  obtain ⟨n, rfl, q⟩ := h
  obtain ⟨u, rfl, t, rfl⟩ := vals1 r
  refine call_range_1 ⟨.ref s.heap.objs.size, upd H s.heap.objs.size (.rng 0 n), I.laid (t' := s.toks + 1 + 1) (fun b o e => Heap.get?_push_of_some _ e) (Nat.le_refl _) ?_, rfl, q _ (I.hok.fresh (Nat.le_refl _))⟩
  exact ⟨s.toks, t, s.toks + 1, Heap.get?_push_size _ rfl⟩
/-- list(combinations(range(n), k)) -/
def tCmb (t : TA) : TE := fun σ H Q => t σ H fun vs H1 => ∃ (rg : Addr) (N k : Nat) (rest : List (List Nat)), vs = [V.ref rg, V.int (k : Int)] ∧ H1 rg = some (.rng 0 (N : Int)) ∧ N ≤ 1000 ∧ k ≤ 1000 ∧ (∀ c ∈ rest, (∀ i ∈ c, i < N) ∧ c.length ≤ 1000) ∧ rest.length ≤ 100000 ∧ Nx N (if k > N then 2 else 0) (List.range k) rest ∧
  ∀ p H' es, Same H1 H' → H1 p = none → H' p = some (.lst (es.map V.ref)) → Each (fun d c => H' d = some (.tup (nV c))) es rest → Q (.ref p) H'
theorem pe_listCmb {X : Cx} {x : Str} {p p2 pos pos2 : Pos} {e : Expr} {es : List Expr} {t : TA} (hc : X.calm = true) (hgL : Gl X "list") (hmL : X.mg "list" = none) (hg : Gl X x) (hm : X.mg x = some (.type "itertools.combinations")) (ha : PA X (e :: es) t) (hdb : (x == ("__debug__" : Str)) = false := by decide)
    (he : starEach (e :: es) X.env = (false, eval e X.env) :: starEach es X.env := by rfl) (hpl : (backTo pos2 (starEach es X.env)).any (·.1) = false := by rfl)
    (na : starEach [.Call (.Name x p2) (e :: es) [] pos2] X.env = (false, eval (.Call (.Name x p2) (e :: es) [] pos2) X.env) :: starEach [] X.env := by rfl) :
    PE X (.Call (.Name "list" p) [.Call (.Name x p2) (e :: es) [] pos2] [] pos) (tCmb t) := by
  refine ⟨fun pins s σ H Q I h => ?_⟩
  have hh : X.A.handled = none := I.ok.hd hc
  refine Call_ (ld_blt I hgL hmL boot_list (PyProof.Rows.callWith_type1 (args_cons (Call_ (ld_glob I hg hm (PyProof.Rows.callWith_type1 (thn (ha.run pos2 pins s σ H _ I h) fun us s1 ⟨vs, H1, I1, r1, q1⟩ => ?_) he hpl) hdb)) na) na))
  obtain ⟨rg, N, k, rest, rfl, hrg, hN, hk, hr, hl, hx, q⟩ := q1
  obtain ⟨u1, u2, rfl, e1, t2, rfl⟩ := vals2 r1
  obtain rfl : u1 = Value.ref rg := e1
  obtain ⟨ta, tb, tc, hob⟩ := I1.hok rg _ hrg
  refine callC hh hob hN hk fun h1 tk its kp hv => ?_
  refine args_nil ?_
  have hz : N ≤ sizeLine := Nat.le_of_lt (sizes' (by omega))
  have I2 : Inv X pins σ H1 { s1 with heap := h1, toks := tk } := I1.kept kp
  have fr := I2.fresh
  have I3 := I2.laid (a := h1.objs.size) (o := .tup (nV (List.range N))) (h' := h1.push { cls := .type "tuple", data := .seq its.toArray }) (t' := tk) (fun b o e => Heap.get?_push_of_some _ e) (Nat.le_refl _)
    ⟨by rw [List.length_map, List.length_range]; exact hz, its, hv, _, Heap.get?_push_size _ rfl, rfl, _, rfl⟩
  have sz : (h1.push { cls := .type "tuple", data := .seq its.toArray }).objs.size = h1.objs.size + 1 := Heap.size_push ..
  have fr3 := I3.fresh
  have fp := I3.fpOk (b := h1.objs.size + 1) (H' := upd H1 h1.objs.size (.tup (nV (List.range N)))) (Nat.le_of_eq sz) (by rw [← sz]; exact fr3)
  have I4 := I3.kept (h' := (h1.push { cls := .type "tuple", data := .seq its.toArray }).push (cObj h1.objs.size (if k > N then 2 else 0) .none (List.range k))) (t' := tk) fun b o e => Heap.get?_push_of_some _ e
  have gm : ((h1.push { cls := .type "tuple", data := .seq its.toArray }).push (cObj h1.objs.size (if k > N then 2 else 0) .none (List.range k))).get? (h1.objs.size + 1) = some (cObj h1.objs.size (if k > N then 2 else 0) .none (List.range k)) := by
    rw [← sz]
    exact Heap.get?_push_size _ rfl
  refine listC hh I4 gm fp upd_same hr hl hx fun p H' es sm np a b => q p H' es (fun c u hcu => sm c u (same_upd fr c u hcu)) ?_ a b
  cases e : H1 p with
  | none => rfl
  | some u =>
    rw [same_upd fr p u e] at np
    cases np
end Cb

namespace Vs
open PySem PySem.Spec PyProof.Rows L2
/-! ### choices of so many parts, in order -/
def rows1 (n k a : Nat) : List (List Nat) := (if k = 1 then [[a]] else []) ++ (List.range (n - (a + 1))).flatMap fun j => (if k = 2 then [[a, a + 1 + j]] else []) ++ (List.range (n - (a + 1 + j + 1))).flatMap fun i => if k = 3 then [[a, a + 1 + j, a + 1 + j + 1 + i]] else []
def rowsF (n k : Nat) : List (List Nat) := if k = 0 then [[]] else (List.range n).flatMap (rows1 n k)
def nx1B (n : Nat) : List Nat → List (List Nat) → Bool
  | idx, [] => (Cb.cGo n idx).isNone
  | idx, c :: r => decide (Cb.cGo n idx = some c) && nx1B n c r
theorem nx1_of {n : Nat} : ∀ {l : List (List Nat)} {idx : List Nat}, nx1B n idx l = true → Cb.Nx1 n idx l
  | [], idx, h => Option.isNone_iff_eq_none.mp h
  | c :: r, idx, h => by
    obtain ⟨h1, h2⟩ := Bool.and_eq_true_iff.mp h
    exact ⟨of_decide_eq_true h1, nx1_of h2⟩
def okF (n k : Nat) : Bool := (if k > n then (rowsF n k).isEmpty else match rowsF n k with
  | [] => false
  | c :: r => decide (c = List.range k) && nx1B n c r) && (rowsF n k).all fun c => c.all (fun i => decide (i < n)) && decide (c.length ≤ 1000)
theorem okF_all : ∀ n, n < 10 → ∀ k, k < 4 → okF n k = true ∧ (rowsF n k).length ≤ 100 := by decide +kernel
theorem rows_nx {n k : Nat} (hn : n < 10) (hk : k < 4) : Cb.Nx n (if k > n then 2 else 0) (List.range k) (rowsF n k) ∧ (∀ c ∈ rowsF n k, (∀ i ∈ c, i < n) ∧ c.length ≤ 1000) ∧ (rowsF n k).length ≤ 100 := by
  obtain ⟨h, hl⟩ := okF_all n hn k hk
  obtain ⟨h1, h2⟩ := Bool.and_eq_true_iff.mp h
  refine ⟨?_, fun c hc => ?_, hl⟩
  · by_cases g : k > n
    · rw [if_pos g] at h1 ⊢
      exact .inr (.inr ⟨rfl, List.isEmpty_iff.mp h1⟩)
    · rw [if_neg g] at h1 ⊢
      cases e : rowsF n k with
      | nil => rw [e] at h1; cases h1
      | cons c r =>
        rw [e] at h1
        obtain ⟨h3, h4⟩ := Bool.and_eq_true_iff.mp h1
        have e3 := of_decide_eq_true h3
        exact .inl ⟨rfl, r, by rw [e3], by rw [← e3]; exact nx1_of h4⟩
  · obtain ⟨h3, h4⟩ := Bool.and_eq_true_iff.mp (List.all_eq_true.mp h2 c hc)
    exact ⟨fun i hi => of_decide_eq_true (List.all_eq_true.mp h3 i hi), of_decide_eq_true h4⟩
/-- a list of choices, each a tuple made in the run -/
structure CsL (H : Hp) (l : Addr) (es : List Addr) (cs : List (List Nat)) : Prop where
  l : H l = some (.lst (es.map V.ref))
  e : Each (fun e c => H e = some (.tup (Cb.nV c))) es cs
theorem CsL.keep {H H' : Hp} {l : Addr} {es : List Addr} {cs : List (List Nat)} (h : CsL H l es cs) (s : Same H H') : CsL H' l es cs := ⟨s _ _ h.l, h.e.keep fun _ _ z => s _ _ z⟩
theorem CsL.grow {H H0 : Hp} {D u : Addr} {es : List Addr} {cs : List (List Nat)} {c : List Nat} {vs : List V} (hD : H0 D = none) (s0 : Same H0 H) (h : CsL H D es cs) (nu : H u = none) (ev : vs = Cb.nV c) : Same H0 (upd (upd H u (.tup vs)) D (.lst (es.map V.ref ++ [.ref u]))) ∧ CsL (upd (upd H u (.tup vs)) D (.lst (es.map V.ref ++ [.ref u]))) D (es ++ [u]) (cs ++ [c]) := by
  subst ev
  obtain ⟨s3, h3⟩ := fr (rfl : upd H u (.tup (Cb.nV c)) = _) nu
  generalize upd H u (.tup (Cb.nV c)) = H3 at *
  have h4 := h.keep s3
  have kk : TupK H3 (upd H3 D (.lst (es.map V.ref ++ [.ref u]))) := .set h4.l
  refine ⟨fun c w hc => ?_, by rw [upd_same, List.map_append]; rfl, (h4.e.keep fun _ _ z => kk.1 _ _ z).snoc (kk.1 _ _ h3)⟩
  rw [upd_ne (ne_of_none hc hD)]
  exact s3 _ _ (s0 _ _ hc)
def csP (c : List Nat) : PyData := .tuple ((c.map fun (i : Nat) => (i : Int)).map PyData.int)
theorem csI {K : PySem.W.Frag} {H : Hp} {a : Addr} {c : List Nat} (h : H a = some (.tup (Cb.nV c))) : Im K H (csP c) (.ref a) := Im.tup_ (SqT.of h) (by
  have e : Cb.nV c = (c.map fun (i : Nat) => (i : Int)).map V.int := by rw [List.map_map]; rfl
  rw [e]
  exact ImL.ints)
theorem CsL.im {K : PySem.W.Frag} {H : Hp} : ∀ {bs : List Addr} {cs : List (List Nat)}, Each (fun b c => H b = some (.tup (Cb.nV c))) bs cs → ImL K H (cs.map csP) (bs.map V.ref)
  | [], [], _ => ImL.nil_
  | [], s :: ss, h => absurd h.1 (by simp)
  | b :: bs, [], h => absurd h.1 (by simp)
  | b :: bs, s :: ss, h => ImL.cons_ (csI (h.2 0 b s rfl rfl)) (CsL.im ⟨by have := h.1; simpa using this, fun i b' s' h1 h2 => h.2 (i + 1) b' s' h1 h2⟩)
theorem CsL.ls {K : PySem.W.Frag} {H : Hp} {l bs cs} (h : CsL H l bs cs) : LsI K H l (cs.map csP) := ⟨_, h.l, CsL.im h.e⟩
theorem csi_depth : ∀ ns : List Int, PyData.depthAll (ns.map PyData.int) ≤ 1
  | [] => by simp [PyData.depthAll]
  | n :: r => by
    have := csi_depth r
    simp only [List.map_cons, PyData.depthAll, PyData.depth]
    omega
theorem cs_depth (c : List Nat) : (csP c).depth ≤ 3 := by
  have := csi_depth (c.map fun (i : Nat) => (i : Int))
  simp only [csP, PyData.depth]
  omega
theorem css_depth (cs : List (List Nat)) : (PyData.list (cs.map csP)).depth ≤ 64 := Nat.le_trans (ldepth cs_depth cs) (by decide)
theorem CsL.but {H H' : Hp} {l o : Addr} {es : List Addr} {cs : List (List Nat)} {xs : List V} (h : CsL H l es cs) (e : But o H H') (ho : H o = some (.lst xs)) (n : l ≠ o) : CsL H' l es cs :=
  ⟨e _ _ n h.l, h.e.keep fun _ _ z => e _ _ (ne_of z ho (by intro z; cases z)) z⟩
end Vs

namespace Vs
open PySem PySem.Spec PyProof.Rows L2
/-- a list is walked; what is done in a turn is any text -/
theorem it_list {K : PySem.W.Frag} {a : Addr} {xs : List V} {Bd : V → Hp → (Hp → Prop) → Prop} {H0 : Hp} {Qd : Hp → Prop} (Pv : Nat → Hp → Prop) (h0 : Pv 0 H0) (hl : ∀ i H, i ≤ xs.length → Pv i H → SqL K H a xs)
    (hs : ∀ i x H, xs[i]? = some x → Pv i H → Bd x H (Pv (i + 1))) (hd : ∀ H, Pv xs.length H → Qd H) :
    ∃ W : Nat → Nat → Hp → Prop, (∃ m, W 0 m H0) ∧ ∀ i m H, W i m H →
      ((Itl K a).stop i H ∧ Qd H) ∨ ((Itl K a).go i H ∧ ∃ Nx : Hp → Prop, (∀ H', Nx H' → ∃ m', m' < m ∧ W (i + 1) m' H') ∧ ∀ x H', (Itl K a).yld i H x H' → Bd x H' Nx) := by
  refine ⟨fun i m H => m = xs.length - i ∧ i ≤ xs.length ∧ Pv i H, ⟨xs.length, by simp, Nat.zero_le _, h0⟩, ?_⟩
  rintro i m H ⟨rfl, hi, p⟩
  have q := hl i H hi p
  by_cases hlt : i < xs.length
  · refine .inr ⟨⟨xs, xs[i], q, by simp [hlt]⟩, Pv (i + 1), fun H' p' => ⟨xs.length - (i + 1), by omega, rfl, hlt, p'⟩, fun x H' y => ?_⟩
    obtain ⟨e, y⟩ := y
    subst e
    exact hs i x _ (y xs q) p
  · have ei : i = xs.length := by omega
    subst ei
    exact .inl ⟨⟨xs, q, by simp⟩, hd H p⟩
theorem it_tup {K : PySem.W.Frag} {a : Addr} {xs : List V} {Bd : V → Hp → (Hp → Prop) → Prop} {H0 : Hp} {Qd : Hp → Prop} (Pv : Nat → Hp → Prop) (h0 : Pv 0 H0) (hl : ∀ i H, i ≤ xs.length → Pv i H → SqT K H a xs)
    (hs : ∀ i x H, xs[i]? = some x → Pv i H → Bd x H (Pv (i + 1))) (hd : ∀ H, Pv xs.length H → Qd H) :
    ∃ W : Nat → Nat → Hp → Prop, (∃ m, W 0 m H0) ∧ ∀ i m H, W i m H →
      ((Itt K a).stop i H ∧ Qd H) ∨ ((Itt K a).go i H ∧ ∃ Nx : Hp → Prop, (∀ H', Nx H' → ∃ m', m' < m ∧ W (i + 1) m' H') ∧ ∀ x H', (Itt K a).yld i H x H' → Bd x H' Nx) := by
  refine ⟨fun i m H => m = xs.length - i ∧ i ≤ xs.length ∧ Pv i H, ⟨xs.length, by simp, Nat.zero_le _, h0⟩, ?_⟩
  rintro i m H ⟨rfl, hi, p⟩
  have q := hl i H hi p
  by_cases hlt : i < xs.length
  · refine .inr ⟨⟨xs, xs[i], q, by simp [hlt]⟩, Pv (i + 1), fun H' p' => ⟨xs.length - (i + 1), by omega, rfl, hlt, p'⟩, fun x H' y => ?_⟩
    obtain ⟨e, y⟩ := y
    subst e
    exact hs i x _ (y xs q) p
  · have ei : i = xs.length := by omega
    subst ei
    exact .inl ⟨⟨xs, q, by simp⟩, hd H p⟩
end Vs

namespace Vs
open PySem PySem.Spec PyProof.Rows L2

def topS (i : Nat) : Stmt := PySem.Challenge.pw_whensure_k38_guilt_by_its_definition.main.body.getD i (.Pass ⟨0, 0, 0, 0⟩)
abbrev s_all_choices : Stmt := topS 7
abbrev nm_all_choices : List Str := ["parts", "faults"]
theorem sc_all_choices : FnScope nm_all_choices ["parts", "faults"] (defScope s_all_choices) := ⟨rfl, rfl, rfl, by decide +kernel, rfl, by decide +kernel, by decide +kernel⟩
abbrev s_bounds_left : Stmt := topS 8
abbrev nm_bounds_left : List Str := ["bounds", "choice", "bound"]
theorem sc_bounds_left : FnScope nm_bounds_left ["bounds", "choice"] (defScope s_bounds_left) := ⟨rfl, rfl, rfl, by decide +kernel, rfl, by decide +kernel, by decide +kernel⟩
abbrev s_points_named : Stmt := topS 9
abbrev nm_points_named : List Str := ["bounds", "points", "named", "first", "second", "_", "point"]
theorem sc_points_named : FnScope nm_points_named ["bounds", "points"] (defScope s_points_named) := ⟨rfl, rfl, rfl, by decide +kernel, rfl, by decide +kernel, by decide +kernel⟩
abbrev s_Table___init__ : Stmt := inClass (topS 5) 0
abbrev nm_Table___init__ : List Str := ["self"]
theorem sc_Table___init__ : FnScope nm_Table___init__ ["self"] (defScope s_Table___init__) := ⟨rfl, rfl, rfl, by decide +kernel, rfl, by decide +kernel, by decide +kernel⟩
abbrev s_Table_add_point : Stmt := inClass (topS 5) 3
abbrev nm_Table_add_point : List Str := ["self", "point", "row"]
theorem sc_Table_add_point : FnScope nm_Table_add_point ["self", "point"] (defScope s_Table_add_point) := ⟨rfl, rfl, rfl, by decide +kernel, rfl, by decide +kernel, by decide +kernel⟩
abbrev s_is_nearer : Stmt := topS 4
abbrev nm_is_nearer : List Str := ["amount", "distance"]
theorem sc_is_nearer : FnScope nm_is_nearer ["amount", "distance"] (defScope s_is_nearer) := ⟨rfl, rfl, rfl, by decide +kernel, rfl, by decide +kernel, by decide +kernel⟩
abbrev s_Table__shorten : Stmt := inClass (topS 5) 5
abbrev nm_Table__shorten : List Str := ["self", "start", "end", "amount", "reach", "onward", "row", "place", "rest", "ahead"]
theorem sc_Table__shorten : FnScope nm_Table__shorten ["self", "start", "end", "amount"] (defScope s_Table__shorten) := ⟨rfl, rfl, rfl, by decide +kernel, rfl, by decide +kernel, by decide +kernel⟩
abbrev s_Table_put_bound : Stmt := inClass (topS 5) 4
abbrev nm_Table_put_bound : List Str := ["self", "first", "second", "amount", "start", "end", "back"]
theorem sc_Table_put_bound : FnScope nm_Table_put_bound ["self", "first", "second", "amount"] (defScope s_Table_put_bound) := ⟨rfl, rfl, rfl, by decide +kernel, rfl, by decide +kernel, by decide +kernel⟩
abbrev s_table_of : Stmt := topS 10
abbrev nm_table_of : List Str := ["bounds", "points", "table", "point", "first", "second", "amount", "_"]
theorem sc_table_of : FnScope nm_table_of ["bounds", "points"] (defScope s_table_of) := ⟨rfl, rfl, rfl, by decide +kernel, rfl, by decide +kernel, by decide +kernel⟩
abbrev s_Table_possible : Stmt := inClass (topS 5) 2
abbrev nm_Table_possible : List Str := ["self"]
theorem sc_Table_possible : FnScope nm_Table_possible ["self"] (defScope s_Table_possible) := ⟨rfl, rfl, rfl, by decide +kernel, rfl, by decide +kernel, by decide +kernel⟩
abbrev s_Table_keep_points : Stmt := inClass (topS 5) 7
abbrev nm_Table_keep_points : List Str := ["self", "points", "wanted", "kept", "places", "point", "start", "end", "place"]
theorem sc_Table_keep_points : FnScope nm_Table_keep_points ["self", "points"] (defScope s_Table_keep_points) := ⟨rfl, rfl, rfl, by decide +kernel, rfl, by decide +kernel, by decide +kernel⟩
abbrev s_possible_tables : Stmt := topS 11
abbrev nm_possible_tables : List Str := ["bounds", "choices", "points", "pairs", "choice", "table"]
theorem sc_possible_tables : FnScope nm_possible_tables ["bounds", "choices", "points"] (defScope s_possible_tables) := ⟨rfl, rfl, rfl, by decide +kernel, rfl, by decide +kernel, by decide +kernel⟩
abbrev s_event_points : Stmt := topS 13
abbrev nm_event_points : List Str := ["points", "point"]
theorem sc_event_points : FnScope nm_event_points ["points"] (defScope s_event_points) := ⟨rfl, rfl, rfl, by decide +kernel, rfl, by decide +kernel, by decide +kernel⟩
abbrev s_Table_distance : Stmt := inClass (topS 5) 6
abbrev nm_Table_distance : List Str := ["self", "first", "second"]
theorem sc_Table_distance : FnScope nm_Table_distance ["self", "first", "second"] (defScope s_Table_distance) := ⟨rfl, rfl, rfl, by decide +kernel, rfl, by decide +kernel, by decide +kernel⟩
abbrev s_says_more : Stmt := topS 14
abbrev nm_says_more : List Str := ["own", "other", "first", "second", "distance", "reached"]
theorem sc_says_more : FnScope nm_says_more ["own", "other", "first", "second"] (defScope s_says_more) := ⟨rfl, rfl, rfl, by decide +kernel, rfl, by decide +kernel, by decide +kernel⟩
abbrev s_Table_points : Stmt := inClass (topS 5) 1
abbrev nm_Table_points : List Str := ["self"]
theorem sc_Table_points : FnScope nm_Table_points ["self"] (defScope s_Table_points) := ⟨rfl, rfl, rfl, by decide +kernel, rfl, by decide +kernel, by decide +kernel⟩
abbrev s_adds_nothing : Stmt := topS 15
abbrev nm_adds_nothing : List Str := ["own", "other", "points", "first", "second"]
theorem sc_adds_nothing : FnScope nm_adds_nothing ["own", "other"] (defScope s_adds_nothing) := ⟨rfl, rfl, rfl, by decide +kernel, rfl, by decide +kernel, by decide +kernel⟩
abbrev s_is_surely_right : Stmt := topS 16
abbrev nm_is_surely_right : List Str := ["part", "bounds", "tables", "own", "bound", "choice", "table"]
theorem sc_is_surely_right : FnScope nm_is_surely_right ["part", "bounds", "tables"] (defScope s_is_surely_right) := ⟨rfl, rfl, rfl, by decide +kernel, rfl, by decide +kernel, by decide +kernel⟩
abbrev s_guilt_of : Stmt := topS 17
abbrev nm_guilt_of : List Str := ["bounds", "parts", "faults", "events", "tables", "broken", "right", "part", "bound", "point", "choice", "_"]
theorem sc_guilt_of : FnScope nm_guilt_of ["bounds", "parts", "faults"] (defScope s_guilt_of) := ⟨rfl, rfl, rfl, by decide +kernel, rfl, by decide +kernel, by decide +kernel⟩
abbrev s__law_draws : Stmt := topS 19
abbrev nm__law_draws : List Str := ["script", "count", "rows", "place", "cell"]
theorem sc__law_draws : FnScope nm__law_draws ["script", "count"] (defScope s__law_draws) := ⟨rfl, rfl, rfl, by decide +kernel, rfl, by decide +kernel, by decide +kernel⟩
abbrev s__law_take : Stmt := topS 20
abbrev nm__law_take : List Str := ["rows", "at", "many", "got"]
theorem sc__law_take : FnScope nm__law_take ["rows", "at", "many"] (defScope s__law_take) := ⟨rfl, rfl, rfl, by decide +kernel, rfl, by decide +kernel, by decide +kernel⟩
abbrev s__law_points : Stmt := topS 22
abbrev nm__law_points : List Str := ["events"]
theorem sc__law_points : FnScope nm__law_points [] (defScope s__law_points) := ⟨rfl, rfl, rfl, by decide +kernel, rfl, by decide +kernel, by decide +kernel⟩
abbrev s__law_amount : Stmt := topS 23
abbrev nm__law_amount : List Str := ["rows", "at", "way"]
theorem sc__law_amount : FnScope nm__law_amount ["rows", "at"] (defScope s__law_amount) := ⟨rfl, rfl, rfl, by decide +kernel, rfl, by decide +kernel, by decide +kernel⟩
abbrev s__law_bound : Stmt := topS 24
abbrev nm__law_bound : List Str := ["rows", "at", "points", "parts", "one", "two", "amount"]
theorem sc__law_bound : FnScope nm__law_bound ["rows", "at", "points", "parts"] (defScope s__law_bound) := ⟨rfl, rfl, rfl, by decide +kernel, rfl, by decide +kernel, by decide +kernel⟩
abbrev s__law_ring : Stmt := topS 26
abbrev nm__law_ring : List Str := ["arcs", "many", "best", "_law_turn", "lowered", "arc", "k"]
theorem sc__law_ring : FnScope nm__law_ring ["arcs", "many"] (defScope s__law_ring) := ⟨rfl, rfl, rfl, by decide +kernel, rfl, by decide +kernel, by decide +kernel⟩
abbrev s__law_arcs_of : Stmt := topS 27
abbrev nm__law_arcs_of : List Str := ["bounds", "points", "bound"]
theorem sc__law_arcs_of : FnScope nm__law_arcs_of ["bounds", "points"] (defScope s__law_arcs_of) := ⟨rfl, rfl, rfl, by decide +kernel, rfl, by decide +kernel, by decide +kernel⟩
abbrev s__law_choices : Stmt := topS 28
abbrev nm__law_choices : List Str := ["parts", "faults", "due", "a", "b"]
theorem sc__law_choices : FnScope nm__law_choices ["parts", "faults"] (defScope s__law_choices) := ⟨rfl, rfl, rfl, by decide +kernel, rfl, by decide +kernel, by decide +kernel⟩
abbrev s__law_least : Stmt := topS 25
abbrev nm__law_least : List Str := ["arcs", "many", "start", "best", "_law_turn", "arc", "k", "step"]
theorem sc__law_least : FnScope nm__law_least ["arcs", "many", "start"] (defScope s__law_least) := ⟨rfl, rfl, rfl, by decide +kernel, rfl, by decide +kernel, by decide +kernel⟩
abbrev s__law_follows : Stmt := topS 29
abbrev nm__law_follows : List Str := ["own", "others", "names", "named", "one", "mine", "theirs", "two", "bound"]
theorem sc__law_follows : FnScope nm__law_follows ["own", "others"] (defScope s__law_follows) := ⟨rfl, rfl, rfl, by decide +kernel, rfl, by decide +kernel, by decide +kernel⟩
abbrev s__law_guilt : Stmt := topS 30
abbrev nm__law_guilt : List Str := ["bounds", "parts", "faults", "names", "possible", "choice", "broken", "right", "part", "left", "own", "having", "bound", "row"]
theorem sc__law_guilt : FnScope nm__law_guilt ["bounds", "parts", "faults"] (defScope s__law_guilt) := ⟨rfl, rfl, rfl, by decide +kernel, rfl, by decide +kernel, by decide +kernel⟩
abbrev s__law_whole : Stmt := topS 21
abbrev nm__law_whole : List Str := ["told"]
theorem sc__law_whole : FnScope nm__law_whole ["told"] (defScope s__law_whole) := ⟨rfl, rfl, rfl, by decide +kernel, rfl, by decide +kernel, by decide +kernel⟩
abbrev s__law_guilt_right : Stmt := topS 31
abbrev nm__law_guilt_right : List Str := ["told", "due", "row", "part"]
theorem sc__law_guilt_right : FnScope nm__law_guilt_right ["told", "due"] (defScope s__law_guilt_right) := ⟨rfl, rfl, rfl, by decide +kernel, rfl, by decide +kernel, by decide +kernel⟩
abbrev s_law : Stmt := topS 32
abbrev nm_law : List Str := ["script", "rows", "parts", "faults", "pool", "bounds", "due", "given", "told", "k"]
theorem sc_law : FnScope nm_law ["script"] (defScope s_law) := ⟨rfl, rfl, rfl, by decide +kernel, rfl, by decide +kernel, by decide +kernel⟩
/-- what the top has made of the class -/
structure Ck_Table (K : PySem.W.Frag) (mg : Str → Option Value) (C : Addr) : Prop where
  cl : Cls K C
  mg : mg "Table" = some (.ref C)
  n__places : NoAttr K C "_places"
  n__rows : NoAttr K C "_rows"
  n__possible : NoAttr K C "_possible"
/-- its attributes -/
def ff_Table (v__places v__rows v__possible : V) : List (Str × V) := putF "_possible" v__possible (putF "_rows" v__rows (putF "_places" v__places ([])))
theorem lk_Table__places {v__places v__rows v__possible : V} : (ff_Table v__places v__rows v__possible).lookup ("_places" : Str) = some v__places := by
  unfold ff_Table; rw [lookup_putF, if_neg (by decide +kernel : ¬ (("_places" : Str) = "_possible"))]; rw [lookup_putF, if_neg (by decide +kernel : ¬ (("_places" : Str) = "_rows"))]; rw [lookup_putF, if_pos rfl]
theorem lk_Table__rows {v__places v__rows v__possible : V} : (ff_Table v__places v__rows v__possible).lookup ("_rows" : Str) = some v__rows := by
  unfold ff_Table; rw [lookup_putF, if_neg (by decide +kernel : ¬ (("_rows" : Str) = "_possible"))]; rw [lookup_putF, if_pos rfl]
theorem lk_Table__possible {v__places v__rows v__possible : V} : (ff_Table v__places v__rows v__possible).lookup ("_possible" : Str) = some v__possible := by
  unfold ff_Table; rw [lookup_putF, if_pos rfl]
theorem no_Table {v__places v__rows v__possible : V} {m : Str} (h__places : ¬ m = "_places" := by decide +kernel) (h__rows : ¬ m = "_rows" := by decide +kernel) (h__possible : ¬ m = "_possible" := by decide +kernel) : (ff_Table v__places v__rows v__possible).lookup m = none := by
  unfold ff_Table; rw [lookup_putF, if_neg h__possible]; rw [lookup_putF, if_neg h__rows]; rw [lookup_putF, if_neg h__places]; rfl
/-- points in a list: each a tuple of its own -/
structure PtL (H : Hp) (l : Addr) (bs : List Addr) (ps : List Pt) : Prop where
  l : H l = some (.lst (bs.map V.ref))
  e : Each (fun b p => H b = some (.tup [.int p.d, .int p.n, .int p.c])) bs ps
def Outs (fp : List Addr) (H H' : Hp) : Prop := ∀ b u, b ∉ fp → H b = some u → H' b = some u
theorem Outs.of {fp : List Addr} {H H' : Hp} (e : Same H H') : Outs fp H H' := fun b u _ h => e b u h
theorem Outs.trans {fp : List Addr} {H H1 H2 : Hp} (a : Outs fp H H1) (b : Outs fp H1 H2) : Outs fp H H2 := fun c u n h => b c u n (a c u n h)
theorem Outs.mono {fp gp : List Addr} {H H' : Hp} (a : Outs fp H H') (s : ∀ b ∈ fp, b ∈ gp) : Outs gp H H' := fun c u n h => a c u (fun m => n (s c m)) h
theorem Outs.but {fp : List Addr} {o : Addr} {H H' : Hp} (a : But o H H') (m : o ∈ fp) : Outs fp H H' := fun c u n h => a c u (fun e => n (e ▸ m)) h
theorem Outs.same {fp : List Addr} {H0 H H' : Hp} (s : Outs fp H H') (e : Same H0 H) (n : ∀ b ∈ fp, H0 b = none) : Same H0 H' := fun c u h => s c u (fun m => by rw [n c m] at h; cases h) (e c u h)
def onP (x : Nat × Int) : PyData := .tuple [.int (x.1 : Int), .int x.2]
theorem Im.unon {K : PySem.W.Frag} {H : Hp} {x : Nat × Int} {v : V} (h : Im K H (onP x) v) : ∃ a, v = .ref a ∧ SqT K H a [.int (x.1 : Int), .int x.2] := by
  obtain ⟨a, vs, h1, h2, h3⟩ := Im.unt h
  have e := ImL.uints (ns := [(x.1 : Int), x.2]) h3
  exact ⟨a, h1, by rw [e] at h2; exact h2⟩
theorem onI {K : PySem.W.Frag} {H : Hp} {a : Addr} {x : Nat × Int} (h : SqT K H a [.int (x.1 : Int), .int x.2]) : Im K H (onP x) (.ref a) := Im.tup_ h (ImL.ints (ns := [(x.1 : Int), x.2]))
theorem rowAt {K : PySem.W.Frag} {H : Hp} {a : Addr} {r : Row} (h : H a = some (rowO r)) : SqL K H a (r.map hiV) := SqL.of h
theorem row_at {r : Row} {i : Nat} (hi : i < r.length) : atI (r.map hiV) (i : Int) = some (hiV (r.getD i none)) := at_of (j := i) rfl (by rw [List.getElem?_map, getD_ix (d := none) hi]; rfl)
theorem hiV_non {o : Option Int} : decide (hiV o = V.non) = o.isNone := by
  cases o with
  | none => exact decide_eq_true rfl
  | some b => exact decide_eq_false (by intro z; cases z)
/-- one row of a list of rows is changed -/
theorem rows_put {H : Hp} {rs : List Addr} {d : List Row} {a : Addr} {r : Row} {i : Nat} (g : Each (fun a r => H a = some (rowO r)) rs d) (nd : rs.Nodup) (hi : rs[i]? = some a) : Each (fun b q => upd H a (rowO r) b = some (rowO q)) rs (d.set i r) := by
  refine ⟨by rw [g.1, List.length_set], fun j b q h1 h2 => ?_⟩
  by_cases e : i = j
  · subst e
    rw [hi] at h1
    cases h1
    have hl := (List.getElem?_eq_some_iff.mp h2).1
    rw [List.length_set] at hl
    rw [List.getElem?_set_self hl] at h2
    cases h2
    exact upd_same
  · rw [List.getElem?_set_ne e] at h2
    rw [upd_ne (show b ≠ a from fun z => e (nd_ix nd hi (by rw [← z]; exact h1)))]
    exact g.2 j b q h1 h2
theorem put_possible {a b c x : V} : putF "_possible" x (ff_Table a b c) = ff_Table a b x := rfl
theorem put_rows {a b c x : V} : putF "_rows" x (ff_Table a b c) = ff_Table a x c := rfl
theorem put_places {a b c x : V} : putF "_places" x (ff_Table a b c) = ff_Table x b c := rfl
theorem len_Table {a b c : V} : (ff_Table a b c).length < 1000 := by
  rw [show (ff_Table a b c).length = 3 from rfl]
  decide
theorem rep_row : ∀ n : Nat, (List.replicate n [V.non]).flatten ++ [V.int 0] = (List.replicate n (none : Option Int) ++ [some 0]).map hiV
  | 0 => rfl
  | n + 1 => by
    rw [List.replicate_succ, List.flatten_cons, List.replicate_succ]
    show V.non :: ((List.replicate n [V.non]).flatten ++ [V.int 0]) = V.non :: (List.replicate n (none : Option Int) ++ [some 0]).map hiV
    rw [rep_row n]
theorem rep_len (n : Nat) : ((List.replicate n [V.non]).flatten).length = n := by
  induction n with
  | zero => rfl
  | succ n ih =>
    rw [List.replicate_succ, List.flatten_cons, List.length_append, ih, List.length_singleton]
    omega
structure TbAt (CT : Addr) (H : Hp) (t : Addr) (T : TbM) (pl rw : Addr) (rs : List Addr) : Prop where
  ins : ∃ dx, H t = some (.ins CT dx (ff_Table (.ref pl) (.ref rw) (.bl T.ok)))
  hpl : H pl = some (.dT (plK T.pts))
  hrw : H rw = some (.lst (rs.map V.ref))
  ro : Each (fun a r => H a = some (rowO r)) rs T.d
  nr : rw ∉ rs
  nd : rs.Nodup
  ok : TbOk T
section
variable {CT : Addr} {H H' : Hp} {t pl rw : Addr} {T : TbM} {rs : List Addr}
theorem TbAt.rl (h : TbAt CT H t T pl rw rs) : rs.length = T.pts.length := by rw [h.ro.1, h.ok.dl]
theorem TbAt.row (h : TbAt CT H t T pl rw rs) {i : Nat} (hi : i < T.pts.length) : ∃ a, rs[i]? = some a ∧ H a = some (rowO (T.d.getD i [])) ∧ (T.d.getD i []).length = T.pts.length := by
  have hl := h.rl
  have h1 : rs[i]? = some (rs[i]'(by omega)) := List.getElem?_eq_getElem _
  have h2 : T.d[i]? = some (T.d.getD i []) := getD_ix (by rw [h.ok.dl]; exact hi)
  exact ⟨_, h1, h.ro.2 i _ _ h1 h2, h.ok.rl _ (List.mem_of_getElem? h2)⟩
theorem TbAt.keep (e : Same H H') (h : TbAt CT H t T pl rw rs) : TbAt CT H' t T pl rw rs := by
  obtain ⟨dx, h1⟩ := h.ins
  exact ⟨⟨dx, e _ _ h1⟩, e _ _ h.hpl, e _ _ h.hrw, h.ro.keep fun _ _ z => e _ _ z, h.nr, h.nd, h.ok⟩
/-- it stays where what changes is none of its own -/
theorem TbAt.outs {fp : List Addr} (e : Outs fp H H') (h : TbAt CT H t T pl rw rs) (n : ∀ a ∈ t :: pl :: rw :: rs, a ∉ fp) : TbAt CT H' t T pl rw rs := by
  obtain ⟨dx, h1⟩ := h.ins
  exact ⟨⟨dx, e _ _ (n t (by simp)) h1⟩, e _ _ (n pl (by simp)) h.hpl, e _ _ (n rw (by simp)) h.hrw, h.ro.imp fun a _ ha z => e _ _ (n a (by simp [ha])) z, h.nr, h.nd, h.ok⟩
theorem TbAt.tn (h : TbAt CT H t T pl rw rs) : t ∉ rs := fun m => by
  obtain ⟨i, hi⟩ := List.getElem?_of_mem m
  obtain ⟨x, _, y⟩ := h.ro.get hi
  obtain ⟨dx, h1⟩ := h.ins
  rw [y] at h1
  cases h1
theorem TbAt.pn (h : TbAt CT H t T pl rw rs) : pl ∉ rs := fun m => by
  obtain ⟨i, hi⟩ := List.getElem?_of_mem m
  obtain ⟨x, _, y⟩ := h.ro.get hi
  have h1 := h.hpl
  rw [y] at h1
  cases h1
theorem TbAt.tp (h : TbAt CT H t T pl rw rs) : t ≠ pl := by
  obtain ⟨dx, h1⟩ := h.ins
  exact ne_of h1 h.hpl (by intro z; cases z)
theorem TbAt.tw (h : TbAt CT H t T pl rw rs) : t ≠ rw := by
  obtain ⟨dx, h1⟩ := h.ins
  exact ne_of h1 h.hrw (by intro z; cases z)
theorem TbAt.pw (h : TbAt CT H t T pl rw rs) : pl ≠ rw := ne_of h.hpl h.hrw (by intro z; cases z)
theorem TbAt.rows (h : TbAt CT H t T pl rw rs) {d' : List Row} (e : Outs rs H H') (ro : Each (fun a r => H' a = some (rowO r)) rs d') (ok : TbOk ⟨T.pts, d', T.ok⟩) : TbAt CT H' t ⟨T.pts, d', T.ok⟩ pl rw rs := by
  obtain ⟨dx, h1⟩ := id h.ins
  exact ⟨⟨dx, e _ _ h.tn h1⟩, e _ _ h.pn h.hpl, e _ _ h.nr h.hrw, ro, h.nr, h.nd, ok⟩
theorem TbAt.flag (h : TbAt CT H t T pl rw rs) {dx : Addr} {b : Bool} (e : But t H H') (g : H' t = some (.ins CT dx (ff_Table (.ref pl) (.ref rw) (.bl b)))) : TbAt CT H' t ⟨T.pts, T.d, b⟩ pl rw rs :=
  ⟨⟨dx, g⟩, e _ _ h.tp.symm h.hpl, e _ _ h.tw.symm h.hrw, h.ro.imp fun a _ ha z => e _ _ (fun w => h.tn (w ▸ ha)) z, h.nr, h.nd, h.ok.nd, h.ok.few, h.ok.dl, h.ok.rl⟩
theorem TbAt.free (h : TbAt CT H t T pl rw rs) {a : Addr} (n : H a = none) : a ∉ t :: pl :: rw :: rs := fun m => by
  obtain ⟨dx, h1⟩ := h.ins
  simp only [List.mem_cons] at m
  rcases m with e | e | e | m
  · rw [e, h1] at n; cases n
  · rw [e, h.hpl] at n; cases n
  · rw [e, h.hrw] at n; cases n
  · obtain ⟨i, hi⟩ := List.getElem?_of_mem m
    obtain ⟨x, _, y⟩ := h.ro.get hi
    rw [y] at n; cases n
end
theorem PtL.keep {H H' : Hp} {l : Addr} {bs : List Addr} {ps : List Pt} (e : Same H H') (h : PtL H l bs ps) : PtL H' l bs ps := ⟨e _ _ h.l, h.e.keep fun _ _ z => e _ _ z⟩
theorem PtL.tk {H H' : Hp} {l : Addr} {bs : List Addr} {ps : List Pt} (e : TupK H H') (el : H' l = some (.lst (bs.map V.ref))) (h : PtL H l bs ps) : PtL H' l bs ps := ⟨el, h.e.keep fun _ _ z => e.1 _ _ z⟩
theorem PtL.get {H : Hp} {l : Addr} {bs : List Addr} {ps : List Pt} (h : PtL H l bs ps) {i : Nat} {p : Pt} (hi : ps[i]? = some p) : ∃ b, bs[i]? = some b ∧ H b = some (.tup [.int p.d, .int p.n, .int p.c]) := by
  have hl := h.e.1
  have hi' := (List.getElem?_eq_some_iff.mp hi).1
  have e : bs[i]? = some (bs[i]'(by omega)) := List.getElem?_eq_getElem _
  exact ⟨_, e, h.e.2 i _ _ e hi⟩
def ptN (p : Pt) : List Int := [p.d, p.n, p.c]
theorem ptN_inj {p q : Pt} (h : ptN p = ptN q) : p = q := by
  unfold ptN at h
  injection h with h1 h
  injection h with h2 h
  injection h with h3 _
  cases p; cases q
  simp only at h1 h2 h3
  rw [h1, h2, h3]
def ksM (bs : List Addr) (ns : List Pt) : List (Addr × List Int) := (bs.zip ns).map fun z => (z.1, ptN z.2)
theorem ksM_refs : ∀ {bs : List Addr} {ns : List Pt}, bs.length = ns.length → (ksM bs ns).map (fun p => V.ref p.1) = bs.map V.ref
  | [], [], _ => rfl
  | b :: bs, n :: ns, h => by
    show V.ref b :: (ksM bs ns).map (fun p => V.ref p.1) = V.ref b :: bs.map V.ref
    rw [ksM_refs (by simpa using h)]
theorem ksM_mem {H : Hp} : ∀ {bs : List Addr} {ns : List Pt}, Each (fun b p => H b = some (.tup [.int p.d, .int p.n, .int p.c])) bs ns → ∀ p ∈ ksM bs ns, H p.1 = some (.tup (p.2.map V.int)) ∧ ∃ q ∈ ns, p.2 = ptN q := by
  intro bs ns h p hp
  obtain ⟨z, hz, rfl⟩ := List.mem_map.mp hp
  obtain ⟨i, hi⟩ := List.getElem?_of_mem hz
  rw [List.getElem?_zip_eq_some] at hi
  exact ⟨h.2 i _ _ hi.1 hi.2, z.2, List.mem_of_getElem? hi.2, rfl⟩
theorem ksM_has : ∀ {bs : List Addr} {ns : List Pt}, bs.length = ns.length → ∀ q ∈ ns, ∃ p ∈ ksM bs ns, p.2 = ptN q
  | [], [], _, q, h => by cases h
  | b :: bs, n :: ns, h, q, hq => by
    rcases List.mem_cons.mp hq with e | hq
    · exact ⟨(b, ptN n), List.mem_cons_self, by rw [e]⟩
    · obtain ⟨p, hp, e⟩ := ksM_has (by simpa using h) q hq
      exact ⟨p, List.mem_cons_of_mem _ hp, e⟩
theorem setMem {bs : List Addr} {ns : List Pt} {H : Hp} {L : List (Addr × List Int)} (hP : Each (fun b p => H b = some (.tup [.int p.d, .int p.n, .int p.c])) bs ns) (h1 : ∀ p ∈ L, p ∈ ksM bs ns) (h2 : ∀ p ∈ ksM bs ns, p.2 ∈ L.map (·.2)) (q : Pt) : decide (ptN q ∈ L.map (·.2)) = decide (q ∈ ns) := by
  apply decide_eq_decide.mpr
  refine ⟨fun m => ?_, fun m => ?_⟩
  · obtain ⟨p, hp, e⟩ := List.mem_map.mp m
    obtain ⟨_, q', hq, e2⟩ := ksM_mem hP p (h1 p hp)
    rw [ptN_inj (e.symm.trans e2)]
    exact hq
  · obtain ⟨p, hp, e⟩ := ksM_has hP.1 q m
    rw [← e]
    exact h2 p hp
theorem filter_take {α : Type} {f : α → Bool} {xs : List α} {i : Nat} {x : α} (h : xs[i]? = some x) : (xs.take (i + 1)).filter f = (xs.take i).filter f ++ (if f x = true then [x] else []) := by
  rw [List.take_add_one, h, List.filter_append]
  congr 1
  show List.filter f [x] = _
  rw [List.filter_cons]
  cases f x <;> rfl
theorem map_take {α β : Type} {f : α → β} {xs : List α} {i : Nat} {x : α} (h : xs[i]? = some x) : (xs.take (i + 1)).map f = (xs.take i).map f ++ [f x] := by
  rw [List.take_add_one, h, List.map_append]
  rfl
theorem ref_of {rs : List Addr} {i : Nat} {x : V} (hx : (rs.map V.ref)[i]? = some x) : ∃ a, rs[i]? = some a ∧ x = V.ref a := by
  rw [List.getElem?_map] at hx
  cases h : rs[i]? with
  | none => rw [h] at hx; cases hx
  | some a => rw [h] at hx; exact ⟨a, rfl, (Option.some.inj hx).symm⟩
def ptsL : List Pt := [⟨-1, 0, -1⟩, ⟨0, 1, -1⟩, ⟨0, 2, -1⟩, ⟨1, 1, -1⟩, ⟨0, 1, 0⟩, ⟨0, 2, 0⟩, ⟨1, 1, 1⟩]
abbrev PtAt (H : Hp) : Addr → Pt → Prop := fun b p => H b = some (.tup [.int p.d, .int p.n, .int p.c])
theorem pt_eqv (p q : Pt) : PyData.eqv (ptP p) (ptP q) = decide (p = q) := by
  obtain ⟨a, b, c⟩ := p
  obtain ⟨x, y, z⟩ := q
  rw [Bool.eq_iff_iff, decide_eq_true_iff, Pt.mk.injEq]
  simp [ptP, PyData.eqv, PyData.eqvAll]
theorem pts_any (ps : List Pt) (p : Pt) : ((ps.map ptP).any fun z => z.eqv (ptP p)) = decide (p ∈ ps) := by
  induction ps with
  | nil => simp
  | cons a r ih =>
    rw [List.map_cons, List.any_cons, ih, pt_eqv, Bool.eq_iff_iff, Bool.or_eq_true, decide_eq_true_iff, decide_eq_true_iff, decide_eq_true_iff, List.mem_cons]
    exact ⟨fun h => h.elim (fun e => .inl e.symm) .inr, fun h => h.elim (fun e => .inl e.symm) .inr⟩
theorem pts_lay : ∀ ps : List Pt, PyData.canLayAll0 (ps.map ptP) = true
  | [] => rfl
  | p :: r => by
    show (PyData.canLay0 (ptP p) && PyData.canLayAll0 (r.map ptP)) = true
    rw [pts_lay r]
    rfl
theorem pts_shaped (ps : List Pt) : SeqAt.shaped (.list (ps.map ptP)) = true := by
  unfold SeqAt.shaped
  rw [Bool.and_eq_true]
  exact ⟨pts_lay ps, decide_eq_true (Nat.le_trans (ldepth pt_depth ps) (by decide))⟩
theorem pt_dp {K : PySem.W.Frag} {H : Hp} {b : Addr} {p : Pt} (h : PtAt H b p) : Dp K H (.ref b) (ptP p) := .tup (SqT.of h) (.cons (.int _) (.cons (.int _) (.cons (.int _) .nil)))
theorem PtL.dp {K : PySem.W.Frag} {H : Hp} {l : Addr} {bs : List Addr} {ps : List Pt} (h : PtL H l bs ps) : Dp K H (.ref l) (.list (ps.map ptP)) := .lst (SqL.of h.l) (all_dp (P := PtAt H) (fun _ _ z => pt_dp z) h.e)
theorem ptl_plain (ps : List Pt) : (PyData.list (ps.map ptP)).plain = true := all_plain (fun _ => rfl) ps
theorem PtL.neP {K : PySem.W.Frag} {H : Hp} {l m : Addr} {bs cs : List Addr} {ps : List Pt} {Q : VK} (h : PtL H l bs ps) (g : PtL H m cs ps) (q : Q (.bl false) H) : rNeP K (.ref l) (.ref m) H Q := by
  refine ⟨_, _, h.dp, g.dp, ptl_plain ps, ptl_plain ps, Nat.le_trans (ldepth pt_depth ps) (by decide), ?_⟩
  rw [SeqAt.eqv_refl_plain _ (ptl_plain ps)]
  exact q
theorem PtL.eqP {K : PySem.W.Frag} {H : Hp} {l m : Addr} {bs cs : List Addr} {ps : List Pt} {Q : VK} (h : PtL H l bs ps) (g : PtL H m cs ps) (q : Q (.bl true) H) : rEqP K (.ref l) (.ref m) H Q := by
  refine ⟨_, _, h.dp, g.dp, ptl_plain ps, ptl_plain ps, Nat.le_trans (ldepth pt_depth ps) (by decide), ?_⟩
  rw [SeqAt.eqv_refl_plain _ (ptl_plain ps)]
  exact q
/-- what is new in a heap, and the tuples -/
def newP (H H' : Hp) : Hp := fun x => match H x with | none => H' x | some (.tup xs) => some (.tup xs) | some _ => none
theorem newP_new {H H' : Hp} {a : Addr} {u : HO} (n : H a = none) (h : H' a = some u) : newP H H' a = some u := by
  unfold newP
  rw [n]
  exact h
theorem newP_tup {H H' : Hp} {a : Addr} {xs : List V} (s : Same H H') (h : H' a = some (.tup xs)) : newP H H' a = some (.tup xs) := by
  cases e : H a with
  | none => exact newP_new e h
  | some u =>
    have h2 := s _ _ e
    rw [h] at h2
    cases h2
    unfold newP
    rw [e]
theorem newP_sub {H H' : Hp} (s : Same H H') : Same (newP H H') H' := by
  intro a u h
  unfold newP at h
  cases e : H a with
  | none => rw [e] at h; exact h
  | some w =>
    rw [e] at h
    cases w <;> first | (cases h; exact s _ _ e) | cases h
/-- a table as it is shown -/
structure ShAt (H : Hp) (a : Addr) (ps : List Pt) (d : List Row) (b : Bool) : Prop where
  ex : ∃ l bs r rs, H a = some (.tup [.ref l, .ref r, .bl b]) ∧ PtL H l bs ps ∧ H r = some (.lst (rs.map V.ref)) ∧ Each (fun a r => H a = some (rowO r)) rs d
theorem ShAt.keep {H H' : Hp} {a : Addr} {ps : List Pt} {d : List Row} {b : Bool} (s : Same H H') (h : ShAt H a ps d b) : ShAt H' a ps d b := by
  obtain ⟨l, bs, r, rs, h1, h2, h3, h4⟩ := h.ex
  exact ⟨l, bs, r, rs, s _ _ h1, h2.keep s, s _ _ h3, h4.keep fun _ _ z => s _ _ z⟩
def shM (T : TbM) : List Row := T.pts.map fun p => T.pts.map fun q => distM T p q
theorem shr_dp {K : PySem.W.Frag} {H : Hp} {a : Addr} {r : Row} (h : H a = some (rowO r)) : Dp K H (.ref a) (.list (r.map hiP)) := by
  refine .lst (SqL.of h) ?_
  induction r with
  | nil => exact .nil
  | cons o r ih =>
    refine .cons (hi_dp o) ?_
    clear ih h
    induction r with
    | nil => exact .nil
    | cons o r ih => exact .cons (hi_dp o) ih
def shD (ps : List Pt) (d : List Row) (b : Bool) : PyData := .tuple [.list (ps.map ptP), .list (d.map fun r => .list (r.map hiP)), .bool b]
theorem sh_plain (ps : List Pt) (d : List Row) (b : Bool) : (shD ps d b).plain = true := by
  show ((PyData.list (ps.map ptP)).plain && ((PyData.list (d.map fun r => .list (r.map hiP))).plain && (true && true))) = true
  rw [ptl_plain, show (PyData.list (d.map fun r => PyData.list (r.map hiP))).plain = true from all_plain (f := fun r : Row => PyData.list (r.map hiP)) (fun r => all_plain hi_plain r) d]
  rfl
theorem sh_depth (ps : List Pt) (d : List Row) (b : Bool) : (shD ps d b).depth ≤ 64 := by
  have h1 := ldepth pt_depth ps
  have h2 := ldepth (f := fun r : Row => PyData.list (r.map hiP)) (fun r => ldepth hi_depth r) d
  simp only [shD, PyData.depth, PyData.depthAll] at *
  omega
theorem ShAt.dp {K : PySem.W.Frag} {H : Hp} {a : Addr} {ps : List Pt} {d : List Row} {b : Bool} (h : ShAt H a ps d b) : Dp K H (.ref a) (shD ps d b) := by
  obtain ⟨l, bs, r, rs, h1, h2, h3, h4⟩ := h.ex
  exact .tup (SqT.of h1) (.cons h2.dp (.cons (.lst (SqL.of h3) (all_dp (P := fun a r => H a = some (rowO r)) (f := fun r : Row => PyData.list (r.map hiP)) (fun _ _ z => shr_dp z) h4)) (.cons (.bl _) .nil)))
def TbIn (T : TbM) : Prop := T.pts ⊆ ptsL ∧ 2 ≤ T.pts.length
theorem TbIn.few {T : TbM} (h : TbIn T) (nd : T.pts.Nodup) : T.pts.length ≤ 7 := nd.length_le_of_subset h.1
theorem hu65 {k : Nat} {A : Around} (h : Room k A) : A.units + 65 < cLine := by
  have := h.un
  omega
theorem PtL.at {H : Hp} {l : Addr} {bs : List Addr} {ps : List Pt} (h : PtL H l bs ps) {g : Int} (g0 : 0 ≤ g) (g1 : g < (ps.length : Int)) : ∃ b p, atI (bs.map V.ref) g = some (.ref b) ∧ bs[g.toNat]? = some b ∧ PtAt H b p ∧ ps[g.toNat]? = some p := by
  have hl := h.e.1
  have h2 : ps[g.toNat]? = some (ps[g.toNat]'(by omega)) := List.getElem?_eq_getElem _
  obtain ⟨b, hb, hp⟩ := h.get h2
  exact ⟨b, _, at_of (j := g.toNat) (by omega) (by rw [List.getElem?_map, hb]; rfl), hb, hp, h2⟩
theorem Each.erase {α : Type} {P : Addr → α → Prop} {as : List Addr} {xs : List α} (h : Each P as xs) (k : Nat) : Each P (as.eraseIdx k) (xs.eraseIdx k) := by
  refine ⟨by rw [List.length_eraseIdx, List.length_eraseIdx, h.1], fun i a x h1 h2 => ?_⟩
  rw [List.getElem?_eraseIdx] at h1 h2
  split at h1
  · rename_i c
    rw [if_pos c] at h2
    exact h.2 _ _ _ h1 h2
  · rename_i c
    rw [if_neg c] at h2
    exact h.2 _ _ _ h1 h2
theorem map_erase {α β : Type} {f : α → β} : ∀ (xs : List α) (k : Nat), (xs.map f).eraseIdx k = (xs.eraseIdx k).map f
  | [], _ => rfl
  | _ :: _, 0 => rfl
  | x :: r, k + 1 => by
    show f x :: (r.map f).eraseIdx k = f x :: (r.eraseIdx k).map f
    rw [map_erase r k]
theorem seqI {g : Int} {n : Nat} (g0 : 0 ≤ g) (g1 : g < (n : Int)) : seqIndex? g n = some g.toNat := by
  have h : (if g < 0 then g + (n : Int) else g) = g := if_neg (by omega)
  show (if (decide (0 ≤ (if g < 0 then g + (n : Int) else g)) && decide ((if g < 0 then g + (n : Int) else g) < (n : Int))) = true then some (if g < 0 then g + (n : Int) else g).toNat else none) = _
  rw [h, if_pos (by rw [decide_eq_true g0, decide_eq_true g1]; rfl)]
theorem iteB {c : Bool} {X A B : Prop} (hB : B) (h : c = true → B → X) : if c = true then X else (if false = true then A else B) := by
  cases c with
  | false => exact hB
  | true => exact h rfl hB
theorem putM_pts (T : TbM) (s e : Nat) (w : Int) : (putM T s e w).pts = T.pts := by
  unfold putM
  split
  · rfl
  · split <;> rfl
theorem TbIn.put {T : TbM} (h : TbIn T) (s e : Nat) (w : Int) : TbIn (putM T s e w) := by
  unfold TbIn
  rw [putM_pts]
  exact h
theorem TbIn.add {T : TbM} (h : TbIn T) {p : Pt} (m : p ∈ ptsL) : TbIn (addM T p) := by
  refine ⟨fun q hq => ?_, by have := h.2; show 2 ≤ (T.pts ++ [p]).length; rw [List.length_append]; omega⟩
  rcases List.mem_append.mp hq with m2 | m2
  · exact h.1 m2
  · rw [List.mem_singleton.mp m2]; exact m
theorem TbIn.keep {T : TbM} (h : TbIn T) (nd : T.pts.Nodup) {k : Nat} (hl : 2 < T.pts.length) : TbIn (keepM T (T.pts.eraseIdx k)) := by
  refine ⟨fun q hq => h.1 (List.mem_filter.mp hq).1, ?_⟩
  show 2 ≤ (keptM T (T.pts.eraseIdx k)).length
  have h1 : (T.pts.eraseIdx k).length ≤ (keptM T (T.pts.eraseIdx k)).length := (nd.eraseIdx k).length_le_of_subset fun q hq => List.mem_filter.mpr ⟨List.mem_of_mem_eraseIdx hq, decide_eq_true hq⟩
  rw [List.length_eraseIdx] at h1
  split at h1 <;> omega
theorem TbAt.hp {CT : Addr} {H : Hp} {t pl rw : Addr} {T : TbM} {rs : List Addr} (h : TbAt CT H t T pl rw rs) : ∃ dx, H t = some (.ins CT dx (ff_Table (.ref pl) (.ref rw) (.bl T.ok))) := h.ins
theorem cutP {xs : List V} {j : Nat} (h : j ≤ xs.length) : cutV xs none (some (j : Int)) = xs.take j := by
  unfold cutV
  have e : HT.sIx xs.length xs.length (some (j : Int)) = j := by
    show (if (j : Int) < 0 then ((j : Int) + xs.length).toNat else min (j : Int).toNat xs.length) = j
    rw [if_neg (by omega)]
    omega
  have e0 : HT.sIx xs.length 0 none = 0 := rfl
  rw [e, e0]
  rfl
theorem iteN {A B : Prop} (h : B) : if (!true) = true then A else B := h
theorem TbAt.kind {CT : Addr} {H : Hp} {t pl rw : Addr} {T : TbM} {rs : List Addr} (h : TbAt CT H t T pl rw rs) : ∀ x ∈ t :: pl :: rw :: rs, ∃ o, H x = some o ∧ ∀ xs, o ≠ .tup xs := by
  intro x hx
  obtain ⟨dx, h1⟩ := h.ins
  simp only [List.mem_cons] at hx
  rcases hx with e | e | e | m
  · exact ⟨_, by rw [e]; exact h1, fun xs z => by cases z⟩
  · exact ⟨_, by rw [e]; exact h.hpl, fun xs z => by cases z⟩
  · exact ⟨_, by rw [e]; exact h.hrw, fun xs z => by cases z⟩
  · obtain ⟨i, hi⟩ := List.getElem?_of_mem m
    obtain ⟨r, _, y⟩ := h.ro.get hi
    exact ⟨_, y, fun xs z => by cases z⟩
/-- the bounds as the law has them: numbers in place of points -/
def AcAt (H : Hp) (e : Addr) (z : Ar) : Prop := H e = some (.tup [.int (z.u : Int), .int (z.v : Int), .int z.w])
structure ArL (H : Hp) (a : Addr) (es : List Addr) (arcs : List Ar) : Prop where
  l : H a = some (.lst (es.map V.ref))
  e : Each (AcAt H) es arcs
theorem ArL.keep {H H' : Hp} {a : Addr} {es : List Addr} {arcs : List Ar} (s : Same H H') (h : ArL H a es arcs) : ArL H' a es arcs := ⟨s _ _ h.l, h.e.keep fun _ _ z => s _ _ z⟩
theorem ArL.tk {H H' : Hp} {a : Addr} {es : List Addr} {arcs : List Ar} (k : TupK H H') (l : H' a = some (.lst (es.map V.ref))) (h : ArL H a es arcs) : ArL H' a es arcs := ⟨l, h.e.keep fun _ _ z => k.1 _ _ z⟩
theorem foldr_len : ∀ (l : List Ar) (b : Row), (l.foldl relax b).length = b.length
  | [], _ => rfl
  | z :: l, b => by
    show (l.foldl relax (relax b z)).length = _
    rw [foldr_len l, relax_len]
theorem iterR_len (arcs : List Ar) (b : Row) : ∀ k, (iterR arcs k b).length = b.length
  | 0 => rfl
  | k + 1 => by
    show (arcs.foldl relax (iterR arcs k b)).length = _
    rw [foldr_len, iterR_len arcs b k]
theorem fold_take {z : Ar} {arcs : List Ar} {j : Nat} {b : Row} (h : arcs[j]? = some z) : (arcs.take (j + 1)).foldl relax b = relax ((arcs.take j).foldl relax b) z := by
  rw [List.take_add_one, h, List.foldl_append]
  rfl
theorem Outs.tups {CT : Addr} {H H' : Hp} {t pl rw : Addr} {T : TbM} {rs fp : List Addr} (o : Outs fp H H') (a : TbAt CT H t T pl rw rs) (s : ∀ x ∈ fp, x ∈ t :: pl :: rw :: rs) : TupK H H' :=
  ⟨fun c u h => o _ _ (fun m => by
      obtain ⟨q, h1, h2⟩ := a.kind c (s _ m)
      rw [h] at h1
      cases h1
      exact h2 _ rfl) h, fun c ob u h => o _ _ (fun m => by
      have m := s _ m
      obtain ⟨dx, h1⟩ := a.ins
      simp only [List.mem_cons] at m
      rcases m with e | e | e | m
      · rw [e, h1] at h; cases h
      · rw [e, a.hpl] at h; cases h
      · rw [e, a.hrw] at h; cases h
      · obtain ⟨i, hi⟩ := List.getElem?_of_mem m
        obtain ⟨r, _, y⟩ := a.ro.get hi
        rw [y] at h; cases h) h⟩
theorem iteO {c : Bool} {A B R : Prop} (hA : A) (h : c = false → A → R) : if c = true then (if true = true then A else B) else R := by
  cases c with
  | false => exact h rfl hA
  | true => exact hA
structure WAr (CT : Addr) (H : Hp) (r : Addr) (n : Nat) (l t : Addr) (T : TbM) (pl rw : Addr) (rs cs : List Addr) (b : Addr) (es : List Addr) (arcs : List Ar) (B : Int) : Prop where
  rR : RwAt H r n
  a : TbAt CT H t T pl rw rs
  gd : TbGd T
  ok : T.ok = true
  i : TbIn T
  L : PtL H l cs T.pts
  rt : r ∉ t :: pl :: rw :: rs
  lt : l ∉ t :: pl :: rw :: rs
  bt : b ∉ t :: pl :: rw :: rs
  rl : r ≠ l
  br : b ≠ r
  bl : b ≠ l
  hA : ArL H b es arcs
  lim : ∀ i j c, i < T.pts.length → j < T.pts.length → cellM T.d i j = some c → -B ≤ c ∧ c ≤ B
section
variable {CT : Addr} {H H' : Hp} {r : Addr} {n : Nat} {l t : Addr} {T : TbM} {pl rw : Addr} {rs cs : List Addr} {b : Addr} {es : List Addr} {arcs : List Ar} {B : Int}
theorem WAr.keep (w : WAr CT H r n l t T pl rw rs cs b es arcs B) (e : Same H H') : WAr CT H' r n l t T pl rw rs cs b es arcs B :=
  ⟨w.rR.keep e, w.a.keep e, w.gd, w.ok, w.i, w.L.keep e, w.rt, w.lt, w.bt, w.rl, w.br, w.bl, w.hA.keep e, w.lim⟩
theorem WAr.rows (w : WAr CT H r n l t T pl rw rs cs b es arcs B) (e : But r H H') (r1 : RwAt H' r n) : WAr CT H' r n l t T pl rw rs cs b es arcs B :=
  ⟨r1, w.a.outs (Outs.but e List.mem_cons_self) fun a ha m => w.rt (by rw [← List.mem_singleton.mp m]; exact ha), w.gd, w.ok, w.i, w.L.tk (w.rR.tk e) (e _ _ w.rl.symm w.L.l), w.rt, w.lt, w.bt, w.rl, w.br, w.bl, w.hA.tk (w.rR.tk e) (e _ _ w.br w.hA.l), w.lim⟩
theorem WAr.few (w : WAr CT H r n l t T pl rw rs cs b es arcs B) : T.pts.length ≤ 7 := w.i.few w.a.ok.nd
theorem WAr.clen (w : WAr CT H r n l t T pl rw rs cs b es arcs B) : (cs.map V.ref).length = T.pts.length := by rw [List.length_map, w.L.e.1]
theorem WAr.pt (w : WAr CT H r n l t T pl rw rs cs b es arcs B) {s : Nat} (hs : s < T.pts.length) : ∃ c, atI (cs.map V.ref) (s : Int) = some (.ref c) ∧ PtAt H c T.pts[s] ∧ T.pts.idxOf T.pts[s] = s := by
  obtain ⟨c, p, h1, _, h2, h3⟩ := w.L.at (g := (s : Int)) (by omega) (by omega)
  have e : T.pts[s]? = some T.pts[s] := List.getElem?_eq_getElem hs
  have h3 : T.pts[s]? = some p := h3
  rw [e] at h3
  cases h3
  exact ⟨c, h1, h2, nd_ix w.a.ok.nd (idx_get (List.getElem_mem hs)) e⟩
theorem WAr.put (w : WAr CT H r n l t T pl rw rs cs b es arcs B) {s e : Nat} {x C : Int} (hs : s < T.pts.length) (he : e < T.pts.length) (nn : ¬ negB (cellM T.d e s) x = true) (hx : -C ≤ x ∧ x ≤ C) (hB : 0 ≤ B) (o : Outs (t :: rs) H H') (a' : TbAt CT H' t (putM T s e x) pl rw rs) :
    WAr CT H' r n l t (putM T s e x) pl rw rs cs b es arcs (2 * B + C) := by
  obtain ⟨g, hok, own, old⟩ := put_cell w.gd hs he nn
  have sub : ∀ y ∈ t :: rs, y ∈ t :: pl :: rw :: rs := fun y hy => by
    simp only [List.mem_cons] at hy ⊢
    rcases hy with h | h
    · exact .inl h
    · exact .inr (.inr (.inr h))
  have tk := o.tups w.a sub
  obtain ⟨ns, h1, h2⟩ := w.rR
  refine ⟨⟨ns, o _ _ (fun m => w.rt (sub _ m)) h1, h2⟩, a', g, hok.trans w.ok, w.i.put _ _ _, ?_, w.rt, w.lt, w.bt, w.rl, w.br, w.bl, w.hA.tk tk (o _ _ (fun m => w.bt (sub _ m)) w.hA.l), fun i j c hi hj hc => ?_⟩
  · rw [putM_pts]
    exact w.L.tk tk (o _ _ (fun m => w.lt (sub _ m)) w.L.l)
  · rw [putM_pts] at hi hj
    rcases put_iff w.gd hs he nn hi hj hc with h | ⟨y, z, h3, h4, h5⟩
    · have := w.lim i j c hi hj h
      omega
    · have := w.lim i s y hi hs h3
      have := w.lim e j z he hj h4
      omega
theorem WAr.snoc (w : WAr CT H r n l t T pl rw rs cs b es arcs B) {z : Ar} {e : Addr} (he : AcAt H e z) :
    WAr CT (upd H b (.lst (es.map V.ref ++ [V.ref e]))) r n l t T pl rw rs cs b (es ++ [e]) (arcs ++ [z]) B := by
  have bt : But b H (upd H b (.lst (es.map V.ref ++ [V.ref e]))) := But.set
  have tk : TupK H (upd H b (.lst (es.map V.ref ++ [V.ref e]))) := .set w.hA.l
  exact ⟨w.rR.but bt w.br.symm, w.a.outs (Outs.but bt List.mem_cons_self) fun a ha m => w.bt (by rw [← List.mem_singleton.mp m]; exact ha), w.gd, w.ok, w.i, w.L.tk tk (bt _ _ w.bl.symm w.L.l), w.rt, w.lt, w.bt, w.rl, w.br, w.bl, ⟨by rw [upd_same, List.map_append]; rfl, (w.hA.e.keep fun _ _ z => tk.1 _ _ z).snoc (tk.1 _ _ he)⟩, w.lim⟩
end
def bnd : Nat → Int
  | 0 => 0
  | k + 1 => 2 * bnd k + 1000000000000
theorem bnd_pos : ∀ k, 0 ≤ bnd k
  | 0 => Int.le_refl _
  | k + 1 => by
    have := bnd_pos k
    show 0 ≤ 2 * bnd k + 1000000000000
    omega
theorem bnd_le {k m : Nat} (h : k ≤ m) : bnd k ≤ bnd m := by
  induction h with
  | refl => exact Int.le_refl _
  | step h ih =>
    rename_i m
    have := bnd_pos m
    show _ ≤ 2 * bnd m + 1000000000000
    omega
theorem WAr.wide {CT : Addr} {H : Hp} {r : Addr} {n : Nat} {l t : Addr} {T : TbM} {pl rw : Addr} {rs cs : List Addr} {b : Addr} {es : List Addr} {arcs : List Ar} {B C : Int} (w : WAr CT H r n l t T pl rw rs cs b es arcs B) (h : B ≤ C) : WAr CT H r n l t T pl rw rs cs b es arcs C :=
  { w with lim := fun i j c hi hj hc => by have := w.lim i j c hi hj hc; omega }
theorem row_of {n : Nat} {f : Nat → Option Int} {i : Nat} (hi : i < n) : atI (((List.range n).map f).map hiV) (i : Int) = some (hiV (f i)) := by
  have h := row_at (r := (List.range n).map f) (i := i) (by rw [List.length_map, List.length_range]; exact hi)
  rw [h]
  congr 2
  rw [List.getD_eq_getElem?_getD, List.getElem?_map, List.getElem?_range hi]
  rfl
theorem Each.kind {H : Hp} {as : List Addr} {d : List Row} {x : Addr} (h : Each (fun a r => H a = some (rowO r)) as d) (m : x ∈ as) : ∃ xs, H x = some (.lst xs) := by
  obtain ⟨i, hi⟩ := List.getElem?_of_mem m
  obtain ⟨r, _, y⟩ := h.get hi
  exact ⟨_, y⟩
/-- the law's list of points and their numbers -/
def LvE (H : Hp) (e : Addr) (z : Pt × Nat) : Prop := ∃ c, H e = some (.tup [.ref c, .int (z.2 : Int)]) ∧ PtAt H c z.1
theorem LvE.tk {H H' : Hp} {e : Addr} {z : Pt × Nat} (k : TupK H H') (h : LvE H e z) : LvE H' e z := by
  obtain ⟨c, h1, h2⟩ := h
  exact ⟨c, k.1 _ _ h1, k.1 _ _ h2⟩
structure LvL (H : Hp) (l : Addr) (es : List Addr) (zs : List (Pt × Nat)) : Prop where
  l : H l = some (.lst (es.map V.ref))
  e : Each (LvE H) es zs
theorem LvL.keep {H H' : Hp} {l : Addr} {es : List Addr} {zs : List (Pt × Nat)} (s : Same H H') (h : LvL H l es zs) : LvL H' l es zs := ⟨s _ _ h.l, h.e.keep fun _ _ z => z.tk (.of s)⟩
theorem LvL.tk {H H' : Hp} {l : Addr} {es : List Addr} {zs : List (Pt × Nat)} (k : TupK H H') (l' : H' l = some (.lst (es.map V.ref))) (h : LvL H l es zs) : LvL H' l es zs := ⟨l', h.e.keep fun _ _ z => z.tk k⟩
theorem LvL.at {H : Hp} {l : Addr} {es : List Addr} {zs : List (Pt × Nat)} (h : LvL H l es zs) {g : Int} (g0 : 0 ≤ g) (g1 : g < (zs.length : Int)) : ∃ e z, atI (es.map V.ref) g = some (.ref e) ∧ LvE H e z ∧ zs[g.toNat]? = some z := by
  have hl := h.e.1
  have h2 : es[g.toNat]? = some (es[g.toNat]'(by omega)) := List.getElem?_eq_getElem _
  obtain ⟨z, hz, hp⟩ := h.e.get h2
  exact ⟨_, z, at_of (j := g.toNat) (by omega) (by rw [List.getElem?_map, h2]; rfl), hp, hz⟩
theorem some_relax {n : Nat} {b : Row} (hl : b.length = n) (h : ∀ v, v < n → ∃ x, b.getD v none = some x) {z : Ar} (hz : z.v < n) : ∀ v, v < n → ∃ x, (relax b z).getD v none = some x := fun v hv => by
  obtain ⟨x, hx⟩ := h v hv
  obtain ⟨y, hy, _⟩ := relax_le (z := z) (by rw [hl]; exact hz) (⟨x, hx, Int.le_refl _⟩ : DLe (b.getD v none) x)
  exact ⟨y, hy⟩
theorem some_fold {n : Nat} : ∀ (l : List Ar) (b : Row), (∀ z ∈ l, z.v < n) → b.length = n → (∀ v, v < n → ∃ x, b.getD v none = some x) → ∀ v, v < n → ∃ x, (l.foldl relax b).getD v none = some x
  | [], _, _, _, h => h
  | z :: l, b, hz, hl, h => some_fold l _ (fun y hy => hz y (List.mem_cons_of_mem _ hy)) (by rw [relax_len, hl]) (some_relax hl h (hz z List.mem_cons_self))
theorem some_iter {n : Nat} {arcs : List Ar} (hz : ∀ z ∈ arcs, z.v < n) : ∀ k v, v < n → ∃ x, (iterR arcs k (List.replicate n (some 0))).getD v none = some x
  | 0, v, hv => ⟨0, by
    show (List.replicate n (some (0 : Int))).getD v none = some 0
    rw [List.getD_eq_getElem?_getD, List.getElem?_replicate, if_pos hv]
    rfl⟩
  | k + 1, v, hv => some_fold arcs _ hz (by rw [iterR_len, List.length_replicate]) (some_iter hz k) v hv
/-- bounds of points as tuples -/
def BnE (H : Hp) (e : Addr) (z : Bd) : Prop := ∃ x y, H e = some (.tup [.ref x, .ref y, .int z.amount, .int z.part]) ∧ PtAt H x z.one ∧ PtAt H y z.two
theorem BnE.tk {H H' : Hp} {e : Addr} {z : Bd} (k : TupK H H') (h : BnE H e z) : BnE H' e z := by
  obtain ⟨x, y, h1, h2, h3⟩ := h
  exact ⟨x, y, k.1 _ _ h1, k.1 _ _ h2, k.1 _ _ h3⟩
structure BnL (H : Hp) (l : Addr) (es : List Addr) (bs : List Bd) : Prop where
  l : H l = some (.lst (es.map V.ref))
  e : Each (BnE H) es bs
theorem BnL.keep {H H' : Hp} {l : Addr} {es : List Addr} {bs : List Bd} (s : Same H H') (h : BnL H l es bs) : BnL H' l es bs := ⟨s _ _ h.l, h.e.keep fun _ _ z => z.tk (.of s)⟩
theorem BnL.tk {H H' : Hp} {l : Addr} {es : List Addr} {bs : List Bd} (k : TupK H H') (l' : H' l = some (.lst (es.map V.ref))) (h : BnL H l es bs) : BnL H' l es bs := ⟨l', h.e.keep fun _ _ z => z.tk k⟩
/-- points, each once, in the order in which they come -/
def insP (ns : List Pt) (p : Pt) : List Pt := if p ∈ ns then ns else ns ++ [p]
def insB (ns : List Pt) (b : Bd) : List Pt := insP (insP ns b.one) b.two
def namesM (ps : List Pt) (bs : List Bd) : List Pt := bs.foldl insB (ps.foldl insP [])
theorem insP_nd {ns : List Pt} (h : ns.Nodup) (p : Pt) : (insP ns p).Nodup := by
  unfold insP
  split
  · exact h
  · rename_i n
    rw [List.nodup_append]
    exact ⟨h, by simp, fun a ha b hb e => n (by rw [List.mem_singleton.mp hb] at e; exact e ▸ ha)⟩
theorem insP_mem {ns : List Pt} {p q : Pt} : q ∈ insP ns p ↔ q ∈ ns ∨ q = p := by
  unfold insP
  split
  · rename_i m
    exact ⟨.inl, fun h => h.elim (fun h => h) (fun e => e ▸ m)⟩
  · rw [List.mem_append, List.mem_singleton]
theorem insP_len (ns : List Pt) (p : Pt) : (insP ns p).length ≤ ns.length + 1 := by
  unfold insP
  split
  · omega
  · rw [List.length_append, List.length_singleton]
    exact Nat.le_refl _
def nmK (ns : List Pt) : List (List Key × V) := ns.map fun p => (ptK p, V.bl true)
theorem nmK_keys (ns : List Pt) : (nmK ns).map (·.1) = ns.map ptK := by
  unfold nmK
  rw [List.map_map]
  rfl
theorem nmK_put (ns : List Pt) (p : Pt) : putK (nmK ns) (ptK p) (.bl true) = nmK (insP ns p) := by
  by_cases m : p ∈ ns
  · have hany : ((nmK ns).any fun kv => decide (kv.1 = ptK p)) = true := List.any_eq_true.mpr ⟨(ptK p, V.bl true), List.mem_map.mpr ⟨p, m, rfl⟩, decide_eq_true rfl⟩
    unfold putK insP
    rw [if_pos hany, if_pos m]
    unfold nmK
    rw [List.map_map]
    apply List.map_congr_left
    intro q _
    show (if ptK q = ptK p then (ptK q, V.bl true) else (ptK q, V.bl true)) = _
    split <;> rfl
  · rw [putK_new (by
      rw [nmK_keys]
      intro h
      obtain ⟨q, hq, e⟩ := List.mem_map.mp h
      exact m (ptK_inj e ▸ hq))]
    unfold insP
    rw [if_neg m]
    unfold nmK
    rw [List.map_append]
    rfl
/-- there is a ring below 0, or there is none -/
def RingOr (n : Nat) (arcs : List Ar) (res : Bool) : Prop := (res = false → ∃ D, ClD D n arcs) ∧ (res = true → ∃ sub e s y w, Wk sub e s y ∧ y + w < 0 ∧ (⟨s, e, w⟩ : Ar) ∈ arcs ∧ sub ⊆ arcs)
def runB : TbM → List Bd → TbM
  | T, [] => T
  | T, b :: r => if (putM T (T.pts.idxOf b.one) (T.pts.idxOf b.two) b.amount).ok = true then runB (putM T (T.pts.idxOf b.one) (T.pts.idxOf b.two) b.amount) r else putM T (T.pts.idxOf b.one) (T.pts.idxOf b.two) b.amount
theorem runB_cons (T : TbM) (b : Bd) (r : List Bd) : runB T (b :: r) = if (putM T (T.pts.idxOf b.one) (T.pts.idxOf b.two) b.amount).ok = true then runB (putM T (T.pts.idxOf b.one) (T.pts.idxOf b.two) b.amount) r else putM T (T.pts.idxOf b.one) (T.pts.idxOf b.two) b.amount := rfl
theorem addAll_pts : ∀ (ns : List Pt) (T : TbM), (ns.foldl addM T).pts = T.pts ++ ns
  | [], T => by rw [List.append_nil]; rfl
  | p :: r, T => by
    show (r.foldl addM (addM T p)).pts = _
    rw [addAll_pts r]
    show (T.pts ++ [p]) ++ r = _
    rw [List.append_assoc]
    rfl
theorem addAll_ok : ∀ (ns : List Pt) (T : TbM), (ns.foldl addM T).ok = T.ok
  | [], _ => rfl
  | p :: r, T => addAll_ok r (addM T p)
theorem insB_mem {ns : List Pt} {b : Bd} {q : Pt} : q ∈ insB ns b ↔ q ∈ ns ∨ q = b.one ∨ q = b.two := by
  unfold insB
  rw [insP_mem, insP_mem]
  constructor
  · rintro ((h | h) | h)
    · exact .inl h
    · exact .inr (.inl h)
    · exact .inr (.inr h)
  · rintro (h | h | h)
    · exact .inl (.inl h)
    · exact .inl (.inr h)
    · exact .inr h
theorem foldP_nd : ∀ (ps : List Pt) (ns : List Pt), ns.Nodup → (ps.foldl insP ns).Nodup
  | [], _, h => h
  | p :: r, ns, h => foldP_nd r _ (insP_nd h p)
theorem foldB_nd : ∀ (bs : List Bd) (ns : List Pt), ns.Nodup → (bs.foldl insB ns).Nodup
  | [], _, h => h
  | b :: r, ns, h => foldB_nd r _ (insP_nd (insP_nd h b.one) b.two)
theorem names_nd (ps : List Pt) (bs : List Bd) : (namesM ps bs).Nodup := foldB_nd bs _ (foldP_nd ps _ List.nodup_nil)
theorem foldB_old : ∀ (bs : List Bd) (ns : List Pt) {q : Pt}, q ∈ ns → q ∈ bs.foldl insB ns
  | [], _, _, h => h
  | b :: r, ns, _, h => foldB_old r _ (insB_mem.mpr (.inl h))
theorem foldB_mem : ∀ (bs : List Bd) (ns : List Pt) {b : Bd}, b ∈ bs → b.one ∈ bs.foldl insB ns ∧ b.two ∈ bs.foldl insB ns
  | c :: r, ns, b, h => by
    rcases List.mem_cons.mp h with e | m
    · rw [e]
      exact ⟨foldB_old r _ (insB_mem.mpr (.inr (.inl rfl))), foldB_old r _ (insB_mem.mpr (.inr (.inr rfl)))⟩
    · exact foldB_mem r _ m
theorem foldP_len : ∀ (ps : List Pt) (ns : List Pt), (ps.foldl insP ns).length ≤ ns.length + ps.length
  | [], _ => Nat.le_refl _
  | p :: r, ns => by
    have := foldP_len r (insP ns p)
    have := insP_len ns p
    show (r.foldl insP (insP ns p)).length ≤ _
    rw [List.length_cons]
    omega
theorem foldB_len : ∀ (bs : List Bd) (ns : List Pt), (bs.foldl insB ns).length ≤ ns.length + 2 * bs.length
  | [], _ => Nat.le_refl _
  | b :: r, ns => by
    have := foldB_len r (insB ns b)
    have h1 := insP_len ns b.one
    have h2 := insP_len (insP ns b.one) b.two
    show (r.foldl insB (insB ns b)).length ≤ _
    unfold insB at *
    rw [List.length_cons]
    omega
theorem names_len (ps : List Pt) (bs : List Bd) : (namesM ps bs).length ≤ ps.length + 2 * bs.length := by
  have h1 := foldB_len bs (ps.foldl insP [])
  have h2 := foldP_len ps []
  rw [List.length_nil] at h2
  unfold namesM
  omega
def arcM (ns : List Pt) (b : Bd) : Ar := ⟨ns.idxOf b.one, ns.idxOf b.two, b.amount⟩
theorem run_ring (ns : List Pt) : ∀ (bds : List Bd) (T : TbM) (arcs : List Ar), T.pts = ns → TbGd T → T.ok = true → ClD (cellM T.d) ns.length arcs → (∀ b ∈ bds, b.one ∈ ns ∧ b.two ∈ ns) →
    ∃ (c : Nat) (T' : TbM), c ≤ bds.length ∧ T'.pts = ns ∧ TbGd T' ∧ (runB T bds).pts = ns ∧ (runB T bds).d = T'.d ∧ (runB T bds).ok = decide (c = bds.length) ∧ ClD (cellM T'.d) ns.length (arcs ++ (bds.take c).map (arcM ns)) ∧ (∀ k, k < c → RingOr ns.length (arcs ++ (bds.take (k + 1)).map (arcM ns)) false) ∧ (c < bds.length → RingOr ns.length (arcs ++ (bds.take (c + 1)).map (arcM ns)) true)
  | [], T, arcs, ep, g, ok, cl, _ => ⟨0, T, Nat.le_refl _, ep, g, ep, rfl, ok, by rw [List.take_nil, List.map_nil, List.append_nil]; exact cl, fun k h => absurd h (Nat.not_lt_zero k), fun h => absurd h (Nat.lt_irrefl _)⟩
  | b :: r, T, arcs, ep, g, ok, cl, mem => by
    obtain ⟨m1, m2⟩ := mem b List.mem_cons_self
    have h1 : T.pts.idxOf b.one < T.pts.length := idx_lt (by rw [ep]; exact m1)
    have h2 : T.pts.idxOf b.two < T.pts.length := idx_lt (by rw [ep]; exact m2)
    by_cases nn : negB (cellM T.d (T.pts.idxOf b.two) (T.pts.idxOf b.one)) b.amount = true
    · have dT : putM T (T.pts.idxOf b.one) (T.pts.idxOf b.two) b.amount = ⟨T.pts, T.d, false⟩ := by unfold putM; rw [if_pos nn]
      have run : runB T (b :: r) = ⟨T.pts, T.d, false⟩ := by
        rw [runB_cons, dT]
        exact if_neg (fun h => by cases h)
      refine ⟨0, T, Nat.zero_le _, ep, g, by rw [run]; exact ep, by rw [run], by rw [run]; exact (decide_eq_false (by rw [List.length_cons]; omega)).symm, by rw [List.take_zero, List.map_nil, List.append_nil]; exact cl, fun k h => absurd h (Nat.not_lt_zero k), fun _ => ⟨(fun h => by cases h), fun _ => ?_⟩⟩
      cases hd : cellM T.d (T.pts.idxOf b.two) (T.pts.idxOf b.one) with
      | none => rw [hd] at nn; cases nn
      | some y =>
        rw [hd] at nn
        have lt : y + b.amount < 0 := of_decide_eq_true nn
        refine ⟨arcs, _, _, y, b.amount, cl.at' _ _ (by rw [← ep]; exact h2) (by rw [← ep]; exact h1) y hd, lt, ?_, fun z hz => List.mem_append_left _ hz⟩
        rw [ep]
        exact List.mem_append_right _ (List.mem_singleton.mpr rfl)
    · obtain ⟨g2, ok2, _, _⟩ := put_cell g h1 h2 nn
      have pT := putM_pts T (T.pts.idxOf b.one) (T.pts.idxOf b.two) b.amount
      have cl1 : ClD (cellM T.d) T.pts.length arcs := by rw [ep]; exact cl
      have cl2 := ClD.put g cl1 h1 h2 nn
      have okT := ok2.trans ok
      have run : runB T (b :: r) = runB (putM T (T.pts.idxOf b.one) (T.pts.idxOf b.two) b.amount) r := by rw [runB_cons, if_pos okT]
      have ea : (⟨T.pts.idxOf b.one, T.pts.idxOf b.two, b.amount⟩ : Ar) = arcM ns b := by rw [ep]; rfl
      rw [ea, ep] at cl2
      rw [ep] at run okT g2 pT
      obtain ⟨c, T', a1, a2, a3, a4, a5, a6, a7, a8, a9⟩ := run_ring ns r _ (arcs ++ [arcM ns b]) pT g2 okT cl2 (fun z hz => mem z (List.mem_cons_of_mem _ hz))
      have sh : ∀ k, arcs ++ ((b :: r).take (k + 1)).map (arcM ns) = arcs ++ [arcM ns b] ++ (r.take k).map (arcM ns) := fun k => by
        rw [List.take_succ_cons, List.map_cons, List.append_assoc]
        rfl
      refine ⟨c + 1, T', by rw [List.length_cons]; omega, a2, a3, by rw [run]; exact a4, by rw [run]; exact a5, ?_, by rw [sh]; exact a7, fun k hk => ?_, fun h => ?_⟩
      · rw [run, a6, List.length_cons]
        exact decide_eq_decide.mpr ⟨fun h => by omega, fun h => by omega⟩
      · rw [sh]
        cases k with
        | zero =>
          rw [List.take_zero, List.map_nil, List.append_nil]
          exact ⟨fun _ => ⟨_, cl2⟩, fun h => by cases h⟩
        | succ k => exact a8 k (by omega)
      · rw [sh]
        exact a9 (by rw [List.length_cons] at h; omega)
theorem lt_idx {p q : Pt} : ∀ (ns : List Pt) (m : Nat), m < ns.idxOf p → ns[m]? = some q → q ≠ p
  | [], m, h, e => by cases e
  | a :: r, m, h, e => by
    rw [List.idxOf_cons] at h
    by_cases c : a = p
    · rw [c, beq_self_eq_true, cond_true] at h
      exact absurd h (Nat.not_lt_zero _)
    · rw [beq_false_of_ne c, cond_false] at h
      cases m with
      | zero =>
        have e : a = q := Option.some.inj e
        rw [← e]
        exact c
      | succ m => exact lt_idx r m (by omega) e
theorem idx_first {ns : List Pt} {p : Pt} : ∀ m z, m < ns.idxOf p → (ns.map ptP)[m]? = some z → PyData.eqv z (ptP p) = false := by
  intro m z hm hz
  rw [List.getElem?_map] at hz
  cases e : ns[m]? with
  | none => rw [e] at hz; cases hz
  | some q =>
    rw [e] at hz
    cases hz
    rw [pt_eqv]
    exact decide_eq_false (lt_idx ns m hm e)
theorem pe_bmK {X : Cx} {o e : Expr} {es : List Expr} {to : TE} {t : TA} {name : Str} {apos cpos : Pos} {T id : String} {r : V → List V → Hp → VK → Prop} (K : PySem.W.Frag) (hK : X.K = K) (h1 : PlainAttrs T) (h2 : Slot T name id) (h3 : typeOf (Value.builtin id) = pure (Value.type "method_descriptor")) (h4 : MtR X id r) (h5 : PE X o to) (h6 : PA X (e :: es) t)
    (a1 : attributeBase o name X.env (eval o X.env) = eval o X.env := by rfl)
    (a2 : ((((backTo cpos (starEach (e :: es) X.env)).all fun x => !x.fst) && (backToKw cpos (keywordEach [] X.env)).all fun x => x.fst.isSome) && decide (((e :: es).length + ([] : List Expr).length + if ([] : List Expr).isEmpty = true then 0 else 1) < 30)) = true := by rfl)
    (a3 : (apos.endLine == cpos.line) = true := by rfl)
    (a4 : starEach (e :: es) X.env = (false, eval e X.env) :: starEach es X.env := by rfl)
    (a5 : ((backTo cpos (starEach es X.env)).any fun x => x.fst) = false := by rfl) : PE X ((o.Attribute name apos).Call (e :: es) [] cpos) (tBM K T r to t) := by
  subst hK
  exact pe_bm h1 h2 h3 h4 h5 h6 a1 a2 a3 a4 a5
theorem addAll_gd : ∀ (qs : List Pt) (T : TbM), (T.pts ++ qs).Nodup → T.pts.length + qs.length ≤ 40 → TbGd T → (∀ i j c, i < T.pts.length → j < T.pts.length → cellM T.d i j = some c → c = 0 ∧ i = j) → TbGd (qs.foldl addM T) ∧ ∀ i j c, i < (qs.foldl addM T).pts.length → j < (qs.foldl addM T).pts.length → cellM (qs.foldl addM T).d i j = some c → c = 0 ∧ i = j
  | [], T, _, _, g, z => ⟨g, z⟩
  | q :: qs, T, nd, few, g, z => by
    rw [List.length_cons] at few
    have np : q ∉ T.pts := fun m => (List.nodup_append.mp nd).2.2 q m q List.mem_cons_self rfl
    have len : (addM T q).pts.length = T.pts.length + 1 := by show (T.pts ++ [q]).length = _; rw [List.length_append, List.length_singleton]
    have ep : (addM T q).pts ++ qs = T.pts ++ q :: qs := by show (T.pts ++ [q]) ++ qs = _; rw [List.append_assoc]; rfl
    exact addAll_gd qs (addM T q) (by rw [ep]; exact nd) (by rw [len]; omega) (g.add np (by omega)) (fun i j c hi hj hc => by
      rw [len] at hi hj
      rw [addM_cell g.ok hi hj] at hc
      split at hc
      · split at hc
        · exact z _ _ _ (by assumption) (by assumption) hc
        · cases hc
      · split at hc
        · cases hc
        · cases hc
          exact ⟨rfl, by omega⟩)
def leftB (bs : List Bd) (ch : List Int) : List Bd := bs.filter fun b => !ch.contains b.part
theorem left_step {bs : List Bd} {ch : List Int} {i : Nat} {b : Bd} (hb : bs[i]? = some b) : leftB (bs.take (i + 1)) ch = leftB (bs.take i) ch ++ (if ch.contains b.part = true then [] else [b]) := by
  unfold leftB
  rw [List.take_add_one, hb, List.filter_append]
  congr 1
  show List.filter _ [b] = _
  rw [List.filter_cons]
  cases ch.contains b.part <;> rfl
theorem left_mem {bs : List Bd} {ch : List Int} {b : Bd} (h : b ∈ leftB bs ch) : b ∈ bs := (List.mem_filter.mp h).1
theorem left_len (bs : List Bd) (ch : List Int) : (leftB bs ch).length ≤ bs.length := List.length_filter_le _ _
theorem foldP_in {q : Pt} : ∀ (ps ns : List Pt), q ∈ ps.foldl insP ns → q ∈ ns ∨ q ∈ ps
  | [], ns, h => .inl h
  | p :: r, ns, h => by
    rcases foldP_in r (insP ns p) h with m | m
    · rcases insP_mem.mp m with m | m
      · exact .inl m
      · exact .inr (by rw [m]; exact List.mem_cons_self)
    · exact .inr (List.mem_cons_of_mem _ m)
theorem foldB_in {q : Pt} : ∀ (bs : List Bd) (ns : List Pt), q ∈ bs.foldl insB ns → q ∈ ns ∨ ∃ b ∈ bs, q = b.one ∨ q = b.two
  | [], ns, h => .inl h
  | b :: r, ns, h => by
    rcases foldB_in r (insB ns b) h with m | ⟨c, m, e⟩
    · rcases insB_mem.mp m with m | m
      · exact .inl m
      · exact .inr ⟨b, List.mem_cons_self, m⟩
    · exact .inr ⟨c, List.mem_cons_of_mem _ m, e⟩
theorem names_in {ps : List Pt} {bs : List Bd} {q : Pt} (h : q ∈ namesM ps bs) : q ∈ ps ∨ ∃ b ∈ bs, q = b.one ∨ q = b.two := by
  rcases foldB_in bs _ h with m | m
  · rcases foldP_in ps [] m with m | m
    · cases m
    · exact .inl m
  · exact .inr m
theorem foldP_all : ∀ (ps ns : List Pt), ∀ q, q ∈ ns ∨ q ∈ ps → q ∈ ps.foldl insP ns
  | [], ns, q, h => by
    rcases h with m | m
    · exact m
    · cases m
  | p :: r, ns, q, h => foldP_all r (insP ns p) q (by
    rcases h with m | m
    · exact .inl (insP_mem.mpr (.inl m))
    · rcases List.mem_cons.mp m with e | m
      · exact .inl (insP_mem.mpr (.inr e))
      · exact .inr m)
theorem names_has {ps : List Pt} {bs : List Bd} {q : Pt} (h : q ∈ ps) : q ∈ namesM ps bs := foldB_old bs _ (foldP_all ps [] q (.inr h))
/-! ### chains by other numbers of the points -/
theorem Wk.map {arcs brcs : List Ar} {f : Nat → Nat} (h : ∀ z ∈ arcs, (⟨f z.u, f z.v, z.w⟩ : Ar) ∈ brcs) {i j : Nat} {a : Int} (g : Wk arcs i j a) : Wk brcs (f i) (f j) a := by
  induction g with
  | nil => exact .nil _
  | snoc _ m e ih => exact Wk.snoc ih (h _ m) (congrArg f e)
def upIx (ns big : List Pt) (k : Nat) : Nat := match ns[k]? with
  | some p => big.idxOf p
  | none => 0
theorem upIx_of {ns big : List Pt} {p : Pt} (m : p ∈ ns) : upIx ns big (ns.idxOf p) = big.idxOf p := by
  unfold upIx
  rw [idx_get m]
theorem up_arc {ns big : List Pt} {b : Bd} (m1 : b.one ∈ ns) (m2 : b.two ∈ ns) : (⟨upIx ns big (arcM ns b).u, upIx ns big (arcM ns b).v, (arcM ns b).w⟩ : Ar) = arcM big b := by
  show (⟨upIx ns big (ns.idxOf b.one), upIx ns big (ns.idxOf b.two), b.amount⟩ : Ar) = _
  rw [upIx_of m1, upIx_of m2]
  rfl
theorem up_arcs {ns big : List Pt} {bds : List Bd} (mem : ∀ b ∈ bds, b.one ∈ ns ∧ b.two ∈ ns) : ∀ z ∈ bds.map (arcM ns), (⟨upIx ns big z.u, upIx ns big z.v, z.w⟩ : Ar) ∈ bds.map (arcM big) := fun z hz => by
  obtain ⟨b, hb, rfl⟩ := List.mem_map.mp hz
  rw [up_arc (mem b hb).1 (mem b hb).2]
  exact List.mem_map.mpr ⟨b, hb, rfl⟩
def upD (ns big : List Pt) (D : Nat → Nat → Option Int) (i j : Nat) : Option Int := match big[i]?, big[j]? with
  | some p, some q => if p ∈ ns ∧ q ∈ ns then D (ns.idxOf p) (ns.idxOf q) else if i = j then some 0 else none
  | _, _ => none
theorem upD_at {ns big : List Pt} {D : Nat → Nat → Option Int} {i j : Nat} {p q : Pt} (hp : big[i]? = some p) (hq : big[j]? = some q) : upD ns big D i j = if p ∈ ns ∧ q ∈ ns then D (ns.idxOf p) (ns.idxOf q) else if i = j then some 0 else none := by
  unfold upD
  rw [hp, hq]
theorem up_cl {ns big : List Pt} {D : Nat → Nat → Option Int} {bds : List Bd} (nd : big.Nodup) (mem : ∀ b ∈ bds, b.one ∈ ns ∧ b.two ∈ ns) (sub : ∀ p ∈ ns, p ∈ big) (c : ClD D ns.length (bds.map (arcM ns))) : ClD (upD ns big D) big.length (bds.map (arcM big)) := by
  have at_ : ∀ {i}, i < big.length → ∃ p, big[i]? = some p ∧ big.idxOf p = i := fun {i} hi => by
    have e : big[i]? = some big[i] := List.getElem?_eq_getElem hi
    exact ⟨_, e, nd_ix nd (idx_get (List.getElem_mem hi)) e⟩
  refine ⟨fun i hi => ?_, fun i j k hi hj hk a b h1 h2 => ?_, fun z hz => ?_, fun i j hi hj x hx => ?_⟩
  · obtain ⟨p, hp, _⟩ := at_ hi
    rw [upD_at hp hp]
    by_cases m : p ∈ ns
    · rw [if_pos ⟨m, m⟩]
      exact c.dg _ (idx_lt m)
    · rw [if_neg (fun z => m z.1), if_pos rfl]
  · obtain ⟨p, hp, _⟩ := at_ hi
    obtain ⟨q, hq, _⟩ := at_ hj
    obtain ⟨r, hr, _⟩ := at_ hk
    rw [upD_at hp hq] at h1
    by_cases m1 : p ∈ ns ∧ q ∈ ns
    · rw [if_pos m1] at h1
      rw [upD_at hq hr] at h2
      by_cases m2 : q ∈ ns ∧ r ∈ ns
      · rw [if_pos m2] at h2
        rw [upD_at hp hr, if_pos ⟨m1.1, m2.2⟩]
        exact c.tr _ _ _ (idx_lt m1.1) (idx_lt m1.2) (idx_lt m2.2) a b h1 h2
      · rw [if_neg m2] at h2
        by_cases e : j = k
        · rw [if_pos e] at h2
          cases h2
          subst e
          rw [upD_at hp hq, if_pos m1]
          exact ⟨a, h1, by omega⟩
        · rw [if_neg e] at h2
          cases h2
    · rw [if_neg m1] at h1
      by_cases e : i = j
      · rw [if_pos e] at h1
        cases h1
        subst e
        exact ⟨b, h2, by omega⟩
      · rw [if_neg e] at h1
        cases h1
  · obtain ⟨b, hb, rfl⟩ := List.mem_map.mp hz
    obtain ⟨m1, m2⟩ := mem b hb
    obtain ⟨_, _, g⟩ := c.ar (arcM ns b) (List.mem_map.mpr ⟨b, hb, rfl⟩)
    refine ⟨idx_lt (sub _ m1), idx_lt (sub _ m2), ?_⟩
    show DLe (upD ns big D (big.idxOf b.one) (big.idxOf b.two)) b.amount
    rw [upD_at (idx_get (sub _ m1)) (idx_get (sub _ m2)), if_pos ⟨m1, m2⟩]
    exact g
  · obtain ⟨p, hp, ip⟩ := at_ hi
    obtain ⟨q, hq, iq⟩ := at_ hj
    rw [upD_at hp hq] at hx
    by_cases m : p ∈ ns ∧ q ∈ ns
    · rw [if_pos m] at hx
      have w := Wk.map (up_arcs (big := big) mem) (c.at' _ _ (idx_lt m.1) (idx_lt m.2) x hx)
      rw [upIx_of m.1, upIx_of m.2, ip, iq] at w
      exact w
    · rw [if_neg m] at hx
      by_cases e : i = j
      · rw [if_pos e] at hx
        cases hx
        subst e
        exact .nil _
      · rw [if_neg e] at hx
        cases hx
theorem gd_of {T T' : TbM} (g : TbGd T') (hp : T.pts = T'.pts) (hd : T.d = T'.d) : TbGd T := by
  obtain ⟨⟨nd, few, dl, rl⟩, dg, tr⟩ := g
  exact ⟨⟨by rw [hp]; exact nd, by rw [hp]; exact few, by rw [hp, hd]; exact dl, by rw [hp, hd]; exact rl⟩, by rw [hp, hd]; exact dg, by rw [hp, hd]; exact tr⟩
/-- the table of some bounds over some points -/
def tabM (bds : List Bd) (ps : List Pt) : TbM := runB ((namesM ps bds).foldl addM ⟨[], [], true⟩) bds
theorem tab_ringN {big : List Pt} (nd : big.Nodup) {bds : List Bd} {ps : List Pt} (hm : ∀ b ∈ bds, b.one ∈ big ∧ b.two ∈ big) (hp : ∀ p ∈ ps, p ∈ big) (nlen : (namesM ps bds).length ≤ 40) :
    (tabM bds ps).pts = namesM ps bds ∧ ∃ res : Bool, (tabM bds ps).ok = !res ∧ RingOr big.length (bds.map (arcM big)) res ∧ (res = false → TbGd (tabM bds ps) ∧ ∃ D, ClD D big.length (bds.map (arcM big)) ∧ ∀ p q, p ∈ namesM ps bds → q ∈ namesM ps bds → D (big.idxOf p) (big.idxOf q) = distM (tabM bds ps) p q) := by
  have nnd := names_nd ps bds
  have bmem : ∀ z ∈ bds, z.one ∈ namesM ps bds ∧ z.two ∈ namesM ps bds := fun z m => foldB_mem bds (ps.foldl insP []) m
  have sub : ∀ p ∈ namesM ps bds, p ∈ big := fun p m => by
    rcases names_in m with h | ⟨b, hb, h | h⟩
    · exact hp p h
    · rw [h]; exact (hm b hb).1
    · rw [h]; exact (hm b hb).2
  unfold tabM
  generalize namesM ps bds = ns at *
  obtain ⟨g0', z0⟩ := addAll_gd ns ⟨[], [], true⟩ nnd (by show 0 + ns.length ≤ 40; omega) TbGd.nil (fun i j c h => absurd h (Nat.not_lt_zero i))
  have p0 : (ns.foldl addM ⟨[], [], true⟩).pts = ns := addAll_pts ns ⟨[], [], true⟩
  have o0 : (ns.foldl addM ⟨[], [], true⟩).ok = true := addAll_ok ns ⟨[], [], true⟩
  generalize ns.foldl addM ⟨[], [], true⟩ = T0 at *
  rw [p0] at z0
  have c0 : ClD (cellM T0.d) ns.length [] := ⟨by rw [← p0]; exact g0'.dg, by rw [← p0]; exact g0'.tr, fun z hz => (by cases hz), fun i j hi hj c hc => by
    obtain ⟨e1, e2⟩ := z0 i j c hi hj hc
    subst e1
    subst e2
    exact .nil _⟩
  obtain ⟨cn, T', cle, pT', gT', pR, dR, okR, clR, noR, yesR⟩ := run_ring ns bds T0 [] p0 g0' o0 c0 bmem
  simp only [List.nil_append] at clR noR yesR
  refine ⟨pR, ?_⟩
  by_cases e : cn = bds.length
  · rw [e, List.take_length] at clR
    rw [decide_eq_true e] at okR
    have cU := up_cl nd bmem sub clR
    refine ⟨false, okR, ⟨fun _ => ⟨_, cU⟩, fun h => by cases h⟩, fun _ => ⟨gd_of gT' (pR.trans pT'.symm) dR, _, cU, fun p q mp mq => ?_⟩⟩
    · rw [upD_at (idx_get (sub _ mp)) (idx_get (sub _ mq)), if_pos ⟨mp, mq⟩]
      unfold distM
      rw [pR, dR]
  · rw [decide_eq_false e] at okR
    obtain ⟨_, yes⟩ := yesR (by omega)
    obtain ⟨sb, ee, s, y, w, h1, h2, h3, h4⟩ := yes rfl
    have inn : ∀ z ∈ (bds.take (cn + 1)).map (arcM ns), (⟨upIx ns big z.u, upIx ns big z.v, z.w⟩ : Ar) ∈ bds.map (arcM big) := fun z hz => by
      obtain ⟨b, hb, rfl⟩ := List.mem_map.mp hz
      have hb2 := List.mem_of_mem_take hb
      rw [up_arc (bmem b hb2).1 (bmem b hb2).2]
      exact List.mem_map.mpr ⟨b, hb2, rfl⟩
    refine ⟨true, okR, ⟨(fun h => by cases h), fun _ => ⟨bds.map (arcM big), upIx ns big ee, upIx ns big s, y, w, Wk.map (fun z hz => inn z (h4 hz)) h1, h2, inn _ h3, fun _ h => h⟩⟩, fun h => by cases h⟩
theorem tab_ring {big : List Pt} (nd : big.Nodup) {bds : List Bd} {ps : List Pt} (hm : ∀ b ∈ bds, b.one ∈ big ∧ b.two ∈ big) (hp : ∀ p ∈ ps, p ∈ big) (few : ps.length + 2 * bds.length ≤ 40) :
    (tabM bds ps).pts = namesM ps bds ∧ ∃ res : Bool, (tabM bds ps).ok = !res ∧ RingOr big.length (bds.map (arcM big)) res ∧ (res = false → TbGd (tabM bds ps) ∧ ∃ D, ClD D big.length (bds.map (arcM big)) ∧ ∀ p q, p ∈ namesM ps bds → q ∈ namesM ps bds → D (big.idxOf p) (big.idxOf q) = distM (tabM bds ps) p q) := tab_ringN nd hm hp (Nat.le_trans (names_len ps bds) few)

/-- the tables that choices leave -/
def leftT (bds : List Bd) (ps : List Pt) (ch : List Int) : Option TbM := if (tabM (leftB bds ch) ps).ok = true then some (keepM (tabM (leftB bds ch) ps) ps) else none
def tabsM (bds : List Bd) (chs : List (List Int)) (ps : List Pt) : List TbM := chs.filterMap (leftT bds ps)
theorem tabs_step {bds : List Bd} {chs : List (List Int)} {ps : List Pt} {i : Nat} {ch : List Int} (h : chs[i]? = some ch) : tabsM bds (chs.take (i + 1)) ps = tabsM bds (chs.take i) ps ++ (leftT bds ps ch).toList := by
  unfold tabsM
  rw [List.take_add_one, h, List.filterMap_append]
  have e : List.filterMap (leftT bds ps) [ch] = (leftT bds ps ch).toList := by
    cases e : leftT bds ps ch with
    | none => simp [e]
    | some T => simp [e]
  exact congrArg _ e
/-- choices: tuples of numbers -/
structure ChL (H : Hp) (l : Addr) (es : List Addr) (chs : List (List Int)) : Prop where
  l : H l = some (.lst (es.map V.ref))
  e : Each (fun e ch => H e = some (.tup (ch.map V.int))) es chs
theorem ChL.keep {H H' : Hp} {l : Addr} {es : List Addr} {chs : List (List Int)} (s : Same H H') (h : ChL H l es chs) : ChL H' l es chs := ⟨s _ _ h.l, h.e.keep fun _ _ z => s _ _ z⟩
/-- pairs of a choice and a table -/
structure PrL (CT : Addr) (H : Hp) (l : Addr) (es : List Addr) (Ts : List TbM) : Prop where
  l : H l = some (.lst (es.map V.ref))
  e : Each (fun e T => ∃ c t pl rw rs, H e = some (.tup [.ref c, .ref t]) ∧ TbAt CT H t T pl rw rs) es Ts
theorem PrL.keep {CT : Addr} {H H' : Hp} {l : Addr} {es : List Addr} {Ts : List TbM} (s : Same H H') (h : PrL CT H l es Ts) : PrL CT H' l es Ts :=
  ⟨s _ _ h.l, h.e.keep fun _ _ ⟨c, t, pl, rw, rs, a, b⟩ => ⟨c, t, pl, rw, rs, s _ _ a, b.keep s⟩⟩
theorem PrL.outs {CT : Addr} {H H' : Hp} {l x : Addr} {es : List Addr} {Ts : List TbM} (o : Outs [x] H H') (hx : ∀ e T, (∃ c t pl rw rs, H e = some (.tup [.ref c, .ref t]) ∧ TbAt CT H t T pl rw rs) → ∃ c t pl rw rs, H e = some (.tup [.ref c, .ref t]) ∧ TbAt CT H t T pl rw rs ∧ x ∉ t :: pl :: rw :: rs) (lx : l ≠ x) (tx : ∀ e vs, H e = some (.tup vs) → e ≠ x) (h : PrL CT H l es Ts) : PrL CT H' l es Ts :=
  ⟨o _ _ (by simpa using lx) h.l, h.e.keep fun e T z => by
    obtain ⟨c, t, pl, rw, rs, a, b, n⟩ := hx e T z
    exact ⟨c, t, pl, rw, rs, o _ _ (by simpa using tx _ _ a) a, b.outs o fun y hy m => n (by rw [← List.mem_singleton.mp m]; exact hy)⟩⟩
theorem PrL.but {CT : Addr} {H H' : Hp} {l x : Addr} {es : List Addr} {Ts : List TbM} {xs : List V} (o : But x H H') (hx : H x = some (.lst xs)) (nx : ∀ T ∈ Ts, True) (h : Each (fun e T => ∃ c t pl rw rs, H e = some (.tup [.ref c, .ref t]) ∧ TbAt CT H t T pl rw rs ∧ x ∉ t :: pl :: rw :: rs) es Ts) : Each (fun e T => ∃ c t pl rw rs, H' e = some (.tup [.ref c, .ref t]) ∧ TbAt CT H' t T pl rw rs ∧ x ∉ t :: pl :: rw :: rs) es Ts :=
  h.keep fun e T ⟨c, t, pl, rw, rs, a, b, n⟩ => ⟨c, t, pl, rw, rs, o _ _ (ne_of a hx (by intro z; cases z)) a, b.outs (fun c u m hu => o _ _ (fun z => m (by rw [z]; exact List.mem_singleton.mpr rfl)) hu) fun y hy m => n (by rw [← List.mem_singleton.mp m]; exact hy), n⟩
/-- the stretch of two points by a table -/
def stM (T : TbM) (p q : Pt) : Stc := ⟨(distM T q p).map fun b => -b, distM T p q⟩
def toldM (bds : List Bd) (chs : List (List Int)) (p q : Pt) : List Stc := (tabsM bds chs [p, q]).map fun T => stM T p q
theorem runB_pts : ∀ (bds : List Bd) (T : TbM), (runB T bds).pts = T.pts
  | [], T => rfl
  | b :: r, T => by
    rw [runB_cons]
    split
    · rw [runB_pts r, putM_pts]
    · exact putM_pts _ _ _ _
theorem tabM_pts (bds : List Bd) (ps : List Pt) : (tabM bds ps).pts = namesM ps bds := by
  unfold tabM
  rw [runB_pts]
  exact addAll_pts _ ⟨[], [], true⟩
theorem kept_has {bds : List Bd} {ps : List Pt} {r : Pt} (h : r ∈ ps) : r ∈ keptM (tabM bds ps) ps := List.mem_filter.mpr ⟨by rw [tabM_pts]; exact names_has h, decide_eq_true h⟩
theorem tabs_has {bds : List Bd} {chs : List (List Int)} {ps : List Pt} {T : TbM} (h : T ∈ tabsM bds chs ps) : ∀ r ∈ ps, r ∈ T.pts := fun r hr => by
  obtain ⟨ch, _, e⟩ := List.mem_filterMap.mp h
  unfold leftT at e
  split at e
  · cases e
    exact kept_has hr
  · cases e
theorem StcL.bput {H H' : Hp} {l : Addr} {bs : List Addr} {ss : List Stc} (h : StcL H l bs ss) (e : Same H H') : StcL H' l bs ss := h.keep e
/-! ### one more number between two points -/
theorem ClD.wk {D : Nat → Nat → Option Int} {n : Nat} {arcs : List Ar} (c : ClD D n arcs) {i j : Nat} {a : Int} (h : Wk arcs i j a) (hi : i < n) : j < n ∧ DLe (D i j) a := by
  induction h with
  | nil => exact ⟨hi, 0, c.dg _ hi, Int.le_refl _⟩
  | snoc _ m e ih =>
    obtain ⟨hj, x, hx, lx⟩ := ih
    obtain ⟨h1, h2, y, hy, ly⟩ := c.ar _ m
    subst e
    obtain ⟨z, hz, lz⟩ := c.tr _ _ _ hi h1 h2 x y hx hy
    exact ⟨h2, z, hz, by omega⟩
theorem no_ring {D : Nat → Nat → Option Int} {n : Nat} {arcs : List Ar} (c : ClD D n arcs) {sub : List Ar} {e s : Nat} {y w : Int} (h : Wk sub e s y) (lt : y + w < 0) (m : (⟨s, e, w⟩ : Ar) ∈ arcs) (sb : sub ⊆ arcs) : False := by
  obtain ⟨h1, h2, x, hx, lx⟩ := c.ar _ m
  obtain ⟨_, z, hz, lz⟩ := c.wk (h.mono sb) h2
  obtain ⟨v, hv, lv⟩ := c.tr _ _ _ h2 h1 h2 z x hz hx
  rw [c.dg _ h2] at hv
  cases hv
  have : x ≤ w := lx
  omega
theorem ring_no {D : Nat → Nat → Option Int} {n : Nat} {arcs : List Ar} {res : Bool} (c : ClD D n arcs) (r : RingOr n arcs res) : res = false := by
  cases res with
  | false => rfl
  | true =>
    obtain ⟨sub, e, s, y, w, h1, h2, h3, h4⟩ := r.2 rfl
    exact (no_ring c h1 h2 h3 h4).elim
theorem ClD.uniq {D D' : Nat → Nat → Option Int} {n : Nat} {arcs : List Ar} (c : ClD D n arcs) (c' : ClD D' n arcs) {i j : Nat} (hi : i < n) (hj : j < n) : D i j = D' i j := by
  cases h : D i j with
  | none =>
    cases h' : D' i j with
    | none => rfl
    | some x =>
      obtain ⟨_, y, hy, _⟩ := c.wk (c'.at' i j hi hj x h') hi
      rw [h] at hy
      cases hy
  | some x =>
    obtain ⟨_, y, hy, ly⟩ := c'.wk (c.at' i j hi hj x h) hi
    obtain ⟨_, z, hz, lz⟩ := c.wk (c'.at' i j hi hj y hy) hi
    rw [h] at hz
    cases hz
    rw [hy]
    congr 1
    omega
/-- with two bounds besides that make q later than p by just x -/
def withX (bds : List Bd) (p q : Pt) (x : Int) : List Bd := bds ++ [⟨p, q, x, -1⟩, ⟨q, p, -x, -1⟩]
theorem with_ok {bds : List Bd} {p q : Pt} {x : Int} (mp : p ∈ ptsL) (mq : q ∈ ptsL) (hm : ∀ b ∈ bds, b.one ∈ ptsL ∧ b.two ∈ ptsL) (few : 2 * bds.length ≤ 30) :
    (tabM (withX bds p q x) []).ok = ((tabM bds [p, q]).ok && isIn (stM (tabM bds [p, q]) p q) x) := by
  have ip : ptsL.idxOf p < 7 := idx_lt mp
  have iq : ptsL.idxOf q < 7 := idx_lt mq
  have hw : ∀ b ∈ withX bds p q x, b.one ∈ ptsL ∧ b.two ∈ ptsL := fun b hb => by
    rcases List.mem_append.mp hb with h | h
    · exact hm b h
    · simp only [List.mem_cons, List.not_mem_nil, or_false] at h
      rcases h with h | h
      · rw [h]; exact ⟨mp, mq⟩
      · rw [h]; exact ⟨mq, mp⟩
  have wl : (withX bds p q x).length = bds.length + 2 := by unfold withX; rw [List.length_append]; rfl
  obtain ⟨_, r1, o1, g1, d1⟩ := tab_ring (big := ptsL) (by decide) (ps := [p, q]) hm (fun r hr => by
    simp only [List.mem_cons, List.not_mem_nil, or_false] at hr
    rcases hr with h | h
    · rw [h]; exact mp
    · rw [h]; exact mq) (by show 2 + 2 * _ ≤ 40; omega)
  obtain ⟨_, r2, o2, g2, d2⟩ := tab_ring (big := ptsL) (by decide) (ps := []) hw (fun r hr => by cases hr) (by rw [wl]; show 0 + 2 * _ ≤ 40; omega)
  have np : p ∈ namesM [p, q] bds := names_has (by simp)
  have nq : q ∈ namesM [p, q] bds := names_has (by simp)
  have ea : (withX bds p q x).map (arcM ptsL) = bds.map (arcM ptsL) ++ [⟨ptsL.idxOf p, ptsL.idxOf q, x⟩, ⟨ptsL.idxOf q, ptsL.idxOf p, -x⟩] := by unfold withX; rw [List.map_append]; rfl
  have sub : bds.map (arcM ptsL) ⊆ (withX bds p q x).map (arcM ptsL) := fun z hz => by rw [ea]; exact List.mem_append_left _ hz
  rw [o1, o2]
  cases hr2 : r2 with
  | false =>
    obtain ⟨_, D2, c2, _⟩ := d2 hr2
    have hr1 : r1 = false := by
      cases r1 with
      | false => rfl
      | true =>
        obtain ⟨sb, e, s, y, w, h1, h2, h3, h4⟩ := g1.2 rfl
        exact (no_ring c2 h1 h2 (sub h3) fun z hz => sub (h4 hz)).elim
    obtain ⟨_, D1, c1, e1⟩ := d1 hr1
    obtain ⟨_, _, y1, hy1, l1⟩ := c2.ar ⟨ptsL.idxOf p, ptsL.idxOf q, x⟩ (by rw [ea]; simp)
    obtain ⟨_, _, y2, hy2, l2⟩ := c2.ar ⟨ptsL.idxOf q, ptsL.idxOf p, -x⟩ (by rw [ea]; simp)
    have hin : isIn (stM (tabM bds [p, q]) p q) x = true := by
      rw [isIn_iff]
      refine ⟨fun a ha => ?_, fun b hb => ?_⟩
      · have ha' : (distM (tabM bds [p, q]) q p).map (fun b => -b) = some a := ha
        rw [← e1 q p nq np] at ha'
        cases hd : D1 (ptsL.idxOf q) (ptsL.idxOf p) with
        | none => rw [hd] at ha'; cases ha'
        | some c =>
          rw [hd] at ha'
          cases ha'
          obtain ⟨_, z, hz, lz⟩ := c2.wk ((c1.at' _ _ iq ip c hd).mono sub) iq
          obtain ⟨v, hv, lv⟩ := c2.tr _ _ _ ip iq ip y1 z hy1 hz
          rw [c2.dg _ ip] at hv
          cases hv
          have : y1 ≤ x := l1
          show -c ≤ x
          omega
      · have hb' : distM (tabM bds [p, q]) p q = some b := hb
        rw [← e1 p q np nq] at hb'
        obtain ⟨_, z, hz, lz⟩ := c2.wk ((c1.at' _ _ ip iq b hb').mono sub) ip
        obtain ⟨v, hv, lv⟩ := c2.tr _ _ _ ip iq ip z y2 hz hy2
        rw [c2.dg _ ip] at hv
        cases hv
        have : y2 ≤ -x := l2
        omega
    rw [hr1, hin]
    rfl
  | true =>
    cases hr1 : r1 with
    | true => rfl
    | false =>
      obtain ⟨_, D1, c1, e1⟩ := d1 hr1
      cases hin : isIn (stM (tabM bds [p, q]) p q) x with
      | false => rfl
      | true =>
        exfalso
        obtain ⟨i1, i2⟩ := isIn_iff.mp hin
        -- the table over all seven points
        have nd7 : ptsL.Nodup := by decide
        obtain ⟨g0', z0⟩ := addAll_gd ptsL ⟨[], [], true⟩ nd7 (by decide) TbGd.nil (fun i j c h => absurd h (Nat.not_lt_zero i))
        have p0 : (ptsL.foldl addM ⟨[], [], true⟩).pts = ptsL := addAll_pts ptsL ⟨[], [], true⟩
        have o0 : (ptsL.foldl addM ⟨[], [], true⟩).ok = true := addAll_ok ptsL ⟨[], [], true⟩
        generalize ptsL.foldl addM ⟨[], [], true⟩ = T0 at *
        rw [p0] at z0
        have c0 : ClD (cellM T0.d) ptsL.length [] := ⟨by rw [← p0]; exact g0'.dg, by rw [← p0]; exact g0'.tr, fun z hz => (by cases hz), fun i j hi hj c hc => by
          obtain ⟨e1, e2⟩ := z0 i j c hi hj hc
          subst e1
          subst e2
          exact .nil _⟩
        obtain ⟨cn, T', cle, pT', gT', pR, dR, okR, clR, noR, yesR⟩ := run_ring ptsL bds T0 [] p0 g0' o0 c0 hm
        simp only [List.nil_append] at clR noR yesR
        have ecn : cn = bds.length := by
          by_cases e : cn = bds.length
          · exact e
          · obtain ⟨_, yes⟩ := yesR (by omega)
            obtain ⟨sb, ee, s, y, w, h1, h2, h3, h4⟩ := yes rfl
            have inn : (bds.take (cn + 1)).map (arcM ptsL) ⊆ bds.map (arcM ptsL) := fun z hz => by
              rw [List.map_take] at hz
              exact List.mem_of_mem_take hz
            exact (no_ring c1 h1 h2 (inn h3) fun z hz => inn (h4 hz)).elim
        rw [ecn, List.take_length] at clR
        have l7 : T'.pts.length = 7 := by rw [pT']; rfl
        have u1 := ClD.uniq clR c1 (i := ptsL.idxOf q) (j := ptsL.idxOf p) iq ip
        have u2 := ClD.uniq clR c1 (i := ptsL.idxOf p) (j := ptsL.idxOf q) ip iq
        rw [e1 q p nq np] at u1
        rw [e1 p q np nq] at u2
        have hs : ptsL.idxOf p < T'.pts.length := by rw [l7]; exact ip
        have he : ptsL.idxOf q < T'.pts.length := by rw [l7]; exact iq
        have nn1 : ¬ negB (cellM T'.d (ptsL.idxOf q) (ptsL.idxOf p)) x = true := fun h => by
          rw [u1] at h
          cases hd : distM (tabM bds [p, q]) q p with
          | none => rw [hd] at h; cases h
          | some c =>
            rw [hd] at h
            have lt : c + x < 0 := of_decide_eq_true h
            have := i1 (-c) (by show (distM (tabM bds [p, q]) q p).map (fun b => -b) = _; rw [hd]; rfl)
            omega
        have k1 := ClD.put gT' (by rw [pT']; exact clR) hs he nn1
        obtain ⟨g3, _, _, _⟩ := put_cell gT' hs he nn1
        have p3 := putM_pts T' (ptsL.idxOf p) (ptsL.idxOf q) x
        have nn2 : ¬ negB (cellM (putM T' (ptsL.idxOf p) (ptsL.idxOf q) x).d (ptsL.idxOf p) (ptsL.idxOf q)) (-x) = true := fun h => by
          cases hd : cellM (putM T' (ptsL.idxOf p) (ptsL.idxOf q) x).d (ptsL.idxOf p) (ptsL.idxOf q) with
          | none => rw [hd] at h; cases h
          | some c =>
            rw [hd] at h
            have lt : c + -x < 0 := of_decide_eq_true h
            rcases put_iff gT' hs he nn1 hs he hd with h' | ⟨a, b, ha, hb, hc⟩
            · rw [u2] at h'
              have := i2 c h'
              omega
            · rw [gT'.dg _ hs] at ha
              rw [gT'.dg _ he] at hb
              cases ha
              cases hb
              omega
        rw [← p3] at k1
        have k2 := ClD.put g3 k1 (by rw [p3]; exact he) (by rw [p3]; exact hs) nn2
        have e7 : (putM T' (ptsL.idxOf p) (ptsL.idxOf q) x).pts.length = 7 := by rw [p3]; exact l7
        rw [e7, List.append_assoc, show ([⟨ptsL.idxOf p, ptsL.idxOf q, x⟩] ++ [⟨ptsL.idxOf q, ptsL.idxOf p, -x⟩] : List Ar) = [⟨ptsL.idxOf p, ptsL.idxOf q, x⟩, ⟨ptsL.idxOf q, ptsL.idxOf p, -x⟩] from rfl, ← ea] at k2
        have := ring_no k2 g2
        rw [hr2] at this
        cases this
theorem tab_met {bds : List Bd} {ps : List Pt} (hm : ∀ b ∈ bds, b.one ∈ ptsL ∧ b.two ∈ ptsL) (hp : ∀ p ∈ ps, p ∈ ptsL) (few : ps.length + 2 * bds.length ≤ 40) (ok : (tabM bds ps).ok = true) : TbGd (tabM bds ps) ∧ ∀ z ∈ bds, z.one ∈ (tabM bds ps).pts ∧ z.two ∈ (tabM bds ps).pts ∧ DLe (distM (tabM bds ps) z.one z.two) z.amount := by
  obtain ⟨ep, r, o, _, d⟩ := tab_ring (big := ptsL) (by decide) hm hp few
  have hr : r = false := by
    cases r with
    | false => rfl
    | true => rw [o] at ok; cases ok
  obtain ⟨g, D, c, e⟩ := d hr
  refine ⟨g, fun z hz => ?_⟩
  have m := foldB_mem bds (ps.foldl insP []) hz
  have m1 : z.one ∈ namesM ps bds := m.1
  have m2 : z.two ∈ namesM ps bds := m.2
  obtain ⟨_, _, h⟩ := c.ar _ (List.mem_map.mpr ⟨z, hz, rfl⟩)
  have h' : DLe (D (ptsL.idxOf z.one) (ptsL.idxOf z.two)) z.amount := h
  rw [e _ _ m1 m2] at h'
  exact ⟨by rw [ep]; exact m1, by rw [ep]; exact m2, h'⟩
/-! ### guilt -/
/-- the events and the beginning among points -/
def evtP (ps : List Pt) : List Pt := ps.filter fun p => decide (p.c = -1)
/-- one distance says more than another one -/
def moreB : Option Int → Option Int → Bool
  | none, _ => false
  | some _, none => true
  | some d, some r => decide (r > d)
theorem evtP_mem {ps : List Pt} {p : Pt} : p ∈ evtP ps ↔ p ∈ ps ∧ p.c = -1 := by
  unfold evtP
  rw [List.mem_filter, decide_eq_true_iff]
def nothB (T U : TbM) : Bool := T.ok && !(evtP T.pts).any fun p => (evtP T.pts).any fun q => moreB (distM T p q) (distM U p q)
theorem names_few {bds : List Bd} {ps : List Pt} (hm : ∀ b ∈ bds, b.one ∈ ptsL ∧ b.two ∈ ptsL) (hp : ∀ p ∈ ps, p ∈ ptsL) : (namesM ps bds).length ≤ 7 := show (namesM ps bds).length ≤ ptsL.length from (names_nd ps bds).length_le_of_subset fun q m => by
  rcases names_in m with h | ⟨b, hb, h | h⟩
  · exact hp q h
  · rw [h]; exact (hm b hb).1
  · rw [h]; exact (hm b hb).2
def ownB (bs : List Bd) (pa : Int) : List Bd := bs.filter fun b => decide (b.part = pa)
theorem own_mem {bs : List Bd} {pa : Int} {b : Bd} (h : b ∈ ownB bs pa) : b ∈ bs := (List.mem_filter.mp h).1
theorem own_len (bs : List Bd) (pa : Int) : (ownB bs pa).length ≤ bs.length := List.length_filter_le _ _
theorem own_step {bs : List Bd} {pa : Int} {i : Nat} {b : Bd} (hb : bs[i]? = some b) : ownB (bs.take (i + 1)) pa = ownB (bs.take i) pa ++ (if decide (b.part = pa) = true then [b] else []) := by
  unfold ownB
  rw [List.take_add_one, hb, List.filter_append]
  congr 1
  show List.filter _ [b] = _
  rw [List.filter_cons]
  rfl
def okC (bds : List Bd) (ch : List Int) : Bool := (tabM (leftB bds ch) ptsL).ok
def posC (bds : List Bd) (chs : List (List Int)) : List (List Int) := chs.filter (okC bds)
def folB (own left : List Bd) : Bool := nothB (tabM own []) (tabM left ptsL)
def prM (bds : List Bd) (ps : List Pt) (ch : List Int) : Option (List Int × TbM) := (leftT bds ps ch).map fun T => (ch, T)
def prsM (bds : List Bd) (chs : List (List Int)) (ps : List Pt) : List (List Int × TbM) := chs.filterMap (prM bds ps)
theorem prs_step {bds : List Bd} {chs : List (List Int)} {ps : List Pt} {i : Nat} {ch : List Int} (h : chs[i]? = some ch) : prsM bds (chs.take (i + 1)) ps = prsM bds (chs.take i) ps ++ (prM bds ps ch).toList := by
  unfold prsM
  rw [List.take_add_one, h, List.filterMap_append]
  have e : List.filterMap (prM bds ps) [ch] = (prM bds ps ch).toList := by
    cases e : prM bds ps ch with
    | none => simp [e]
    | some T => simp [e]
  exact congrArg _ e
section
variable {left : List Bd} {ps : List Pt} (hm : ∀ b ∈ left, b.one ∈ ptsL ∧ b.two ∈ ptsL) (hp : ∀ p ∈ ps, p ∈ ptsL)
include hm hp
theorem ok_same : (tabM left ps).ok = (tabM left ptsL).ok := by
  obtain ⟨_, r1, o1, g1, _⟩ := tab_ringN (big := ptsL) (by decide) hm hp (Nat.le_trans (names_few hm hp) (by decide))
  obtain ⟨_, r2, o2, g2, _⟩ := tab_ringN (big := ptsL) (by decide) hm (fun p h => h) (Nat.le_trans (names_few hm fun p h => h) (by decide))
  rw [o1, o2]
  congr 1
  cases r1 with
  | false =>
    obtain ⟨D, c⟩ := g1.1 rfl
    exact (ring_no c g2).symm
  | true => cases r2 with
    | true => rfl
    | false =>
      obtain ⟨D, c⟩ := g2.1 rfl
      exact ring_no c g1
theorem dist_same (ok : (tabM left ps).ok = true) {p q : Pt} (mp : p ∈ namesM ps left) (mq : q ∈ namesM ps left) : distM (tabM left ps) p q = distM (tabM left ptsL) p q := by
  have ok2 := ok_same hm hp ▸ ok
  obtain ⟨_, r1, o1, _, d1⟩ := tab_ringN (big := ptsL) (by decide) hm hp (Nat.le_trans (names_few hm hp) (by decide))
  obtain ⟨_, r2, o2, _, d2⟩ := tab_ringN (big := ptsL) (by decide) hm (fun p h => h) (Nat.le_trans (names_few hm fun p h => h) (by decide))
  have e1 : r1 = false := by cases r1 with
    | false => rfl
    | true => rw [ok] at o1; cases o1
  have e2 : r2 = false := by cases r2 with
    | false => rfl
    | true => rw [ok2] at o2; cases o2
  have inn : ∀ r ∈ namesM ps left, r ∈ ptsL := fun r m => by
    rcases names_in m with h | ⟨b, hb, h | h⟩
    · exact hp r h
    · rw [h]; exact (hm b hb).1
    · rw [h]; exact (hm b hb).2
  obtain ⟨_, D1, c1, f1⟩ := d1 e1
  obtain ⟨_, D2, c2, f2⟩ := d2 e2
  rw [← f1 p q mp mq, ← f2 p q (names_has (inn p mp)) (names_has (inn q mq))]
  exact ClD.uniq c1 c2 (idx_lt (inn p mp)) (idx_lt (inn q mq))
end
theorem any_same {α : Type} {f g : α → Bool} : ∀ {l : List α}, (∀ x ∈ l, f x = g x) → l.any f = l.any g
  | [], _ => rfl
  | x :: r, h => by
    rw [List.any_cons, List.any_cons, h x List.mem_cons_self, any_same fun y hy => h y (List.mem_cons_of_mem _ hy)]
theorem noth_same {own left : List Bd} {ps : List Pt} (hm : ∀ b ∈ left, b.one ∈ ptsL ∧ b.two ∈ ptsL) (hp : ∀ p ∈ ps, p ∈ ptsL) (ok : (tabM left ps).ok = true) (sub : ∀ p ∈ evtP (tabM own []).pts, p ∈ ps) : nothB (tabM own []) (keepM (tabM left ps) ps) = folB own left := by
  unfold folB nothB
  congr 2
  refine any_same fun p mp => any_same fun q mq => ?_
  rw [keep_dist (kept_has (sub p mp)) (kept_has (sub q mq)), dist_same hm hp ok (names_has (sub p mp)) (names_has (sub q mq))]
theorem pos_prs {bds : List Bd} {ps : List Pt} (hm : ∀ b ∈ bds, b.one ∈ ptsL ∧ b.two ∈ ptsL) (hp : ∀ p ∈ ps, p ∈ ptsL) : ∀ chs : List (List Int), (prsM bds chs ps).map (·.1) = posC bds chs
  | [] => rfl
  | ch :: r => by
    have ih := pos_prs hm hp r
    have e := ok_same (left := leftB bds ch) (fun b h => hm b (left_mem h)) hp
    unfold prsM posC at *
    rw [List.filterMap_cons, List.filter_cons]
    unfold prM leftT okC at *
    cases ok : (tabM (leftB bds ch) ps).ok with
    | true =>
      rw [← e, ok, if_pos rfl, if_pos rfl]
      show (_ :: _ : List (List Int)) = _
      rw [ih]
    | false =>
      rw [← e, ok, if_neg (by decide), if_neg (by decide)]
      exact ih
theorem all_prs {bds : List Bd} {ps : List Pt} {pa : Int} (hm : ∀ b ∈ bds, b.one ∈ ptsL ∧ b.two ∈ ptsL) (hp : ∀ p ∈ ps, p ∈ ptsL) (sub : ∀ p ∈ evtP (tabM (ownB bds pa) []).pts, p ∈ ps) : ∀ chs : List (List Int), ((prsM bds chs ps).all fun z => !z.1.contains pa || nothB (tabM (ownB bds pa) []) z.2) = (posC bds chs).all fun ch => !ch.contains pa || folB (ownB bds pa) (leftB bds ch)
  | [] => rfl
  | ch :: r => by
    have ih := all_prs hm hp sub r
    have e := ok_same (left := leftB bds ch) (fun b h => hm b (left_mem h)) hp
    have g := fun ok => noth_same (own := ownB bds pa) (left := leftB bds ch) (fun b h => hm b (left_mem h)) hp ok sub
    unfold prsM posC at *
    rw [List.filterMap_cons, List.filter_cons]
    unfold prM leftT okC at *
    cases ok : (tabM (leftB bds ch) ps).ok with
    | true =>
      rw [← e, ok, if_pos rfl, if_pos rfl]
      show (List.all (_ :: _) _ : Bool) = _
      rw [List.all_cons, List.all_cons, ih]
      show ((!ch.contains pa || nothB _ (keepM (tabM (leftB bds ch) ps) ps)) && _) = _
      rw [g ok]
    | false =>
      rw [← e, ok, if_neg (by decide), if_neg (by decide)]
      exact ih
def broM (n : Nat) (ps : List (List Int)) : List Int := ((List.range n).map fun (i : Nat) => (i : Int)).filter fun i => ps.all fun ch => ch.contains i
def rigM (bds : List Bd) (n : Nat) (ps : List (List Int)) : List Int := ((List.range n).map fun (i : Nat) => (i : Int)).filter fun i => ps.all fun ch => !ch.contains i || folB (ownB bds i) (leftB bds ch)
theorem rng_take {n i : Nat} (h : i < n) : ((List.range n).map fun (i : Nat) => (i : Int)).take (i + 1) = ((List.range n).map fun (i : Nat) => (i : Int)).take i ++ [(i : Int)] := by
  rw [List.take_add_one, List.getElem?_map, List.getElem?_range h]
  rfl
theorem rng_fil {n i : Nat} {f : Int → Bool} (h : i < n) : (((List.range n).map fun (i : Nat) => (i : Int)).take (i + 1)).filter f = (((List.range n).map fun (i : Nat) => (i : Int)).take i).filter f ++ (if f (i : Int) = true then [(i : Int)] else []) := by
  rw [rng_take h, List.filter_append]
  congr 1
  show List.filter _ [(i : Int)] = _
  rw [List.filter_cons]
  rfl
def chI (c : List Nat) : List Int := c.map fun (i : Nat) => (i : Int)
theorem chI_V (c : List Nat) : (chI c).map V.int = Cb.nV c := by
  unfold chI
  rw [List.map_map]
  rfl
theorem CsL.ch {H : Hp} {l : Addr} {es : List Addr} {cs : List (List Nat)} (h : CsL H l es cs) : ChL H l es (cs.map chI) := ⟨h.l, by rw [List.length_map]; exact h.e.1, fun i e ch he hc => by
  rw [List.getElem?_map] at hc
  cases g : cs[i]? with
  | none => rw [g] at hc; cases hc
  | some c =>
    rw [g] at hc
    cases hc
    rw [chI_V]
    exact h.e.2 i e c he g⟩
theorem own_evt {bds : List Bd} {pa : Int} {p : Pt} (h : p ∈ evtP (tabM (ownB bds pa) []).pts) : p ∈ evtP (bds.flatMap fun b => [b.one, b.two]) := by
  obtain ⟨m, e⟩ := evtP_mem.mp h
  rw [tabM_pts] at m
  refine evtP_mem.mpr ⟨?_, e⟩
  rcases names_in m with h | ⟨b, hb, h⟩
  · cases h
  · refine List.mem_flatMap.mpr ⟨b, own_mem hb, ?_⟩
    rcases h with h | h <;> rw [h] <;> simp
/-- pairs of a choice and a table, with the choice -/
structure PrC (CT : Addr) (H : Hp) (l : Addr) (es : List Addr) (zs : List (List Int × TbM)) : Prop where
  l : H l = some (.lst (es.map V.ref))
  e : Each (fun e z => ∃ c t pl rw rs, H e = some (.tup [.ref c, .ref t]) ∧ H c = some (.tup (z.1.map V.int)) ∧ TbAt CT H t z.2 pl rw rs) es zs
theorem PrC.keep {CT : Addr} {H H' : Hp} {l : Addr} {es : List Addr} {Ts : List (List Int × TbM)} (s : Same H H') (h : PrC CT H l es Ts) : PrC CT H' l es Ts :=
  ⟨s _ _ h.l, h.e.keep fun _ _ ⟨c, t, pl, rw, rs, a, d, b⟩ => ⟨c, t, pl, rw, rs, s _ _ a, s _ _ d, b.keep s⟩⟩
theorem prs_has {bds : List Bd} {chs : List (List Int)} {ps : List Pt} {z : List Int × TbM} (h : z ∈ prsM bds chs ps) : ∀ r ∈ ps, r ∈ z.2.pts := by
  obtain ⟨ch, hc, e⟩ := List.mem_filterMap.mp h
  unfold prM at e
  cases l : leftT bds ps ch with
  | none => rw [l] at e; cases e
  | some T =>
    rw [l] at e
    cases e
    exact tabs_has (bds := bds) (chs := chs) (List.mem_filterMap.mpr ⟨ch, hc, l⟩)
/-- what is told of guilt: nothing, or a pair of fresh lists -/
def GuR (bds : List Bd) (n : Nat) (chs : List (List Int)) (H H' : Hp) (v : V) : Prop := (posC bds chs = [] ∧ v = .non) ∨ (posC bds chs ≠ [] ∧ ∃ p l1 l2, v = .ref p ∧ H l1 = none ∧ H l2 = none ∧ l1 ≠ l2 ∧ H' p = some (.tup [.ref l1, .ref l2]) ∧ H' l1 = some (.lst ((broM n (posC bds chs)).map V.int)) ∧ H' l2 = some (.lst ((rigM bds n (posC bds chs)).map V.int)))
section
variable {P : Program} {w : World} {K : PySem.W.Frag} {mg : Str → Option Value} {base : Heap}
def sp_all_choices (K : PySem.W.Frag) : Sp := fun vs H Q _ => ∃ (n k : Nat), vs = [.int (n : Int), .int (k : Int)] ∧ n < 10 ∧ k < 4 ∧ ∀ (l : Addr) (es : List Addr) (H' : Hp), Same H H' → H l = none → CsL H' l es (rowsF n k) → Q (.ref l) H'
theorem ok_all_choices {f : Addr} {fd : FuncData} (D : Df K mg "all_choices" s_all_choices ["parts", "faults"] f fd) (T : Txt K mg) (g_combinations : mg "combinations" = some (.type "itertools.combinations")) : FnOk P w K mg base CX0 1 f fd ["parts", "faults"] (sp_all_choices K) := by
  refine D.F.ok sc_all_choices (fun vs H Q E h => ?_) (fun cdv A outer s H vs Q E hr h => ?_)
  · obtain ⟨n, k, rfl, _⟩ := h
    rfl
  obtain ⟨n, k, rfl, hn, hk, q⟩ := h
  refine ⟨_, (pss_one (ps_ret (Cb.pe_listCmb rfl rfl T.list rfl g_combinations (pa_cons (pe_callTy Cb.cr_rng1 rfl T.range (by decide +kernel) (pa_cons (pv 0) pa_nil)) (pa_cons (pv 1) pa_nil))))), ?_⟩
  obtain ⟨nx, bs, lim⟩ := rows_nx hn hk
  refine ⟨_, rfl, _, rfl, fun rg nr => ⟨_, rfl, rg, n, k, rowsF n k, rfl, upd_same, by omega, by omega, bs, by omega, nx, fun p H' es sm np h1 h2 => ?_⟩⟩
  have s0 := same_upd (o := .rng 0 (n : Int)) nr
  exact q p es H' (s0.trans sm) (s0.free np) ⟨h1, h2⟩
def sp_bounds_left (K : PySem.W.Frag) : Sp := fun vs H Q _ => ∃ (a c : Addr) (es : List Addr) (bs : List Bd) (ch : List Int), vs = [.ref a, .ref c] ∧ BnL H a es bs ∧ bs.length ≤ 10000 ∧ H c = some (.tup (ch.map V.int)) ∧ ∀ (p : Addr) (fs : List Addr) (H' : Hp), Same H H' → H p = none → BnL H' p fs (leftB bs ch) → Q (.ref p) H'
theorem ok_bounds_left {f : Addr} {fd : FuncData} (D : Df K mg "bounds_left" s_bounds_left ["bounds", "choice"] f fd) (T : Txt K mg) : FnOk P w K mg base CX0 1 f fd ["bounds", "choice"] (sp_bounds_left K) := by
  refine D.F.ok sc_bounds_left (fun vs H Q E h => ?_) (fun cdv A outer s H vs Q E hr h => ?_)
  · obtain ⟨a, c, es, bs, ch, rfl, _⟩ := h
    rfl
  obtain ⟨a, c, es, bs, ch, rfl, hB, hl, hc, q⟩ := h
  refine ⟨_, (pss_one (ps_ret (pe_lc (own := [("bound", 2)]) (g := gName 2) (tt := _) rfl sc_bounds_left.nd (pi_list (pv 0)) (blkOk_by (own := [("bound", 2)]) (N := nm_bounds_left) (sc := defScope s_bounds_left) (by decide +kernel)) (fun _ _ _ _ _ => (pg_name (i := 2) sc_bounds_left.nd rfl (Or.inl rfl))) (fun _ _ _ _ _ => (pts_one (pt_cmpR (r := rIn K true) op_notIn_seq (pe_ix (r := rIxT K) ix_tup (pv 2) pe_int (fun _ _ => rfl)) (pv 1) (by rfl)))) (fun _ _ _ _ _ => (pv 2))))), ?_⟩
  refine ⟨_, rfl, _, rfl, ⟨_, SqL.of hB.l⟩, fun D hD => lc_list (K := K) (a := a) (xs := es.map V.ref) (fun i H' => Same H H' ∧ ∃ fs, BnL H' D fs (leftB (bs.take i) ch)) ⟨same_upd hD, [], upd_same, Each.nil⟩ (fun i H' _ p => SqL.of (p.1 _ _ hB.l)) ?_ ?_⟩
  · rintro i v H' hv ⟨sm, fs, hL⟩
    obtain ⟨e, he, rfl⟩ := ref_of hv
    obtain ⟨b, hb, hq⟩ := hB.e.get he
    have hq' := hq.tk (TupK.of sm)
    obtain ⟨x, y, ht, hx, hy⟩ := id hq'
    have hi : i < bs.length := (List.getElem?_eq_some_iff.mp hb).1
    refine ⟨rfl, _, rfl, _, _, _, _, rfl, rfl, SqT.of ht, at_of (j := 3) rfl rfl, _, rfl, _, _, rfl, .inr (SqT.of (sm _ _ hc)), rfl, flat_ints _, _, rfl, ?_⟩
    rw [inV_int]
    have hfl : (leftB (bs.take i) ch).length ≤ 10000 := Nat.le_trans (List.length_filter_le _ _) (by rw [List.length_take]; omega)
    cases ec : ch.contains b.part with
    | true =>
      refine iteF ⟨sm, fs, ?_⟩
      rw [left_step hb, ec, if_pos rfl, List.append_nil]
      exact hL
    | false =>
      have kk : TupK H' (upd H' D (.lst (fs.map V.ref ++ [V.ref e]))) := .set hL.l
      refine iteT ⟨_, rfl, _, hL.l, by rw [List.length_map, hL.e.1]; exact sizes' (by omega), fun c w hcw => ?_, fs ++ [e], ?_⟩
      · rw [upd_ne (ne_of_none hcw hD)]
        exact sm _ _ hcw
      · rw [left_step hb, ec, if_neg (by decide)]
        exact ⟨by rw [upd_same, List.map_append]; rfl, (hL.e.keep fun _ _ z => z.tk kk).snoc (hq'.tk kk)⟩
  · rintro H' ⟨sm, fs, hL⟩
    rw [List.length_map, hB.e.1, List.take_length] at hL
    exact q D fs H' sm hD hL
def sp_points_named (K : PySem.W.Frag) : Sp := fun vs H Q _ => ∃ (b a : Addr) (es cs : List Addr) (bds : List Bd) (ps : List Pt), vs = [.ref b, .ref a] ∧ BnL H b es bds ∧ PtL H a cs ps ∧ ps.length + 2 * bds.length ≤ 1000 ∧ ∀ (l : Addr) (bs : List Addr) (H' : Hp), Same H H' → H l = none → PtL H' l bs (namesM ps bds) → Q (.ref l) H'
set_option maxHeartbeats 1000000 in
theorem ok_points_named {f : Addr} {fd : FuncData} (D : Df K mg "points_named" s_points_named ["bounds", "points"] f fd) (T : Txt K mg) : FnOk P w K mg base CX0 1 f fd ["bounds", "points"] (sp_points_named K) := by
  refine D.F.ok sc_points_named (fun vs H Q E h => ?_) (fun cdv A outer s H vs Q E hr h => ?_)
  · obtain ⟨b, a, es, cs, bds, ps, rfl, _⟩ := h
    rfl
  obtain ⟨b, a, es, cs, bds, ps, rfl, hB, hP, few, q⟩ := h
  refine ⟨_, (pss_cons (ps_setDcT (i := 2) (own := [("point", 6)]) (g := gName 6) (tt := tYes) rfl rfl (sw_trueD rfl rfl rfl (by decide +kernel)) (hu_of hr) rfl sc_points_named.nd (pi_list (pv 1)) (blkOk_by (own := [("point", 6)]) (N := nm_points_named) (sc := defScope s_points_named) (by decide +kernel)) (fun _ _ _ _ _ => (pg_name (i := 6) sc_points_named.nd rfl (Or.inl rfl))) (fun _ _ _ _ _ => pts_nil) (fun _ _ _ _ _ => (pv 6)) (fun _ _ _ _ _ => pe_bl))
    (pss_cons (ps_for PassesOwn.never rfl (pi_list (pv 0)) (pg_tup rfl (pgs_cons (pg_name (i := 3) sc_points_named.nd rfl (Or.inl rfl)) (pgs_cons (pg_name (i := 4) sc_points_named.nd rfl (Or.inl rfl)) (pgs_cons (pg_name (i := 5) sc_points_named.nd rfl (Or.inl rfl)) (pgs_cons (pg_name (i := 5) sc_points_named.nd rfl (Or.inl rfl)) pgs_nil)))))
      (pss_cons (ps_dput (hu_of hr) (pv 2) (pv 3) pe_bl rfl)
    (pss_one (ps_dput (hu_of hr) (pv 2) (pv 4) pe_bl rfl))))
    (pss_one (ps_ret (pe_callTy (call_list_dT rfl) rfl T.list (by decide +kernel) (pa_cons (pv 2) pa_nil)))))), ?_⟩
  refine ⟨_, rfl, a, rfl, ⟨_, SqL.of hP.l⟩, fun D hD => dc_it (walk_list (K := K) (a := a) (xs := cs.map V.ref)) (fun i H' => Same H H' ∧ H' D = some (.dT (nmK ((ps.take i).foldl insP []))) ∧ ((ps.take i).foldl insP []).length ≤ i) ⟨same_upd hD, upd_same, Nat.le_refl _⟩ (fun i H' _ z => SqL.of (z.1 _ _ hP.l)) ?_ ?_⟩
  · rintro i x H1 H2 hi ⟨sm, eD, len⟩ ⟨rfl, hx⟩
    obtain ⟨c, hc, rfl⟩ := ref_of hx
    obtain ⟨p, hpp, hq⟩ := hP.e.get hc
    have hq1 := sm _ _ hq
    have st : (ps.take (i + 1)).foldl insP [] = insP ((ps.take i).foldl insP []) p := by
      rw [List.take_add_one, hpp, List.foldl_append]
      rfl
    have hi2 : i < ps.length := (List.getElem?_eq_some_iff.mp hpp).1
    refine ⟨rfl, _, rfl, nmK ((ps.take i).foldl insP []), ptK p, c, rfl, hq1, eD, by unfold nmK; rw [List.length_map]; exact sizes' (by omega), ?_⟩
    rw [st, nmK_put]
    exact ⟨fun c u hc => by rw [upd_ne (ne_of_none hc hD)]; exact sm _ _ hc, upd_same, Nat.le_trans (insP_len _ _) (by omega)⟩
  rintro H1 ⟨s1, e1, len1⟩
  rw [List.length_map, hP.e.1, List.take_length] at e1 len1
  refine ⟨_, rfl, _, rfl, ⟨_, SqL.of (hB.keep s1).l⟩, for_list (K := K) (a := b) (xs := es.map V.ref) (fun i σ H' => ∃ v3 v4 v5, σ = [some (.ref b), some (.ref a), some (.ref D), v3, v4, v5, none] ∧ Same H H' ∧ H' D = some (.dT (nmK ((bds.take i).foldl insB (ps.foldl insP [])))) ∧ ((bds.take i).foldl insB (ps.foldl insP [])).length ≤ ps.length + 2 * i) ⟨none, none, none, rfl, s1, e1, by show (ps.foldl insP []).length ≤ _; omega⟩ (fun i σ H' _ ⟨_, _, _, _, s, _⟩ => SqL.of (s _ _ hB.l)) ?_ ?_⟩
  · rintro i x σ H2 hx ⟨v3, v4, v5, rfl, s2, e2, len2⟩
    obtain ⟨e, he, rfl⟩ := ref_of hx
    obtain ⟨z, hz, x1, x2, h1, h2, h3⟩ := (hB.keep s2).e.get he
    have hi2 : i < bds.length := (List.getElem?_eq_some_iff.mp hz).1
    have st : (bds.take (i + 1)).foldl insB (ps.foldl insP []) = insB ((bds.take i).foldl insB (ps.foldl insP [])) z := by
      rw [List.take_add_one, hz, List.foldl_append]
      rfl
    rw [st]
    generalize (bds.take i).foldl insB (ps.foldl insP []) = ns at *
    have l1 := insP_len ns z.one
    have l2 := insP_len (insP ns z.one) z.two
    have up : ∀ {o : HO}, Same H (upd H2 D o) := fun {o} c u h => by
      rw [upd_ne (ne_of_none h hD)]
      exact s2 _ _ h
    have x1D : x1 ≠ D := ne_of h2 e2 (by intro w; cases w)
    have x2D : x2 ≠ D := ne_of h3 e2 (by intro w; cases w)
    refine ⟨_, _, rfl, SqT.of h1, rfl, _, _, rfl, _, _, rfl, _, _, rfl, _, _, rfl, rfl, ?_⟩
    refine ⟨_, rfl, _, rfl, D, _, rfl, .inr ⟨nmK ns, ptK z.one, x1, e2, rfl, h2, by unfold nmK; rw [List.length_map]; exact sizes' (by omega), rfl⟩, ?_⟩
    rw [nmK_put]
    have h3' : upd H2 D (.dT (nmK (insP ns z.one))) x2 = some (.tup [.int z.two.d, .int z.two.n, .int z.two.c]) := by rw [upd_ne x2D]; exact h3
    refine ⟨_, rfl, _, rfl, D, _, rfl, .inr ⟨nmK (insP ns z.one), ptK z.two, x2, upd_same, rfl, h3', by unfold nmK; rw [List.length_map]; exact sizes' (by omega), rfl⟩, ?_⟩
    rw [nmK_put]
    refine ⟨_, _, _, rfl, fun c u h => ?_, upd_same, by show (insB ns z).length ≤ _; unfold insB; omega⟩
    rw [upd_ne (ne_of_none h hD)]
    exact up _ _ h
  rintro σ H2 ⟨v3, v4, v5, rfl, s2, e2, len2⟩
  rw [List.length_map, hB.e.1, List.take_length] at e2 len2
  refine ⟨_, rfl, _, _, rfl, .inl e2, fun l bs hl hk => ?_⟩
  have s3 := same_upd (o := .lst (bs.map V.ref)) hl
  refine q l bs _ (s2.trans s3) (s2.free hl) ⟨upd_same, ?_, fun i c p h1 h2 => ?_⟩
  · rw [← hk.length]
    unfold nmK
    rw [List.length_map]
    rfl
  · have h3 : (nmK (namesM ps bds))[i]? = some (ptK p, .bl true) := by unfold nmK; rw [List.getElem?_map, h2]; rfl
    obtain ⟨y, h4, h5⟩ := paired_at hk h3
    rw [h1] at h4
    cases h4
    exact s3 _ _ h5
def sp_Table___init__ (K : PySem.W.Frag) (CT : Addr) : Sp := fun vs H Q _ => ∃ (t dx : Addr), vs = [.ref t] ∧ H t = some (.ins CT dx []) ∧ ∀ (pl rw : Addr) (H' : Hp), But t H H' → H' t = some (.ins CT dx (ff_Table (.ref pl) (.ref rw) (.bl true))) → H' pl = some (.dT []) → H' rw = some (.lst []) → H pl = none → H rw = none → Q .non H'
theorem ok_Table___init__ {f : Addr} {fd : FuncData} {CT : Addr} (TTb : Ck_Table K mg CT) (D : Mt K CT "__init__" "Table.__init__" s_Table___init__ ["self"] f fd) (T : Txt K mg) : FnOk P w K mg base CX0 1 f fd ["self"] (sp_Table___init__ K CT) := by
  refine D.F.ok sc_Table___init__ (fun vs H Q E h => ?_) (fun cdv A outer s H vs Q E hr h => ?_)
  · obtain ⟨t, dx, rfl, _⟩ := h
    rfl
  obtain ⟨t, dx, rfl, hp, q⟩ := h
  refine ⟨_, (pss_cons (ps_fld (pv 0) pe_dnewT rfl)
    (pss_cons (ps_fld (pv 0) (pe_lst pa_nil) rfl)
    (pss_one (ps_fld (pv 0) pe_bl rfl)))), ?_⟩
  refine fun pl n1 => ?_
  obtain ⟨s1, h1⟩ := fr (rfl : upd H pl (.dT []) = _) n1
  generalize upd H pl (.dT []) = H1 at *
  have p1 := s1 _ _ hp
  refine ⟨_, rfl, t, CT, dx, [], rfl, p1, TTb.cl, TTb.n__places, (by show 0 < 1000; decide), ?_⟩
  obtain ⟨b2, h2⟩ := stt (rfl : upd H1 t (.ins CT dx (putF "_places" (.ref pl) [])) = _)
  have f2 := b2 _ _ (ne_of h1 p1 (by intro z; cases z)) h1
  generalize upd H1 t (.ins CT dx (putF "_places" (.ref pl) [])) = H2 at *
  refine ⟨(by show 0 ≤ sizeLine; decide), fun rw n3 => ?_⟩
  obtain ⟨s3, h3⟩ := fr (rfl : upd H2 rw (.lst []) = _) n3
  generalize upd H2 rw (.lst []) = H3 at *
  have p3 := s3 _ _ h2
  refine ⟨_, rfl, t, CT, dx, _, rfl, p3, TTb.cl, TTb.n__rows, (by show 1 < 1000; decide), ?_⟩
  obtain ⟨b4, h4⟩ := stt (rfl : upd H3 t (.ins CT dx (putF "_rows" (.ref rw) (putF "_places" (.ref pl) []))) = _)
  have g4 := b4 _ _ (ne_of h3 p3 (by intro z; cases z)) h3
  have f4 := b4 _ _ (ne_of f2 h2 (by intro z; cases z)) (s3 _ _ f2)
  generalize upd H3 t (.ins CT dx (putF "_rows" (.ref rw) (putF "_places" (.ref pl) []))) = H4 at *
  refine ⟨_, rfl, t, CT, dx, _, rfl, h4, TTb.cl, TTb.n__possible, (by show 2 < 1000; decide), ?_⟩
  have b : But t H (upd H4 t (.ins CT dx (putF "_possible" (.bl true) (putF "_rows" (.ref rw) (putF "_places" (.ref pl) []))))) := ((((But.of s1).trans b2).trans (But.of s3)).trans b4).trans But.set
  refine q pl rw _ b upd_same (But.set _ _ (ne_of f4 h4 (by intro z; cases z)) f4) (But.set _ _ (ne_of g4 h4 (by intro z; cases z)) g4) n1 ?_
  cases e : H rw with
  | none => rfl
  | some u =>
    by_cases hb : rw = t
    · rw [hb, h2] at n3; cases n3
    · rw [b2 _ _ hb (s1 _ _ e)] at n3; cases n3
def sp_Table_add_point (K : PySem.W.Frag) (CT : Addr) : Sp := fun vs H Q _ => ∃ (t pl rw a : Addr) (T : TbM) (rs : List Addr) (p : Pt), vs = [.ref t, .ref a] ∧ TbAt CT H t T pl rw rs ∧ H a = some (.tup [.int p.d, .int p.n, .int p.c]) ∧ p ∉ T.pts ∧ T.pts.length < 40 ∧ ∀ (x : Addr) (H' : Hp), H x = none → Outs (pl :: rw :: rs) H H' → TbAt CT H' t (addM T p) pl rw (rs ++ [x]) → Q .non H'
theorem ok_Table_add_point {f : Addr} {fd : FuncData} {CT : Addr} (TTb : Ck_Table K mg CT) (D : Mt K CT "add_point" "Table.add_point" s_Table_add_point ["self", "point"] f fd) (T : Txt K mg) : FnOk P w K mg base CX0 1 f fd ["self", "point"] (sp_Table_add_point K CT) := by
  refine D.F.ok sc_Table_add_point (fun vs H Q E h => ?_) (fun cdv A outer s H vs Q E hr h => ?_)
  · obtain ⟨t, pl, rw, a, T, rs, p, rfl, _⟩ := h
    rfl
  obtain ⟨t, pl, rw, a, Tm, rs, p, rfl, hT, ha, np, few, q⟩ := h
  refine ⟨_, (pss_cons (ps_for PassesOwn.never rfl (pi_list (pe_fld (pv 0) rfl)) (pg_name (i := 2) sc_Table_add_point.nd rfl (Or.inl rfl))
      (pss_one (ps_expr (pe_bm PySem.F.plainAttrs_list PySem.F.slot_list_append PySem.F.type_list_append mt_append (pv 2) (pa_cons pe_non pa_nil)))))
    (pss_cons (ps_expr (pe_bm PySem.F.plainAttrs_list PySem.F.slot_list_append PySem.F.type_list_append mt_append (pe_fld (pv 0) rfl) (pa_cons (pe_op op_cat (pe_op op_rep (pe_lst (pa_cons pe_non pa_nil)) (pe_callB call_len_seq rfl T.len PySem.boot_len (pa_cons (pe_fld (pv 0) rfl) pa_nil))) (pe_lst (pa_cons pe_int pa_nil))) pa_nil)))
    (pss_one (ps_dput (hu_of hr) (pe_fld (pv 0) rfl) (pv 1) (pe_callB call_len_dT rfl T.len PySem.boot_len (pa_cons (pe_fld (pv 0) rfl) pa_nil)) rfl)))), ?_⟩
  obtain ⟨dx, hp⟩ := hT.ins
  have rl := hT.rl
  refine ⟨_, rfl, _, _, _, _, _, rfl, hp, TTb.cl, TTb.n__rows, lk_Table__rows, _, rfl, ⟨_, SqL.of hT.hrw⟩, for_list (K := K) (a := rw) (xs := rs.map V.ref) (fun i σ H' => ∃ v2, σ = [some (.ref t), some (.ref a), v2] ∧ Outs rs H H' ∧ Each (fun a r => H' a = some (rowO r)) rs ((Tm.d.take i).map (· ++ [none]) ++ Tm.d.drop i)) ⟨none, rfl, fun _ _ _ h => h, by rw [List.take_zero, List.drop_zero]; exact hT.ro⟩ (fun i σ H' _ ⟨_, _, b, _⟩ => SqL.of (b _ _ hT.nr hT.hrw)) ?_ ?_⟩
  · rintro i x σ H1 hx ⟨v2, rfl, b1, ro1⟩
    rw [List.getElem?_map] at hx
    obtain ⟨r, hr, rfl⟩ : ∃ a, rs[i]? = some a ∧ x = V.ref a := by
      cases h : rs[i]? with
      | none => rw [h] at hx; cases hx
      | some a => rw [h] at hx; exact ⟨a, rfl, (Option.some.inj hx).symm⟩
    have hi : i < Tm.d.length := by
      have := (List.getElem?_eq_some_iff.mp hr).1
      rw [hT.ro.1] at this
      exact this
    have hd : Tm.d[i]? = some (Tm.d.getD i []) := getD_ix hi
    have r0l := hT.ok.rl _ (List.mem_of_getElem? hd)
    rw [mid_set (f := (· ++ [none])) hd]
    have md := mid_get (f := (· ++ [none])) hd
    generalize Tm.d.getD i [] = r0 at *
    generalize (Tm.d.take i).map (· ++ [none]) ++ Tm.d.drop i = D at *
    have hrow := ro1.2 i r r0 hr md
    have e5 : HO.lst (r0.map hiV ++ [V.non]) = rowO (r0 ++ [none]) := by
      unfold rowO
      rw [List.map_append]
      rfl
    refine ⟨_, rfl, .inl ⟨rfl, _, rowAt hrow⟩, _, _, _, rfl, rfl, hrow, by rw [List.length_map, r0l]; exact sizes' (by omega), _, rfl, b1.trans (Outs.but But.set (List.mem_of_getElem? hr)), ?_⟩
    rw [e5]
    exact rows_put ro1 hT.nd hr
  rintro σ H1 ⟨v2, rfl, b1, ro1⟩
  rw [List.length_map, hT.ro.1, List.take_length, List.drop_length, List.append_nil] at ro1
  have hp1 := b1 _ _ hT.tn hp
  have hw1 := b1 _ _ hT.nr hT.hrw
  have hl1 := b1 _ _ hT.pn hT.hpl
  have ha1 := b1 _ _ (fun m => by
    obtain ⟨i, hi⟩ := List.getElem?_of_mem m
    obtain ⟨x, _, y⟩ := hT.ro.get hi
    rw [ha] at y
    cases y) ha
  refine ⟨_, rfl, _, _, _, _, _, rfl, hp1, TTb.cl, TTb.n__rows, lk_Table__rows, .inl ⟨rfl, _, SqL.of hw1⟩, (by show 1 ≤ sizeLine; decide), fun a2 n2 => ?_⟩
  generalize e2 : upd H1 a2 _ = H2
  obtain ⟨s2, h2⟩ := fr e2 n2
  clear e2
  have hw2 := s2 _ _ hw1
  have rlen : (((rs.map V.ref).length : Int)).toNat = Tm.pts.length := by rw [List.length_map, rl]; omega
  refine ⟨_, rfl, _, _, _, _, _, rfl, s2 _ _ hp1, TTb.cl, TTb.n__rows, lk_Table__rows, _, _, rfl, .inl (SqL.of hw2), _, _, _, rfl, rfl, h2, by rw [List.length_map, rl]; omega, by rw [List.length_map, rl]; omega, by rw [rlen]; exact sizes (by show 1 * Tm.pts.length ≤ _; omega), fun a3 n3 => ?_⟩
  rw [rlen]
  generalize e3 : upd H2 a3 _ = H3
  obtain ⟨s3, h3⟩ := fr e3 n3
  clear e3
  refine ⟨(by show 1 ≤ sizeLine; decide), fun a4 n4 => ?_⟩
  generalize e4 : upd H3 a4 _ = H4
  obtain ⟨s4, h4⟩ := fr e4 n4
  clear e4
  refine ⟨_, _, _, _, rfl, rfl, s4 _ _ h3, h4, by rw [rep_len]; exact sizes (by show Tm.pts.length + 1 ≤ _; omega), fun a5 n5 => ?_⟩
  rw [rep_row]
  generalize e5 : upd H4 a5 _ = H5
  obtain ⟨s5, h5⟩ := fr e5 n5
  clear e5
  have s15 := s2.trans (s3.trans (s4.trans s5))
  have s25 := s3.trans (s4.trans s5)
  have hw5 := s15 _ _ hw1
  refine ⟨_, _, _, rfl, rfl, hw5, by rw [List.length_map, rl]; exact sizes' (by omega), ?_⟩
  have ewr : HO.lst (rs.map V.ref ++ [V.ref a5]) = .lst ((rs ++ [a5]).map V.ref) := by rw [List.map_append]; rfl
  rw [ewr]
  obtain ⟨b6, h6⟩ := stt (rfl : upd H5 rw (.lst ((rs ++ [a5]).map V.ref)) = _)
  generalize upd H5 rw (.lst ((rs ++ [a5]).map V.ref)) = H6 at *
  have hp6 := b6 _ _ hT.tw (s15 _ _ hp1)
  have hl6 := b6 _ _ hT.pw (s15 _ _ hl1)
  have ha6 := b6 _ _ (ne_of ha1 hw1 (by intro z; cases z)) (s15 _ _ ha1)
  have na5 : a5 ≠ rw := fun z => by rw [z, s2.trans (s3.trans s4) _ _ hw1] at n5; cases n5
  have h56 := b6 _ _ na5 h5
  refine ⟨_, rfl, _, _, _, _, _, rfl, hp6, TTb.cl, TTb.n__places, lk_Table__places, _, _, rfl, hl6, _, rfl, _, _, _, _, _, rfl, hp6, TTb.cl, TTb.n__places, lk_Table__places, _, rfl, _, _, rfl, .inr ⟨plK Tm.pts, ptK p, a, hl6, rfl, ha6, by rw [plK_len]; exact sizes' (by omega), rfl⟩, ?_⟩
  rw [plK_len, plK_put np]
  obtain ⟨b7, h7⟩ := stt (rfl : upd H6 pl (.dT (plK (Tm.pts ++ [p]))) = _)
  generalize upd H6 pl (.dT (plK (Tm.pts ++ [p]))) = H7 at *
  have n1 : H1 a5 = none := s2.trans (s3.trans s4) |>.free n5
  have mrs : ∀ b ∈ rs, ∃ r, H1 b = some (rowO r) := fun b hb => by
    obtain ⟨i, hi⟩ := List.getElem?_of_mem hb
    obtain ⟨x, _, y⟩ := ro1.get hi
    exact ⟨x, y⟩
  have nrs : a5 ∉ rs := fun m => by
    obtain ⟨r, h⟩ := mrs _ m
    rw [n1] at h
    cases h
  have n0 : H a5 = none := by
    cases h : H a5 with
    | none => rfl
    | some u => rw [b1 _ _ nrs h] at n1; cases n1
  have m0 : ∀ b ∈ rs, b ∈ pl :: rw :: rs := fun b hb => by simp [hb]
  have up : ∀ b u, b ≠ rw → b ≠ pl → H1 b = some u → H7 b = some u := fun b u h1 h2 h => b7 _ _ h2 (b6 _ _ h1 (s15 _ _ h))
  refine q a5 H7 n0 ((((b1.mono m0).trans (Outs.of s15)).trans (Outs.but b6 (by simp))).trans (Outs.but b7 (by simp))) ⟨⟨dx, b7 _ _ hT.tp hp6⟩, h7, b7 _ _ hT.pw.symm h6, ?_, fun m => ?_, ?_, hT.ok.add np few⟩
  · refine Each.snoc ((ro1.imp fun b r hb z => up _ _ (fun e => hT.nr (e ▸ hb)) (fun e => hT.pn (e ▸ hb)) z)) ?_
    have a5p : a5 ≠ pl := fun z => by rw [z, hl1] at n1; cases n1
    exact b7 _ _ a5p h56
  · rcases List.mem_append.mp m with m | m
    · exact hT.nr m
    · exact na5 (List.mem_singleton.mp m).symm
  · rw [List.nodup_append]
    exact ⟨hT.nd, by simp, fun x hx y hy e => nrs (by rw [List.mem_singleton.mp hy] at e; rw [← e]; exact hx)⟩
def sp_is_nearer (K : PySem.W.Frag) : Sp := fun vs H Q _ => ∃ (a : Int) (o : Option Int), vs = [.int a, hiV o] ∧ Q (.bl (nearB a o)) H
theorem ok_is_nearer {f : Addr} {fd : FuncData} (D : Df K mg "is_nearer" s_is_nearer ["amount", "distance"] f fd) (T : Txt K mg) : FnOk P w K mg base CX0 1 f fd ["amount", "distance"] (sp_is_nearer K) := by
  refine D.F.ok sc_is_nearer (fun vs H Q E h => ?_) (fun cdv A outer s H vs Q E hr h => ?_)
  · obtain ⟨a, o, rfl, _⟩ := h
    rfl
  obtain ⟨a, o, rfl, q⟩ := h
  refine ⟨_, (pss_one (ps_ret (pe_or (pe_cmpR op_isN (pv 1) pe_non (nomark _)) (pe_one (pe_cmpR op_lt (pv 0) (pv 1) (nomark _)))))), ?_⟩
  cases o with
  | none => exact ⟨_, rfl, rfl, _, rfl, ite2 (fun _ => q) (fun g => absurd (by rw [decide_eq_true (show hiV none = V.non from rfl)]) g)⟩
  | some b => exact ⟨_, rfl, rfl, _, rfl, ite2 (fun g => absurd g (by rw [decide_eq_false (show ¬ (hiV (some b)) = V.non from by intro z; cases z)]; decide)) (fun _ => ⟨_, rfl, _, rfl, _, _, rfl, rfl, q⟩)⟩
def sp_Table__shorten (K : PySem.W.Frag) (CT : Addr) : Sp := fun vs H Q _ => ∃ (t pl rw : Addr) (T : TbM) (rs : List Addr) (s e : Nat) (w : Int), vs = [.ref t, .int (s : Int), .int (e : Int), .int w] ∧ TbAt CT H t T pl rw rs ∧ s < T.pts.length ∧ e < T.pts.length ∧ ∀ (H' : Hp), Outs rs H H' → TbAt CT H' t ⟨T.pts, shortM T.d s e w, T.ok⟩ pl rw rs → Q .non H'
set_option maxHeartbeats 2000000 in
theorem ok_Table__shorten {f : Addr} {fd : FuncData} {CT : Addr} (TTb : Ck_Table K mg CT) (D : Mt K CT "_shorten" "Table._shorten" s_Table__shorten ["self", "start", "end", "amount"] f fd) (T : Txt K mg) {f_is_nearer : Addr} {fd_is_nearer : FuncData} (D_is_nearer : Df K mg "is_nearer" s_is_nearer ["amount", "distance"] f_is_nearer fd_is_nearer) (G_is_nearer : FnOk P w K mg base CX0 1 f_is_nearer fd_is_nearer ["amount", "distance"] (sp_is_nearer K)) : FnOk P w K mg base CX0 2 f fd ["self", "start", "end", "amount"] (sp_Table__shorten K CT) := by
  refine D.F.ok sc_Table__shorten (fun vs H Q E h => ?_) (fun cdv A outer s H vs Q E hr h => ?_)
  · obtain ⟨t, pl, rw, T, rs, s, e, w, rfl, _⟩ := h
    rfl
  obtain ⟨t, pl, rw, Tm, rs, s_, e, w_, rfl, hT, hs, he, q⟩ := h
  refine ⟨_, (pss_cons (ps_set (i := 4) sc_Table__shorten.nd rfl (Or.inl rfl) (pe_ix ix_list (pe_fld (pv 0) rfl) (pv 1) (fun _ _ => rfl)))
    (pss_cons (ps_set (i := 5) sc_Table__shorten.nd rfl (Or.inl rfl) (pe_lst pa_nil))
    (pss_cons (ps_for PassesOwn.never rfl (pi_enum rfl T.enumerate (pa_cons (pe_ix ix_list (pe_fld (pv 0) rfl) (pv 2) (fun _ _ => rfl)) pa_nil)) (pg_tup rfl (pgs_cons (pg_name (i := 7) sc_Table__shorten.nd rfl (Or.inl rfl)) (pgs_cons (pg_name (i := 8) sc_Table__shorten.nd rfl (Or.inl rfl)) pgs_nil)))
      (pss_one (ps_if (PW.pt (pw_and (pt_cmpR op_notN (pv 8) pe_non (nomark _)) (pw_and1 (pt_val (pe_call G_is_nearer (hr.mono (by decide)) rfl D_is_nearer.m D_is_nearer.F.kp D_is_nearer.b .nil pass0 (pa_cons (pe_op op_add (pv 3) (pv 8)) (pa_cons (pe_ix ix_list (pv 4) (pv 7) (fun _ _ => rfl)) pa_nil)))))))
      (pss_one (ps_expr (pe_bm PySem.F.plainAttrs_list PySem.F.slot_list_append PySem.F.type_list_append mt_append (pv 5) (pa_cons (pe_tup (pa_cons (pv 7) (pa_cons (pe_op op_add (pv 3) (pv 8)) pa_nil))) pa_nil))))
      pss_nil)))
    (pss_one (ps_for PassesOwn.never rfl (pi_list (pe_fld (pv 0) rfl)) (pg_name (i := 6) sc_Table__shorten.nd rfl (Or.inl rfl))
      (pss_cons (ps_set (i := 9) sc_Table__shorten.nd rfl (Or.inl rfl) (pe_ix ix_list (pv 6) (pv 1) (fun _ _ => rfl)))
    (pss_one (ps_if (PW.pt (pw_and (pt_cmpR op_notN (pv 9) pe_non (nomark _)) (pw_and1 (pt_val (pe_call G_is_nearer (hr.mono (by decide)) rfl D_is_nearer.m D_is_nearer.F.kp D_is_nearer.b .nil pass0 (pa_cons (pe_op op_add (pv 9) (pv 3)) (pa_cons (pe_ix ix_list (pv 6) (pv 2) (fun _ _ => rfl)) pa_nil)))))))
      (pss_one (ps_for PassesOwn.never rfl (pi_list (pv 5)) (pg_tup rfl (pgs_cons (pg_name (i := 7) sc_Table__shorten.nd rfl (Or.inl rfl)) (pgs_cons (pg_name (i := 8) sc_Table__shorten.nd rfl (Or.inl rfl)) pgs_nil)))
      (pss_one (ps_if (PW.pt (pw_or (pt_cmpR op_isN (pe_ix ix_list (pv 6) (pv 7) (fun _ _ => rfl)) pe_non (nomark _)) (pw_or1 (pt_cmpR op_lt (pe_op op_add (pv 9) (pv 8)) (pe_ix ix_list (pv 6) (pv 7) (fun _ _ => rfl)) (nomark _)))))
      (pss_one (ps_asg (pe_op op_add (pv 9) (pv 8)) (pg_sub (pv 6) (pv 7) set_list)))
      pss_nil))))
      pss_nil)))))))), ?_⟩
  obtain ⟨dx, hp⟩ := hT.ins
  obtain ⟨ra, a1, a2, a3⟩ := hT.row hs
  obtain ⟨re, e1, e2, e3⟩ := hT.row he
  have few := hT.ok.few
  refine ⟨_, rfl, _, _, _, _, _, rfl, hp, TTb.cl, TTb.n__rows, lk_Table__rows, _, rfl, _, _, _, _, rfl, rfl, SqL.of hT.hrw, at_of (j := s_) rfl (by rw [List.getElem?_map, a1]; rfl), ?_⟩
  refine ⟨(by show 0 ≤ sizeLine; decide), fun o no => ?_⟩
  obtain ⟨s1, h1⟩ := fr (rfl : upd H o (.lst []) = _) no
  generalize upd H o (.lst []) = H1 at *
  have hT1 := hT.keep s1
  have ofree := hT.free no
  have ne_re : re ≠ o := fun z => ofree (by rw [← z]; simp [List.mem_of_getElem? e1])
  have ne_ra : ra ≠ o := fun z => ofree (by rw [← z]; simp [List.mem_of_getElem? a1])
  refine ⟨_, rfl, _, _, _, _, _, rfl, s1 _ _ hp, TTb.cl, TTb.n__rows, lk_Table__rows, _, rfl, _, _, _, _, rfl, rfl, SqL.of hT1.hrw, at_of (j := e) rfl (by rw [List.getElem?_map, e1]; rfl), _, _, rfl, SqL.of (s1 _ _ e2), for_it (walk_enum (K := K) (a := re) (xs := (Tm.d.getD e []).map hiV)) (fun i σ H' => ∃ v7 v8, σ = [some (.ref t), some (.int (s_ : Int)), some (.int (e : Int)), some (.int w_), some (.ref ra), some (.ref o), none, v7, v8, none] ∧ But o H1 H' ∧ LsI K H' o ((onwN (Tm.d.getD e []) (Tm.d.getD s_ []) w_ i).map onP)) ⟨none, none, rfl, But.refl _ _, _, h1, ImL.nil_⟩ (fun i σ H' _ ⟨_, _, _, b, _⟩ => SqL.of (b _ _ ne_re (s1 _ _ e2))) ?_ ?_⟩
  · rintro i x σ H2 H3 hi ⟨v7, v8, rfl, b2, l2⟩ ⟨Tt, x1, x2, rfl, nT, rfl, hx1, hx2⟩
    cases hx1
    rw [List.length_map] at hi
    have hx2 : ((Tm.d.getD e []).map hiV)[i]? = some x2 := hx2
    rw [List.getElem?_map, getD_ix (d := none) hi] at hx2
    cases hx2
    obtain ⟨sT, hTt⟩ := fr (rfl : upd H2 Tt (.tup [.int (i : Nat), hiV ((Tm.d.getD e []).getD i none)]) = _) nT
    generalize upd H2 Tt (.tup [.int (i : Nat), hiV ((Tm.d.getD e []).getD i none)]) = H3 at *
    have b3 := b2.trans (But.of sT)
    have l3 := l2.keep sT
    refine ⟨Tt, _, rfl, SqT.of hTt, rfl, _, _, rfl, _, _, rfl, rfl, _, rfl, rfl, _, rfl, ?_⟩
    rw [onwN_succ]
    generalize hr0 : (Tm.d.getD e []).getD i none = oi at *
    cases oi with
    | none =>
      rw [onw1_of_none hr0]
      refine ite2 (fun g => absurd g (by rw [decide_eq_true (show hiV none = V.non from rfl)]; decide)) (fun _ => iteF ⟨_, _, rfl, b3, ?_⟩)
      show LsI K H3 o ((onwN _ _ _ i ++ []).map onP)
      rw [List.append_nil]
      exact l3
    | some r =>
      rw [onw1_of_some hr0]
      refine ite2 (fun _ => ?_) (fun g => absurd (by rw [decide_eq_false (show ¬ (hiV (some r)) = V.non from by intro z; cases z)]; rfl) g)
      refine ⟨_, rfl, _, rfl, _, _, rfl, rfl, _, rfl, _, rfl, _, _, _, _, rfl, rfl, rowAt (b3 _ _ ne_ra (s1 _ _ a2)), row_at (by rw [a3, ← e3]; exact hi), w_ + r, _, rfl, _, rfl, ?_⟩
      dsimp only
      refine ite2 (fun g => ?_) (fun g => ?_)
      · rw [if_pos g]
        obtain ⟨vs, hvs, _⟩ := id l3
        refine ⟨_, rfl, .inl ⟨rfl, _, SqL.of hvs⟩, _, rfl, _, rfl, _, rfl, _, _, rfl, rfl, (by show 2 ≤ sizeLine; decide), fun c nc => ?_⟩
        obtain ⟨s4, h4⟩ := fr (rfl : upd H3 c (.tup [.int (i : Int), .int (w_ + r)]) = _) nc
        generalize upd H3 c (.tup [.int (i : Int), .int (w_ + r)]) = H4 at *
        obtain ⟨ws, gw, lw, l5⟩ := (l3.keep s4).snoc (onI (x := (i, w_ + r)) (SqT.of h4))
        have hlen := onwN_len (Tm.d.getD e []) (Tm.d.getD s_ []) w_ i
        refine ⟨_, _, _, rfl, rfl, gw, by rw [lw, List.length_map]; exact sizes' (by omega), _, _, rfl, b3.trans ((But.of s4).trans But.set), ?_⟩
        rw [List.map_append]
        exact l5
      · rw [if_neg g]
        refine ⟨_, _, rfl, b3, ?_⟩
        show LsI K H3 o ((onwN _ _ _ i ++ []).map onP)
        rw [List.append_nil]
        exact l3
  rintro σ H2 ⟨v7, v8, rfl, b2, l2⟩
  rw [List.length_map] at l2
  have sm2 : Same H H2 := fun c u h => b2 _ _ (ne_of_none h no) (s1 _ _ h)
  have hT2 := hT.keep sm2
  have rwo : rw ≠ o := fun z => ofree (by rw [← z]; simp)
  generalize hon : onwN (Tm.d.getD e []) (Tm.d.getD s_ []) w_ (Tm.d.getD e []).length = on at *
  have onlt : ∀ x ∈ on, x.1 < Tm.pts.length := fun x hx => by rw [← hon] at hx; have := onwN_lt _ _ _ _ x hx; omega
  obtain ⟨ov, hov, hoi⟩ := id l2
  have nrs : o ∉ rs := fun m => ofree (by simp [m])
  refine ⟨_, rfl, _, _, _, _, _, rfl, sm2 _ _ hp, TTb.cl, TTb.n__rows, lk_Table__rows, _, rfl, ⟨_, SqL.of hT2.hrw⟩, for_list (K := K) (a := rw) (xs := rs.map V.ref) (fun i σ H' => ∃ v6 v7 v8 v9, σ = [some (.ref t), some (.int (s_ : Int)), some (.int (e : Int)), some (.int w_), some (.ref ra), some (.ref o), v6, v7, v8, v9] ∧ Outs rs H2 H' ∧ TupK H2 H' ∧ Each (fun a r => H' a = some (rowO r)) rs ((Tm.d.take i).map (rowM s_ e w_ on) ++ Tm.d.drop i)) ⟨none, v7, v8, none, rfl, fun _ _ _ h => h, TupK.refl _, by rw [List.take_zero, List.drop_zero]; exact hT2.ro⟩ (fun i σ H' _ ⟨_, _, _, _, _, b, _⟩ => SqL.of (b _ _ hT.nr hT2.hrw)) ?_ ?_⟩
  · rintro i x σ H3 hx ⟨v6, v7, v8, v9, rfl, b3, k3, ro3⟩
    rw [List.getElem?_map] at hx
    obtain ⟨a, ha, rfl⟩ : ∃ a, rs[i]? = some a ∧ x = V.ref a := by
      cases h : rs[i]? with
      | none => rw [h] at hx; cases hx
      | some a => rw [h] at hx; exact ⟨a, rfl, (Option.some.inj hx).symm⟩
    have hi : i < Tm.d.length := by
      have := (List.getElem?_eq_some_iff.mp ha).1
      rw [hT.ro.1] at this
      exact this
    have hr : Tm.d[i]? = some (Tm.d.getD i []) := getD_ix hi
    have r0l := hT.ok.rl _ (List.mem_of_getElem? hr)
    rw [mid_set hr]
    have md := mid_get (f := rowM s_ e w_ on) hr
    generalize Tm.d.getD i [] = r0 at *
    generalize (Tm.d.take i).map (rowM s_ e w_ on) ++ Tm.d.drop i = D at *
    have hrow := ro3.2 i a r0 ha md
    refine ⟨_, rfl, _, rfl, _, _, _, _, rfl, rfl, rowAt hrow, row_at (by rw [r0l]; exact hs), _, rfl, rfl, _, rfl, ?_⟩
    generalize hah : r0.getD s_ none = oa at *
    cases oa with
    | none =>
      refine ite2 (fun g => absurd g (by rw [decide_eq_true (show hiV none = V.non from rfl)]; decide)) (fun _ => iteF ⟨_, _, _, _, rfl, b3, k3, ?_⟩)
      rw [rowM_none hah, set_self md]
      exact ro3
    | some ah =>
      refine ite2 (fun _ => ?_) (fun g => absurd (by rw [decide_eq_false (show ¬ (hiV (some ah)) = V.non from by intro z; cases z)]; rfl) g)
      rw [rowM_some hah]
      refine ⟨_, rfl, _, rfl, _, _, rfl, rfl, _, rfl, _, rfl, _, _, _, _, rfl, rfl, rowAt hrow, row_at (by rw [r0l]; exact he), ah + w_, _, rfl, _, rfl, ite2 (fun g => ?_) (fun g => ?_)⟩
      · rw [if_pos g]
        refine ⟨_, rfl, o, rfl, ⟨_, SqL.of (b3 _ _ nrs hov)⟩, for_list (K := K) (a := o) (xs := ov) (fun j σ H' => ∃ v7 v8, σ = [some (.ref t), some (.int (s_ : Int)), some (.int (e : Int)), some (.int w_), some (.ref ra), some (.ref o), some (.ref a), v7, v8, some (.int ah)] ∧ Outs rs H2 H' ∧ TupK H2 H' ∧ Each (fun a r => H' a = some (rowO r)) rs (D.set i ((on.take j).foldl (rowM1 ah) r0))) ⟨v7, v8, rfl, b3, k3, by rw [List.take_zero]; show Each _ rs (D.set i r0); rw [set_self md]; exact ro3⟩ (fun j σ H' _ ⟨_, _, _, b, _⟩ => SqL.of (b _ _ nrs hov)) ?_ ?_⟩
        · rintro j x σ H4 hx ⟨v7, v8, rfl, b4, k4, ro4⟩
          obtain ⟨d, hd, him⟩ := hoi.get' hx
          obtain ⟨y, hy, rfl⟩ := map_get hd
          obtain ⟨at_, rfl, hat⟩ := Im.unon (Im.mono k4 _ him)
          have ylt := onlt y (List.mem_of_getElem? hy)
          have hD : i < D.length := (List.getElem?_eq_some_iff.mp md).1
          have hcur := ro4.2 i a _ ha (List.getElem?_set_self hD)
          have curl : ((on.take j).foldl (rowM1 ah) r0).length = Tm.pts.length := by rw [fold1_len]; exact r0l
          have nxt : (on.take (j + 1)).foldl (rowM1 ah) r0 = rowM1 ah ((on.take j).foldl (rowM1 ah) r0) y := by
            rw [List.take_add_one, hy, List.foldl_append]
            rfl
          rw [nxt]
          generalize (on.take j).foldl (rowM1 ah) r0 = cur at *
          refine ⟨_, _, rfl, hat, rfl, _, _, rfl, _, _, rfl, rfl, _, rfl, _, rfl, _, _, _, _, rfl, rfl, rowAt hcur, row_at (by rw [curl]; exact ylt), rfl, _, rfl, ?_⟩
          have put : nearB (ah + y.2) (cur.getD y.1 none) = true → ∀ H5, H5 = upd H4 a (.lst ((cur.map hiV).set y.1 (.int (ah + y.2)))) → Outs rs H2 H5 ∧ TupK H2 H5 ∧ Each (fun a r => H5 a = some (rowO r)) rs (D.set i (rowM1 ah cur y)) := by
            rintro g2 H5 rfl
            have e5 : HO.lst ((cur.map hiV).set y.1 (.int (ah + y.2))) = rowO (rowM1 ah cur y) := by
              unfold rowM1 rowO
              rw [if_pos g2, List.map_set]
              rfl
            have ro5 := rows_put (r := rowM1 ah cur y) ro4 hT.nd ha
            rw [List.set_set] at ro5
            rw [e5]
            exact ⟨b4.trans (Outs.but But.set (List.mem_of_getElem? ha)), k4.trans (TupK.set hcur), ro5⟩
          have skip : ¬ nearB (ah + y.2) (cur.getD y.1 none) = true → Each (fun a r => H4 a = some (rowO r)) rs (D.set i (rowM1 ah cur y)) := by
            intro g2
            have : rowM1 ah cur y = cur := by
              unfold rowM1
              rw [if_neg g2]
            rw [this]
            exact ro4
          generalize hcv : cur.getD y.1 none = ov1 at *
          cases ov1 with
          | none =>
            refine ite2 (fun _ => iteT ?_) (fun g => absurd (by rw [decide_eq_true (show hiV none = V.non from rfl)]) g)
            obtain ⟨p1, p2, p3⟩ := put rfl _ rfl
            exact ⟨_, rfl, _, rfl, _, _, rfl, rfl, _, rfl, _, rfl, _, _, _, y.1, rfl, rfl, hcur, ixn (by rw [List.length_map, curl]; exact ylt), _, _, rfl, p1, p2, p3⟩
          | some b =>
            refine ite2 (fun g => absurd g (by rw [decide_eq_false (show ¬ (hiV (some b)) = V.non from by intro z; cases z)]; decide)) (fun _ => ?_)
            refine ⟨_, rfl, _, rfl, _, _, rfl, rfl, _, rfl, _, rfl, _, _, _, _, rfl, rfl, rowAt hcur, (row_at (by rw [curl]; exact ylt)).trans (by rw [hcv]; rfl), _, _, rfl, rfl, _, rfl, ite2 (fun g2 => ?_) (fun g2 => ?_)⟩
            · obtain ⟨p1, p2, p3⟩ := put g2 _ rfl
              exact ⟨_, rfl, _, rfl, _, _, rfl, rfl, _, rfl, _, rfl, _, _, _, y.1, rfl, rfl, hcur, ixn (by rw [List.length_map, curl]; exact ylt), _, _, rfl, p1, p2, p3⟩
            · exact ⟨_, _, rfl, b4, k4, skip g2⟩
        · rintro σ H4 ⟨v7, v8, rfl, b4, k4, ro4⟩
          have ll := hoi.len
          rw [List.length_map] at ll
          rw [ll, List.take_length] at ro4
          exact ⟨_, _, _, _, rfl, b4, k4, ro4⟩
      · rw [if_neg g]
        refine ⟨_, _, _, _, rfl, b3, k3, ?_⟩
        rw [set_self md]
        exact ro3
  rintro σ H3 ⟨v6, v7, v8, v9, rfl, b3, k3, ro3⟩
  rw [List.length_map, hT.ro.1, List.take_length, List.drop_length, List.append_nil] at ro3
  have e3 : Tm.d.map (rowM s_ e w_ on) = shortM Tm.d s_ e w_ := by
    unfold shortM
    rw [hon]
  rw [e3] at ro3
  exact q H3 ((Outs.of sm2).trans b3) (hT2.rows b3 ro3 (hT.ok.short _ _ _))
def sp_Table_put_bound (K : PySem.W.Frag) (CT : Addr) : Sp := fun vs H Q _ => ∃ (t pl rw a b : Addr) (T : TbM) (rs : List Addr) (p q : Pt) (w : Int), vs = [.ref t, .ref a, .ref b, .int w] ∧ TbAt CT H t T pl rw rs ∧ SqT K H a [.int p.d, .int p.n, .int p.c] ∧ SqT K H b [.int q.d, .int q.n, .int q.c] ∧ p ∈ T.pts ∧ q ∈ T.pts ∧ ∀ (H' : Hp), Outs (t :: rs) H H' → TbAt CT H' t (putM T (T.pts.idxOf p) (T.pts.idxOf q) w) pl rw rs → Q (.bl (putM T (T.pts.idxOf p) (T.pts.idxOf q) w).ok) H'
theorem ok_Table_put_bound {f : Addr} {fd : FuncData} {CT : Addr} (TTb : Ck_Table K mg CT) (D : Mt K CT "put_bound" "Table.put_bound" s_Table_put_bound ["self", "first", "second", "amount"] f fd) (T : Txt K mg) {f_is_nearer : Addr} {fd_is_nearer : FuncData} (D_is_nearer : Df K mg "is_nearer" s_is_nearer ["amount", "distance"] f_is_nearer fd_is_nearer) (G_is_nearer : FnOk P w K mg base CX0 1 f_is_nearer fd_is_nearer ["amount", "distance"] (sp_is_nearer K)) {f_Table__shorten : Addr} {fd_Table__shorten : FuncData} (M_Table__shorten : Mt K CT "_shorten" "Table._shorten" s_Table__shorten ["self", "start", "end", "amount"] f_Table__shorten fd_Table__shorten) (G_Table__shorten : FnOk P w K mg base CX0 2 f_Table__shorten fd_Table__shorten ["self", "start", "end", "amount"] (sp_Table__shorten K CT)) : FnOk P w K mg base CX0 3 f fd ["self", "first", "second", "amount"] (sp_Table_put_bound K CT) := by
  refine D.F.ok sc_Table_put_bound (fun vs H Q E h => ?_) (fun cdv A outer s H vs Q E hr h => ?_)
  · obtain ⟨t, pl, rw, a, b, T, rs, p, q, w, rfl, _⟩ := h
    rfl
  obtain ⟨t, pl, rw, a, b, Tm, rs, p, q_, w_, rfl, hT, ha, hb, mp, mq, q⟩ := h
  refine ⟨_, (pss_cons (ps_set (i := 4) sc_Table_put_bound.nd rfl (Or.inl rfl) (pe_dgetR K rfl (hu_of hr) (pe_fld (pv 0) rfl) (pv 1) (fun _ _ => rfl)))
    (pss_cons (ps_set (i := 5) sc_Table_put_bound.nd rfl (Or.inl rfl) (pe_dgetR K rfl (hu_of hr) (pe_fld (pv 0) rfl) (pv 2) (fun _ _ => rfl)))
    (pss_cons (ps_set (i := 6) sc_Table_put_bound.nd rfl (Or.inl rfl) (pe_ix ix_list (pe_ix ix_list (pe_fld (pv 0) rfl) (pv 5) (fun _ _ => rfl)) (pv 4) (fun _ _ => rfl)))
    (C8.pss_cut (ps_if (PW.pt (pw_and (pt_cmpR op_notN (pv 6) pe_non (nomark _)) (pw_and1 (pt_cmpR op_lt (pe_op op_add (pv 6) (pv 3)) pe_int (nomark _)))))
      (pss_one (ps_fld (pv 0) pe_bl rfl))
      (pss_one (ps_if (pt_val (pe_call G_is_nearer (hr.mono (by decide)) rfl D_is_nearer.m D_is_nearer.F.kp D_is_nearer.b .nil pass0 (pa_cons (pv 3) (pa_cons (pe_ix ix_list (pe_ix ix_list (pe_fld (pv 0) rfl) (pv 4) (fun _ _ => rfl)) (pv 5) (fun _ _ => rfl)) pa_nil))))
      (pss_one (ps_expr (pe_meth (pv 0) TTb.cl M_Table__shorten.m G_Table__shorten (hr.mono (by decide)) M_Table__shorten.b .nil pass0 (pa_cons (pv 4) (pa_cons (pv 5) (pa_cons (pv 3) pa_nil))))))
      pss_nil)))
    (pss_one (ps_ret (pe_fld (pv 0) rfl))))))), ?_⟩
  obtain ⟨dx, hp⟩ := hT.ins
  have ip := idx_get mp
  have iq := idx_get mq
  have lp := List.idxOf_lt_length_iff.mpr mp
  have lq := List.idxOf_lt_length_iff.mpr mq
  have vp := plK_val hT.ok.nd ip
  have vq := plK_val hT.ok.nd iq
  generalize Tm.pts.idxOf p = s_ at *
  generalize Tm.pts.idxOf q_ = e at *
  obtain ⟨ra, a1, a2, a3⟩ := hT.row lp
  obtain ⟨re, e1, e2, e3⟩ := hT.row lq
  refine ⟨_, rfl, _, _, _, _, _, rfl, hp, TTb.cl, TTb.n__places, lk_Table__places, _, rfl, _, _, ptK p, _, _, rfl, hT.hpl, rfl, ha, vp, ?_⟩
  refine ⟨_, rfl, _, _, _, _, _, rfl, hp, TTb.cl, TTb.n__places, lk_Table__places, _, rfl, _, _, ptK q_, _, _, rfl, hT.hpl, rfl, hb, vq, ?_⟩
  refine ⟨_, rfl, _, _, _, _, _, rfl, hp, TTb.cl, TTb.n__rows, lk_Table__rows, _, rfl, _, _, _, _, rfl, rfl, SqL.of hT.hrw, at_of (j := e) rfl (by rw [List.getElem?_map, e1]; rfl), _, rfl, _, _, _, _, rfl, rfl, rowAt e2, row_at (by rw [e3]; exact lp), ?_⟩
  refine ⟨fun σ H' => σ = [some (.ref t), some (.ref a), some (.ref b), some (.int w_), some (.int (s_ : Int)), some (.int (e : Int)), some (hiV (cellM Tm.d e s_))] ∧ Outs (t :: rs) H H' ∧ TbAt CT H' t (putM Tm s_ e w_) pl rw rs, ?_, ?_⟩
  · have no : putM Tm s_ e w_ = if negB (cellM Tm.d e s_) w_ = true then ⟨Tm.pts, Tm.d, false⟩ else if nearB w_ (cellM Tm.d s_ e) = true then ⟨Tm.pts, shortM Tm.d s_ e w_, Tm.ok⟩ else Tm := rfl
    rw [no]
    refine ⟨_, rfl, rfl, _, rfl, ?_⟩
    have hc : (Tm.d.getD e []).getD s_ none = cellM Tm.d e s_ := rfl
    rw [hc]
    cases hcell : cellM Tm.d e s_ with
    | none =>
      refine ite2 (fun g => absurd g (by rw [decide_eq_true (show hiV none = V.non from rfl)]; decide)) (fun _ => iteF ?_)
      rw [if_neg (show ¬ negB none w_ = true from by intro z; cases z)]
      have hc2 : (Tm.d.getD s_ []).getD e none = cellM Tm.d s_ e := rfl
      refine ⟨_, rfl, _, rfl, _, _, _, _, _, rfl, hp, TTb.cl, TTb.n__rows, lk_Table__rows, _, rfl, _, _, _, _, rfl, rfl, SqL.of hT.hrw, at_of (j := s_) rfl (by rw [List.getElem?_map, a1]; rfl), _, rfl, _, _, _, _, rfl, rfl, rowAt a2, row_at (by rw [a3]; exact lq), w_, _, rfl, _, rfl, ?_⟩
      rw [hc2]
      refine ite2 (fun g3 => ?_) (fun g3 => ?_)
      · rw [if_pos g3]
        exact ⟨_, rfl, t, dx, _, rfl, hp, no_Table, _, rfl, _, rfl, _, rfl, t, pl, rw, Tm, rs, s_, e, w_, rfl, hT, lp, lq, fun H' o1 hT1 => ⟨rfl, o1.mono (fun b hb => List.mem_cons_of_mem _ hb), hT1⟩⟩
      · rw [if_neg g3]
        exact ⟨rfl, Outs.of (fun _ _ h => h), hT⟩
    | some b0 =>
      refine ite2 (fun _ => ?_) (fun g => absurd (by rw [decide_eq_false (show ¬ (hiV (some b0)) = V.non from by intro z; cases z)]; rfl) g)
      refine ⟨_, rfl, _, rfl, _, _, rfl, rfl, _, _, rfl, rfl, _, rfl, ite2 (fun g => ?_) (fun g => ?_)⟩
      · rw [if_pos (show negB (some b0) w_ = true from g)]
        refine ⟨_, rfl, t, CT, dx, _, rfl, hp, TTb.cl, TTb.n__possible, len_Table, ?_⟩
        rw [put_possible]
        exact ⟨rfl, Outs.but But.set (by simp), hT.flag But.set upd_same⟩
      · rw [if_neg (show ¬ negB (some b0) w_ = true from g)]
        have hc2 : (Tm.d.getD s_ []).getD e none = cellM Tm.d s_ e := rfl
        refine ⟨_, rfl, _, rfl, _, _, _, _, _, rfl, hp, TTb.cl, TTb.n__rows, lk_Table__rows, _, rfl, _, _, _, _, rfl, rfl, SqL.of hT.hrw, at_of (j := s_) rfl (by rw [List.getElem?_map, a1]; rfl), _, rfl, _, _, _, _, rfl, rfl, rowAt a2, row_at (by rw [a3]; exact lq), w_, _, rfl, _, rfl, ?_⟩
        rw [hc2]
        refine ite2 (fun g3 => ?_) (fun g3 => ?_)
        · rw [if_pos g3]
          exact ⟨_, rfl, t, dx, _, rfl, hp, no_Table, _, rfl, _, rfl, _, rfl, t, pl, rw, Tm, rs, s_, e, w_, rfl, hT, lp, lq, fun H' o1 hT1 => ⟨rfl, o1.mono (fun b hb => List.mem_cons_of_mem _ hb), hT1⟩⟩
        · rw [if_neg g3]
          exact ⟨rfl, Outs.of (fun _ _ h => h), hT⟩
  rintro σ H' ⟨rfl, o1, hT2⟩
  obtain ⟨dx2, hp2⟩ := hT2.ins
  exact ⟨_, rfl, _, _, _, _, _, rfl, hp2, TTb.cl, TTb.n__possible, lk_Table__possible, q H' o1 hT2⟩
def sp_table_of (K : PySem.W.Frag) (CT : Addr) : Sp := fun vs H Q _ => ∃ (b a : Addr) (es cs : List Addr) (bds : List Bd) (ps : List Pt), vs = [.ref b, .ref a] ∧ BnL H b es bds ∧ PtL H a cs ps ∧ (namesM ps bds).length ≤ 39 ∧ ps.length + 2 * bds.length ≤ 1000 ∧ ∀ (t pl rw : Addr) (rs : List Addr) (H' : Hp), Same H H' → (∀ x ∈ t :: pl :: rw :: rs, H x = none) → TbAt CT H' t (runB ((namesM ps bds).foldl addM ⟨[], [], true⟩) bds) pl rw rs → Q (.ref t) H'
set_option maxHeartbeats 2000000 in
theorem ok_table_of {f : Addr} {fd : FuncData} {CT : Addr} (TTb : Ck_Table K mg CT) {f_Table___init__ : Addr} (MTb : Mk K CT f_Table___init__) (D : Df K mg "table_of" s_table_of ["bounds", "points"] f fd) (T : Txt K mg) {f_points_named : Addr} {fd_points_named : FuncData} (D_points_named : Df K mg "points_named" s_points_named ["bounds", "points"] f_points_named fd_points_named) (G_points_named : FnOk P w K mg base CX0 1 f_points_named fd_points_named ["bounds", "points"] (sp_points_named K)) {fd_Table___init__ : FuncData} (M_Table___init__ : Mt K CT "__init__" "Table.__init__" s_Table___init__ ["self"] f_Table___init__ fd_Table___init__) (G_Table___init__ : FnOk P w K mg base CX0 1 f_Table___init__ fd_Table___init__ ["self"] (sp_Table___init__ K CT)) {f_Table_add_point : Addr} {fd_Table_add_point : FuncData} (M_Table_add_point : Mt K CT "add_point" "Table.add_point" s_Table_add_point ["self", "point"] f_Table_add_point fd_Table_add_point) (G_Table_add_point : FnOk P w K mg base CX0 1 f_Table_add_point fd_Table_add_point ["self", "point"] (sp_Table_add_point K CT)) {f_Table_put_bound : Addr} {fd_Table_put_bound : FuncData} (M_Table_put_bound : Mt K CT "put_bound" "Table.put_bound" s_Table_put_bound ["self", "first", "second", "amount"] f_Table_put_bound fd_Table_put_bound) (G_Table_put_bound : FnOk P w K mg base CX0 3 f_Table_put_bound fd_Table_put_bound ["self", "first", "second", "amount"] (sp_Table_put_bound K CT)) : FnOk P w K mg base CX0 4 f fd ["bounds", "points"] (sp_table_of K CT) := by
  refine D.F.ok sc_table_of (fun vs H Q E h => ?_) (fun cdv A outer s H vs Q E hr h => ?_)
  · obtain ⟨b, a, es, cs, bds, ps, rfl, _⟩ := h
    rfl
  obtain ⟨b, a, es, cs, bds, ps, rfl, hB, hP, nlen, few, q⟩ := h
  refine ⟨_, (pss_cons (ps_set (i := 2) sc_table_of.nd rfl (Or.inl rfl) (pe_make0 MTb G_Table___init__ (hr.mono (by decide)) rfl TTb.mg M_Table___init__.b .nil pass0))
    (pss_cons (ps_for PassesOwn.never rfl (pi_list (pe_call G_points_named (hr.mono (by decide)) rfl D_points_named.m D_points_named.F.kp D_points_named.b .nil pass0 (pa_cons (pv 0) (pa_cons (pv 1) pa_nil)))) (pg_name (i := 3) sc_table_of.nd rfl (Or.inl rfl))
      (pss_one (ps_expr (pe_meth (pv 2) TTb.cl M_Table_add_point.m G_Table_add_point (hr.mono (by decide)) M_Table_add_point.b .nil pass0 (pa_cons (pv 3) pa_nil)))))
    (pss_cons (ps_for PassesOwn.never rfl (pi_list (pv 0)) (pg_tup rfl (pgs_cons (pg_name (i := 4) sc_table_of.nd rfl (Or.inl rfl)) (pgs_cons (pg_name (i := 5) sc_table_of.nd rfl (Or.inl rfl)) (pgs_cons (pg_name (i := 6) sc_table_of.nd rfl (Or.inl rfl)) (pgs_cons (pg_name (i := 7) sc_table_of.nd rfl (Or.inl rfl)) pgs_nil)))))
      (pss_one (ps_if (pt_not (pt_truth (pe_meth (pv 2) TTb.cl M_Table_put_bound.m G_Table_put_bound (hr.mono (by decide)) M_Table_put_bound.b .nil pass0 (pa_cons (pv 4) (pa_cons (pv 5) (pa_cons (pv 6) pa_nil)))) (by intro _; rfl)))
      (pss_one ps_break)
      pss_nil)))
    (pss_one (ps_ret (pv 2)))))), ?_⟩
  refine fun x dx nx ndx nex => ⟨x, dx, rfl, upd_same, fun pl rw H2 b2 h2 h3 h4 n3 n4 => ⟨rfl, ?_⟩⟩
  have s2 : Same H H2 := fun c u hc => b2 _ _ (ne_of_none hc nx) (mk_sameT (C := CT) nx ndx _ _ hc)
  have nn : ∀ {y}, upd (upd H dx (.own x)) x (.ins CT dx []) y = none → H y = none := fun {y} h => by
    cases e : H y with
    | none => rfl
    | some u => rw [mk_sameT (C := CT) nx ndx _ _ e] at h; cases h
  have t2 : TbAt CT H2 x ⟨[], [], true⟩ pl rw [] := ⟨⟨dx, h2⟩, h3, h4, Each.nil, by simp, List.nodup_nil, ⟨List.nodup_nil, by decide, rfl, fun r h => by cases h⟩⟩
  have fr0 : ∀ y ∈ [x, pl, rw], H y = none := fun y hy => by
    simp only [List.mem_cons, List.not_mem_nil, or_false] at hy
    rcases hy with e | e | e
    · rw [e]; exact nx
    · rw [e]; exact nn n3
    · rw [e]; exact nn n4
  clear h2 h3 h4 n3 n4 b2 nex nn
  have nnd := names_nd ps bds
  have bmem := fun (z : Bd) (m : z ∈ bds) => foldB_mem bds (ps.foldl insP []) m
  refine ⟨_, rfl, _, rfl, b, a, es, cs, bds, ps, rfl, hB.keep s2, hP.keep s2, by omega, fun l bs H3 s3 nl P3 => ?_⟩
  have bmem : ∀ z ∈ bds, z.one ∈ namesM ps bds ∧ z.two ∈ namesM ps bds := bmem
  generalize namesM ps bds = ns at *
  have t3 := t2.keep s3
  have s03 := s2.trans s3
  have nlp : l ∉ [x, pl, rw] := t2.free nl
  have blen : bs.length = ns.length := P3.e.1
  refine ⟨_, rfl, ⟨_, SqL.of P3.l⟩, for_list (K := K) (a := l) (xs := bs.map V.ref) (fun i σ H' => ∃ v3 rs, σ = [some (.ref b), some (.ref a), some (.ref x), v3, none, none, none, none] ∧ Same H H' ∧ TbAt CT H' x ((ns.take i).foldl addM ⟨[], [], true⟩) pl rw rs ∧ (∀ y ∈ x :: pl :: rw :: rs, H y = none) ∧ l ∉ x :: pl :: rw :: rs ∧ PtL H' l bs ns) ⟨none, [], rfl, s03, t3, fr0, nlp, P3⟩ (fun i σ H' _ ⟨_, _, _, _, _, _, _, z⟩ => SqL.of z.l) ?_ ?_⟩
  · rintro i v σ H4 hv ⟨v3, rs, rfl, s4, t4, fr4, nl4, P4⟩
    obtain ⟨c, hc, rfl⟩ := ref_of hv
    obtain ⟨p, hpp, hq⟩ := P4.e.get hc
    have hi : i < ns.length := (List.getElem?_eq_some_iff.mp hpp).1
    obtain ⟨dx4, hx4⟩ := t4.ins
    have pts4 := addAll_pts (ns.take i) ⟨[], [], true⟩
    have pts4 : ((ns.take i).foldl addM ⟨[], [], true⟩).pts = ns.take i := pts4
    have st : (ns.take (i + 1)).foldl addM ⟨[], [], true⟩ = addM ((ns.take i).foldl addM ⟨[], [], true⟩) p := by
      rw [List.take_add_one, hpp, List.foldl_append]
      rfl
    rw [st]
    generalize (ns.take i).foldl addM ⟨[], [], true⟩ = Tm at *
    have np : p ∉ Tm.pts := fun m => by
      rw [pts4] at m
      obtain ⟨k, hk⟩ := List.getElem?_of_mem m
      have hk2 := (List.getElem?_eq_some_iff.mp hk).1
      rw [List.length_take] at hk2
      rw [List.getElem?_take_of_lt (by omega)] at hk
      have := nd_ix nnd hk hpp
      omega
    refine ⟨_, rfl, _, _, _, rfl, hx4, no_Table, _, rfl, x, pl, rw, c, Tm, rs, p, rfl, t4, hq, np, by rw [pts4, List.length_take]; omega, fun y H5 ny o5 t5 => ?_⟩
    have sub : ∀ z ∈ pl :: rw :: rs, z ∈ x :: pl :: rw :: rs := fun z hz => List.mem_cons_of_mem _ hz
    have tk := o5.tups t4 sub
    refine ⟨_, rs ++ [y], rfl, o5.same s4 (fun z hz => fr4 z (sub z hz)), t5, fun z hz => ?_, fun m => ?_, P4.tk tk (o5 _ _ (fun m => nl4 (sub _ m)) P4.l)⟩
    · simp only [List.mem_cons, List.mem_append, List.not_mem_nil, or_false] at hz
      rcases hz with h | h | h | h | h
      · exact fr4 z (by simp [h])
      · exact fr4 z (by simp [h])
      · exact fr4 z (by simp [h])
      · exact fr4 z (by simp [h])
      · rw [h]; exact s4.free ny
    · simp only [List.mem_cons, List.mem_append, List.not_mem_nil, or_false] at nl4 m
      rcases m with h | h | h | h | h
      · exact nl4 (.inl h)
      · exact nl4 (.inr (.inl h))
      · exact nl4 (.inr (.inr (.inl h)))
      · exact nl4 (.inr (.inr (.inr h)))
      · have hl := P4.l
        rw [h, ny] at hl; cases hl
  rintro σ H4 ⟨v3, rs, rfl, s4, t4, fr4, nl4, P4⟩
  rw [List.length_map, blen, List.take_length] at t4
  have pts0 : (ns.foldl addM ⟨[], [], true⟩).pts = ns := addAll_pts ns ⟨[], [], true⟩
  have ok0 : (ns.foldl addM ⟨[], [], true⟩).ok = true := addAll_ok ns ⟨[], [], true⟩
  generalize ns.foldl addM ⟨[], [], true⟩ = T0 at *
  refine ⟨_, rfl, _, rfl, ⟨_, SqL.of (hB.keep s4).l⟩, for_list (K := K) (a := b) (xs := es.map V.ref) (fun i σ H' => ∃ v4 v5 v6 v7 T, σ = [some (.ref b), some (.ref a), some (.ref x), v3, v4, v5, v6, v7] ∧ Same H H' ∧ TbAt CT H' x T pl rw rs ∧ T.pts = ns ∧ runB T0 bds = runB T (bds.drop i)) ⟨none, none, none, none, _, rfl, s4, t4, pts0, rfl⟩ (fun i σ H' _ ⟨_, _, _, _, _, _, s, _⟩ => SqL.of (s _ _ hB.l)) ?_ ?_⟩
  · rintro i v σ H5 hv ⟨v4, v5, v6, v7, T, rfl, s5, t5, ep, run⟩
    obtain ⟨e, he, rfl⟩ := ref_of hv
    obtain ⟨z, hz, x1, x2, h1, h2, h3⟩ := (hB.keep s5).e.get he
    obtain ⟨m1, m2⟩ := bmem z (List.mem_of_getElem? hz)
    rw [← ep] at m1 m2
    have hi : i < bds.length := (List.getElem?_eq_some_iff.mp hz).1
    have dr : bds.drop i = z :: bds.drop (i + 1) := by
      rw [List.drop_eq_getElem_cons hi]
      congr 1
      have := List.getElem?_eq_getElem hi
      rw [hz] at this
      exact (Option.some.inj this).symm
    rw [dr, runB_cons] at run
    obtain ⟨dx5, hx5⟩ := t5.ins
    refine ⟨_, _, rfl, SqT.of h1, rfl, _, _, rfl, _, _, rfl, _, _, rfl, _, _, rfl, rfl, ?_⟩
    refine ⟨_, rfl, _, _, _, rfl, hx5, no_Table, _, rfl, _, rfl, _, rfl, x, pl, rw, x1, x2, T, rs, z.one, z.two, z.amount, rfl, t5, SqT.of h2, SqT.of h3, m1, m2, fun H6 o6 t6 => ?_⟩
    have s6 : Same H H6 := o6.same s5 (fun y hy => by
      simp only [List.mem_cons] at hy
      rcases hy with h | h
      · exact fr4 y (by simp [h])
      · exact fr4 y (by simp [h]))
    have ep6 := putM_pts T (T.pts.idxOf z.one) (T.pts.idxOf z.two) z.amount
    generalize hT6 : putM T (T.pts.idxOf z.one) (T.pts.idxOf z.two) z.amount = T6 at *
    refine ⟨_, rfl, ite2 (fun c => ?_) (fun c => ?_)⟩
    · have ok6 : T6.ok = false := by
        cases h : T6.ok with
        | false => rfl
        | true => rw [h] at c; cases c
      rw [if_neg (by rw [ok6]; decide)] at run
      refine ⟨_, rfl, q x pl rw rs H6 s6 fr4 ?_⟩
      rw [run]
      exact t6
    · have ok6 : T6.ok = true := by
        cases h : T6.ok with
        | true => rfl
        | false => rw [h] at c; exact absurd rfl c
      rw [if_pos ok6] at run
      exact ⟨_, _, _, _, T6, rfl, s6, t6, ep6.trans ep, run⟩
  rintro σ H5 ⟨v4, v5, v6, v7, T, rfl, s5, t5, ep, run⟩
  rw [List.length_map, hB.e.1, List.drop_length] at run
  have run : runB T0 bds = T := run
  refine ⟨_, rfl, q x pl rw rs H5 s5 fr4 ?_⟩
  rw [run]
  exact t5
def sp_Table_possible (K : PySem.W.Frag) (CT : Addr) : Sp := fun vs H Q _ => ∃ (t pl rw : Addr) (T : TbM) (rs : List Addr), vs = [.ref t] ∧ TbAt CT H t T pl rw rs ∧ Q (.bl T.ok) H
theorem ok_Table_possible {f : Addr} {fd : FuncData} {CT : Addr} (TTb : Ck_Table K mg CT) (D : Pr K CT "possible" "Table.possible" s_Table_possible ["self"] f fd) (T : Txt K mg) : FnOk P w K mg base CX0 1 f fd ["self"] (sp_Table_possible K CT) := by
  refine D.F.ok sc_Table_possible (fun vs H Q E h => ?_) (fun cdv A outer s H vs Q E hr h => ?_)
  · obtain ⟨t, pl, rw, T, rs, rfl, _⟩ := h
    rfl
  obtain ⟨t, pl, rw, Tm, rs, rfl, hT, q⟩ := h
  refine ⟨_, (pss_one (ps_ret (pe_fld (pv 0) rfl))), ?_⟩
  obtain ⟨dx, hp⟩ := hT.ins
  exact ⟨_, rfl, _, _, _, _, _, rfl, hp, TTb.cl, TTb.n__possible, lk_Table__possible, q⟩
def scN_keep : Scope := { kind := .function, names := [(Str.ofString ".0", .local), (Str.ofString "start", .cell), (Str.ofString "places", .cell), (Str.ofString "self", .cell)], isGenerator := false, isCoroutine := false }
def sp_Table_keep_points (K : PySem.W.Frag) (CT : Addr) : Sp := fun vs H Q _ => ∃ (t pl rw a : Addr) (T : TbM) (rs bs : List Addr) (ns : List Pt), vs = [.ref t, .ref a] ∧ TbAt CT H t T pl rw rs ∧ PtL H a bs ns ∧ ns.length ≤ 60 ∧ ∀ (pl' rw' : Addr) (rs' : List Addr) (H' : Hp), Outs [t] H H' → (∀ x ∈ pl' :: rw' :: rs', H x = none) → TbAt CT H' t (keepM T ns) pl' rw' rs' → Q .non H'
set_option maxHeartbeats 2000000 in
theorem ok_Table_keep_points {f : Addr} {fd : FuncData} {CT : Addr} (TTb : Ck_Table K mg CT) (D : Mt K CT "keep_points" "Table.keep_points" s_Table_keep_points ["self", "points"] f fd) (T : Txt K mg) : FnOk P w K mg base CX0 1 f fd ["self", "points"] (sp_Table_keep_points K CT) := by
  refine D.F.ok sc_Table_keep_points (fun vs H Q E h => ?_) (fun cdv A outer s H vs Q E hr h => ?_)
  · obtain ⟨t, pl, rw, a, T, rs, bs, ns, rfl, _⟩ := h
    rfl
  obtain ⟨t, pl, rw, a, Tm, rs, bs, ns, rfl, hT, hP, hns, q⟩ := h
  refine ⟨_, (pss_cons (ps_set (i := 2) sc_Table_keep_points.nd rfl (Or.inr rfl) (pe_callTy (cr_setOfT rfl (hu64 hr)) rfl T.set (by decide +kernel) (pa_cons (pv 1) pa_nil)))
    (C8.pss_cut (ps_lock (ps_setLc (i := 3) (own := [("point", 5)]) (g := gName 5) (tt := _) rfl sc_Table_keep_points.nd rfl rfl (sw_true rfl rfl rfl (by decide +kernel)) (pi_keys (pe_fld (pv 0) rfl)) (blkOk_by (own := [("point", 5)]) (N := nm_Table_keep_points) (sc := defScope s_Table_keep_points) (by decide +kernel)) (fun _ _ _ _ _ => (pg_name (i := 5) sc_Table_keep_points.nd rfl (Or.inl rfl))) (fun _ _ _ _ _ => (pts_one (pt_cmpR (r := rInTO K P w) (op_inTO (hu64 hr)) (pv 5) (pv 2) (by rfl)))) (fun _ _ _ _ _ => (pv 5))))
    (C8.pss_cut (ps_set (i := 4) sc_Table_keep_points.nd rfl (Or.inr rfl) (pe_lc (own := [("point", 5)]) (g := gName 5) (tt := tYes) rfl sc_Table_keep_points.nd (pi_list (pv 3)) (blkOk_by (own := [("point", 5)]) (N := nm_Table_keep_points) (sc := defScope s_Table_keep_points) (by decide +kernel)) (fun _ _ _ _ _ => (pg_name (i := 5) sc_Table_keep_points.nd rfl (Or.inl rfl))) (fun _ _ _ _ _ => pts_nil) (fun _ _ _ _ _ => (pe_dgetR K rfl (hu_of hr) (pe_fldK K rfl (pv 0) rfl) (pv 5) (fun _ _ => rfl)))))
    (C8.pss_cut (ps_fld (pv 0) (pe_lc (own := [("start", 6)]) (g := gName 6) (tt := tYes) rfl sc_Table_keep_points.nd (pi_list (pv 4)) (blkOk_by (own := [("start", 6)]) (N := nm_Table_keep_points) (sc := defScope s_Table_keep_points) (by decide +kernel)) (fun _ _ _ _ _ => (pg_name (i := 6) sc_Table_keep_points.nd rfl (Or.inr rfl))) (fun _ _ _ _ _ => pts_nil) (fun _ _ _ _ _ => (pe_lc (wi := iList K (tVar 4)) (own := [("end", 7)]) (g := gName 7) (tt := tYes) rfl sc_Table_keep_points.nd (pi_list (pv 4)) (blkOk_by (own := [("end", 7)]) (N := nm_Table_keep_points) (sc := scN_keep) (by decide +kernel)) (fun _ _ _ _ _ => (pg_name (i := 7) sc_Table_keep_points.nd rfl (Or.inl rfl))) (fun _ _ _ _ _ => pts_nil) (fun _ _ _ _ _ => (pe_ix (r := rIxL K) ix_list (pe_ix (r := rIxL K) ix_list (pe_fldK K rfl (pv 0) rfl) (pv 6) (fun _ _ => rfl)) (pv 7) (fun _ _ => rfl)))))) rfl)
    (pss_one (ps_fld (pv 0) (pe_dcT (own := [("place", 8), ("point", 5)]) (g := (gTup K 2 (gCons (gName 8) (gCons (gName 5) gNil)))) (tt := tYes) (hu_of hr) rfl sc_Table_keep_points.nd (pi_enum rfl T.enumerate (pa_cons (pv 3) pa_nil)) (blkOk_by (own := [("place", 8), ("point", 5)]) (N := nm_Table_keep_points) (sc := defScope s_Table_keep_points) (by decide +kernel)) (fun _ _ _ _ _ => (pg_tup rfl (pgs_cons (pg_name (i := 8) sc_Table_keep_points.nd rfl (Or.inl rfl)) (pgs_cons (pg_name (i := 5) sc_Table_keep_points.nd rfl (Or.inl rfl)) pgs_nil)))) (fun _ _ _ _ _ => pts_nil) (fun _ _ _ _ _ => (pv 5)) (fun _ _ _ _ _ => (pv 8))) rfl)))))), ?_⟩
  obtain ⟨dx, hp⟩ := hT.ins
  have blen := hP.e.1
  refine ⟨_, rfl, a, ksM bs ns, rfl, by rw [ksM_refs blen]; exact SqL.of hP.l, fun p hp => SqT.of (ksM_mem hP.e p hp).1, by unfold ksM; rw [List.length_map, List.length_zip]; omega, fun S L nS hL1 hL2 => ?_⟩
  generalize hgen : upd H S (SetTO _ _ S L) = H1
  obtain ⟨s1, h1⟩ := fr hgen nS
  have h1 : H1 S = some (SetTO P w S L) := h1
  clear hgen
  have hLk : ∀ H', Same H H' → ∀ p ∈ L, SqT K H' p.1 (p.2.map V.int) := fun H' sm p hp => SqT.of (sm _ _ (ksM_mem hP.e p (hL1 p hp)).1)
  refine ⟨fun σ H' => ∃ (kl : Addr) (cs : List Addr), σ = [some (.ref t), some (.ref a), some (.ref S), some (.ref kl), none, none, none, none, none] ∧ Same H H' ∧ H kl = none ∧ PtL H' kl cs (keptM Tm ns), ?_, ?_⟩
  · refine ⟨pl, _, s1 _ _ hT.hpl, trivial, fun od => ?_⟩
    obtain ⟨b2, h2⟩ := stt (rfl : upd H1 pl (.frz od (.dT (plK Tm.pts))) = _)
    have hp2 := b2 _ _ hT.tp (s1 _ _ hp)
    have S2 := b2 _ _ (fun e => by rw [e, s1 _ _ hT.hpl] at h1; cases h1) h1
    generalize upd H1 pl (.frz od (.dT (plK Tm.pts))) = H2 at *
    refine ⟨_, rfl, _, _, _, _, _, rfl, hp2, TTb.cl, TTb.n__places, lk_Table__places, pl, od, rfl, .inr ⟨_, h2, fun D hD => lc_it (walk_keysT (d := pl) (o := od) (kvs := plK Tm.pts)) (fun i H' => ∃ cs : List Addr, Same H2 H' ∧ H' D = some (.lst (cs.map V.ref)) ∧ Each (fun b p => H' b = some (.tup [.int p.d, .int p.n, .int p.c])) cs ((Tm.pts.take i).filter fun p => decide (p ∈ ns))) ⟨[], same_upd hD, upd_same, rfl, fun i a x h => by simp at h⟩ (fun i H' _ ⟨_, p, _⟩ => p _ _ h2) ?_ ?_⟩⟩
    · rintro i x H3 H4 hi ⟨cs, sm, eD, each⟩ ⟨rfl, k, v, qa, hk, rfl, hq⟩
      obtain ⟨p, hpp, rfl, rfl⟩ := plK_get' hk
      have hq : H4 qa = some (.tup [.int p.d, .int p.n, .int p.c]) := hq
      rw [filter_take hpp]
      refine ⟨rfl, _, rfl, _, rfl, S, qa, L, ptN p, rfl, rfl, sm _ _ S2, fun p hp => ?_, SqT.of hq, _, rfl, ?_⟩
      · have hk := (ksM_mem hP.e p (hL1 p hp)).1
        have k2 : H2 p.1 = some (.tup (p.2.map V.int)) := b2 _ _ (fun e => by rw [e, hT.hpl] at hk; cases hk) (s1 _ _ hk)
        exact SqT.of (sm _ _ k2)
      rw [setMem hP.e hL1 hL2]
      have few := hT.ok.few
      by_cases m : p ∈ ns
      · rw [decide_eq_true m, if_pos rfl]
        refine iteT ⟨_, rfl, _, eD, ?_, cs ++ [qa], fun b u hb' => ?_, ?_, ?_⟩
        · have h1 := each.1
          have h2 := List.length_filter_le (fun p => decide (p ∈ ns)) (Tm.pts.take i)
          rw [List.length_take] at h2
          rw [List.length_map, h1]
          exact sizes' (by omega)
        · rw [upd_ne (ne_of_none hb' hD)]
          exact sm _ _ hb'
        · rw [upd_same, List.map_append]
          rfl
        · refine Each.snoc (each.imp fun b r hb' z => ?_) ?_
          · rw [upd_ne (ne_of z eD (by intro w; cases w))]
            exact z
          · show upd H4 D _ qa = _
            rw [upd_ne (ne_of hq eD (by intro w; cases w))]
            exact hq
      · rw [decide_eq_false m, if_neg Bool.false_ne_true, List.append_nil]
        exact iteF ⟨cs, sm, eD, each⟩
    · rintro H3 ⟨cs, sm, eD, each⟩
      have h3 := sm _ _ h2
      refine ⟨h3, D, cs, rfl, ?_, ?_, ?_, ?_⟩
      · intro c u hc
        by_cases e : c = pl
        · subst e
          rw [hT.hpl] at hc
          cases hc
          exact upd_same
        · rw [upd_ne e]
          exact sm _ _ (b2 _ _ e (s1 _ _ hc))
      · cases h : H D with
        | none => rfl
        | some u =>
          by_cases e : D = pl
          · rw [e, h2] at hD; cases hD
          · rw [b2 _ _ e (s1 _ _ h)] at hD; cases hD
      · have ne : D ≠ pl := ne_of eD h3 (by intro w; cases w)
        rw [upd_ne ne]
        exact eD
      · rw [plK_len, List.take_length] at each
        exact each.imp fun b r hb' z => by
          rw [upd_ne (ne_of z h3 (by intro w; cases w))]
          exact z
  clear h1 s1 hLk hL1 hL2
  rintro σ H2 ⟨kl, cs, rfl, s2, nkl, hK⟩
  have klen := hK.e.1
  have kfew : (keptM Tm ns).length ≤ 40 := Nat.le_trans (List.length_filter_le _ _) hT.ok.few
  have kmem : ∀ p ∈ keptM Tm ns, p ∈ Tm.pts := fun p hp => (List.mem_filter.mp hp).1
  have knd : (keptM Tm ns).Nodup := hT.ok.nd.filter _
  have few := hT.ok.few
  have hkeep : keepM Tm ns = ⟨keptM Tm ns, (keptM Tm ns).map fun p => (keptM Tm ns).map fun q => cellM Tm.d (Tm.pts.idxOf p) (Tm.pts.idxOf q), Tm.ok⟩ := rfl
  have okk := hT.ok.keep ns
  rw [hkeep] at q okk
  generalize keptM Tm ns = ks at *
  refine ⟨fun σ H' => ∃ (pc : Addr), σ = [some (.ref t), some (.ref a), some (.ref S), some (.ref kl), some (.ref pc), none, none, none, none] ∧ Same H2 H' ∧ H' pc = some (.lst ((ks.map fun p => ((Tm.pts.idxOf p : Nat) : Int)).map V.int)), ?_, ?_⟩
  · refine ⟨_, rfl, kl, rfl, ⟨_, SqL.of hK.l⟩, fun D hD => lc_list (K := K) (a := kl) (xs := cs.map V.ref) (fun i H' => Same H2 H' ∧ H' D = some (.lst (((ks.take i).map fun p => ((Tm.pts.idxOf p : Nat) : Int)).map V.int))) ⟨same_upd hD, upd_same⟩ (fun i H' _ p => SqL.of (p.1 _ _ hK.l)) ?_ ?_⟩
    · rintro i x H3 hx ⟨sm, eD⟩
      obtain ⟨c, hc, rfl⟩ := ref_of hx
      obtain ⟨p, hpp, hq⟩ := hK.e.get hc
      have s3 := s2.trans sm
      have mp := kmem p (List.mem_of_getElem? hpp)
      refine ⟨rfl, _, rfl, _, _, _, _, _, rfl, s3 _ _ hp, TTb.cl, TTb.n__places, lk_Table__places, _, rfl, _, _, ptK p, _, _, rfl, s3 _ _ hT.hpl, rfl, SqT.of (sm _ _ hq), plK_val hT.ok.nd (idx_get mp), _, eD, ?_, ?_, ?_⟩
      · rw [List.length_map, List.length_map, List.length_take]
        exact sizes' (by omega)
      · intro b u hb'
        rw [upd_ne (ne_of_none hb' hD)]
        exact sm _ _ hb'
      · rw [upd_same, map_take hpp, List.map_append]
        rfl
    · rintro H3 ⟨sm, eD⟩
      rw [List.length_map, klen, List.take_length] at eD
      exact ⟨D, rfl, sm, eD⟩
  rintro σ H3 ⟨pc, rfl, s3', hpc⟩
  have s3 := s2.trans s3'
  have hK3 := hK.keep s3'
  clear s2 s3' hK
  have dims : ∀ p ∈ ks, Tm.pts.idxOf p < Tm.pts.length := fun p hp => List.idxOf_lt_length_iff.mpr (kmem p hp)
  refine ⟨fun σ H' => ∃ (rw' : Addr) (rs' : List Addr), σ = [some (.ref t), some (.ref a), some (.ref S), some (.ref kl), some (.ref pc), none, none, none, none] ∧ But t H3 H' ∧ H' t = some (.ins CT dx (ff_Table (.ref pl) (.ref rw') (.bl Tm.ok))) ∧ H' rw' = some (.lst (rs'.map V.ref)) ∧ Each (fun a r => H' a = some (rowO r)) rs' (ks.map fun p => ks.map fun q => cellM Tm.d (Tm.pts.idxOf p) (Tm.pts.idxOf q)) ∧ (∀ x ∈ rw' :: rs', H3 x = none) ∧ rs'.Nodup ∧ rw' ∉ rs', ?_, ?_⟩
  · refine ⟨_, rfl, pc, rfl, ⟨_, SqL.of hpc⟩, fun D hD => lc_list (K := K) (a := pc) (xs := (ks.map fun p => ((Tm.pts.idxOf p : Nat) : Int)).map V.int) (fun i H' => ∃ rs' : List Addr, Same H3 H' ∧ H' D = some (.lst (rs'.map V.ref)) ∧ Each (fun a r => H' a = some (rowO r)) rs' ((ks.take i).map fun p => ks.map fun q => cellM Tm.d (Tm.pts.idxOf p) (Tm.pts.idxOf q)) ∧ (∀ x ∈ rs', H3 x = none) ∧ rs'.Nodup ∧ D ∉ rs') ⟨[], same_upd hD, upd_same, ⟨rfl, fun i a x h => by simp at h⟩, fun x h => by simp at h, List.nodup_nil, by simp⟩ (fun i H' _ ⟨_, p, _⟩ => SqL.of (p _ _ hpc)) ?_ ?_⟩
    · rintro i x H4 hx ⟨rs', sm, eD, ro, fr', nd', nD'⟩
      rw [List.getElem?_map, List.getElem?_map] at hx
      obtain ⟨p, hpp, rfl⟩ : ∃ p, ks[i]? = some p ∧ x = V.int ((Tm.pts.idxOf p : Nat) : Int) := by
        cases h : ks[i]? with
        | none => rw [h] at hx; cases hx
        | some a => rw [h] at hx; exact ⟨a, rfl, (Option.some.inj hx).symm⟩
      have ip := dims p (List.mem_of_getElem? hpp)
      obtain ⟨ra, a1, a2, a3⟩ := hT.row ip
      have s4 := s3.trans sm
      refine ⟨rfl, _, rfl, pc, rfl, ⟨_, SqL.of (sm _ _ hpc)⟩, fun D2 hD2 => lc_list (K := K) (a := pc) (xs := (ks.map fun p => ((Tm.pts.idxOf p : Nat) : Int)).map V.int) (fun j H' => Same H4 H' ∧ H' D2 = some (.lst (((ks.take j).map fun q => cellM Tm.d (Tm.pts.idxOf p) (Tm.pts.idxOf q)).map hiV))) ⟨same_upd hD2, upd_same⟩ (fun i H' _ p => SqL.of (p.1 _ _ (sm _ _ hpc))) ?_ ?_⟩
      · rintro j x H5 hx ⟨sm5, eD2⟩
        rw [List.getElem?_map, List.getElem?_map] at hx
        obtain ⟨q', hqq, rfl⟩ : ∃ p, ks[j]? = some p ∧ x = V.int ((Tm.pts.idxOf p : Nat) : Int) := by
          cases h : ks[j]? with
          | none => rw [h] at hx; cases hx
          | some a => rw [h] at hx; exact ⟨a, rfl, (Option.some.inj hx).symm⟩
        have iq := dims q' (List.mem_of_getElem? hqq)
        have s5 := s4.trans sm5
        refine ⟨rfl, _, rfl, _, _, _, _, _, rfl, s5 _ _ hp, TTb.cl, TTb.n__rows, lk_Table__rows, _, rfl, _, _, _, _, rfl, rfl, SqL.of (s5 _ _ hT.hrw), at_of (j := Tm.pts.idxOf p) rfl (by rw [List.getElem?_map, a1]; rfl), _, rfl, _, _, _, _, rfl, rfl, rowAt (s5 _ _ a2), row_at (by rw [a3]; exact iq), _, eD2, ?_, ?_, ?_⟩
        · rw [List.length_map, List.length_map, List.length_take]
          exact sizes' (by omega)
        · intro b u hb'
          rw [upd_ne (ne_of_none hb' hD2)]
          exact sm5 _ _ hb'
        · rw [upd_same, map_take hqq, List.map_append]
          rfl
      · rintro H5 ⟨sm5, eD2⟩
        rw [List.length_map, List.length_map, List.take_length] at eD2
        have cD : D ≠ D2 := ne_of_none eD hD2
        refine ⟨_, sm5 _ _ eD, ?_, rs' ++ [D2], fun b u hb' => ?_, ?_, ?_, ?_, ?_, fun m => ?_⟩
        · rw [List.length_map, ro.1, List.length_map, List.length_take]
          exact sizes' (by omega)
        · rw [upd_ne (ne_of_none hb' hD)]
          exact sm5 _ _ (sm _ _ hb')
        · rw [upd_same, List.map_append]
          rfl
        · rw [map_take hpp]
          have lift : ∀ b u, b ≠ D → H5 b = some u → upd H5 D (.lst (rs'.map V.ref ++ [V.ref D2])) b = some u := fun b u h1 h2 => by rw [upd_ne h1]; exact h2
          exact Each.snoc (ro.imp fun b r hb' z => lift _ _ (fun e => nD' (e ▸ hb')) (sm5 _ _ z)) (lift _ _ cD.symm eD2)
        · intro x hx
          rcases List.mem_append.mp hx with m | m
          · exact fr' x m
          · rw [List.mem_singleton.mp m]
            exact sm.free hD2
        · rw [List.nodup_append]
          refine ⟨nd', by simp, fun x hx y hy e => ?_⟩
          rw [List.mem_singleton.mp hy] at e
          obtain ⟨k, hk⟩ := List.getElem?_of_mem hx
          obtain ⟨r', _, y'⟩ := ro.get hk
          rw [e, hD2] at y'
          cases y'
        · rcases List.mem_append.mp m with m | m
          · exact nD' m
          · exact cD (List.mem_singleton.mp m)
    · rintro H4 ⟨rs', sm, eD, ro, fr', nd', nD'⟩
      rw [List.length_map, List.length_map, List.take_length] at ro
      refine ⟨_, rfl, t, CT, dx, _, rfl, sm _ _ (s3 _ _ hp), TTb.cl, TTb.n__rows, len_Table, ?_⟩
      rw [put_rows]
      have tD : D ≠ t := ne_of eD (sm _ _ (s3 _ _ hp)) (by intro z; cases z)
      refine ⟨D, rs', rfl, (But.of sm).trans But.set, upd_same, But.set _ _ tD eD, ro.imp fun b r hb' z => But.set _ _ (fun e => by rw [e, sm _ _ (s3 _ _ hp)] at z; cases z) z, fun x hx => ?_, nd', nD'⟩
      rcases List.mem_cons.mp hx with e | m
      · rw [e]
        cases h : H3 D with
        | none => rfl
        | some u => rw [h] at hD; cases hD
      · exact fr' x m
  rintro σ H4 ⟨rw', rs', rfl, b4, h4, hw4, ro4, fr4, nd4, nw4⟩
  have upt : ∀ c u, c ≠ t → H3 c = some u → H4 c = some u := fun c u h1 h2 => b4 _ _ h1 h2
  have hpt : H3 t = some (.ins CT dx (ff_Table (.ref pl) (.ref rw) (.bl Tm.ok))) := s3 _ _ hp
  have klt : kl ≠ t := ne_of hK3.l hpt (by intro z; cases z)
  have hK4 : PtL H4 kl cs ks := ⟨upt _ _ klt hK3.l, hK3.e.imp fun b r hb' z => upt _ _ (ne_of z hpt (by intro z; cases z)) z⟩
  refine ⟨_, rfl, _, _, rfl, SqL.of hK4.l, fun D hD => dc_it (walk_enum (K := K) (a := kl) (xs := cs.map V.ref)) (fun i H' => Same H4 H' ∧ H' D = some (.dT (plK (ks.take i)))) ⟨same_upd hD, upd_same⟩ (fun i H' _ p => SqL.of (p.1 _ _ hK4.l)) ?_ ?_⟩
  · rintro i x H5 H6 hi ⟨sm, eD⟩ ⟨Tt, x1, x2, rfl, nT, rfl, hx1, hx2⟩
    cases hx1
    rw [List.length_map] at hi
    have hx2 : (cs.map V.ref)[i]? = some x2 := hx2
    have hi2 : i < ks.length := by rw [← klen]; exact hi
    have hp' : ks[i]? = some ks[i] := List.getElem?_eq_getElem hi2
    obtain ⟨y, hy, hty⟩ := hK4.get hp'
    rw [List.getElem?_map, hy] at hx2
    cases hx2
    obtain ⟨sT, hTt⟩ := fr (rfl : upd H5 Tt (.tup [.int (i : Nat), .ref y]) = _) nT
    generalize upd H5 Tt (.tup [.int (i : Nat), .ref y]) = H6 at *
    have s6 : Same H4 H6 := sm.trans sT
    have tl : (ks.take i).length = i := by rw [List.length_take]; omega
    have np : ks[i] ∉ ks.take i := fun m => by
      obtain ⟨j, hj⟩ := List.getElem?_of_mem m
      have hj2 := (List.getElem?_eq_some_iff.mp hj).1
      rw [tl] at hj2
      rw [List.getElem?_take_of_lt hj2] at hj
      have := nd_ix knd hj hp'
      omega
    refine ⟨Tt, _, rfl, SqT.of hTt, rfl, _, _, rfl, _, _, rfl, rfl, rfl, _, rfl, _, rfl, plK (ks.take i), ptK ks[i], y, rfl, s6 _ _ hty, sT _ _ eD, by rw [plK_len, tl]; exact sizes' (by omega), ?_⟩
    have e := plK_put np
    rw [tl] at e
    rw [e, ← takeS hp']
    exact ⟨fun c u hc => by rw [upd_ne (ne_of_none hc hD)]; exact s6 _ _ hc, upd_same⟩
  rintro H5 ⟨s5, hD5⟩
  rw [List.length_map, klen, List.take_length] at hD5
  refine ⟨_, rfl, t, CT, dx, _, rfl, s5 _ _ h4, TTb.cl, TTb.n__places, len_Table, ?_⟩
  rw [put_places]
  have tD : D ≠ t := ne_of hD5 (s5 _ _ h4) (by intro z; cases z)
  have b6 : But t H5 (upd H5 t (.ins CT dx (ff_Table (.ref D) (.ref rw') (.bl Tm.ok)))) := But.set
  have bAll : But t H (upd H5 t (.ins CT dx (ff_Table (.ref D) (.ref rw') (.bl Tm.ok)))) := (((But.of s3).trans b4).trans (But.of s5)).trans b6
  have nt : ∀ x, H x = none → x ≠ t := fun x h e => by rw [e, hp] at h; cases h
  have back : ∀ x, H3 x = none → H x = none := fun x h => s3.free h
  have nDh : H D = none := by
    cases h : H D with
    | none => rfl
    | some u => rw [b4 _ _ tD (s3 _ _ h)] at hD; cases hD
  refine q D rw' rs' _ (Outs.but bAll (by simp)) (fun x hx => ?_) ⟨⟨dx, upd_same⟩, b6 _ _ tD hD5, b6 _ _ (nt _ (back _ (fr4 _ (by simp)))) (s5 _ _ hw4), ro4.imp fun b r hb' z => b6 _ _ (nt _ (back _ (fr4 _ (by simp [hb'])))) (s5 _ _ z), nw4, nd4, okk⟩
  rcases List.mem_cons.mp hx with e | m
  · rw [e]; exact nDh
  · exact back _ (fr4 x m)
/-- a pair of a choice and a table -/
def TwoE (H : Hp) (e c t : Addr) (z : List Int × TbM) : Prop := H e = some (.tup [.ref c, .ref t]) ∧ H c = some (.tup (z.1.map V.int))
theorem TwoE.keep {H H' : Hp} {e c t : Addr} {z : List Int × TbM} (s : Same H H') (h : TwoE H e c t z) : TwoE H' e c t z := ⟨s _ _ h.1, s _ _ h.2⟩
theorem TwoE.tk {H H' : Hp} {e c t : Addr} {z : List Int × TbM} (k : TupK H H') (h : TwoE H e c t z) : TwoE H' e c t z := ⟨k.1 _ _ h.1, k.1 _ _ h.2⟩
def sp_possible_tables (K : PySem.W.Frag) (CT : Addr) : Sp := fun vs H Q _ => ∃ (b c a : Addr) (es cs as : List Addr) (bds : List Bd) (chs : List (List Int)) (ps : List Pt), vs = [.ref b, .ref c, .ref a] ∧ BnL H b es bds ∧ ChL H c cs chs ∧ PtL H a as ps ∧ (∀ z ∈ bds, z.one ∈ ptsL ∧ z.two ∈ ptsL) ∧ (∀ p ∈ ps, p ∈ ptsL) ∧ ps.length + 2 * bds.length ≤ 60 ∧ chs.length ≤ 1000 ∧ ∀ (l : Addr) (fs : List Addr) (H' : Hp), Same H H' → H l = none → PrC CT H' l fs (prsM bds chs ps) → Q (.ref l) H'
set_option maxHeartbeats 2000000 in
theorem ok_possible_tables {f : Addr} {fd : FuncData} {CT : Addr} (TTb : Ck_Table K mg CT) (D : Df K mg "possible_tables" s_possible_tables ["bounds", "choices", "points"] f fd) (T : Txt K mg) {f_bounds_left : Addr} {fd_bounds_left : FuncData} (D_bounds_left : Df K mg "bounds_left" s_bounds_left ["bounds", "choice"] f_bounds_left fd_bounds_left) (G_bounds_left : FnOk P w K mg base CX0 1 f_bounds_left fd_bounds_left ["bounds", "choice"] (sp_bounds_left K)) {f_table_of : Addr} {fd_table_of : FuncData} (D_table_of : Df K mg "table_of" s_table_of ["bounds", "points"] f_table_of fd_table_of) (G_table_of : FnOk P w K mg base CX0 4 f_table_of fd_table_of ["bounds", "points"] (sp_table_of K CT)) {f_Table_possible : Addr} {fd_Table_possible : FuncData} (M_Table_possible : Pr K CT "possible" "Table.possible" s_Table_possible ["self"] f_Table_possible fd_Table_possible) (G_Table_possible : FnOk P w K mg base CX0 1 f_Table_possible fd_Table_possible ["self"] (sp_Table_possible K CT)) {f_Table_keep_points : Addr} {fd_Table_keep_points : FuncData} (M_Table_keep_points : Mt K CT "keep_points" "Table.keep_points" s_Table_keep_points ["self", "points"] f_Table_keep_points fd_Table_keep_points) (G_Table_keep_points : FnOk P w K mg base CX0 1 f_Table_keep_points fd_Table_keep_points ["self", "points"] (sp_Table_keep_points K CT)) : FnOk P w K mg base CX0 5 f fd ["bounds", "choices", "points"] (sp_possible_tables K CT) := by
  refine D.F.ok sc_possible_tables (fun vs H Q E h => ?_) (fun cdv A outer s H vs Q E hr h => ?_)
  · obtain ⟨b, c, a, es, cs, as, bds, chs, ps, rfl, _⟩ := h
    rfl
  obtain ⟨b, c, a, es, cs, as, bds, chs, ps, rfl, hB, hC, hP, hm, hp, few, many, q⟩ := h
  refine ⟨_, (pss_cons (ps_set (i := 3) sc_possible_tables.nd rfl (Or.inl rfl) (pe_lst pa_nil))
    (pss_cons (ps_for PassesOwn.never rfl (pi_list (pv 1)) (pg_name (i := 4) sc_possible_tables.nd rfl (Or.inl rfl))
      (pss_cons (ps_set (i := 5) sc_possible_tables.nd rfl (Or.inl rfl) (pe_call G_table_of (hr.mono (by decide)) rfl D_table_of.m D_table_of.F.kp D_table_of.b .nil pass0 (pa_cons (pe_call G_bounds_left (hr.mono (by decide)) rfl D_bounds_left.m D_bounds_left.F.kp D_bounds_left.b .nil pass0 (pa_cons (pv 0) (pa_cons (pv 4) pa_nil))) (pa_cons (pv 2) pa_nil))))
    (pss_one (ps_if (pt_val (pe_propE (pv 5) TTb.cl M_Table_possible.m G_Table_possible (hr.mono (by decide)) M_Table_possible.b .nil pass0 rfl))
      (pss_cons (ps_expr (pe_meth (pv 5) TTb.cl M_Table_keep_points.m G_Table_keep_points (hr.mono (by decide)) M_Table_keep_points.b .nil pass0 (pa_cons (pv 2) pa_nil)))
    (pss_one (ps_expr (pe_bm PySem.F.plainAttrs_list PySem.F.slot_list_append PySem.F.type_list_append mt_append (pv 3) (pa_cons (pe_tup (pa_cons (pv 4) (pa_cons (pv 5) pa_nil))) pa_nil)))))
      pss_nil))))
    (pss_one (ps_ret (pv 3))))), ?_⟩
  refine ⟨by show 0 ≤ sizeLine; decide, fun D hD => ?_⟩
  obtain ⟨s1, h1⟩ := fr (rfl : upd H D (.lst []) = _) hD
  generalize upd H D (.lst []) = H1 at *
  refine ⟨_, rfl, _, rfl, ⟨_, SqL.of (hC.keep s1).l⟩, for_list (K := K) (a := c) (xs := cs.map V.ref) (fun i σ H' => ∃ v4 v5 fs, σ = [some (.ref b), some (.ref c), some (.ref a), some (.ref D), v4, v5] ∧ Same H H' ∧ H' D = some (.lst (fs.map V.ref)) ∧ Each (fun e T => ∃ c t pl rw rs, TwoE H' e c t T ∧ TbAt CT H' t T.2 pl rw rs ∧ D ∉ t :: pl :: rw :: rs) fs (prsM bds (chs.take i) ps) ∧ fs.length ≤ i) ⟨none, none, [], rfl, s1, h1, Each.nil, Nat.le_refl _⟩ (fun i σ H' _ ⟨_, _, _, _, s, _⟩ => SqL.of (s _ _ hC.l)) ?_ ?_⟩
  · rintro i v σ H2 hv ⟨v4, v5, fs, rfl, s2, h2, E2, len⟩
    obtain ⟨e, he, rfl⟩ := ref_of hv
    obtain ⟨ch, hch, hq0⟩ := hC.e.get he
    have hq := hq0
    have hi : i < chs.length := (List.getElem?_eq_some_iff.mp hch).1
    rw [prs_step hch]
    have ll := left_len bds ch
    refine ⟨_, rfl, _, rfl, b, e, es, bds, ch, rfl, hB.keep s2, by omega, s2 _ _ hq, fun p gs H3 s3 np B3 => ?_⟩
    have s23 := s2.trans s3
    refine ⟨_, rfl, p, a, gs, as, leftB bds ch, ps, rfl, B3, hP.keep s23, Nat.le_trans (names_few (fun z hz => hm z (left_mem hz)) hp) (by decide), by omega, fun t pl rw rs H4 s4 n4 t4 => ?_⟩
    have s24 := s23.trans s4
    have E4 : Each (fun e T => ∃ c t pl rw rs, TwoE H4 e c t T ∧ TbAt CT H4 t T.2 pl rw rs ∧ D ∉ t :: pl :: rw :: rs) fs (prsM bds (chs.take i) ps) := E2.keep fun e T ⟨c, t', pl', rw', rs', x, y, n⟩ => ⟨c, t', pl', rw', rs', (x.keep s3).keep s4, (y.keep s3).keep s4, n⟩
    have nfp : ∀ {e T}, (∃ c t' pl' rw' rs', TwoE H2 e c t' T ∧ TbAt CT H2 t' T.2 pl' rw' rs' ∧ D ∉ t' :: pl' :: rw' :: rs') → ∃ c t' pl' rw' rs', TwoE H4 e c t' T ∧ TbAt CT H4 t' T.2 pl' rw' rs' ∧ D ∉ t' :: pl' :: rw' :: rs' ∧ t ∉ t' :: pl' :: rw' :: rs' := fun {e T} ⟨c, t', pl', rw', rs', x, y, n⟩ => ⟨c, t', pl', rw', rs', (x.keep s3).keep s4, (y.keep s3).keep s4, n, (y.keep s3).free (n4 t List.mem_cons_self)⟩
    have E4t := E2.keep (fun e T z => nfp z)
    clear E4 nfp
    have h4 := s4 _ _ (s3 _ _ h2)
    have Dt : D ≠ t := fun e => by
      have := n4 t List.mem_cons_self
      rw [← e, s3 _ _ h2] at this
      cases this
    have Dn : D ∉ t :: pl :: rw :: rs := fun m => by
      have := n4 D m
      rw [s3 _ _ h2] at this
      cases this
    obtain ⟨dx, hx⟩ := t4.ins
    have lt : prM bds ps ch = if (tabM (leftB bds ch) ps).ok = true then some (ch, keepM (tabM (leftB bds ch) ps) ps) else none := by unfold prM leftT; split <;> rfl
    have t4' : TbAt CT H4 t (tabM (leftB bds ch) ps) pl rw rs := t4
    clear t4
    generalize tabM (leftB bds ch) ps = Tm at *
    refine ⟨_, rfl, t, dx, _, rfl, hx, t, pl, rw, Tm, rs, rfl, t4', _, rfl, ?_⟩
    cases ok : Tm.ok with
    | false =>
      rw [ok, if_neg (by decide)] at lt
      refine iteF ⟨_, _, fs, rfl, s24, h4, ?_, by omega⟩
      rw [lt, show (none : Option (List Int × TbM)).toList = [] from rfl, List.append_nil]
      exact E4t.keep fun e T ⟨c, t', pl', rw', rs', x, y, n, _⟩ => ⟨c, t', pl', rw', rs', x, y, n⟩
    | true =>
      rw [ok, if_pos rfl] at lt
      refine iteT ⟨_, rfl, _, _, _, rfl, hx, no_Table, _, rfl, t, pl, rw, a, Tm, rs, as, ps, rfl, t4', hP.keep s24, by omega, fun pl2 rw2 rs2 H5 o5 n5 t5 => ?_⟩
      have h5 := o5 _ _ (by simpa using Dt) h4
      have k5 : TupK H4 H5 := o5.tups t4' (fun x hx => by rw [List.mem_singleton.mp hx]; exact List.mem_cons_self)
      have s25 : Same H H5 := fun c u hc => o5 _ _ (by
        intro m
        rw [List.mem_singleton.mp m] at hc
        have q1 := n4 t List.mem_cons_self
        rw [s23 _ _ hc] at q1
        cases q1) (s24 _ _ hc)
      refine ⟨_, rfl, .inl ⟨rfl, _, SqL.of h5⟩, _, rfl, _, rfl, by show 2 ≤ sizeLine; decide, fun u nu => ?_⟩
      obtain ⟨s6, h6⟩ := fr (rfl : upd H5 u (.tup [.ref e, .ref t]) = _) nu
      generalize upd H5 u (.tup [.ref e, .ref t]) = H6 at *
      have h6D := s6 _ _ h5
      have hqe := s6 _ _ (s25 _ _ hq0)
      refine ⟨_, _, _, rfl, rfl, h6D, by rw [List.length_map]; exact sizes' (by omega), ?_⟩
      have k7 : TupK H6 (upd H6 D (.lst (fs.map V.ref ++ [.ref u]))) := .set h6D
      obtain ⟨b7, h7⟩ := stt (rfl : upd H6 D (.lst (fs.map V.ref ++ [.ref u])) = _)
      generalize upd H6 D (.lst (fs.map V.ref ++ [.ref u])) = H7 at *
      refine ⟨_, _, fs ++ [u], rfl, fun c w hc => b7 _ _ (ne_of_none hc hD) (s6 _ _ (s25 _ _ hc)), by rw [h7, List.map_append]; rfl, ?_, by rw [List.length_append, List.length_singleton]; omega⟩
      rw [lt, show (some (ch, keepM Tm ps) : Option (List Int × TbM)).toList = [(ch, keepM Tm ps)] from rfl]
      have Dn5 : D ∉ t :: pl2 :: rw2 :: rs2 := fun m => by
        rcases List.mem_cons.mp m with e | m
        · exact Dt e
        · have := n5 D m
          rw [h4] at this
          cases this
      have mv : ∀ e T, (∃ c t' pl' rw' rs', TwoE H5 e c t' T ∧ TbAt CT H5 t' T.2 pl' rw' rs' ∧ D ∉ t' :: pl' :: rw' :: rs') → ∃ c t' pl' rw' rs', TwoE H7 e c t' T ∧ TbAt CT H7 t' T.2 pl' rw' rs' ∧ D ∉ t' :: pl' :: rw' :: rs' := fun e T ⟨c, t', pl', rw', rs', x, y, n⟩ => ⟨c, t', pl', rw', rs', (x.keep s6).tk k7, (y.keep s6).outs (Outs.but b7 (List.mem_singleton.mpr rfl)) fun y hy m => n (by rw [← List.mem_singleton.mp m]; exact hy), n⟩
      refine Each.snoc ((E4t.keep fun e T ⟨c, t', pl', rw', rs', x, y, n, nt⟩ => ⟨c, t', pl', rw', rs', x.tk k5, y.outs o5 fun y hy m => nt (by rw [← List.mem_singleton.mp m]; exact hy), n⟩).keep mv) ?_
      exact ⟨e, t, pl2, rw2, rs2, TwoE.tk k7 ⟨h6, hqe⟩, (t5.keep s6).outs (Outs.but b7 (List.mem_singleton.mpr rfl)) fun y hy m => Dn5 (by rw [← List.mem_singleton.mp m]; exact hy), Dn5⟩
  rintro σ H2 ⟨v4, v5, fs, rfl, s2, h2, E2, len⟩
  rw [List.length_map, hC.e.1, List.take_length] at E2
  exact ⟨_, rfl, q D fs H2 s2 hD ⟨h2, E2.keep fun e T ⟨c, t, pl, rw, rs, x, y, _⟩ => ⟨c, t, pl, rw, rs, x.1, x.2, y⟩⟩⟩
def sp_event_points (K : PySem.W.Frag) : Sp := fun vs H Q _ => ∃ (a : Addr) (as : List Addr) (ps : List Pt), vs = [.ref a] ∧ PtL H a as ps ∧ ps.length ≤ 1000 ∧ ∀ (l : Addr) (bs : List Addr) (H' : Hp), Same H H' → H l = none → PtL H' l bs (evtP ps) → Q (.ref l) H'
theorem ok_event_points {f : Addr} {fd : FuncData} (D : Df K mg "event_points" s_event_points ["points"] f fd) (T : Txt K mg) {t_NO_CLOCK : Tok} (g_NO_CLOCK : mg "NO_CLOCK" = some (.int (-1) t_NO_CLOCK)) : FnOk P w K mg base CX0 1 f fd ["points"] (sp_event_points K) := by
  refine D.F.ok sc_event_points (fun vs H Q E h => ?_) (fun cdv A outer s H vs Q E hr h => ?_)
  · obtain ⟨a, as, ps, rfl, _⟩ := h
    rfl
  obtain ⟨a, as, ps, rfl, hP, hl, q⟩ := h
  refine ⟨_, (pss_one (ps_ret (pe_lc (own := [("point", 1)]) (g := gName 1) (tt := _) rfl sc_event_points.nd (pi_list (pv 0)) (blkOk_by (own := [("point", 1)]) (N := nm_event_points) (sc := defScope s_event_points) (by decide +kernel)) (fun _ _ _ _ _ => (pg_name (i := 1) sc_event_points.nd rfl (Or.inl rfl))) (fun _ _ _ _ _ => (pts_one (pt_cmpR op_eq (pe_ix (r := rIxT K) ix_tup (pv 1) pe_int (fun _ _ => rfl)) (pe_glob (v := V.int (-1)) rfl g_NO_CLOCK ⟨_, rfl⟩) (nomark _)))) (fun _ _ _ _ _ => (pv 1))))), ?_⟩
  refine ⟨_, rfl, _, rfl, ⟨_, SqL.of hP.l⟩, fun D hD => lc_list (K := K) (a := a) (xs := as.map V.ref) (fun i H' => Same H H' ∧ ∃ fs, PtL H' D fs (evtP (ps.take i))) ⟨same_upd hD, [], upd_same, Each.nil⟩ (fun i H' _ p => SqL.of (p.1 _ _ hP.l)) ?_ ?_⟩
  · rintro i v H' hv ⟨sm, fs, hL⟩
    obtain ⟨e, he, rfl⟩ := ref_of hv
    obtain ⟨p, hp, hq⟩ := hP.e.get he
    have hq' := sm _ _ hq
    have hi : i < ps.length := (List.getElem?_eq_some_iff.mp hp).1
    have st : evtP (ps.take (i + 1)) = evtP (ps.take i) ++ if decide (p.c = -1) = true then [p] else [] := by
      unfold evtP
      rw [List.take_add_one, hp, List.filter_append]
      congr 1
      show List.filter _ [p] = _
      rw [List.filter_cons]
      rfl
    rw [st]
    have lim : (evtP (ps.take i)).length ≤ 1000 := Nat.le_trans (List.length_filter_le _ _) (by rw [List.length_take]; omega)
    refine ⟨rfl, _, rfl, _, _, _, _, rfl, rfl, SqT.of hq', at_of (j := 2) rfl rfl, rfl, _, rfl, ?_⟩
    show if decide (V.int p.c = V.int (-1)) = true then _ else _
    rw [show decide (V.int p.c = V.int (-1)) = decide (p.c = -1) from decide_eq_decide.mpr ⟨fun h => by injection h, fun h => by rw [h]⟩]
    cases ec : decide (p.c = -1) with
    | false =>
      refine iteF ⟨sm, fs, ?_⟩
      rw [if_neg (by decide), List.append_nil]
      exact hL
    | true =>
      have kk : TupK H' (upd H' D (.lst (fs.map V.ref ++ [V.ref e]))) := .set hL.l
      refine iteT ⟨_, rfl, _, hL.l, by rw [List.length_map, hL.e.1]; exact sizes' (by omega), fun c w hcw => ?_, fs ++ [e], ?_⟩
      · rw [upd_ne (ne_of_none hcw hD)]
        exact sm _ _ hcw
      · rw [if_pos rfl]
        exact ⟨by rw [upd_same, List.map_append]; rfl, (hL.e.keep fun _ _ z => kk.1 _ _ z).snoc (kk.1 _ _ hq')⟩
  · rintro H' ⟨sm, fs, hL⟩
    rw [List.length_map, hP.e.1, List.take_length] at hL
    exact q D fs H' sm hD hL
def sp_Table_distance (K : PySem.W.Frag) (CT : Addr) : Sp := fun vs H Q _ => ∃ (t pl rw a b : Addr) (T : TbM) (rs : List Addr) (p q : Pt), vs = [.ref t, .ref a, .ref b] ∧ TbAt CT H t T pl rw rs ∧ SqT K H a [.int p.d, .int p.n, .int p.c] ∧ SqT K H b [.int q.d, .int q.n, .int q.c] ∧ p ∈ T.pts ∧ q ∈ T.pts ∧ Q (hiV (distM T p q)) H
theorem ok_Table_distance {f : Addr} {fd : FuncData} {CT : Addr} (TTb : Ck_Table K mg CT) (D : Mt K CT "distance" "Table.distance" s_Table_distance ["self", "first", "second"] f fd) (T : Txt K mg) : FnOk P w K mg base CX0 1 f fd ["self", "first", "second"] (sp_Table_distance K CT) := by
  refine D.F.ok sc_Table_distance (fun vs H Q E h => ?_) (fun cdv A outer s H vs Q E hr h => ?_)
  · obtain ⟨t, pl, rw, a, b, T, rs, p, q, rfl, _⟩ := h
    rfl
  obtain ⟨t, pl, rw, a, b, Tm, rs, p, q_, rfl, hT, ha, hb, mp, mq, q⟩ := h
  refine ⟨_, (pss_one (ps_ret (pe_ix ix_list (pe_ix ix_list (pe_fld (pv 0) rfl) (pe_dgetR K rfl (hu_of hr) (pe_fld (pv 0) rfl) (pv 1) (fun _ _ => rfl)) (fun _ _ => rfl)) (pe_dgetR K rfl (hu_of hr) (pe_fld (pv 0) rfl) (pv 2) (fun _ _ => rfl)) (fun _ _ => rfl)))), ?_⟩
  obtain ⟨dx, hp⟩ := hT.ins
  have ip := idx_get mp
  have iq := idx_get mq
  have lp := List.idxOf_lt_length_iff.mpr mp
  have lq := List.idxOf_lt_length_iff.mpr mq
  obtain ⟨ra, h1, h2, h3⟩ := hT.row lp
  refine ⟨_, rfl, _, _, _, _, _, rfl, hp, TTb.cl, TTb.n__rows, lk_Table__rows, _, rfl, _, _, _, _, _, rfl, hp, TTb.cl, TTb.n__places, lk_Table__places, _, rfl, _, _, ptK p, _, _, rfl, hT.hpl, rfl, ha, plK_val hT.ok.nd ip, _, _, _, _, rfl, rfl, SqL.of hT.hrw, at_of (j := Tm.pts.idxOf p) rfl (by rw [List.getElem?_map, h1]; rfl), ?_⟩
  refine ⟨_, rfl, _, _, _, _, _, rfl, hp, TTb.cl, TTb.n__places, lk_Table__places, _, rfl, _, _, ptK q_, _, _, rfl, hT.hpl, rfl, hb, plK_val hT.ok.nd iq, _, _, _, _, rfl, rfl, SqL.of h2, at_of (j := Tm.pts.idxOf q_) rfl (by rw [List.getElem?_map, getD_ix (d := none) (by rw [h3]; exact lq)]; rfl), q⟩
def sp_says_more (K : PySem.W.Frag) (CT : Addr) : Sp := fun vs H Q _ => ∃ (t pl rw u pl2 rw2 a b : Addr) (T U : TbM) (rs rs2 : List Addr) (p q : Pt), vs = [.ref t, .ref u, .ref a, .ref b] ∧ TbAt CT H t T pl rw rs ∧ TbAt CT H u U pl2 rw2 rs2 ∧ PtAt H a p ∧ PtAt H b q ∧ p ∈ T.pts ∧ q ∈ T.pts ∧ p ∈ U.pts ∧ q ∈ U.pts ∧ Q (.bl (moreB (distM T p q) (distM U p q))) H
theorem ok_says_more {f : Addr} {fd : FuncData} {CT : Addr} (TTb : Ck_Table K mg CT) (D : Df K mg "says_more" s_says_more ["own", "other", "first", "second"] f fd) (T : Txt K mg) {f_Table_distance : Addr} {fd_Table_distance : FuncData} (M_Table_distance : Mt K CT "distance" "Table.distance" s_Table_distance ["self", "first", "second"] f_Table_distance fd_Table_distance) (G_Table_distance : FnOk P w K mg base CX0 1 f_Table_distance fd_Table_distance ["self", "first", "second"] (sp_Table_distance K CT)) : FnOk P w K mg base CX0 2 f fd ["own", "other", "first", "second"] (sp_says_more K CT) := by
  refine D.F.ok sc_says_more (fun vs H Q E h => ?_) (fun cdv A outer s H vs Q E hr h => ?_)
  · obtain ⟨t, pl, rw, u, pl2, rw2, a, b, T, U, rs, rs2, p, q, rfl, _⟩ := h
    rfl
  obtain ⟨t, pl, rw, u, pl2, rw2, a, b, Tm, U, rs, rs2, p, q_, rfl, ht, hu, ha, hb, mp, mq, np, nq, q⟩ := h
  refine ⟨_, (pss_cons (ps_set (i := 4) sc_says_more.nd rfl (Or.inl rfl) (pe_meth (pv 0) TTb.cl M_Table_distance.m G_Table_distance (hr.mono (by decide)) M_Table_distance.b .nil pass0 (pa_cons (pv 2) (pa_cons (pv 3) pa_nil))))
    (pss_cons (ps_if (pt_cmpR op_isN (pv 4) pe_non (nomark _))
      (pss_one (ps_ret pe_bl))
      pss_nil)
    (pss_cons (ps_set (i := 5) sc_says_more.nd rfl (Or.inl rfl) (pe_meth (pv 1) TTb.cl M_Table_distance.m G_Table_distance (hr.mono (by decide)) M_Table_distance.b .nil pass0 (pa_cons (pv 2) (pa_cons (pv 3) pa_nil))))
    (pss_one (ps_ret (pe_or (pe_cmpR op_isN (pv 5) pe_non (nomark _)) (pe_one (pe_cmpR op_gt (pv 5) (pv 4) (nomark _))))))))), ?_⟩
  obtain ⟨dx, hx⟩ := ht.ins
  obtain ⟨dy, hy⟩ := hu.ins
  refine ⟨_, rfl, _, _, _, rfl, hx, no_Table, _, rfl, _, rfl, t, pl, rw, a, b, Tm, rs, p, q_, rfl, ht, SqT.of ha, SqT.of hb, mp, mq, ?_⟩
  refine ⟨_, rfl, rfl, _, rfl, ?_⟩
  show if decide (hiV (distM Tm p q_) = V.non) = true then _ else _
  rw [hvN]
  cases hd : distM Tm p q_ with
  | none =>
    rw [hd] at q
    exact iteT q
  | some d =>
    rw [hd] at q
    refine iteF ⟨_, rfl, _, _, _, rfl, hy, no_Table, _, rfl, _, rfl, u, pl2, rw2, a, b, U, rs2, p, q_, rfl, hu, SqT.of ha, SqT.of hb, np, nq, ?_⟩
    refine ⟨_, rfl, rfl, _, rfl, ?_⟩
    show if decide (hiV (distM U p q_) = V.non) = true then _ else _
    rw [hvN]
    cases hr : distM U p q_ with
    | none =>
      rw [hr] at q
      exact iteT q
    | some r =>
      rw [hr] at q
      exact iteF ⟨_, rfl, _, rfl, _, _, rfl, rfl, q⟩
def sp_Table_points (K : PySem.W.Frag) (CT : Addr) : Sp := fun vs H Q _ => ∃ (t pl rw : Addr) (T : TbM) (rs : List Addr), vs = [.ref t] ∧ TbAt CT H t T pl rw rs ∧ ∀ (l : Addr) (bs : List Addr) (H' : Hp), Same H H' → H l = none → PtL H' l bs T.pts → Q (.ref l) H'
theorem ok_Table_points {f : Addr} {fd : FuncData} {CT : Addr} (TTb : Ck_Table K mg CT) (D : Pr K CT "points" "Table.points" s_Table_points ["self"] f fd) (T : Txt K mg) : FnOk P w K mg base CX0 1 f fd ["self"] (sp_Table_points K CT) := by
  refine D.F.ok sc_Table_points (fun vs H Q E h => ?_) (fun cdv A outer s H vs Q E hr h => ?_)
  · obtain ⟨t, pl, rw, T, rs, rfl, _⟩ := h
    rfl
  obtain ⟨t, pl, rw, Tm, rs, rfl, hT, q⟩ := h
  refine ⟨_, (pss_one (ps_ret (pe_callTy (call_list_dT rfl) rfl T.list (by decide +kernel) (pa_cons (pe_fld (pv 0) rfl) pa_nil)))), ?_⟩
  obtain ⟨dx, hp⟩ := hT.ins
  refine ⟨_, rfl, _, _, _, _, _, rfl, hp, TTb.cl, TTb.n__places, lk_Table__places, _, _, rfl, .inl hT.hpl, fun l bs hl hk => ?_⟩
  have s := same_upd (o := .lst (bs.map V.ref)) hl
  refine q l bs _ s hl ⟨upd_same, ?_, fun i a p h1 h2 => ?_⟩
  · rw [← hk.length, plK_len]
  · have h3 := paired_at hk (plK_get h2)
    obtain ⟨b, h4, h5⟩ := h3
    rw [h1] at h4
    cases h4
    exact s _ _ h5
def sp_adds_nothing (K : PySem.W.Frag) (CT : Addr) : Sp := fun vs H Q _ => ∃ (t pl rw u pl2 rw2 : Addr) (T U : TbM) (rs rs2 : List Addr), vs = [.ref t, .ref u] ∧ TbAt CT H t T pl rw rs ∧ TbAt CT H u U pl2 rw2 rs2 ∧ (∀ p ∈ evtP T.pts, p ∈ U.pts) ∧ T.pts.length ≤ 40 ∧ ∀ H', Same H H' → Q (.bl (nothB T U)) H'
set_option maxHeartbeats 2000000 in
theorem ok_adds_nothing {f : Addr} {fd : FuncData} {CT : Addr} (TTb : Ck_Table K mg CT) (D : Df K mg "adds_nothing" s_adds_nothing ["own", "other"] f fd) (T : Txt K mg) {f_event_points : Addr} {fd_event_points : FuncData} (D_event_points : Df K mg "event_points" s_event_points ["points"] f_event_points fd_event_points) (G_event_points : FnOk P w K mg base CX0 1 f_event_points fd_event_points ["points"] (sp_event_points K)) {f_says_more : Addr} {fd_says_more : FuncData} (D_says_more : Df K mg "says_more" s_says_more ["own", "other", "first", "second"] f_says_more fd_says_more) (G_says_more : FnOk P w K mg base CX0 2 f_says_more fd_says_more ["own", "other", "first", "second"] (sp_says_more K CT)) {f_Table_points : Addr} {fd_Table_points : FuncData} (M_Table_points : Pr K CT "points" "Table.points" s_Table_points ["self"] f_Table_points fd_Table_points) (G_Table_points : FnOk P w K mg base CX0 1 f_Table_points fd_Table_points ["self"] (sp_Table_points K CT)) {f_Table_possible : Addr} {fd_Table_possible : FuncData} (M_Table_possible : Pr K CT "possible" "Table.possible" s_Table_possible ["self"] f_Table_possible fd_Table_possible) (G_Table_possible : FnOk P w K mg base CX0 1 f_Table_possible fd_Table_possible ["self"] (sp_Table_possible K CT)) : FnOk P w K mg base CX0 3 f fd ["own", "other"] (sp_adds_nothing K CT) := by
  refine D.F.ok sc_adds_nothing (fun vs H Q E h => ?_) (fun cdv A outer s H vs Q E hr h => ?_)
  · obtain ⟨t, pl, rw, u, pl2, rw2, T, U, rs, rs2, rfl, _⟩ := h
    rfl
  obtain ⟨t, pl, rw, u, pl2, rw2, Tm, U, rs, rs2, rfl, ht, hu, sub, few, q⟩ := h
  refine ⟨_, (pss_cons (ps_if (pt_not (pt_val (pe_propE (pv 0) TTb.cl M_Table_possible.m G_Table_possible (hr.mono (by decide)) M_Table_possible.b .nil pass0 rfl)))
      (pss_one (ps_ret pe_bl))
      pss_nil)
    (pss_cons (ps_set (i := 2) sc_adds_nothing.nd rfl (Or.inr rfl) (pe_call G_event_points (hr.mono (by decide)) rfl D_event_points.m D_event_points.F.kp D_event_points.b .nil pass0 (pa_cons (pe_propE (pv 0) TTb.cl M_Table_points.m G_Table_points (hr.mono (by decide)) M_Table_points.b .nil pass0 rfl) pa_nil)))
    (pss_one (ps_ret (pe_not (pe_callB (cr_any rfl) rfl T.any (by decide +kernel) (pa_cons (pe_lc2 (own := [("first", 3), ("second", 4)]) (vs1 := [4]) (g := gName 3) (tt := tYes) (wi1 := (iList K (tVar 2))) (g1 := gName 4) (tt1 := tYes) rfl sc_adds_nothing.nd (pi_list (pv 2)) (blkOk_by (own := [("first", 3), ("second", 4)]) (N := nm_adds_nothing) (sc := defScope s_adds_nothing) (by decide +kernel)) (by decide) (fun _ _ _ _ _ => (pg_name (i := 3) sc_adds_nothing.nd rfl (Or.inl rfl))) (fun _ _ _ _ _ => pts_nil) (fun _ _ _ _ _ => (pi_list (pv 2))) (fun _ _ _ _ _ => (pg_name (i := 4) sc_adds_nothing.nd rfl (Or.inl rfl))) (fun _ _ _ _ _ => pts_nil) (fun _ _ _ _ _ => (pe_call G_says_more (hr.mono (by decide)) rfl D_says_more.m D_says_more.F.kp D_says_more.b .nil pass0 (pa_cons (pv 0) (pa_cons (pv 1) (pa_cons (pv 3) (pa_cons (pv 4) pa_nil))))))) pa_nil))))))), ?_⟩
  obtain ⟨dx, hx⟩ := ht.ins
  refine ⟨_, rfl, t, dx, _, rfl, hx, t, pl, rw, Tm, rs, rfl, ht, _, rfl, ?_⟩
  unfold nothB at q
  cases ok : Tm.ok with
  | false =>
    rw [ok] at q
    exact iteT (q H fun _ _ h => h)
  | true =>
    rw [ok, Bool.true_and] at q
    refine iteF ⟨_, rfl, t, dx, _, rfl, hx, t, pl, rw, Tm, rs, rfl, ht, fun l bs H1 s1 nl P1 => ⟨l, bs, _, rfl, P1, by omega, fun l2 cs H2 s2 nl2 P2 => ?_⟩⟩
    have s12 := s1.trans s2
    have lim : (evtP Tm.pts).length ≤ 40 := Nat.le_trans (List.length_filter_le _ _) few
    have evs : ∀ p ∈ evtP Tm.pts, p ∈ Tm.pts := fun p m => (evtP_mem.mp m).1
    generalize evtP Tm.pts = es at *
    have bl : ∀ i, ((es.take i).flatMap fun p => es.map fun r => moreB (distM Tm p r) (distM U p r)).length ≤ 40 * i := fun i => by
      rw [List.length_flatMap]
      have : ((es.take i).map fun p => (es.map fun r => moreB (distM Tm p r) (distM U p r)).length) = (es.take i).map fun _ => es.length := List.map_congr_left fun _ _ => List.length_map _
      rw [this]
      rw [List.map_const', List.sum_replicate_nat, List.length_take]
      have h1 : min i es.length ≤ i := by omega
      calc min i es.length * es.length ≤ i * 40 := Nat.mul_le_mul h1 lim
        _ = 40 * i := Nat.mul_comm _ _
    refine ⟨_, rfl, _, rfl, ⟨_, SqL.of P2.l⟩, fun D hD => it_list (K := K) (a := l2) (xs := cs.map V.ref) (fun i H' => Same H2 H' ∧ H' D = some (.lst (((es.take i).flatMap fun p => es.map fun r => moreB (distM Tm p r) (distM U p r)).map V.bl))) ⟨same_upd hD, upd_same⟩ (fun i H' _ z => SqL.of (z.1 _ _ P2.l)) ?_ ?_⟩
    · rintro i v H3 hv ⟨s3, e3⟩
      obtain ⟨b, hb, rfl⟩ := ref_of hv
      obtain ⟨p, hp, hq⟩ := P2.e.get hb
      have hi : i < es.length := (List.getElem?_eq_some_iff.mp hp).1
      have mp := List.mem_of_getElem? hp
      have bli := bl i
      have st : (es.take (i + 1)).flatMap (fun p => es.map fun r => moreB (distM Tm p r) (distM U p r)) = (es.take i).flatMap (fun p => es.map fun r => moreB (distM Tm p r) (distM U p r)) ++ es.map fun r => moreB (distM Tm p r) (distM U p r) := by
        rw [List.take_add_one, hp, List.flatMap_append]
        simp
      rw [st]
      generalize (es.take i).flatMap (fun p => es.map fun r => moreB (distM Tm p r) (distM U p r)) = J at *
      refine ⟨rfl, _, rfl, _, rfl, ⟨_, SqL.of (s3 _ _ P2.l)⟩, it_list (K := K) (a := l2) (xs := cs.map V.ref) (fun j H' => Same H2 H' ∧ H' D = some (.lst ((J ++ (es.take j).map fun r => moreB (distM Tm p r) (distM U p r)).map V.bl))) ⟨s3, by rw [List.take_zero, List.map_nil, List.append_nil]; exact e3⟩ (fun i H' _ z => SqL.of (z.1 _ _ P2.l)) ?_ ?_⟩
      · rintro j w H4 hw ⟨s4, e4⟩
        obtain ⟨b2, hb2, rfl⟩ := ref_of hw
        obtain ⟨r, hr, hq2⟩ := P2.e.get hb2
        have hj : j < es.length := (List.getElem?_eq_some_iff.mp hr).1
        have mr := List.mem_of_getElem? hr
        have s14 := s12.trans s4
        refine ⟨rfl, _, rfl, _, rfl, _, rfl, _, rfl, t, pl, rw, u, pl2, rw2, b, b2, Tm, U, rs, rs2, p, r, rfl, ht.keep s14, hu.keep s14, s4 _ _ hq, s4 _ _ hq2, evs _ mp, evs _ mr, sub _ mp, sub _ mr, ?_⟩
        refine ⟨_, e4, ?_, fun c z h => ?_, ?_⟩
        · rw [List.length_map, List.length_append, List.length_map, List.length_take]
          exact sizes' (by omega)
        · rw [upd_ne (ne_of_none h hD)]
          exact s4 _ _ h
        · rw [upd_same, List.take_add_one, hr]
          simp
      · rintro H4 ⟨s4, e4⟩
        rw [List.length_map, P2.e.1, List.take_length] at e4
        exact ⟨s4, e4⟩
    rintro H3 ⟨s3, e3⟩
    rw [List.length_map, P2.e.1, List.take_length] at e3
    refine ⟨_, _, rfl, SqL.of e3, _, rfl, ?_⟩
    have z := q H3 (s12.trans s3)
    rw [show (es.any fun p => es.any fun q => moreB (distM Tm p q) (distM U p q)) = ((es.flatMap fun p => es.map fun r => moreB (distM Tm p r) (distM U p r)).any id) by rw [List.any_flatMap]; congr 1; funext p; rw [List.any_map]; rfl] at z
    exact z
def sp_is_surely_right (K : PySem.W.Frag) (CT : Addr) : Sp := fun vs H Q _ => ∃ (pa : Int) (b l : Addr) (es fs : List Addr) (bds : List Bd) (zs : List (List Int × TbM)), vs = [.int pa, .ref b, .ref l] ∧ BnL H b es bds ∧ PrC CT H l fs zs ∧ (∀ z ∈ bds, z.one ∈ ptsL ∧ z.two ∈ ptsL) ∧ bds.length ≤ 30 ∧ (∀ z ∈ zs, ∀ p ∈ evtP (tabM (ownB bds pa) []).pts, p ∈ z.2.pts) ∧ zs.length ≤ 1000 ∧ ∀ H', Same H H' → Q (.bl (zs.all fun z => !z.1.contains pa || nothB (tabM (ownB bds pa) []) z.2)) H'
set_option maxHeartbeats 2000000 in
theorem ok_is_surely_right {f : Addr} {fd : FuncData} {CT : Addr} (TTb : Ck_Table K mg CT) (D : Df K mg "is_surely_right" s_is_surely_right ["part", "bounds", "tables"] f fd) (T : Txt K mg) {f_table_of : Addr} {fd_table_of : FuncData} (D_table_of : Df K mg "table_of" s_table_of ["bounds", "points"] f_table_of fd_table_of) (G_table_of : FnOk P w K mg base CX0 4 f_table_of fd_table_of ["bounds", "points"] (sp_table_of K CT)) {f_adds_nothing : Addr} {fd_adds_nothing : FuncData} (D_adds_nothing : Df K mg "adds_nothing" s_adds_nothing ["own", "other"] f_adds_nothing fd_adds_nothing) (G_adds_nothing : FnOk P w K mg base CX0 3 f_adds_nothing fd_adds_nothing ["own", "other"] (sp_adds_nothing K CT)) : FnOk P w K mg base CX0 5 f fd ["part", "bounds", "tables"] (sp_is_surely_right K CT) := by
  refine D.F.ok sc_is_surely_right (fun vs H Q E h => ?_) (fun cdv A outer s H vs Q E hr h => ?_)
  · obtain ⟨pa, b, l, es, fs, bds, zs, rfl, _⟩ := h
    rfl
  obtain ⟨pa, b, l, es, fs, bds, zs, rfl, hB, hL, hm, few, sub, many, q⟩ := h
  refine ⟨_, (pss_cons (ps_set (i := 3) sc_is_surely_right.nd rfl (Or.inr rfl) (pe_call G_table_of (hr.mono (by decide)) rfl D_table_of.m D_table_of.F.kp D_table_of.b .nil pass0 (pa_cons (pe_lc (own := [("bound", 4)]) (g := gName 4) (tt := _) rfl sc_is_surely_right.nd (pi_list (pv 1)) (blkOk_by (own := [("bound", 4)]) (N := nm_is_surely_right) (sc := defScope s_is_surely_right) (by decide +kernel)) (fun _ _ _ _ _ => (pg_name (i := 4) sc_is_surely_right.nd rfl (Or.inl rfl))) (fun _ _ _ _ _ => (pts_one (pt_cmpR op_eq (pe_ix (r := rIxT K) ix_tup (pv 4) pe_int (fun _ _ => rfl)) (pv 0) (nomark _)))) (fun _ _ _ _ _ => (pv 4))) (pa_cons (pe_lst pa_nil) pa_nil))))
    (pss_one (ps_ret (pe_callB (cr_all rfl) rfl T.all (by decide +kernel) (pa_cons (pe_lc (own := [("choice", 5), ("table", 6)]) (g := (gTup K 2 (gCons (gName 5) (gCons (gName 6) gNil)))) (tt := _) rfl sc_is_surely_right.nd (pi_list (pv 2)) (blkOk_by (own := [("choice", 5), ("table", 6)]) (N := nm_is_surely_right) (sc := defScope s_is_surely_right) (by decide +kernel)) (fun _ _ _ _ _ => (pg_tup rfl (pgs_cons (pg_name (i := 5) sc_is_surely_right.nd rfl (Or.inl rfl)) (pgs_cons (pg_name (i := 6) sc_is_surely_right.nd rfl (Or.inl rfl)) pgs_nil)))) (fun _ _ _ _ _ => (pts_one (pt_cmpR (r := rIn K false) op_in_seq (pv 0) (pv 5) (by rfl)))) (fun _ _ _ _ _ => (pe_call G_adds_nothing (hr.mono (by decide)) rfl D_adds_nothing.m D_adds_nothing.F.kp D_adds_nothing.b .nil pass0 (pa_cons (pv 3) (pa_cons (pv 6) pa_nil))))) pa_nil))))), ?_⟩
  refine ⟨_, rfl, _, rfl, ⟨_, SqL.of hB.l⟩, fun D hD => lc_list (K := K) (a := b) (xs := es.map V.ref) (fun i H' => Same H H' ∧ ∃ gs, BnL H' D gs (ownB (bds.take i) pa)) ⟨same_upd hD, [], upd_same, Each.nil⟩ (fun i H' _ p => SqL.of (p.1 _ _ hB.l)) ?_ ?_⟩
  · rintro i v H' hv ⟨sm, gs, hG⟩
    obtain ⟨e, he, rfl⟩ := ref_of hv
    obtain ⟨z, hz, hq⟩ := hB.e.get he
    have hq' := hq.tk (TupK.of sm)
    obtain ⟨x, y, ht, hx, hy⟩ := id hq'
    have hi : i < bds.length := (List.getElem?_eq_some_iff.mp hz).1
    refine ⟨rfl, _, rfl, _, _, _, _, rfl, rfl, SqT.of ht, at_of (j := 3) rfl rfl, _, rfl, rfl, _, rfl, ?_⟩
    show if decide (V.int z.part = V.int pa) = true then _ else _
    rw [show decide (V.int z.part = V.int pa) = decide (z.part = pa) from decide_eq_decide.mpr ⟨fun h => by injection h, fun h => by rw [h]⟩]
    have hfl : (ownB (bds.take i) pa).length ≤ 10000 := Nat.le_trans (List.length_filter_le _ _) (by rw [List.length_take]; omega)
    rw [own_step hz]
    cases ec : decide (z.part = pa) with
    | false =>
      refine iteF ⟨sm, gs, ?_⟩
      rw [if_neg (by decide), List.append_nil]
      exact hG
    | true =>
      have kk : TupK H' (upd H' D (.lst (gs.map V.ref ++ [V.ref e]))) := .set hG.l
      refine iteT ⟨_, rfl, _, hG.l, by rw [List.length_map, hG.e.1]; exact sizes' (by omega), fun c w hcw => ?_, gs ++ [e], ?_⟩
      · rw [upd_ne (ne_of_none hcw hD)]
        exact sm _ _ hcw
      · rw [if_pos rfl]
        exact ⟨by rw [upd_same, List.map_append]; rfl, (hG.e.keep fun _ _ z => z.tk kk).snoc (hq'.tk kk)⟩
  rintro H1 ⟨s1, gs, G1⟩
  rw [List.length_map, hB.e.1, List.take_length] at G1
  refine ⟨by show 0 ≤ sizeLine; decide, fun em nem => ?_⟩
  obtain ⟨s2, h2⟩ := fr (rfl : upd H1 em (.lst []) = _) nem
  generalize upd H1 em (.lst []) = H2 at *
  have ol := own_len bds pa
  have om : ∀ z ∈ ownB bds pa, z.one ∈ ptsL ∧ z.two ∈ ptsL := fun z h => hm z (own_mem h)
  have nf : (namesM [] (ownB bds pa)).length ≤ 7 := names_few om fun p h => by cases h
  have op : (tabM (ownB bds pa) []).pts = namesM [] (ownB bds pa) := tabM_pts _ _
  refine ⟨D, em, gs, [], ownB bds pa, [], rfl, G1.keep s2, ⟨h2, Each.nil⟩, by omega, by show 0 + _ ≤ 1000; omega, fun t pl rw rs H3 s3 n3 t3 => ?_⟩
  have t3 : TbAt CT H3 t (tabM (ownB bds pa) []) pl rw rs := t3
  generalize tabM (ownB bds pa) [] = Tm at *
  have s13 := s1.trans (s2.trans s3)
  have L3 := hL.keep s13
  have stp : ∀ {i : Nat} {z : List Int × TbM}, zs[i]? = some z → ((zs.take (i + 1)).filter fun z => z.1.contains pa).map (fun z => nothB Tm z.2) = ((zs.take i).filter fun z => z.1.contains pa).map (fun z => nothB Tm z.2) ++ (if z.1.contains pa = true then [nothB Tm z.2] else []) := fun {i z} hz => by
    rw [filter_take hz, List.map_append]
    split <;> rfl
  refine ⟨_, rfl, _, rfl, ⟨_, SqL.of L3.l⟩, fun E hE => lc_list (K := K) (a := l) (xs := fs.map V.ref) (fun i H' => Same H3 H' ∧ H' E = some (.lst ((((zs.take i).filter fun z => z.1.contains pa).map fun z => nothB Tm z.2).map V.bl))) ⟨same_upd hE, upd_same⟩ (fun i H' _ p => SqL.of (p.1 _ _ L3.l)) ?_ ?_⟩
  · rintro i v H4 hv ⟨s4, e4⟩
    obtain ⟨e, he, rfl⟩ := ref_of hv
    obtain ⟨z, hz, c, u, pl2, rw2, rs2, he2, hc2, hu⟩ := L3.e.get he
    have hi : i < zs.length := (List.getElem?_eq_some_iff.mp hz).1
    have len : (((zs.take i).filter fun z => z.1.contains pa).map fun z => nothB Tm z.2).length ≤ i := by
      rw [List.length_map]
      exact Nat.le_trans (List.length_filter_le _ _) (by rw [List.length_take]; omega)
    rw [stp hz]
    generalize ((zs.take i).filter fun z => z.1.contains pa).map (fun z => nothB Tm z.2) = J at *
    refine ⟨_, _, rfl, SqT.of (s4 _ _ he2), rfl, _, _, rfl, _, _, rfl, rfl, rfl, _, rfl, _, rfl, _, _, rfl, .inr (SqT.of (s4 _ _ hc2)), rfl, flat_ints _, _, rfl, ?_⟩
    rw [inV_int]
    cases ec : z.1.contains pa with
    | false =>
      refine iteF ⟨s4, ?_⟩
      rw [if_neg (by decide), List.append_nil]
      exact e4
    | true =>
      refine iteT ⟨_, rfl, _, rfl, t, pl, rw, u, pl2, rw2, Tm, z.2, rs, rs2, rfl, t3.keep s4, hu.keep s4, sub z (List.mem_of_getElem? hz), by rw [op]; omega, fun H5 s5 => ?_⟩
      refine ⟨_, s5 _ _ e4, ?_, fun c w hcw => ?_, ?_⟩
      · rw [List.length_map]
        exact sizes' (by omega)
      · rw [upd_ne (ne_of_none hcw hE)]
        exact s5 _ _ (s4 _ _ hcw)
      · rw [upd_same, if_pos rfl, List.map_append]
        rfl
  rintro H4 ⟨s4, e4⟩
  rw [List.length_map, L3.e.1, List.take_length] at e4
  refine ⟨_, _, rfl, SqL.of e4, ?_⟩
  have z := q H4 (s13.trans s4)
  rw [show (zs.all fun z => !z.1.contains pa || nothB Tm z.2) = (((zs.filter fun z => z.1.contains pa).map fun z => nothB Tm z.2).all id) by rw [List.all_map, List.all_filter]; rfl] at z
  exact z
theorem boot_all : bootBuiltins "all" = some (.builtin "all") := by decide +kernel
def scN_guilt : Scope := { kind := .function, names := [(Str.ofString ".0", .local), (Str.ofString "part", .cell), (Str.ofString "all", .globalImplicit), (Str.ofString "tables", .cell)], isGenerator := false, isCoroutine := false }
def sp_guilt_of (K : PySem.W.Frag) (CT : Addr) : Sp := fun vs H Q _ => ∃ (b : Addr) (es : List Addr) (bds : List Bd) (n k : Nat), vs = [.ref b, .int (n : Int), .int (k : Int)] ∧ BnL H b es bds ∧ (∀ z ∈ bds, z.one ∈ ptsL ∧ z.two ∈ ptsL) ∧ bds.length ≤ 15 ∧ n < 10 ∧ k < 4 ∧
  ∀ v H', Same H H' → GuR bds n ((rowsF n k).map chI) H H' v → Q v H'
set_option maxHeartbeats 4000000 in
theorem ok_guilt_of {f : Addr} {fd : FuncData} {CT : Addr} (TTb : Ck_Table K mg CT) (D : Df K mg "guilt_of" s_guilt_of ["bounds", "parts", "faults"] f fd) (T : Txt K mg) {f_all_choices : Addr} {fd_all_choices : FuncData} (D_all_choices : Df K mg "all_choices" s_all_choices ["parts", "faults"] f_all_choices fd_all_choices) (G_all_choices : FnOk P w K mg base CX0 1 f_all_choices fd_all_choices ["parts", "faults"] (sp_all_choices K)) {f_possible_tables : Addr} {fd_possible_tables : FuncData} (D_possible_tables : Df K mg "possible_tables" s_possible_tables ["bounds", "choices", "points"] f_possible_tables fd_possible_tables) (G_possible_tables : FnOk P w K mg base CX0 5 f_possible_tables fd_possible_tables ["bounds", "choices", "points"] (sp_possible_tables K CT)) {f_event_points : Addr} {fd_event_points : FuncData} (D_event_points : Df K mg "event_points" s_event_points ["points"] f_event_points fd_event_points) (G_event_points : FnOk P w K mg base CX0 1 f_event_points fd_event_points ["points"] (sp_event_points K)) {f_is_surely_right : Addr} {fd_is_surely_right : FuncData} (D_is_surely_right : Df K mg "is_surely_right" s_is_surely_right ["part", "bounds", "tables"] f_is_surely_right fd_is_surely_right) (G_is_surely_right : FnOk P w K mg base CX0 5 f_is_surely_right fd_is_surely_right ["part", "bounds", "tables"] (sp_is_surely_right K CT)) : FnOk P w K mg base CX0 6 f fd ["bounds", "parts", "faults"] (sp_guilt_of K CT) := by
  refine D.F.ok sc_guilt_of (fun vs H Q E h => ?_) (fun cdv A outer s H vs Q E hr h => ?_)
  · obtain ⟨b, es, bds, n, k, rfl, _⟩ := h
    rfl
  obtain ⟨b, es, bds, n, k, rfl, hB, hm, few, hn, hk, qq⟩ := h
  refine ⟨_, (pss_cons (ps_set (i := 3) sc_guilt_of.nd rfl (Or.inl rfl) (pe_call G_event_points (hr.mono (by decide)) rfl D_event_points.m D_event_points.F.kp D_event_points.b .nil pass0 (pa_cons (pe_lc2 (own := [("bound", 8), ("point", 9)]) (vs1 := [9]) (g := gName 8) (tt := tYes) (wi1 := (iTup K (tSl (rSlT K) (tVar 8) _ _))) (g1 := gName 9) (tt1 := tYes) rfl sc_guilt_of.nd (pi_list (pv 0)) (blkOk_by (own := [("bound", 8), ("point", 9)]) (N := nm_guilt_of) (sc := defScope s_guilt_of) (by decide +kernel)) (by decide) (fun _ _ _ _ _ => (pg_name (i := 8) sc_guilt_of.nd rfl (Or.inl rfl))) (fun _ _ _ _ _ => pts_nil) (fun _ _ _ _ _ => (pi_tup (pe_slice sl_tup (pv 8) po_none (po_some pe_int)))) (fun _ _ _ _ _ => (pg_name (i := 9) sc_guilt_of.nd rfl (Or.inl rfl))) (fun _ _ _ _ _ => pts_nil) (fun _ _ _ _ _ => (pv 9))) pa_nil)))
    (pss_cons (ps_set (i := 4) sc_guilt_of.nd rfl (Or.inr rfl) (pe_call G_possible_tables (hr.mono (by decide)) rfl D_possible_tables.m D_possible_tables.F.kp D_possible_tables.b .nil pass0 (pa_cons (pv 0) (pa_cons (pe_call G_all_choices (hr.mono (by decide)) rfl D_all_choices.m D_all_choices.F.kp D_all_choices.b .nil pass0 (pa_cons (pv 1) (pa_cons (pv 2) pa_nil))) (pa_cons (pv 3) pa_nil)))))
    (pss_cons (ps_if (pt_not (pt_truth (pv 4) (by intro _; rfl)))
      (pss_one (ps_ret pe_non))
      pss_nil)
    (pss_cons (ps_setLc (i := 5) (own := [("part", 7)]) (g := gName 7) (tt := tB (tCB (rAll K) (tCons (tLc (iList K (tVar 4)) (gTup K 2 (gCons (gName 10) (gCons (gName 11) gNil))) tYes (tOp (rIn K false) (tVar 7) (tVar 10)) [10, 11]) tNil))) rfl sc_guilt_of.nd rfl rfl (sw_true rfl rfl rfl (by decide +kernel)) (pi_range1 rfl T.range (pa_cons (pv 1) pa_nil)) (blkOk_by (own := [("part", 7)]) (N := nm_guilt_of) (sc := defScope s_guilt_of) (by decide +kernel)) (fun _ _ _ _ _ => (pg_name (i := 7) sc_guilt_of.nd rfl (Or.inr rfl))) (fun _ _ _ _ _ => (pts_one (pt_val (pe_callB (cr_all rfl) rfl T.all boot_all (pa_cons (pe_lc (wi := iList K (tVar 4)) (own := [("choice", 10), ("_", 11)]) (g := (gTup K 2 (gCons (gName 10) (gCons (gName 11) gNil)))) (tt := tYes) rfl sc_guilt_of.nd (pi_list (pv 4)) (blkOk_by (own := [("choice", 10), ("_", 11)]) (N := nm_guilt_of) (sc := scN_guilt) (by decide +kernel)) (fun _ _ _ _ _ => (pg_tup rfl (pgs_cons (pg_name (i := 10) sc_guilt_of.nd rfl (Or.inl rfl)) (pgs_cons (pg_name (i := 11) sc_guilt_of.nd rfl (Or.inl rfl)) pgs_nil)))) (fun _ _ _ _ _ => pts_nil) (fun _ _ _ _ _ => (pe_cmpR (r := rIn K false) op_in_seq (pv 7) (pv 10) (by rfl)))) pa_nil))))) (fun _ _ _ _ _ => (pv 7)))
    (pss_cons (ps_setLc (i := 6) (own := [("part", 7)]) (g := gName 7) (tt := _) rfl sc_guilt_of.nd rfl rfl (sw_true rfl rfl rfl (by decide +kernel)) (pi_range1 rfl T.range (pa_cons (pv 1) pa_nil)) (blkOk_by (own := [("part", 7)]) (N := nm_guilt_of) (sc := defScope s_guilt_of) (by decide +kernel)) (fun _ _ _ _ _ => (pg_name (i := 7) sc_guilt_of.nd rfl (Or.inl rfl))) (fun _ _ _ _ _ => (pts_one (pt_val (pe_call G_is_surely_right (hr.mono (by decide)) rfl D_is_surely_right.m D_is_surely_right.F.kp D_is_surely_right.b .nil pass0 (pa_cons (pv 7) (pa_cons (pv 0) (pa_cons (pv 4) pa_nil))))))) (fun _ _ _ _ _ => (pv 7)))
    (pss_one (ps_ret (pe_tup (pa_cons (pv 5) (pa_cons (pv 6) pa_nil)))))))))), ?_⟩
  have q0 : posC bds ((rowsF n k).map chI) = [] → ∀ H', Same H H' → Q .non H' := fun h H' s => qq .non H' s (.inl ⟨h, rfl⟩)
  have q1 : posC bds ((rowsF n k).map chI) ≠ [] → ∀ (p l1 l2 : Addr) (H' : Hp), Same H H' → H l1 = none → H l2 = none → l1 ≠ l2 → H' p = some (.tup [.ref l1, .ref l2]) → H' l1 = some (.lst ((broM n (posC bds ((rowsF n k).map chI))).map V.int)) → H' l2 = some (.lst ((rigM bds n (posC bds ((rowsF n k).map chI))).map V.int)) → Q (.ref p) H' := fun h p l1 l2 H' s a b c d e f => qq (.ref p) H' s (.inr ⟨h, p, l1, l2, rfl, a, b, c, d, e, f⟩)
  clear qq
  have stp : ∀ {i : Nat} {z : Bd}, bds[i]? = some z → (bds.take (i + 1)).flatMap (fun b => [b.one, b.two]) = (bds.take i).flatMap (fun b => [b.one, b.two]) ++ [z.one, z.two] := fun {i z} hz => by
    rw [List.take_add_one, hz, List.flatMap_append]
    rfl
  have fl : ∀ i, ((bds.take i).flatMap fun b => [b.one, b.two]).length ≤ 30 := fun i => by
    rw [List.length_flatMap, show ((bds.take i).map fun b => [b.one, b.two].length) = (bds.take i).map fun _ => 2 from rfl, List.map_const', List.sum_replicate_nat, List.length_take]
    have : min i bds.length ≤ 15 := by omega
    omega
  refine ⟨_, rfl, _, rfl, ⟨_, SqL.of hB.l⟩, fun D hD => it_list (K := K) (a := b) (xs := es.map V.ref) (fun i H' => Same H H' ∧ ∃ fs, PtL H' D fs ((bds.take i).flatMap fun b => [b.one, b.two])) ⟨same_upd hD, [], upd_same, Each.nil⟩ (fun i H' _ z => SqL.of (z.1 _ _ hB.l)) ?_ ?_⟩
  · rintro i v H1 hv ⟨s1, fs, L1⟩
    obtain ⟨e, he, rfl⟩ := ref_of hv
    obtain ⟨z, hz, hq⟩ := hB.e.get he
    obtain ⟨x, y, ht0, hx, hy⟩ := hq
    have ht := s1 _ _ ht0
    have hi : i < bds.length := (List.getElem?_eq_some_iff.mp hz).1
    have fli := fl i
    rw [stp hz]
    generalize (bds.take i).flatMap (fun b => [b.one, b.two]) = J at *
    refine ⟨rfl, _, rfl, _, rfl, _, _, rfl, SqT.of ht, (by show ¬ (HT.sIx 4 0 none = 0 ∧ HT.sIx 4 4 (some 2) = 4); decide), fun p np => ?_⟩
    obtain ⟨s2, h2⟩ := fr (rfl : upd H1 p (.tup [.ref x, .ref y]) = _) np
    have L2 := L1.keep s2
    have s02 := s1.trans s2
    refine ⟨_, rfl, ⟨_, SqT.of h2⟩, it_tup (K := K) (a := p) (xs := [.ref x, .ref y]) (fun j H' => Same H H' ∧ H' p = some (.tup [.ref x, .ref y]) ∧ ∃ fs, PtL H' D fs (J ++ [z.one, z.two].take j)) ⟨s02, h2, fs, by rw [List.take_zero, List.append_nil]; exact L2⟩ (fun j H' _ w => SqT.of w.2.1) ?_ ?_⟩
    · rintro j v H3 hv ⟨s3, h3, gs, L3⟩
      have grow : ∀ (u : Addr) (r : Pt), PtAt H3 u r → ([z.one, z.two].take (j + 1) : List Pt) = [z.one, z.two].take j ++ [r] → j ≤ 2 → ∃ acc, H3 D = some (.lst acc) ∧ acc.length < sizeLine ∧ Same H (upd H3 D (.lst (acc ++ [V.ref u]))) ∧ upd H3 D (.lst (acc ++ [V.ref u])) p = some (.tup [.ref x, .ref y]) ∧ ∃ fs, PtL (upd H3 D (.lst (acc ++ [V.ref u]))) D fs (J ++ [z.one, z.two].take (j + 1)) := fun u r hu et hj => by
        have kk : TupK H3 (upd H3 D (.lst (gs.map V.ref ++ [V.ref u]))) := .set L3.l
        refine ⟨_, L3.l, ?_, fun c w hc => ?_, kk.1 _ _ h3, gs ++ [u], ?_⟩
        · rw [List.length_map, L3.e.1, List.length_append]
          have : ([z.one, z.two].take j).length ≤ 2 := List.length_take_le' j _
          exact sizes' (by omega)
        · rw [upd_ne (ne_of_none hc hD)]
          exact s3 _ _ hc
        · rw [et, ← List.append_assoc]
          exact ⟨by rw [upd_same, List.map_append]; rfl, (L3.e.keep fun _ _ z => kk.1 _ _ z).snoc (kk.1 _ _ hu)⟩
      match j, hv with
      | 0, hv =>
        cases hv
        exact ⟨rfl, _, rfl, grow x z.one (s3 _ _ hx) rfl (by decide)⟩
      | 1, hv =>
        cases hv
        exact ⟨rfl, _, rfl, grow y z.two (s3 _ _ hy) rfl (by decide)⟩
      | j + 2, hv => simp at hv
    · rintro H3 ⟨s3, h3, gs, L3⟩
      exact ⟨s3, gs, L3⟩
  rintro H1 ⟨s1, fs, L1⟩
  rw [List.length_map, hB.e.1, List.take_length] at L1
  have fll := fl bds.length
  rw [List.take_length] at fll
  have oe := fun pa p => own_evt (bds := bds) (pa := pa) (p := p)
  have mem : ∀ p ∈ bds.flatMap (fun b => [b.one, b.two]), p ∈ ptsL := fun p h => by
    obtain ⟨b, hb, m⟩ := List.mem_flatMap.mp h
    simp only [List.mem_cons, List.not_mem_nil, or_false] at m
    rcases m with m | m
    · rw [m]; exact (hm b hb).1
    · rw [m]; exact (hm b hb).2
  generalize bds.flatMap (fun b => [b.one, b.two]) = ps at *
  refine ⟨D, fs, ps, rfl, L1, by omega, fun ev efs H2 s2 n2 E2 => ?_⟩
  have s02 := s1.trans s2
  have mem2 : ∀ p ∈ evtP ps, p ∈ ptsL := fun p h => mem p (evtP_mem.mp h).1
  have flv : (evtP ps).length ≤ 30 := Nat.le_trans (List.length_filter_le _ _) fll
  generalize evtP ps = evs at *
  refine ⟨_, rfl, _, rfl, _, rfl, n, k, rfl, hn, hk, fun c cs H3 s3 n3 C3 => ?_⟩
  have s03 := s02.trans s3
  have cl : ((rowsF n k).map chI).length ≤ 100 := by
    rw [List.length_map]
    exact (rows_nx hn hk).2.2
  have C3' := C3.ch
  generalize (rowsF n k).map chI = chs at *
  refine ⟨_, rfl, b, c, ev, es, cs, efs, bds, chs, evs, rfl, hB.keep s03, C3', E2.keep s3, hm, mem2, by omega, by omega, fun l ls H4 s4 n4 Z4 => ?_⟩
  have s04 := s03.trans s4
  have pm := pos_prs hm mem2 chs
  have ap := fun pa => all_prs (pa := pa) hm mem2 (fun p h => oe pa p h) chs
  have ph : ∀ pa, ∀ z ∈ prsM bds chs evs, ∀ p ∈ evtP (tabM (ownB bds pa) []).pts, p ∈ z.2.pts := fun pa z h p m => prs_has h p (oe pa p m)
  have pl : (prsM bds chs evs).length ≤ 100 := Nat.le_trans (List.length_filterMap_le _ _) cl
  generalize prsM bds chs evs = zs at *
  cases hp : posC bds chs with
  | nil =>
    have zl : zs = [] := List.map_eq_nil_iff.mp (pm.trans hp)
    subst zl
    have ll : ls = [] := List.length_eq_zero_iff.mp Z4.e.1
    subst ll
    exact ⟨_, rfl, _, .inl ⟨_, SqL.of Z4.l, rfl⟩, iteT (q0 hp H4 s04)⟩
  | cons c0 cr =>
    have q1 := q1 (by rw [hp]; simp)
    have lne : ∃ e0 er, ls = e0 :: er := by
      cases ls with
      | cons e0 er => exact ⟨_, _, rfl⟩
      | nil =>
        have zl : zs = [] := List.length_eq_zero_iff.mp Z4.e.1.symm
        rw [zl, hp] at pm
        cases pm
    clear q0 hp
    generalize posC bds chs = pc at *
    obtain ⟨e0, er, el⟩ := lne
    refine ⟨_, rfl, _, .inl ⟨_, SqL.of Z4.l, rfl⟩, ?_⟩
    rw [el]
    refine iteF ?_
    clear el
    refine ⟨_, rfl, _, rfl, by omega, by omega, fun E hE => lc_range (lo := 0) (n := ((n : Nat) : Int).toNat) (fun i H' => Same H4 H' ∧ H' E = some (.lst (((((List.range n).map fun (i : Nat) => (i : Int)).take i).filter fun i => pc.all fun ch => ch.contains i).map V.int))) ⟨same_upd hE, upd_same⟩ ?_ ?_⟩
    · rintro i H5 hi ⟨s5, e5⟩
      rw [Int.zero_add]
      have Z5 := Z4.keep s5
      rw [rng_fil (by omega)]
      have lim : ((((List.range n).map fun (i : Nat) => (i : Int)).take i).filter fun i => pc.all fun ch => ch.contains i).length ≤ i := Nat.le_trans (List.length_filter_le _ _) (by rw [List.length_take]; omega)
      have ev : (pc.all fun ch => ch.contains (i : Int)) = ((zs.map fun z => z.1.contains (i : Int)).all id) := by
        rw [← pm, List.all_map, List.all_map]
        rfl
      generalize (((List.range n).map fun (i : Nat) => (i : Int)).take i).filter (fun i => pc.all fun ch => ch.contains i) = J at *
      refine ⟨rfl, _, rfl, _, rfl, ⟨_, SqL.of Z5.l⟩, fun F hF => lc_list (K := K) (a := l) (xs := ls.map V.ref) (fun j H' => Same H5 H' ∧ H' F = some (.lst (((zs.take j).map fun z => z.1.contains (i : Int)).map V.bl))) ⟨same_upd hF, upd_same⟩ (fun j H' _ w => SqL.of (w.1 _ _ Z5.l)) ?_ ?_⟩
      · rintro j v H6 hv ⟨s6, e6⟩
        obtain ⟨e, he, rfl⟩ := ref_of hv
        obtain ⟨z, hz, c, u, pl2, rw2, rs2, he2, hc2, hu⟩ := Z5.e.get he
        have hj : j < zs.length := (List.getElem?_eq_some_iff.mp hz).1
        refine ⟨_, _, rfl, SqT.of (s6 _ _ he2), rfl, _, _, rfl, _, _, rfl, rfl, rfl, _, rfl, _, rfl, _, _, rfl, .inr (SqT.of (s6 _ _ hc2)), rfl, flat_ints _, ?_⟩
        rw [inV_int]
        refine ⟨_, e6, ?_, fun c w hcw => ?_, ?_⟩
        · rw [List.length_map, List.length_map, List.length_take]
          exact sizes' (by omega)
        · rw [upd_ne (ne_of_none hcw hF)]
          exact s6 _ _ hcw
        · rw [upd_same, List.take_add_one, hz]
          simp
      rintro H6 ⟨s6, e6⟩
      rw [List.length_map, Z4.e.1, List.take_length] at e6
      refine ⟨_, _, rfl, SqL.of e6, _, rfl, ?_⟩
      rw [ev]
      have e6E := s6 _ _ e5
      cases hb : (zs.map fun z => z.1.contains (i : Int)).all id with
      | false =>
        refine iteF ⟨s5.trans s6, ?_⟩
        rw [if_neg (by decide), List.append_nil]
        exact e6E
      | true =>
        refine iteT ⟨_, rfl, _, e6E, by rw [List.length_map]; exact sizes' (by omega), fun c w hcw => ?_, ?_⟩
        · rw [upd_ne (ne_of_none hcw hE)]
          exact s6 _ _ (s5 _ _ hcw)
        · rw [upd_same, if_pos rfl, List.map_append]
          rfl
    rintro H5 ⟨s5, e5⟩
    rw [Int.toNat_natCast, List.take_of_length_le (by rw [List.length_map, List.length_range]; exact Nat.le_refl _)] at e5
    have Z5 := Z4.keep s5
    have s05 := s04.trans s5
    have nE : H E = none := by
      cases g : H E with
      | none => rfl
      | some u => rw [s04 _ _ g] at hE; cases hE
    refine ⟨_, rfl, _, rfl, by omega, by omega, fun F hF => lc_range (lo := 0) (n := ((n : Nat) : Int).toNat) (fun i H' => Same H5 H' ∧ H' F = some (.lst (((((List.range n).map fun (i : Nat) => (i : Int)).take i).filter fun i => pc.all fun ch => !ch.contains i || folB (ownB bds i) (leftB bds ch)).map V.int))) ⟨same_upd hF, upd_same⟩ ?_ ?_⟩
    · rintro i H6 hi ⟨s6, e6⟩
      rw [Int.zero_add]
      rw [rng_fil (by omega)]
      have lim : ((((List.range n).map fun (i : Nat) => (i : Int)).take i).filter fun i => pc.all fun ch => !ch.contains i || folB (ownB bds i) (leftB bds ch)).length ≤ i := Nat.le_trans (List.length_filter_le _ _) (by rw [List.length_take]; omega)
      generalize (((List.range n).map fun (i : Nat) => (i : Int)).take i).filter (fun i => pc.all fun ch => !ch.contains i || folB (ownB bds i) (leftB bds ch)) = J at *
      refine ⟨rfl, _, rfl, _, rfl, _, rfl, (i : Int), b, l, es, ls, bds, zs, rfl, hB.keep (s05.trans s6), Z5.keep s6, hm, by omega, ph _, by omega, fun H7 s7 => ⟨_, rfl, ?_⟩⟩
      rw [ap]
      have e7 := s7 _ _ e6
      cases hb : pc.all fun ch => !ch.contains (i : Int) || folB (ownB bds (i : Int)) (leftB bds ch) with
      | false =>
        refine iteF ⟨s6.trans s7, ?_⟩
        rw [if_neg (by decide), List.append_nil]
        exact e7
      | true =>
        refine iteT ⟨_, rfl, _, e7, by rw [List.length_map]; exact sizes' (by omega), fun c w hcw => ?_, ?_⟩
        · rw [upd_ne (ne_of_none hcw hF)]
          exact s7 _ _ (s6 _ _ hcw)
        · rw [upd_same, if_pos rfl, List.map_append]
          rfl
    rintro H6 ⟨s6, e6⟩
    rw [Int.toNat_natCast, List.take_of_length_le (by rw [List.length_map, List.length_range]; exact Nat.le_refl _)] at e6
    refine ⟨_, rfl, _, rfl, by show 2 ≤ sizeLine; decide, fun p np => ?_⟩
    have s7 := same_upd (o := .tup [.ref E, .ref F]) np
    have EF : E ≠ F := fun g => by rw [← g, e5] at hF; cases hF
    exact q1 p E F _ ((s05.trans s6).trans s7) nE (s05.free hF) EF upd_same (s7 _ _ (s6 _ _ e5)) (s7 _ _ e6)
def sp__law_draws (K : PySem.W.Frag) : Sp := fun vs H Q _ => ∃ (a : Addr) (ns : List Int) (c : Int), vs = [.ref a, .int c] ∧ SqL K H a (ns.map V.int) ∧ 0 ≤ c ∧ c ≤ 100 ∧ ∀ (p : Addr) (H' : Hp) (rs : List Int), Same H H' → H p = none → H' p = some (.lst (rs.map V.int)) → rs.length = c.toNat → Q (.ref p) H'
theorem ok__law_draws {f : Addr} {fd : FuncData} (D : Df K mg "_law_draws" s__law_draws ["script", "count"] f fd) (T : Txt K mg) : FnOk P w K mg base CX0 1 f fd ["script", "count"] (sp__law_draws K) := by
  refine D.F.ok sc__law_draws (fun vs H Q E h => ?_) (fun cdv A outer s H vs Q E hr h => ?_)
  · obtain ⟨a, ns, c, rfl, _⟩ := h
    rfl
  obtain ⟨a, ns, c, rfl, hS, h0, h1, q⟩ := h
  refine ⟨_, (pss_cons (ps_set (i := 2) sc__law_draws.nd rfl (Or.inl rfl) (pe_lst pa_nil))
    (pss_cons (ps_for PassesOwn.never rfl (pi_range1 rfl T.range (pa_cons (pv 1) pa_nil)) (pg_name (i := 3) sc__law_draws.nd rfl (Or.inl rfl))
      (pss_cons (ps_set (i := 4) sc__law_draws.nd rfl (Or.inl rfl) pe_int)
    (C8.pss_cut (ps_if (pt_cmpR op_lt (pv 3) (pe_callB call_len_seq rfl T.len PySem.boot_len (pa_cons (pv 0) pa_nil)) (nomark _))
      (pss_one (ps_set (i := 4) sc__law_draws.nd rfl (Or.inl rfl) (pe_callTy call_int1 rfl T.int (by decide +kernel) (pa_cons (pe_ix ix_list (pv 0) (pv 3) (fun _ _ => rfl)) pa_nil))))
      pss_nil)
    (C8.pss_cut (ps_if (pt_cmpR op_lt (pv 4) pe_int (nomark _))
      (pss_one (ps_set (i := 4) sc__law_draws.nd rfl (Or.inl rfl) (pe_op op_sub pe_int (pe_op op_mul pe_int (pv 4)))))
      pss_nil)
    (C8.pss_cut (ps_if (pt_cmpR op_lt (pv 4) pe_int (nomark _))
      (pss_cons (ps_set (i := 4) sc__law_draws.nd rfl (Or.inl rfl) (pe_op op_mod (pe_callTy call_int1 rfl T.int (by decide +kernel) (pa_cons (pe_op op_add (pe_op op_mul (pe_op op_add (pe_op op_add (pv 4) (pe_op op_mul pe_int (pv 3))) pe_int) pe_int) (pe_op op_mul (pe_op op_mul (pv 3) (pv 3)) pe_int)) pa_nil)) pe_int))
    (pss_one (ps_set (i := 4) sc__law_draws.nd rfl (Or.inl rfl) (pe_op op_mod (pe_callTy call_int1 rfl T.int (by decide +kernel) (pa_cons (pe_op op_add (pe_op op_mul (pv 4) pe_int) pe_int) pa_nil)) pe_int))))
      pss_nil)
    (pss_one (ps_expr (pe_bm PySem.F.plainAttrs_list PySem.F.slot_list_append PySem.F.type_list_append mt_append (pv 2) (pa_cons (pv 4) pa_nil)))))))))
    (pss_one (ps_ret (pv 2))))), ?_⟩
  refine ⟨(by show 0 ≤ sizeLine; decide), fun p hp => ?_⟩
  refine ⟨_, rfl, _, rfl, by omega, by omega, for_range (lo := 0) (n := c.toNat) (fun i σ H' => ∃ k v, ∃ rs : List Int, σ = [some (.ref a), some (.int c), some (.ref p), k, v] ∧ Same H H' ∧ H' p = some (.lst (rs.map V.int)) ∧ rs.length = i) ⟨none, none, [], rfl, same_upd hp, upd_same, rfl⟩ ?_ ?_⟩
  · rintro i σ H' hi ⟨k, v, rs, rfl, sm, ep, hl⟩
    have hi' : i ≤ 100 := by omega
    refine ⟨fun σ H2 => ∃ c2 : Int, σ = [some (.ref a), some (.int c), some (.ref p), some (.int (0 + (i : Int))), some (.int c2)] ∧ H2 = H', ?_, ?_⟩
    · refine ⟨_, rfl, _, rfl, _, _, rfl, .inl (sm.seq hS), _, _, rfl, rfl, _, rfl, ite2 (fun c' => ?_) (fun c' => ⟨_, rfl, rfl⟩)⟩
      have c2 := of_decide_eq_true c'
      rw [List.length_map] at c2
      exact ⟨_, rfl, _, rfl, _, _, _, _, rfl, rfl, sm.seq hS, at_of (j := i) (v := V.int (ns[i]'(by omega))) (by omega) (by rw [List.getElem?_map, List.getElem?_eq_getElem (by omega)]; rfl), .inl ⟨_, rfl, _, rfl, rfl⟩⟩
    rintro σ H2 ⟨c2, rfl, rfl⟩
    refine ⟨fun σ H3 => ∃ c2 : Int, σ = [some (.ref a), some (.int c), some (.ref p), some (.int (0 + (i : Int))), some (.int c2)] ∧ H3 = H2, ?_, ?_⟩
    · refine ⟨_, rfl, _, _, rfl, rfl, _, rfl, ite2 (fun c' => ?_) (fun c' => ⟨_, rfl, rfl⟩)⟩
      exact ⟨_, rfl, _, _, rfl, rfl, (.inl (by decide)), _, _, rfl, rfl, _, rfl, rfl⟩
    rintro σ H3 ⟨c3, rfl, rfl⟩
    refine ⟨fun σ H4 => ∃ c2 : Int, σ = [some (.ref a), some (.int c), some (.ref p), some (.int (0 + (i : Int))), some (.int c2)] ∧ H4 = H3, ?_, ?_⟩
    · refine ⟨_, rfl, _, _, rfl, rfl, _, rfl, ite2 (fun c' => ?_) (fun c' => ⟨_, rfl, rfl⟩)⟩
      refine ⟨_, rfl, _, rfl, _, _, rfl, rfl, (.inl (by decide)), _, _, rfl, rfl, _, _, rfl, rfl, _, _, rfl, rfl, (.inr (by decide)), _, rfl, _, rfl, _, _, rfl, rfl, (.inl ⟨by omega, by omega⟩), _, _, rfl, rfl, (.inr (by decide)), _, _, rfl, rfl, .inl ⟨_, rfl, _, _, rfl, rfl, (posJ rfl), ?_⟩⟩
      exact ⟨_, rfl, _, _, rfl, rfl, (.inr (by decide)), _, _, rfl, rfl, .inl ⟨_, rfl, _, _, rfl, rfl, (posJ rfl), _, rfl, rfl⟩⟩
    rintro σ H4 ⟨c4, rfl, rfl⟩
    refine ⟨_, rfl, .inl ⟨rfl, _, SqL.of ep⟩, _, rfl, _, _, _, rfl, rfl, ep, by rw [List.length_map, hl]; exact sizes' (by omega), ?_⟩
    refine ⟨_, _, rs ++ [c4], rfl, fun b u h => ?_, by rw [upd_same, List.map_append]; rfl, by rw [List.length_append, List.length_singleton, hl]⟩
    rw [upd_ne (ne_of_none h hp)]
    exact sm _ _ h
  · rintro σ H' ⟨k, v, rs, rfl, sm, ep, hl⟩
    exact ⟨_, rfl, q p H' rs sm hp ep hl⟩
def sp__law_take (K : PySem.W.Frag) : Sp := fun vs H Q _ => ∃ (r : Addr) (at_ m : Int) (n : Nat), vs = [.ref r, .int at_, .int m] ∧ RwAt H r n ∧ 0 ≤ at_ ∧ at_ < n ∧ 0 < m ∧ m ≤ 10 ^ 18 ∧ ∀ (g : Int) (H' : Hp), 0 ≤ g → g < m → But r H H' → RwAt H' r n → Q (.int g) H'
theorem ok__law_take {f : Addr} {fd : FuncData} (D : Df K mg "_law_take" s__law_take ["rows", "at", "many"] f fd) (T : Txt K mg) : FnOk P w K mg base CX0 1 f fd ["rows", "at", "many"] (sp__law_take K) := by
  refine D.F.ok sc__law_take (fun vs H Q E h => ?_) (fun cdv A outer s H vs Q E hr h => ?_)
  · obtain ⟨r, at_, m, n, rfl, _⟩ := h
    rfl
  obtain ⟨r, at_, m, n, rfl, ⟨ns, hr1, hl⟩, h0, h1, hm, hm2, q⟩ := h
  refine ⟨_, (pss_cons (ps_set (i := 3) sc__law_take.nd rfl (Or.inl rfl) (pe_op op_modN (pe_callTy call_int1 rfl T.int (by decide +kernel) (pa_cons (pe_ix ix_list (pv 0) (pv 1) (fun _ _ => rfl)) pa_nil)) (pv 2)))
    (pss_cons (ps_asg (pe_op op_fdivW (pe_callTy call_int1 rfl T.int (by decide +kernel) (pa_cons (pe_ix ix_list (pv 0) (pv 1) (fun _ _ => rfl)) pa_nil)) (pv 2)) (pg_sub (pv 0) (pv 1) set_list))
    (pss_one (ps_ret (pv 3))))), ?_⟩
  obtain ⟨j, rfl⟩ : ∃ j : Nat, at_ = (j : Int) := ⟨at_.toNat, by omega⟩
  have hj : j < ns.length := by omega
  have hat : atI (ns.map V.int) (j : Int) = some (.int ns[j]) := at_of (j := j) rfl (by rw [List.getElem?_map, List.getElem?_eq_getElem hj]; rfl)
  refine ⟨_, rfl, _, rfl, _, _, _, _, rfl, rfl, SqL.of hr1, hat, .inl ⟨_, rfl, _, rfl, _, _, rfl, rfl, by omega, ?_⟩⟩
  refine ⟨_, rfl, _, rfl, _, _, _, _, rfl, rfl, SqL.of hr1, hat, .inl ⟨_, rfl, _, rfl, _, _, rfl, rfl, wide_div (b := 60) hm (by omega) (by decide) (by decide), _, rfl, _, rfl, _, _, _, j, rfl, rfl, hr1, ixn (by rw [List.length_map]; exact hj), ?_⟩⟩
  refine ⟨_, rfl, q _ _ (Int.fmod_nonneg_of_pos _ hm) (Int.fmod_lt_of_pos _ hm) But.set ⟨ns.set j (ns[j] / m), ?_, by rw [List.length_set]; exact hl⟩⟩
  rw [upd_same, List.map_set]
def sp__law_points (K : PySem.W.Frag) : Sp := fun vs H Q _ => vs = [] ∧ ∀ (a : Addr) (bs : List Addr) (H' : Hp), Same H H' → H a = none → PtL H' a bs ptsL → Q (.ref a) H'
theorem ok__law_points {f : Addr} {fd : FuncData} (D : Df K mg "_law_points" s__law_points [] f fd) (T : Txt K mg) : FnOk P w K mg base CX0 1 f fd [] (sp__law_points K) := by
  refine D.F.ok sc__law_points (fun vs H Q E h => ?_) (fun cdv A outer s H vs Q E hr h => ?_)
  · obtain ⟨rfl, _⟩ := h
    rfl
  obtain ⟨rfl, q⟩ := h
  refine ⟨_, (pss_cons (ps_set (i := 0) sc__law_points.nd rfl (Or.inl rfl) (pe_lst (pa_cons (pe_tup (pa_cons (pe_un un_neg pe_int) (pa_cons pe_int (pa_cons (pe_un un_neg pe_int) pa_nil)))) (pa_cons (pe_tup (pa_cons pe_int (pa_cons pe_int (pa_cons (pe_un un_neg pe_int) pa_nil)))) (pa_cons (pe_tup (pa_cons pe_int (pa_cons pe_int (pa_cons (pe_un un_neg pe_int) pa_nil)))) (pa_cons (pe_tup (pa_cons pe_int (pa_cons pe_int (pa_cons (pe_un un_neg pe_int) pa_nil)))) pa_nil))))))
    (pss_one (ps_ret (pe_op op_cat (pv 0) (pe_lst (pa_cons (pe_tup (pa_cons pe_int (pa_cons pe_int (pa_cons pe_int pa_nil)))) (pa_cons (pe_tup (pa_cons pe_int (pa_cons pe_int (pa_cons pe_int pa_nil)))) (pa_cons (pe_tup (pa_cons pe_int (pa_cons pe_int (pa_cons pe_int pa_nil)))) pa_nil)))))))), ?_⟩
  refine ⟨_, rfl, _, rfl, (by show 3 ≤ sizeLine; decide), fun a1 n1 => ?_⟩
  generalize e1 : upd H a1 _ = H1
  obtain ⟨s1, h1⟩ := fr e1 n1
  clear e1
  refine ⟨_, rfl, (by show 3 ≤ sizeLine; decide), fun a2 n2 => ?_⟩
  generalize e2 : upd H1 a2 _ = H2
  obtain ⟨s2, h2⟩ := fr e2 n2
  clear e2
  refine ⟨_, rfl, (by show 3 ≤ sizeLine; decide), fun a3 n3 => ?_⟩
  generalize e3 : upd H2 a3 _ = H3
  obtain ⟨s3, h3⟩ := fr e3 n3
  clear e3
  refine ⟨_, rfl, (by show 3 ≤ sizeLine; decide), fun a4 n4 => ?_⟩
  generalize e4 : upd H3 a4 _ = H4
  obtain ⟨s4, h4⟩ := fr e4 n4
  clear e4
  refine ⟨(by show 4 ≤ sizeLine; decide), fun a5 n5 => ?_⟩
  generalize e5 : upd H4 a5 _ = H5
  obtain ⟨s5, h5⟩ := fr e5 n5
  clear e5
  refine ⟨_, rfl, (by show 3 ≤ sizeLine; decide), fun a6 n6 => ?_⟩
  generalize e6 : upd H5 a6 _ = H6
  obtain ⟨s6, h6⟩ := fr e6 n6
  clear e6
  refine ⟨(by show 3 ≤ sizeLine; decide), fun a7 n7 => ?_⟩
  generalize e7 : upd H6 a7 _ = H7
  obtain ⟨s7, h7⟩ := fr e7 n7
  clear e7
  refine ⟨(by show 3 ≤ sizeLine; decide), fun a8 n8 => ?_⟩
  generalize e8 : upd H7 a8 _ = H8
  obtain ⟨s8, h8⟩ := fr e8 n8
  clear e8
  refine ⟨(by show 3 ≤ sizeLine; decide), fun a9 n9 => ?_⟩
  generalize e9 : upd H8 a9 _ = H9
  obtain ⟨s9, h9⟩ := fr e9 n9
  clear e9
  have s59 := s6.trans (s7.trans (s8.trans s9))
  refine ⟨_, _, _, _, rfl, rfl, s59 _ _ h5, h9, (by show 7 ≤ sizeLine; decide), fun a10 n10 => ?_⟩
  generalize e10 : upd H9 a10 _ = H10
  obtain ⟨s10, h10⟩ := fr e10 n10
  clear e10
  have t8 := s8.trans (s9.trans s10)
  have t6 := s7.trans t8
  have t4 := s5.trans (s6.trans t6)
  have t3 := s4.trans t4
  have t2 := s3.trans t3
  have t1 := s2.trans t2
  have n0 : H a10 = none := (s1.trans (s2.trans (s3.trans (s4.trans (s5.trans s59))))).free n10
  refine q a10 [a1, a2, a3, a4, a6, a7, a8] H10 (s1.trans t1) n0 ⟨h10, ?_⟩
  have e0 : Each (PtAt H10) [] [] := Each.nil
  exact (((((((e0.snoc (x := ⟨-1, 0, -1⟩) (t1 _ _ h1)).snoc (x := ⟨0, 1, -1⟩) (t2 _ _ h2)).snoc (x := ⟨0, 2, -1⟩) (t3 _ _ h3)).snoc (x := ⟨1, 1, -1⟩) (t4 _ _ h4)).snoc (x := ⟨0, 1, 0⟩) (t6 _ _ h6)).snoc (x := ⟨0, 2, 0⟩) (t8 _ _ h7)).snoc (x := ⟨1, 1, 1⟩) ((s9.trans s10) _ _ h8))
def sp__law_amount (K : PySem.W.Frag) : Sp := fun vs H Q _ => ∃ (r : Addr) (at_ : Int) (n : Nat), vs = [.ref r, .int at_] ∧ RwAt H r n ∧ 0 ≤ at_ ∧ at_ < n ∧ ∀ (g : Int) (H' : Hp), -1000000000000 ≤ g → g ≤ 1000000000000 → But r H H' → RwAt H' r n → Q (.int g) H'
theorem ok__law_amount {f : Addr} {fd : FuncData} (D : Df K mg "_law_amount" s__law_amount ["rows", "at"] f fd) (T : Txt K mg) {f__law_take : Addr} {fd__law_take : FuncData} (D__law_take : Df K mg "_law_take" s__law_take ["rows", "at", "many"] f__law_take fd__law_take) (G__law_take : FnOk P w K mg base CX0 1 f__law_take fd__law_take ["rows", "at", "many"] (sp__law_take K)) : FnOk P w K mg base CX0 2 f fd ["rows", "at"] (sp__law_amount K) := by
  refine D.F.ok sc__law_amount (fun vs H Q E h => ?_) (fun cdv A outer s H vs Q E hr h => ?_)
  · obtain ⟨r, at_, n, rfl, _⟩ := h
    rfl
  obtain ⟨r, at_, n, rfl, hr0, h0, h1, q⟩ := h
  refine ⟨_, (pss_cons (ps_set (i := 2) sc__law_amount.nd rfl (Or.inl rfl) (pe_call G__law_take (hr.mono (by decide)) rfl D__law_take.m D__law_take.F.kp D__law_take.b .nil pass0 (pa_cons (pv 0) (pa_cons (pv 1) (pa_cons pe_int pa_nil)))))
    (pss_cons (ps_if (pt_cmpR op_eq (pv 2) pe_int (nomark _))
      (pss_one (ps_ret (pe_op op_sub (pe_call G__law_take (hr.mono (by decide)) rfl D__law_take.m D__law_take.F.kp D__law_take.b .nil pass0 (pa_cons (pv 0) (pa_cons (pv 1) (pa_cons pe_int pa_nil)))) pe_int)))
      pss_nil)
    (pss_cons (ps_if (pt_cmpR op_eq (pv 2) pe_int (nomark _))
      (pss_one (ps_ret pe_int))
      pss_nil)
    (pss_cons (ps_if (pt_cmpR op_lt (pv 2) pe_int (nomark _))
      (pss_one (ps_ret (pe_op op_sub (pe_call G__law_take (hr.mono (by decide)) rfl D__law_take.m D__law_take.F.kp D__law_take.b .nil pass0 (pa_cons (pv 0) (pa_cons (pv 1) (pa_cons pe_int pa_nil)))) pe_int)))
      pss_nil)
    (pss_one (ps_ret (pe_call G__law_take (hr.mono (by decide)) rfl D__law_take.m D__law_take.F.kp D__law_take.b .nil pass0 (pa_cons (pv 0) (pa_cons (pv 1) (pa_cons pe_int pa_nil)))))))))), ?_⟩
  refine ⟨_, rfl, _, rfl, r, at_, 8, n, rfl, hr0, h0, h1, by decide, by decide, fun w H1 w0 w1 b1 r1 => ?_⟩
  refine ⟨_, rfl, rfl, _, rfl, ite2 (fun c => ?_) (fun c => ?_)⟩
  · refine ⟨_, rfl, _, rfl, r, at_, 2000000000001, n, rfl, r1, h0, h1, by decide, by decide, fun g H2 g0 g1 b2 r2 => ?_⟩
    exact ⟨_, _, rfl, rfl, q _ H2 (by omega) (by omega) (b1.trans b2) r2⟩
  refine ⟨_, rfl, rfl, _, rfl, ite2 (fun c => ?_) (fun c => ?_)⟩
  · exact q _ H1 (by decide) (by decide) b1 r1
  refine ⟨_, rfl, _, _, rfl, rfl, _, rfl, ite2 (fun c => ?_) (fun c => ?_)⟩
  · refine ⟨_, rfl, _, rfl, r, at_, 41, n, rfl, r1, h0, h1, by decide, by decide, fun g H2 g0 g1 b2 r2 => ?_⟩
    exact ⟨_, _, rfl, rfl, q _ H2 (by omega) (by omega) (b1.trans b2) r2⟩
  · exact ⟨_, rfl, _, rfl, r, at_, 60, n, rfl, r1, h0, h1, by decide, by decide, fun g H2 g0 g1 b2 r2 => q _ H2 (by omega) (by omega) (b1.trans b2) r2⟩
def sp__law_bound (K : PySem.W.Frag) : Sp := fun vs H Q _ => ∃ (r a : Addr) (at_ pa : Int) (n : Nat) (ps : List Pt) (cs : List Addr), vs = [.ref r, .int at_, .ref a, .int pa] ∧ RwAt H r n ∧ 0 ≤ at_ ∧ at_ < n ∧ 0 ≤ pa ∧ pa ≤ 100 ∧ PtL H a cs ps ∧ a ≠ r ∧ 0 < ps.length ∧ ps.length ≤ 100 ∧
  ∀ (b : Bd) (e : Addr) (H' : Hp), b.one ∈ ps → b.two ∈ ps → But r H H' → RwAt H' r n → BnE H' e b → Q (.ref e) H'
theorem ok__law_bound {f : Addr} {fd : FuncData} (D : Df K mg "_law_bound" s__law_bound ["rows", "at", "points", "parts"] f fd) (T : Txt K mg) {f__law_take : Addr} {fd__law_take : FuncData} (D__law_take : Df K mg "_law_take" s__law_take ["rows", "at", "many"] f__law_take fd__law_take) (G__law_take : FnOk P w K mg base CX0 1 f__law_take fd__law_take ["rows", "at", "many"] (sp__law_take K)) {f__law_amount : Addr} {fd__law_amount : FuncData} (D__law_amount : Df K mg "_law_amount" s__law_amount ["rows", "at"] f__law_amount fd__law_amount) (G__law_amount : FnOk P w K mg base CX0 2 f__law_amount fd__law_amount ["rows", "at"] (sp__law_amount K)) : FnOk P w K mg base CX0 3 f fd ["rows", "at", "points", "parts"] (sp__law_bound K) := by
  refine D.F.ok sc__law_bound (fun vs H Q E h => ?_) (fun cdv A outer s H vs Q E hr h => ?_)
  · obtain ⟨r, a, at_, pa, n, ps, cs, rfl, _⟩ := h
    rfl
  obtain ⟨r, a, at_, pa, n, ps, cs, rfl, hr0, h0, h1, p0, p1, hL, nar, l0, l1, q⟩ := h
  refine ⟨_, (pss_cons (ps_set (i := 4) sc__law_bound.nd rfl (Or.inl rfl) (pe_ix ix_list (pv 2) (pe_call G__law_take (hr.mono (by decide)) rfl D__law_take.m D__law_take.F.kp D__law_take.b .nil pass0 (pa_cons (pv 0) (pa_cons (pv 1) (pa_cons (pe_callB call_len_seq rfl T.len PySem.boot_len (pa_cons (pv 2) pa_nil)) pa_nil)))) (fun _ _ => rfl)))
    (pss_cons (ps_set (i := 5) sc__law_bound.nd rfl (Or.inl rfl) (pe_ix ix_list (pv 2) (pe_call G__law_take (hr.mono (by decide)) rfl D__law_take.m D__law_take.F.kp D__law_take.b .nil pass0 (pa_cons (pv 0) (pa_cons (pv 1) (pa_cons (pe_callB call_len_seq rfl T.len PySem.boot_len (pa_cons (pv 2) pa_nil)) pa_nil)))) (fun _ _ => rfl)))
    (pss_cons (ps_set (i := 6) sc__law_bound.nd rfl (Or.inl rfl) (pe_call G__law_amount (hr.mono (by decide)) rfl D__law_amount.m D__law_amount.F.kp D__law_amount.b .nil pass0 (pa_cons (pv 0) (pa_cons (pv 1) pa_nil))))
    (pss_one (ps_ret (pe_tup (pa_cons (pv 4) (pa_cons (pv 5) (pa_cons (pv 6) (pa_cons (pe_op op_sub (pe_call G__law_take (hr.mono (by decide)) rfl D__law_take.m D__law_take.F.kp D__law_take.b .nil pass0 (pa_cons (pv 0) (pa_cons (pv 1) (pa_cons (pe_op op_add (pv 3) pe_int) pa_nil)))) pe_int) pa_nil)))))))))), ?_⟩
  have clen : (cs.map V.ref).length = ps.length := by rw [List.length_map, hL.e.1]
  refine ⟨_, rfl, _, rfl, _, rfl, _, rfl, _, _, rfl, .inl (SqL.of hL.l), r, at_, _, n, rfl, hr0, h0, h1, by omega, by omega, fun g H1 g0 g1 b1 r1 => ?_⟩
  rw [clen] at g1
  have k1 := hr0.tk b1
  have L1 := hL.tk k1 (b1 _ _ nar hL.l)
  obtain ⟨c1, x1, e1, _, t1, i1⟩ := L1.at g0 g1
  refine ⟨_, _, _, _, rfl, rfl, SqL.of L1.l, e1, ?_⟩
  refine ⟨_, rfl, _, rfl, _, rfl, _, rfl, _, _, rfl, .inl (SqL.of L1.l), r, at_, _, n, rfl, r1, h0, h1, by omega, by omega, fun g2 H2 g20 g21 b2 r2 => ?_⟩
  rw [clen] at g21
  have k2 := r1.tk b2
  have L2 := L1.tk k2 (b2 _ _ nar L1.l)
  obtain ⟨c2, x2, e2, _, t2, i2⟩ := L2.at g20 g21
  refine ⟨_, _, _, _, rfl, rfl, SqL.of L2.l, e2, ?_⟩
  refine ⟨_, rfl, _, rfl, r, at_, n, rfl, r2, h0, h1, fun am H3 m0 m1 b3 r3 => ?_⟩
  have k3 := r2.tk b3
  refine ⟨_, rfl, _, rfl, _, rfl, _, rfl, _, rfl, _, rfl, _, _, rfl, rfl, r, at_, _, n, rfl, r3, h0, h1, by omega, by omega, fun g4 H4 g40 g41 b4 r4 => ?_⟩
  have k4 := r3.tk b4
  refine ⟨_, _, rfl, rfl, (by show 4 ≤ sizeLine; decide), fun a5 n5 => ?_⟩
  generalize e5 : upd H4 a5 _ = H5
  obtain ⟨s5, h5⟩ := fr e5 n5
  clear e5
  have k5 := TupK.of s5
  have k25 := k3.trans (k4.trans k5)
  exact q ⟨x1, x2, am, g4 - 1⟩ a5 H5 (List.mem_of_getElem? i1) (List.mem_of_getElem? i2) (b1.trans (b2.trans (b3.trans (b4.trans (But.of s5))))) (r4.keep s5) ⟨c1, c2, h5, (k2.trans k25).1 _ _ t1, k25.1 _ _ t2⟩
def sp__law_ring (K : PySem.W.Frag) : Sp := fun vs H Q _ => ∃ (ar : Addr) (n : Nat) (es : List Addr) (arcs : List Ar) (res : Bool), vs = [.ref ar, .int (n : Int)] ∧ ArL H ar es arcs ∧ (∀ z ∈ arcs, z.u < n ∧ z.v < n) ∧ n ≤ 1000 ∧ RingOr n arcs res ∧ ∀ (H' : Hp), Same H H' → Q (.bl res) H'
set_option maxHeartbeats 2000000 in
theorem ok__law_ring {f : Addr} {fd : FuncData} (D : Df K mg "_law_ring" s__law_ring ["arcs", "many"] f fd) (T : Txt K mg) : FnOk P w K mg base CX0 1 f fd ["arcs", "many"] (sp__law_ring K) := by
  refine D.F.ok sc__law_ring (fun vs H Q E h => ?_) (fun cdv A outer s H vs Q E hr h => ?_)
  · obtain ⟨ar, n, es, arcs, res, rfl, _⟩ := h
    rfl
  obtain ⟨ar, n, es, arcs, res, rfl, hA, hz, hn, ⟨no, yes⟩, q⟩ := h
  refine ⟨_, (pss_cons (ps_setLc (i := 2) (own := [("k", 6)]) (g := gName 6) (tt := tYes) rfl sc__law_ring.nd rfl rfl (sw_true rfl rfl rfl (by decide +kernel)) (pi_range1 rfl T.range (pa_cons (pv 1) pa_nil)) (blkOk_by (own := [("k", 6)]) (N := nm__law_ring) (sc := defScope s__law_ring) (by decide +kernel)) (fun _ _ _ _ _ => (pg_name (i := 6) sc__law_ring.nd rfl (Or.inl rfl))) (fun _ _ _ _ _ => pts_nil) (fun _ _ _ _ _ => pe_int))
    (pss_cons (ps_for PassesOwn.never rfl (pi_range1 rfl T.range (pa_cons (pe_op op_add (pv 1) pe_int) pa_nil)) (pg_name (i := 3) sc__law_ring.nd rfl (Or.inl rfl))
      (pss_cons (ps_set (i := 4) sc__law_ring.nd rfl (Or.inl rfl) pe_bl)
    (pss_cons (ps_for PassesOwn.never rfl (pi_list (pv 0)) (pg_name (i := 5) sc__law_ring.nd rfl (Or.inl rfl))
      (pss_one (ps_if (pt_cmpR op_lt (pe_op op_add (pe_ix ix_list (pv 2) (pe_ix ix_tup (pv 5) pe_int (fun _ _ => rfl)) (fun _ _ => rfl)) (pe_ix ix_tup (pv 5) pe_int (fun _ _ => rfl))) (pe_ix ix_list (pv 2) (pe_ix ix_tup (pv 5) pe_int (fun _ _ => rfl)) (fun _ _ => rfl)) (nomark _))
      (pss_cons (ps_asg (pe_op op_add (pe_ix ix_list (pv 2) (pe_ix ix_tup (pv 5) pe_int (fun _ _ => rfl)) (fun _ _ => rfl)) (pe_ix ix_tup (pv 5) pe_int (fun _ _ => rfl))) (pg_sub (pv 2) (pe_ix ix_tup (pv 5) pe_int (fun _ _ => rfl)) set_list))
    (pss_one (ps_set (i := 4) sc__law_ring.nd rfl (Or.inl rfl) pe_bl)))
      pss_nil)))
    (pss_one (ps_if (pt_not (pt_val (pv 4)))
      (pss_one (ps_ret pe_bl))
      pss_nil)))))
    (pss_one (ps_ret pe_bl)))), ?_⟩
  refine ⟨_, rfl, _, rfl, by omega, by omega, fun D hD => lc_range (lo := 0) (n := ((n : Nat) : Int).toNat) (fun i H' => Same H H' ∧ H' D = some (rowO (List.replicate i (some 0)))) ⟨same_upd hD, upd_same⟩ ?_ ?_⟩
  · rintro i H1 hi ⟨s1, e1⟩
    refine ⟨rfl, _, e1, ?_, fun c u h => ?_, ?_⟩
    · rw [List.length_map, List.length_replicate]
      exact sizes' (by omega)
    · rw [upd_ne (ne_of_none h hD)]
      exact s1 _ _ h
    · rw [upd_same, List.replicate_succ']
      unfold rowO
      rw [List.map_append]
      rfl
  rintro H1 ⟨s1, e1⟩
  rw [show ((n : Nat) : Int).toNat = n by omega] at e1
  have hzv : ∀ z ∈ arcs, z.v < n := fun z m => (hz z m).2
  have somes := fun k => some_iter hzv k
  have lens : ∀ k, (iterR arcs k (List.replicate n (some 0))).length = n := fun k => by rw [iterR_len, List.length_replicate]
  refine ⟨_, rfl, _, _, rfl, rfl, _, rfl, by omega, by omega, for_range (lo := 0) (n := ((n : Int) + 1).toNat) (fun i σ H' => ∃ v3 v4 v5, σ = [some (.ref ar), some (.int (n : Int)), some (.ref D), v3, v4, v5, none] ∧ Same H H' ∧ H' D = some (rowO (iterR arcs i (List.replicate n (some 0)))) ∧ (res = false → i ≤ n)) ⟨_, _, _, rfl, s1, e1, fun _ => Nat.zero_le _⟩ ?_ ?_⟩
  · rintro i σ H2 hi ⟨v3, v4, v5, rfl, s2, e2, le⟩
    have hA2 := hA.keep s2
    have sI := somes i
    have lI := lens i
    have stI : ∀ {D}, ClD D n arcs → n ≤ i → ∀ z ∈ arcs, lowB (iterR arcs i (List.replicate n (some 0))) z = false := fun c hk z m => still c m hk
    have nx : iterR arcs (i + 1) (List.replicate n (some 0)) = arcs.foldl relax (iterR arcs i (List.replicate n (some 0))) := rfl
    rw [nx]
    generalize iterR arcs i (List.replicate n (some 0)) = b0 at *
    refine ⟨_, rfl, _, rfl, ⟨_, SqL.of hA2.l⟩, for_list (K := K) (a := ar) (xs := es.map V.ref) (fun j σ H' => ∃ v5, ∃ lb : Bool, σ = [some (.ref ar), some (.int (n : Int)), some (.ref D), some (.int (0 + (i : Int))), some (.bl lb), v5, none] ∧ Same H H' ∧ H' D = some (rowO ((arcs.take j).foldl relax b0)) ∧ (lb = false → (arcs.take j).foldl relax b0 = b0 ∧ ∀ z ∈ arcs.take j, lowB b0 z = false) ∧ (lb = true → ∃ z ∈ arcs, lowB b0 z = true)) ⟨_, false, rfl, s2, e2, fun _ => ⟨rfl, fun z h => by simp at h⟩, fun h => by cases h⟩ (fun i σ H' _ ⟨_, _, _, s, _⟩ => SqL.of (s _ _ hA.l)) ?_ ?_⟩
    · rintro j x σ H3 hx ⟨v5, lb, rfl, s3, e3, f3, t3⟩
      obtain ⟨e, he, rfl⟩ := ref_of hx
      obtain ⟨z, hz', hq⟩ := hA.e.get he
      have mz := List.mem_of_getElem? hz'
      have hq3 : H3 e = some (.tup [.int (z.u : Int), .int (z.v : Int), .int z.w]) := s3 _ _ hq
      obtain ⟨hu, hv⟩ := hz z mz
      have lb' : ((arcs.take j).foldl relax b0).length = n := by rw [foldr_len, lI]
      have sB := some_fold (arcs.take j) b0 (fun y hy => hzv y (List.mem_of_mem_take hy)) lI sI
      rw [fold_take hz']
      generalize hb : (arcs.take j).foldl relax b0 = b at *
      obtain ⟨p, hp⟩ := sB z.u hu
      obtain ⟨r, hr'⟩ := sB z.v hv
      have ru := row_at (r := b) (i := z.u) (by omega)
      have rv := row_at (r := b) (i := z.v) (by omega)
      rw [hp] at ru
      rw [hr'] at rv
      have up : ∀ {o : HO}, Same H (upd H3 D o) := fun {o} c u h => by
        rw [upd_ne (ne_of_none h hD)]
        exact s3 _ _ h
      have rel : relax b z = if decide (p + z.w < r) = true then b.set z.v (some (p + z.w)) else b := by
        unfold relax
        rw [hp, hr']
        rfl
      have low : lowB b z = decide (p + z.w < r) := by
        unfold lowB
        rw [hp, hr']
      have tk : ∀ y ∈ arcs.take (j + 1), y ∈ arcs.take j ∨ y = z := fun y hy => by
        rw [List.take_add_one, hz'] at hy
        rcases List.mem_append.mp hy with m | m
        · exact .inl m
        · exact .inr (by simpa using m)
      refine ⟨_, rfl, _, rfl, _, _, _, _, rfl, rfl, SqT.of hq3, at_of (j := 0) rfl rfl, _, _, _, _, rfl, rfl, rowAt e3, ru, _, rfl, _, _, _, _, rfl, rfl, SqT.of hq3, at_of (j := 2) rfl rfl, _, _, rfl, rfl, _, rfl, _, rfl, _, _, _, _, rfl, rfl, SqT.of hq3, at_of (j := 1) rfl rfl, _, _, _, _, rfl, rfl, rowAt e3, rv, _, _, rfl, rfl, _, rfl, ite2 (fun c => ?_) (fun c => ?_)⟩
      · refine ⟨_, rfl, _, rfl, _, _, _, _, rfl, rfl, SqT.of hq3, at_of (j := 0) rfl rfl, _, _, _, _, rfl, rfl, rowAt e3, ru, _, rfl, _, _, _, _, rfl, rfl, SqT.of hq3, at_of (j := 2) rfl rfl, _, _, rfl, rfl, _, rfl, _, rfl, _, _, _, _, rfl, rfl, SqT.of hq3, at_of (j := 1) rfl rfl, _, _, _, z.v, rfl, rfl, e3, ixn (by rw [List.length_map]; omega), ?_⟩
        refine ⟨_, true, rfl, up, ?_, (fun h => by cases h), fun _ => ?_⟩
        · rw [rel, if_pos c, upd_same]
          unfold rowO
          rw [List.map_set]
          rfl
        · cases lb with
          | true => exact t3 rfl
          | false =>
            have eb := (f3 rfl).1
            exact ⟨z, mz, by rw [← eb, low]; exact c⟩
      · refine ⟨_, lb, rfl, s3, ?_, fun h => ?_, t3⟩
        · rw [rel, if_neg c]
          exact e3
        · obtain ⟨g1, g2⟩ := f3 h
          refine ⟨by rw [rel, if_neg c]; exact g1, fun y hy => ?_⟩
          rcases tk y hy with m | m
          · exact g2 y m
          · rw [m, ← g1, low]
            cases z9 : decide (p + z.w < r) with
            | false => rfl
            | true => exact absurd z9 c
    rintro σ H3 ⟨v5, lb, rfl, s3, e3, f3, t3⟩
    rw [List.length_map, hA.e.1, List.take_length] at e3 f3
    refine ⟨_, rfl, _, rfl, ite2 (fun c => ?_) (fun c => ?_)⟩
    · have lbf : lb = false := by
        cases lb with
        | false => rfl
        | true => cases c
      obtain ⟨g1, g2⟩ := f3 lbf
      have rf : res = false := by
        cases hres : res with
        | false => rfl
        | true =>
          obtain ⟨sub, e, s, y, w, h1, h2, h3, h4⟩ := yes hres
          exact (never_still h1 h2 h3 h4 fun z m => by
            obtain ⟨p, hp⟩ := sI z.u (hz z m).1
            obtain ⟨r, hr'⟩ := sI z.v (hz z m).2
            have := g2 z m
            unfold lowB at this
            rw [hp, hr'] at this
            exact ⟨p, r, hp, hr', of_decide_eq_false this⟩).elim
      have := q H3 s3
      rw [rf] at this
      exact this
    · have lbt : lb = true := by
        cases lb with
        | true => rfl
        | false => exact absurd rfl c
      refine ⟨_, _, _, rfl, s3, e3, fun hres => ?_⟩
      have := le hres
      rcases (by omega : i < n ∨ n ≤ i) with h | h
      · omega
      · obtain ⟨Dm, cl⟩ := no hres
        obtain ⟨z, m, hl⟩ := t3 lbt
        rw [stI cl h z m] at hl
        cases hl
  rintro σ H2 ⟨v3, v4, v5, rfl, s2, e2, le⟩
  have rt : res = true := by
    cases hres : res with
    | true => rfl
    | false => have := le hres; omega
  have := q H2 s2
  rw [rt] at this
  exact this
def sp__law_arcs_of (K : PySem.W.Frag) : Sp := fun vs H Q _ => ∃ (b a : Addr) (es cs : List Addr) (bds : List Bd) (ns : List Pt), vs = [.ref b, .ref a] ∧ BnL H b es bds ∧ PtL H a cs ns ∧ (∀ z ∈ bds, z.one ∈ ns ∧ z.two ∈ ns) ∧ bds.length ≤ 1000 ∧ ∀ (l : Addr) (fs : List Addr) (H' : Hp), Same H H' → ArL H' l fs (bds.map (arcM ns)) → Q (.ref l) H'
set_option maxHeartbeats 1000000 in
theorem ok__law_arcs_of {f : Addr} {fd : FuncData} (D : Df K mg "_law_arcs_of" s__law_arcs_of ["bounds", "points"] f fd) (T : Txt K mg) : FnOk P w K mg base CX0 1 f fd ["bounds", "points"] (sp__law_arcs_of K) := by
  refine D.F.ok sc__law_arcs_of (fun vs H Q E h => ?_) (fun cdv A outer s H vs Q E hr h => ?_)
  · obtain ⟨b, a, es, cs, bds, ns, rfl, _⟩ := h
    rfl
  obtain ⟨b, a, es, cs, bds, ns, rfl, hB, hP, mem, few, q⟩ := h
  refine ⟨_, (pss_one (ps_ret (pe_lc (own := [("bound", 2)]) (g := gName 2) (tt := tYes) rfl sc__law_arcs_of.nd (pi_list (pv 0)) (blkOk_by (own := [("bound", 2)]) (N := nm__law_arcs_of) (sc := defScope s__law_arcs_of) (by decide +kernel)) (fun _ _ _ _ _ => (pg_name (i := 2) sc__law_arcs_of.nd rfl (Or.inl rfl))) (fun _ _ _ _ _ => pts_nil) (fun _ _ _ _ _ => (pe_tup (pa_cons (pe_bmK (r := rIndexD K) (T := "list") K rfl PySem.F.plainAttrs_list PySem.F.slot_list_index PySem.F.type_list_index (mt_indexD (hu65 hr)) (pv 1) (pa_cons (pe_ix (r := rIxT K) ix_tup (pv 2) pe_int (fun _ _ => rfl)) pa_nil)) (pa_cons (pe_bmK (r := rIndexD K) (T := "list") K rfl PySem.F.plainAttrs_list PySem.F.slot_list_index PySem.F.type_list_index (mt_indexD (hu65 hr)) (pv 1) (pa_cons (pe_ix (r := rIxT K) ix_tup (pv 2) pe_int (fun _ _ => rfl)) pa_nil)) (pa_cons (pe_ix (r := rIxT K) ix_tup (pv 2) pe_int (fun _ _ => rfl)) pa_nil)))))))), ?_⟩
  refine ⟨_, rfl, _, rfl, ⟨_, SqL.of hB.l⟩, fun D hD => lc_list (K := K) (a := b) (xs := es.map V.ref) (fun i H' => ∃ fs : List Addr, Same H H' ∧ H' D = some (.lst (fs.map V.ref)) ∧ Each (AcAt H') fs ((bds.take i).map (arcM ns))) ⟨[], same_upd hD, upd_same, rfl, fun i a x h => by simp at h⟩ (fun i H' _ ⟨_, s, _⟩ => SqL.of (s _ _ hB.l)) ?_ ?_⟩
  · rintro i v H1 hv ⟨fs, s1, eD, each⟩
    obtain ⟨e, he, rfl⟩ := ref_of hv
    obtain ⟨z, hz, x1, x2, h1, h2, h3⟩ := (hB.keep s1).e.get he
    obtain ⟨m1, m2⟩ := mem z (List.mem_of_getElem? hz)
    have P1 := hP.keep s1
    have g1 : (ns.map ptP)[ns.idxOf z.one]? = some (ptP z.one) := by rw [List.getElem?_map, idx_get m1]; rfl
    have g2 : (ns.map ptP)[ns.idxOf z.two]? = some (ptP z.two) := by rw [List.getElem?_map, idx_get m2]; rfl
    refine ⟨rfl, _, rfl, .inl ⟨rfl, _, SqL.of P1.l⟩, _, rfl, _, _, _, _, rfl, rfl, SqT.of h1, at_of (j := 0) rfl rfl, a, _, ptP z.one, _, ns.idxOf z.one, _, rfl, rfl, P1.dp, pt_dp h2, pts_shaped _, rfl, g1, by rw [pt_eqv]; exact decide_eq_true rfl, idx_first, ?_⟩
    refine ⟨_, rfl, .inl ⟨rfl, _, SqL.of P1.l⟩, _, rfl, _, _, _, _, rfl, rfl, SqT.of h1, at_of (j := 1) rfl rfl, a, _, ptP z.two, _, ns.idxOf z.two, _, rfl, rfl, P1.dp, pt_dp h3, pts_shaped _, rfl, g2, by rw [pt_eqv]; exact decide_eq_true rfl, idx_first, ?_⟩
    refine ⟨_, rfl, _, _, _, _, rfl, rfl, SqT.of h1, at_of (j := 2) rfl rfl, (by show 3 ≤ sizeLine; decide), fun u nu => ?_⟩
    obtain ⟨s2, h5⟩ := fr (rfl : upd H1 u (.tup [.int (ns.idxOf z.one : Nat), .int (ns.idxOf z.two : Nat), .int z.amount]) = _) nu
    generalize upd H1 u (.tup [.int (ns.idxOf z.one : Nat), .int (ns.idxOf z.two : Nat), .int z.amount]) = H2 at *
    have tk : TupK H2 (upd H2 D (.lst (fs.map V.ref ++ [V.ref u]))) := .set (s2 _ _ eD)
    refine ⟨_, s2 _ _ eD, ?_, fs ++ [u], fun y w h => ?_, by rw [upd_same, List.map_append]; rfl, ?_⟩
    · rw [List.length_map, each.1, List.length_map, List.length_take]
      exact sizes' (by omega)
    · rw [upd_ne (ne_of_none h hD)]
      exact s2 _ _ (s1 _ _ h)
    · rw [map_take hz]
      exact (each.keep fun _ _ y => tk.1 _ _ (s2 _ _ y)).snoc (x := arcM ns z) (tk.1 _ _ h5)
  rintro H1 ⟨fs, s1, eD, each⟩
  rw [List.length_map, hB.e.1, List.take_length] at each
  exact q D fs H1 s1 ⟨eD, each⟩
def sp__law_choices (K : PySem.W.Frag) : Sp := fun vs H Q _ => ∃ (n k : Nat), vs = [.int (n : Int), .int (k : Int)] ∧ n < 10 ∧ k < 3 ∧ ∀ (l : Addr) (es : List Addr) (H' : Hp), Same H H' → H l = none → ChL H' l es ((rowsF n k).map chI) → Q (.ref l) H'
set_option maxHeartbeats 2000000 in
theorem ok__law_choices {f : Addr} {fd : FuncData} (D : Df K mg "_law_choices" s__law_choices ["parts", "faults"] f fd) (T : Txt K mg) : FnOk P w K mg base CX0 1 f fd ["parts", "faults"] (sp__law_choices K) := by
  refine D.F.ok sc__law_choices (fun vs H Q E h => ?_) (fun cdv A outer s H vs Q E hr h => ?_)
  · obtain ⟨n, k, rfl, _⟩ := h
    rfl
  obtain ⟨n, k, rfl, hn, hk3, q0⟩ := h
  refine ⟨_, (pss_cons (ps_if (pt_cmpR op_eq (pv 1) pe_int (nomark _))
      (pss_one (ps_ret (pe_lst (pa_cons (pe_tup pa_nil) pa_nil))))
      pss_nil)
    (pss_cons (ps_set (i := 2) sc__law_choices.nd rfl (Or.inl rfl) (pe_lst pa_nil))
    (pss_cons (ps_for PassesOwn.never rfl (pi_range1 rfl T.range (pa_cons (pv 0) pa_nil)) (pg_name (i := 3) sc__law_choices.nd rfl (Or.inl rfl))
      (C8.pss_cut (ps_if (pt_cmpR op_eq (pv 1) pe_int (nomark _))
      (pss_one (ps_expr (pe_bm PySem.F.plainAttrs_list PySem.F.slot_list_append PySem.F.type_list_append mt_append (pv 2) (pa_cons (pe_tup (pa_cons (pv 3) pa_nil)) pa_nil))))
      pss_nil)
    (pss_one (ps_for PassesOwn.never rfl (pi_range2 rfl T.range (pa_cons (pe_op op_add (pv 3) pe_int) (pa_cons (pv 0) pa_nil))) (pg_name (i := 4) sc__law_choices.nd rfl (Or.inl rfl))
      (pss_one (ps_if (pt_cmpR op_eq (pv 1) pe_int (nomark _))
      (pss_one (ps_expr (pe_bm PySem.F.plainAttrs_list PySem.F.slot_list_append PySem.F.type_list_append mt_append (pv 2) (pa_cons (pe_tup (pa_cons (pv 3) (pa_cons (pv 4) pa_nil))) pa_nil))))
      pss_nil))))))
    (pss_one (ps_ret (pv 2)))))), ?_⟩
  have q : ∀ (l : Addr) (es : List Addr) (H' : Hp), Same H H' → H l = none → CsL H' l es (rowsF n k) → Q (.ref l) H' := fun l es H' s n c => q0 l es H' s n c.ch
  have kz : ∀ {z : Nat}, (decide (V.int (k : Int) = V.int (z : Int))) = decide (k = z) := fun {z} => by
    rw [decide_eq_decide]
    constructor
    · intro h
      injection h with h
      omega
    · intro h
      rw [h]
  refine ⟨_, rfl, rfl, _, rfl, ?_⟩
  show if decide (V.int (k : Int) = V.int ((0 : Nat) : Int)) = true then _ else _
  rw [kz]
  by_cases k0 : k = 0
  · rw [decide_eq_true k0]
    refine iteT ⟨by show 0 ≤ sizeLine; decide, fun p np => ⟨by show 1 ≤ sizeLine; decide, fun l nl => ?_⟩⟩
    obtain ⟨s1, h1⟩ := fr (rfl : upd H p (.tup []) = _) np
    generalize upd H p (.tup []) = H1 at *
    have er : rowsF n k = [[]] := by unfold rowsF; rw [if_pos k0]
    rw [er] at q
    refine q l [p] _ (s1.trans (same_upd nl)) (s1.free nl) ⟨upd_same, rfl, fun i x y hx hy => ?_⟩
    match i, hx, hy with
    | 0, hx, hy =>
      cases hx
      cases hy
      exact same_upd nl _ _ h1
    | j + 1, hx, _ => simp at hx
  rw [decide_eq_false k0]
  have er : rowsF n k = (List.range n).flatMap (rows1 n k) := by unfold rowsF; rw [if_neg k0]
  rw [er] at q
  refine iteF ⟨by show 0 ≤ sizeLine; decide, fun D hD => ?_⟩
  refine ⟨_, rfl, _, rfl, by omega, by omega, for_range (lo := 0) (n := ((n : Nat) : Int).toNat) (fun i σ H' => ∃ v3 v4 es, σ = [some (.int (n : Int)), some (.int (k : Int)), some (.ref D), v3, v4] ∧ Same H H' ∧ CsL H' D es ((List.range i).flatMap (rows1 n k)) ∧ es.length ≤ 200 * i) ⟨none, none, [], rfl, same_upd hD, ⟨upd_same, Each.nil⟩, Nat.le_refl _⟩ ?_ ?_⟩
  · rintro i σ H1 hi ⟨v3, v4, es, rfl, s1, hC, len⟩
    have hi : i < n := by omega
    have st : (List.range (i + 1)).flatMap (rows1 n k) = (List.range i).flatMap (rows1 n k) ++ rows1 n k i := by rw [List.range_succ, List.flatMap_append]; simp
    rw [st]
    generalize (List.range i).flatMap (rows1 n k) = J at *
    refine ⟨fun σ H' => ∃ es, σ = [some (.int (n : Int)), some (.int (k : Int)), some (.ref D), some (.int (0 + (i : Int))), v4] ∧ Same H H' ∧ CsL H' D es (J ++ (if k = 1 then [[i]] else [])) ∧ es.length ≤ 200 * i + 1, ?_, ?_⟩
    · refine ⟨_, rfl, rfl, _, rfl, ?_⟩
      show if decide (V.int (k : Int) = V.int ((1 : Nat) : Int)) = true then _ else _
      rw [kz]
      by_cases k1 : k = 1
      · rw [decide_eq_true k1, if_pos k1]
        refine iteT ⟨_, rfl, .inl ⟨rfl, _, SqL.of hC.l⟩, _, rfl, by show 1 ≤ sizeLine; decide, fun u nu => ?_⟩
        obtain ⟨g1, g2⟩ := hC.grow (c := [i]) (vs := [V.int (0 + (i : Int))]) hD s1 nu (by rw [Int.zero_add]; rfl)
        exact ⟨_, _, _, rfl, rfl, same_upd nu _ _ hC.l, by rw [List.length_map]; exact sizes' (by omega), es ++ [u], rfl, g1, g2, by rw [List.length_append, List.length_singleton]; omega⟩
      · rw [decide_eq_false k1, if_neg k1, List.append_nil]
        exact iteF ⟨es, rfl, s1, hC, by omega⟩
    clear hC s1 len
    rintro σ H2 ⟨es, rfl, s2, hC, len⟩
    have e1 : rows1 n k i = (if k = 1 then [[i]] else []) ++ (List.range (n - (i + 1))).flatMap fun j => (if k = 2 then [[i, i + 1 + j]] else []) ++ (List.range (n - (i + 1 + j + 1))).flatMap fun l => if k = 3 then [[i, i + 1 + j, i + 1 + j + 1 + l]] else [] := rfl
    rw [e1, ← List.append_assoc]
    generalize J ++ (if k = 1 then [[i]] else []) = J1 at *
    have cnt : ((n : Int) - (0 + (i : Int) + 1)).toNat = n - (i + 1) := by omega
    refine ⟨_, rfl, _, _, rfl, rfl, _, rfl, _, _, rfl, ⟨by omega, by omega, by omega, by omega⟩, for_range (lo := 0 + (i : Int) + 1) (n := ((n : Int) - (0 + (i : Int) + 1)).toNat) (fun j σ H' => ∃ v4 es, σ = [some (.int (n : Int)), some (.int (k : Int)), some (.ref D), some (.int (0 + (i : Int))), v4] ∧ Same H H' ∧ CsL H' D es (J1 ++ (List.range j).flatMap fun j => (if k = 2 then [[i, i + 1 + j]] else []) ++ (List.range (n - (i + 1 + j + 1))).flatMap fun l => if k = 3 then [[i, i + 1 + j, i + 1 + j + 1 + l]] else []) ∧ es.length ≤ 200 * i + 1 + 20 * j) ⟨_, es, rfl, s2, by rw [List.range_zero]; simpa using hC, by omega⟩ ?_ ?_⟩
    · rintro j σ H3 hj ⟨w4, es, rfl, s3, hC, len⟩
      rw [cnt] at hj
      have st2 : (List.range (j + 1)).flatMap (fun j => (if k = 2 then [[i, i + 1 + j]] else []) ++ (List.range (n - (i + 1 + j + 1))).flatMap fun l => if k = 3 then [[i, i + 1 + j, i + 1 + j + 1 + l]] else []) = (List.range j).flatMap (fun j => (if k = 2 then [[i, i + 1 + j]] else []) ++ (List.range (n - (i + 1 + j + 1))).flatMap fun l => if k = 3 then [[i, i + 1 + j, i + 1 + j + 1 + l]] else []) ++ ((if k = 2 then [[i, i + 1 + j]] else []) ++ (List.range (n - (i + 1 + j + 1))).flatMap fun l => if k = 3 then [[i, i + 1 + j, i + 1 + j + 1 + l]] else []) := by rw [List.range_succ, List.flatMap_append]; simp
      rw [st2, ← List.append_assoc]
      generalize J1 ++ (List.range j).flatMap _ = J2 at *
      have e3 : ((List.range (n - (i + 1 + j + 1))).flatMap fun l => if k = 3 then [[i, i + 1 + j, i + 1 + j + 1 + l]] else []) = [] := by
        rw [List.flatMap_eq_nil_iff]
        intro l _
        rw [if_neg (by omega)]
      rw [e3, List.append_nil]
      refine ⟨_, rfl, rfl, _, rfl, ?_⟩
      show if decide (V.int (k : Int) = V.int ((2 : Nat) : Int)) = true then _ else _
      rw [kz]
      by_cases k2 : k = 2
      · rw [decide_eq_true k2, if_pos k2]
        refine iteT ⟨_, rfl, .inl ⟨rfl, _, SqL.of hC.l⟩, _, rfl, _, rfl, by show 2 ≤ sizeLine; decide, fun u nu => ?_⟩
        obtain ⟨g1, g2⟩ := hC.grow (c := [i, i + 1 + j]) (vs := [V.int (0 + (i : Int)), V.int (0 + (i : Int) + 1 + (j : Int))]) hD s3 nu (by rw [show (0 + (i : Int) + 1 + (j : Int)) = ((i + 1 + j : Nat) : Int) by omega, Int.zero_add]; rfl)
        exact ⟨_, _, _, rfl, rfl, same_upd nu _ _ hC.l, by rw [List.length_map]; exact sizes' (by omega), _, es ++ [u], rfl, g1, g2, by rw [List.length_append, List.length_singleton]; omega⟩
      · rw [decide_eq_false k2, if_neg k2, List.append_nil]
        exact iteF ⟨_, es, rfl, s3, hC, by omega⟩
    · rintro σ H3 ⟨w4, es, rfl, s3, hC, len⟩
      rw [cnt] at hC len
      exact ⟨_, w4, es, rfl, s3, hC, by omega⟩
  rintro σ H1 ⟨v3, v4, es, rfl, s1, hC, len⟩
  rw [show ((n : Nat) : Int).toNat = n by omega] at hC
  exact ⟨_, rfl, q D es H1 s1 hD hC⟩
def sp__law_least (K : PySem.W.Frag) : Sp := fun vs H Q _ => ∃ (ar : Addr) (n s : Nat) (es : List Addr) (arcs : List Ar) (D : Nat → Nat → Option Int), vs = [.ref ar, .int (n : Int), .int (s : Int)] ∧ ArL H ar es arcs ∧ ClD D n arcs ∧ s < n ∧ n ≤ 1000 ∧ ∀ (l : Addr) (H' : Hp), Same H H' → H l = none → H' l = some (rowO ((List.range n).map (D s))) → Q (.ref l) H'
theorem ok__law_least {f : Addr} {fd : FuncData} (D : Df K mg "_law_least" s__law_least ["arcs", "many", "start"] f fd) (T : Txt K mg) : FnOk P w K mg base CX0 1 f fd ["arcs", "many", "start"] (sp__law_least K) := by
  refine D.F.ok sc__law_least (fun vs H Q E h => ?_) (fun cdv A outer s H vs Q E hr h => ?_)
  · obtain ⟨ar, n, s, es, arcs, D, rfl, _⟩ := h
    rfl
  obtain ⟨ar, n, s, es, arcs, Dm, rfl, hA, cl, hs, hn, q⟩ := h
  refine ⟨_, (pss_cons (ps_setLc (i := 3) (own := [("k", 6)]) (g := gName 6) (tt := tYes) rfl sc__law_least.nd rfl rfl (sw_true rfl rfl rfl (by decide +kernel)) (pi_range1 rfl T.range (pa_cons (pv 1) pa_nil)) (blkOk_by (own := [("k", 6)]) (N := nm__law_least) (sc := defScope s__law_least) (by decide +kernel)) (fun _ _ _ _ _ => (pg_name (i := 6) sc__law_least.nd rfl (Or.inl rfl))) (fun _ _ _ _ _ => pts_nil) (fun _ _ _ _ _ => pe_non))
    (pss_cons (ps_asg pe_int (pg_sub (pv 3) (pv 2) set_list))
    (pss_cons (ps_for PassesOwn.never rfl (pi_range1 rfl T.range (pa_cons (pv 1) pa_nil)) (pg_name (i := 4) sc__law_least.nd rfl (Or.inl rfl))
      (pss_one (ps_for PassesOwn.never rfl (pi_list (pv 0)) (pg_name (i := 5) sc__law_least.nd rfl (Or.inl rfl))
      (pss_one (ps_if (pt_cmpR op_notN (pe_ix ix_list (pv 3) (pe_ix ix_tup (pv 5) pe_int (fun _ _ => rfl)) (fun _ _ => rfl)) pe_non (nomark _))
      (pss_cons (ps_set (i := 7) sc__law_least.nd rfl (Or.inl rfl) (pe_op op_add (pe_ix ix_list (pv 3) (pe_ix ix_tup (pv 5) pe_int (fun _ _ => rfl)) (fun _ _ => rfl)) (pe_ix ix_tup (pv 5) pe_int (fun _ _ => rfl))))
    (pss_one (ps_if (PW.pt (pw_or (pt_cmpR op_isN (pe_ix ix_list (pv 3) (pe_ix ix_tup (pv 5) pe_int (fun _ _ => rfl)) (fun _ _ => rfl)) pe_non (nomark _)) (pw_or1 (pt_cmpR op_lt (pv 7) (pe_ix ix_list (pv 3) (pe_ix ix_tup (pv 5) pe_int (fun _ _ => rfl)) (fun _ _ => rfl)) (nomark _)))))
      (pss_one (ps_asg (pv 7) (pg_sub (pv 3) (pe_ix ix_tup (pv 5) pe_int (fun _ _ => rfl)) set_list)))
      pss_nil)))
      pss_nil)))))
    (pss_one (ps_ret (pv 3)))))), ?_⟩
  refine ⟨_, rfl, _, rfl, by omega, by omega, fun D hD => lc_range (lo := 0) (n := ((n : Nat) : Int).toNat) (fun i H' => Same H H' ∧ H' D = some (rowO (List.replicate i none))) ⟨same_upd hD, upd_same⟩ ?_ ?_⟩
  · rintro i H1 hi ⟨s1, e1⟩
    refine ⟨rfl, _, e1, ?_, fun c u h => ?_, ?_⟩
    · rw [List.length_map, List.length_replicate]
      exact sizes' (by omega)
    · rw [upd_ne (ne_of_none h hD)]
      exact s1 _ _ h
    · rw [upd_same, List.replicate_succ']
      unfold rowO
      rw [List.map_append]
      rfl
  rintro H1 ⟨s1, e1⟩
  rw [show ((n : Nat) : Int).toNat = n by omega] at e1
  refine ⟨_, rfl, _, rfl, _, _, _, s, rfl, rfl, e1, ixn (by rw [List.length_map, List.length_replicate]; exact hs), ?_⟩
  have s2 : Same H (upd H1 D (.lst (((List.replicate n (none : Option Int)).map hiV).set s (V.int 0)))) := fun c u h => by
    rw [upd_ne (ne_of_none h hD)]
    exact s1 _ _ h
  have e2 : upd H1 D (.lst (((List.replicate n (none : Option Int)).map hiV).set s (V.int 0))) D = some (rowO ((List.replicate n none).set s (some 0))) := by
    rw [upd_same]
    unfold rowO
    rw [List.map_set]
    rfl
  generalize upd H1 D (.lst (((List.replicate n (none : Option Int)).map hiV).set s (V.int 0))) = H2 at *
  have len0 : ((List.replicate n (none : Option Int)).set s (some 0)).length = n := by rw [List.length_set, List.length_replicate]
  have fin := least_is cl hs
  generalize (List.replicate n (none : Option Int)).set s (some 0) = b0 at *
  refine ⟨_, rfl, _, rfl, by omega, by omega, for_range (lo := 0) (n := ((n : Nat) : Int).toNat) (fun i σ H' => ∃ v4 v5 v7, σ = [some (.ref ar), some (.int (n : Int)), some (.int (s : Int)), some (.ref D), v4, v5, none, v7] ∧ Same H H' ∧ H' D = some (rowO (iterR arcs i b0))) ⟨_, _, _, rfl, s2, e2⟩ ?_ ?_⟩
  · rintro i σ H3 hi ⟨v4, v5, v7, rfl, s3, e3⟩
    have lenI : (iterR arcs i b0).length = n := by rw [iterR_len, len0]
    have hA3 := hA.keep s3
    refine ⟨_, rfl, _, rfl, ⟨_, SqL.of hA3.l⟩, for_list (K := K) (a := ar) (xs := es.map V.ref) (fun j σ H' => ∃ v5 v7, σ = [some (.ref ar), some (.int (n : Int)), some (.int (s : Int)), some (.ref D), some (.int (0 + (i : Int))), v5, none, v7] ∧ Same H H' ∧ H' D = some (rowO ((arcs.take j).foldl relax (iterR arcs i b0)))) ⟨_, _, rfl, s3, e3⟩ (fun i σ H' _ ⟨_, _, _, s, _⟩ => SqL.of (s _ _ hA.l)) ?_ ?_⟩
    · rintro j x σ H4 hx ⟨v5, v7, rfl, s4, e4⟩
      obtain ⟨e, he, rfl⟩ := ref_of hx
      obtain ⟨z, hz, hq⟩ := hA.e.get he
      have hq4 : H4 e = some (.tup [.int (z.u : Int), .int (z.v : Int), .int z.w]) := s4 _ _ hq
      obtain ⟨hu, hv, _⟩ := cl.ar z (List.mem_of_getElem? hz)
      have lb : ((arcs.take j).foldl relax (iterR arcs i b0)).length = n := by rw [foldr_len, lenI]
      rw [fold_take hz]
      generalize (arcs.take j).foldl relax (iterR arcs i b0) = b at *
      have ru := row_at (r := b) (i := z.u) (by omega)
      have rv := row_at (r := b) (i := z.v) (by omega)
      have up : ∀ {o : HO}, Same H (upd H4 D o) := fun {o} c u h => by
        rw [upd_ne (ne_of_none h hD)]
        exact s4 _ _ h
      refine ⟨_, rfl, _, rfl, _, _, _, _, rfl, rfl, SqT.of hq4, at_of (j := 0) rfl rfl, _, _, _, _, rfl, rfl, rowAt e4, ru, rfl, _, rfl, ?_⟩
      rw [hiV_non]
      unfold relax
      cases hb : b.getD z.u none with
      | none => exact iteF ⟨_, _, rfl, s4, e4⟩
      | some a =>
        rw [hb] at ru
        refine iteT ⟨_, rfl, _, rfl, _, _, _, _, rfl, rfl, SqT.of hq4, at_of (j := 0) rfl rfl, _, _, _, _, rfl, rfl, rowAt e4, ru, _, rfl, _, _, _, _, rfl, rfl, SqT.of hq4, at_of (j := 2) rfl rfl, _, _, rfl, rfl, ?_⟩
        have set : upd H4 D (.lst ((b.map hiV).set z.v (V.int (a + z.w)))) D = some (rowO (b.set z.v (some (a + z.w)))) := by
          rw [upd_same]
          unfold rowO
          rw [List.map_set]
          rfl
        refine ⟨_, rfl, _, rfl, _, _, _, _, rfl, rfl, SqT.of hq4, at_of (j := 1) rfl rfl, _, _, _, _, rfl, rfl, rowAt e4, rv, rfl, _, rfl, ?_⟩
        rw [hiV_non]
        show if (b.getD z.v none).isNone = true then _ else _
        cases hw : b.getD z.v none with
        | none =>
          exact iteT (iteT ⟨_, rfl, _, rfl, _, rfl, _, _, _, _, rfl, rfl, SqT.of hq4, at_of (j := 1) rfl rfl, _, _, _, z.v, rfl, rfl, e4, ixn (by rw [List.length_map]; omega), _, _, rfl, up, set⟩)
        | some y =>
          rw [hw] at rv
          refine iteF ⟨_, rfl, _, rfl, _, rfl, _, _, _, _, rfl, rfl, SqT.of hq4, at_of (j := 1) rfl rfl, _, _, _, _, rfl, rfl, rowAt e4, rv, _, _, rfl, rfl, _, rfl, ite2 (fun c => ?_) (fun c => ?_)⟩
          · refine ⟨_, rfl, _, rfl, _, rfl, _, _, _, _, rfl, rfl, SqT.of hq4, at_of (j := 1) rfl rfl, _, _, _, z.v, rfl, rfl, e4, ixn (by rw [List.length_map]; omega), _, _, rfl, up, ?_⟩
            rw [set]
            show _ = some (rowO (if decide (a + z.w < y) = true then _ else _))
            rw [if_pos c]
          · refine ⟨_, _, rfl, s4, ?_⟩
            show _ = some (rowO (if decide (a + z.w < y) = true then _ else _))
            rw [if_neg c]
            exact e4
    rintro σ H4 ⟨v5, v7, rfl, s4, e4⟩
    rw [List.length_map, hA.e.1, List.take_length] at e4
    exact ⟨_, _, _, rfl, s4, e4⟩
  rintro σ H3 ⟨v4, v5, v7, rfl, s3, e3⟩
  rw [show ((n : Nat) : Int).toNat = n by omega, fin] at e3
  exact ⟨_, rfl, q D H3 s3 hD e3⟩
theorem named_iff {own : List Bd} {p : Pt} : p ∈ own.map (·.one) ++ own.map (·.two) ↔ p ∈ namesM [] own := by
  constructor
  · intro h
    rcases List.mem_append.mp h with h | h
    · obtain ⟨b, hb, rfl⟩ := List.mem_map.mp h
      exact (foldB_mem own [] hb).1
    · obtain ⟨b, hb, rfl⟩ := List.mem_map.mp h
      exact (foldB_mem own [] hb).2
  · intro h
    rcases names_in h with h | ⟨b, hb, h | h⟩
    · cases h
    · exact List.mem_append_left _ (List.mem_map.mpr ⟨b, hb, h.symm⟩)
    · exact List.mem_append_right _ (List.mem_map.mpr ⟨b, hb, h.symm⟩)
theorem cM1 {c : Int} : decide (V.int c = V.int (-1)) = decide (c = -1) := decide_eq_decide.mpr ⟨fun h => by injection h, fun h => by rw [h]⟩
def sp__law_follows (K : PySem.W.Frag) : Sp := fun vs H Q _ => ∃ (o b : Addr) (es fs : List Addr) (own left : List Bd), vs = [.ref o, .ref b] ∧ BnL H o es own ∧ BnL H b fs left ∧ (∀ z ∈ own, z.one ∈ ptsL ∧ z.two ∈ ptsL) ∧ (∀ z ∈ left, z.one ∈ ptsL ∧ z.two ∈ ptsL) ∧ own.length ≤ 15 ∧ left.length ≤ 15 ∧ (tabM left ptsL).ok = true ∧ ∀ H', Same H H' → Q (.bl (folB own left)) H'
set_option maxHeartbeats 4000000 in
theorem ok__law_follows {f : Addr} {fd : FuncData} (D : Df K mg "_law_follows" s__law_follows ["own", "others"] f fd) (T : Txt K mg) {f__law_points : Addr} {fd__law_points : FuncData} (D__law_points : Df K mg "_law_points" s__law_points [] f__law_points fd__law_points) (G__law_points : FnOk P w K mg base CX0 1 f__law_points fd__law_points [] (sp__law_points K)) {f__law_least : Addr} {fd__law_least : FuncData} (D__law_least : Df K mg "_law_least" s__law_least ["arcs", "many", "start"] f__law_least fd__law_least) (G__law_least : FnOk P w K mg base CX0 1 f__law_least fd__law_least ["arcs", "many", "start"] (sp__law_least K)) {f__law_ring : Addr} {fd__law_ring : FuncData} (D__law_ring : Df K mg "_law_ring" s__law_ring ["arcs", "many"] f__law_ring fd__law_ring) (G__law_ring : FnOk P w K mg base CX0 1 f__law_ring fd__law_ring ["arcs", "many"] (sp__law_ring K)) {f__law_arcs_of : Addr} {fd__law_arcs_of : FuncData} (D__law_arcs_of : Df K mg "_law_arcs_of" s__law_arcs_of ["bounds", "points"] f__law_arcs_of fd__law_arcs_of) (G__law_arcs_of : FnOk P w K mg base CX0 1 f__law_arcs_of fd__law_arcs_of ["bounds", "points"] (sp__law_arcs_of K)) : FnOk P w K mg base CX0 2 f fd ["own", "others"] (sp__law_follows K) := by
  refine D.F.ok sc__law_follows (fun vs H Q E h => ?_) (fun cdv A outer s H vs Q E hr h => ?_)
  · obtain ⟨o, b, es, fs, own, left, rfl, _⟩ := h
    rfl
  obtain ⟨o, b, es, fs, own, left, rfl, hO, hB, om, lm, ol, ll, okL, q⟩ := h
  refine ⟨_, (pss_cons (ps_set (i := 2) sc__law_follows.nd rfl (Or.inl rfl) (pe_call0 G__law_points (hr.mono (by decide)) rfl D__law_points.m D__law_points.F.kp D__law_points.b .nil pass0))
    (pss_cons (ps_if (pt_val (pe_call G__law_ring (hr.mono (by decide)) rfl D__law_ring.m D__law_ring.F.kp D__law_ring.b .nil pass0 (pa_cons (pe_call G__law_arcs_of (hr.mono (by decide)) rfl D__law_arcs_of.m D__law_arcs_of.F.kp D__law_arcs_of.b .nil pass0 (pa_cons (pv 0) (pa_cons (pv 2) pa_nil))) (pa_cons (pe_callB call_len_seq rfl T.len PySem.boot_len (pa_cons (pv 2) pa_nil)) pa_nil))))
      (pss_one (ps_ret pe_bl))
      pss_nil)
    (pss_cons (ps_set (i := 3) sc__law_follows.nd rfl (Or.inl rfl) (pe_op op_cat (pe_lc (own := [("bound", 8)]) (g := gName 8) (tt := tYes) rfl sc__law_follows.nd (pi_list (pv 0)) (blkOk_by (own := [("bound", 8)]) (N := nm__law_follows) (sc := defScope s__law_follows) (by decide +kernel)) (fun _ _ _ _ _ => (pg_name (i := 8) sc__law_follows.nd rfl (Or.inl rfl))) (fun _ _ _ _ _ => pts_nil) (fun _ _ _ _ _ => (pe_ix (r := rIxT K) ix_tup (pv 8) pe_int (fun _ _ => rfl)))) (pe_lc (own := [("bound", 8)]) (g := gName 8) (tt := tYes) rfl sc__law_follows.nd (pi_list (pv 0)) (blkOk_by (own := [("bound", 8)]) (N := nm__law_follows) (sc := defScope s__law_follows) (by decide +kernel)) (fun _ _ _ _ _ => (pg_name (i := 8) sc__law_follows.nd rfl (Or.inl rfl))) (fun _ _ _ _ _ => pts_nil) (fun _ _ _ _ _ => (pe_ix (r := rIxT K) ix_tup (pv 8) pe_int (fun _ _ => rfl))))))
    (pss_cons (ps_for PassesOwn.never rfl (pi_range1 rfl T.range (pa_cons (pe_callB call_len_seq rfl T.len PySem.boot_len (pa_cons (pv 2) pa_nil)) pa_nil)) (pg_name (i := 4) sc__law_follows.nd rfl (Or.inl rfl))
      (pss_one (ps_if (PW.pt (pw_and (pt_cmpR (op_inD (hu65 hr)) (pe_ix ix_list (pv 2) (pv 4) (fun _ _ => rfl)) (pv 3) (by rfl)) (pw_and1 (pt_cmpR op_eq (pe_ix ix_tup (pe_ix ix_list (pv 2) (pv 4) (fun _ _ => rfl)) pe_int (fun _ _ => rfl)) (pe_un un_neg pe_int) (nomark _)))))
      (pss_cons (ps_set (i := 5) sc__law_follows.nd rfl (Or.inl rfl) (pe_call G__law_least (hr.mono (by decide)) rfl D__law_least.m D__law_least.F.kp D__law_least.b .nil pass0 (pa_cons (pe_call G__law_arcs_of (hr.mono (by decide)) rfl D__law_arcs_of.m D__law_arcs_of.F.kp D__law_arcs_of.b .nil pass0 (pa_cons (pv 0) (pa_cons (pv 2) pa_nil))) (pa_cons (pe_callB call_len_seq rfl T.len PySem.boot_len (pa_cons (pv 2) pa_nil)) (pa_cons (pv 4) pa_nil)))))
    (pss_cons (ps_set (i := 6) sc__law_follows.nd rfl (Or.inl rfl) (pe_call G__law_least (hr.mono (by decide)) rfl D__law_least.m D__law_least.F.kp D__law_least.b .nil pass0 (pa_cons (pe_call G__law_arcs_of (hr.mono (by decide)) rfl D__law_arcs_of.m D__law_arcs_of.F.kp D__law_arcs_of.b .nil pass0 (pa_cons (pv 1) (pa_cons (pv 2) pa_nil))) (pa_cons (pe_callB call_len_seq rfl T.len PySem.boot_len (pa_cons (pv 2) pa_nil)) (pa_cons (pv 4) pa_nil)))))
    (pss_one (ps_for PassesOwn.never rfl (pi_range1 rfl T.range (pa_cons (pe_callB call_len_seq rfl T.len PySem.boot_len (pa_cons (pv 2) pa_nil)) pa_nil)) (pg_name (i := 7) sc__law_follows.nd rfl (Or.inl rfl))
      (pss_one (ps_if (PW.pt (pw_and (pt_cmpR (op_inD (hu65 hr)) (pe_ix ix_list (pv 2) (pv 7) (fun _ _ => rfl)) (pv 3) (by rfl)) (pw_and (pt_cmpR op_eq (pe_ix ix_tup (pe_ix ix_list (pv 2) (pv 7) (fun _ _ => rfl)) pe_int (fun _ _ => rfl)) (pe_un un_neg pe_int) (nomark _)) (pw_and1 (pt_cmpR op_notN (pe_ix ix_list (pv 5) (pv 7) (fun _ _ => rfl)) pe_non (nomark _))))))
      (pss_one (ps_if (PW.pt (pw_or (pt_cmpR op_isN (pe_ix ix_list (pv 6) (pv 7) (fun _ _ => rfl)) pe_non (nomark _)) (pw_or1 (pt_cmpR op_gt (pe_ix ix_list (pv 6) (pv 7) (fun _ _ => rfl)) (pe_ix ix_list (pv 5) (pv 7) (fun _ _ => rfl)) (nomark _)))))
      (pss_one (ps_ret pe_bl))
      pss_nil))
      pss_nil))))))
      pss_nil)))
    (pss_one (ps_ret pe_bl)))))), ?_⟩
  obtain ⟨op, res, okR, ring, dist⟩ := tab_ringN (big := ptsL) (by decide) (ps := []) om (fun r hr => by cases hr) (Nat.le_trans (names_few om fun r hr => by cases hr) (by decide))
  obtain ⟨_, res2, okR2, _, dist2⟩ := tab_ringN (big := ptsL) (by decide) (ps := ptsL) lm (fun r hr => hr) (Nat.le_trans (names_few lm fun r hr => hr) (by decide))
  have e2 : res2 = false := by cases res2 with
    | false => rfl
    | true => rw [okL] at okR2; cases okR2
  obtain ⟨_, Dl, clL, deL⟩ := dist2 e2
  refine ⟨rfl, fun nm nbs H1 s1 n1 N1 => ?_⟩
  have n7 : (nbs.map V.ref).length = 7 := by rw [List.length_map, N1.e.1]; rfl
  refine ⟨_, rfl, _, rfl, o, nm, es, nbs, own, ptsL, rfl, hO.keep s1, N1, om, by omega, fun ar afs H2 s2 A2 => ?_⟩
  have N2 := N1.keep s2
  have s02 := s1.trans s2
  refine ⟨_, rfl, _, _, rfl, .inl (SqL.of N2.l), ar, 7, afs, _, res, by rw [n7]; rfl, A2, fun z hz => ?_, by decide, ring, fun H3 s3 => ?_⟩
  · obtain ⟨w, hw, rfl⟩ := List.mem_map.mp hz
    exact ⟨idx_lt (om w hw).1, idx_lt (om w hw).2⟩
  have s03 := s02.trans s3
  have N3 := N2.keep s3
  cases hres : res with
  | true =>
    rw [hres] at okR
    have : folB own left = false := by unfold folB nothB; rw [okR]; rfl
    rw [this] at q
    exact ⟨_, rfl, iteT (q H3 s03)⟩
  | false =>
    rw [hres] at okR
    obtain ⟨_, Do, clO, deO⟩ := dist hres
    refine ⟨_, rfl, iteF ?_⟩
    have O3 := hO.keep s03
    clear N1 N2 A2 s1 s2 s3 s02 ring dist dist2 hO n1
    refine ⟨_, rfl, _, rfl, ⟨_, SqL.of O3.l⟩, fun D hD => lc_list (K := K) (a := o) (xs := es.map V.ref) (fun i H' => Same H3 H' ∧ ∃ gs, PtL H' D gs ((own.take i).map (·.one))) ⟨same_upd hD, [], upd_same, Each.nil⟩ (fun i H' _ p => SqL.of (p.1 _ _ O3.l)) ?_ ?_⟩
    · rintro i v H' hv ⟨sm, gs, hG⟩
      obtain ⟨e, he, rfl⟩ := ref_of hv
      obtain ⟨z, hz, hq⟩ := O3.e.get he
      obtain ⟨x, y, ht, hx, hy⟩ := hq.tk (TupK.of sm)
      have hi : i < own.length := (List.getElem?_eq_some_iff.mp hz).1
      have kk : TupK H' (upd H' D (.lst (gs.map V.ref ++ [V.ref x]))) := .set hG.l
      refine ⟨rfl, _, rfl, _, _, _, _, rfl, rfl, SqT.of ht, at_of (j := 0) rfl rfl, _, hG.l, by rw [List.length_map, hG.e.1, List.length_map, List.length_take]; exact sizes' (by omega), fun c w hcw => ?_, gs ++ [x], ?_⟩
      · rw [upd_ne (ne_of_none hcw hD)]
        exact sm _ _ hcw
      · rw [map_take hz]
        exact ⟨by rw [upd_same, List.map_append]; rfl, (hG.e.keep fun _ _ z => kk.1 _ _ z).snoc (kk.1 _ _ hx)⟩
    rintro H4 ⟨s4, g1, P4⟩
    rw [List.length_map, O3.e.1, List.take_length] at P4
    have O4 := O3.keep s4
    refine ⟨_, rfl, _, rfl, ⟨_, SqL.of O4.l⟩, fun D2 hD2 => lc_list (K := K) (a := o) (xs := es.map V.ref) (fun i H' => Same H4 H' ∧ ∃ gs, PtL H' D2 gs ((own.take i).map (·.two))) ⟨same_upd hD2, [], upd_same, Each.nil⟩ (fun i H' _ p => SqL.of (p.1 _ _ O4.l)) ?_ ?_⟩
    · rintro i v H' hv ⟨sm, gs, hG⟩
      obtain ⟨e, he, rfl⟩ := ref_of hv
      obtain ⟨z, hz, hq⟩ := O4.e.get he
      obtain ⟨x, y, ht, hx, hy⟩ := hq.tk (TupK.of sm)
      have hi : i < own.length := (List.getElem?_eq_some_iff.mp hz).1
      have kk : TupK H' (upd H' D2 (.lst (gs.map V.ref ++ [V.ref y]))) := .set hG.l
      refine ⟨rfl, _, rfl, _, _, _, _, rfl, rfl, SqT.of ht, at_of (j := 1) rfl rfl, _, hG.l, by rw [List.length_map, hG.e.1, List.length_map, List.length_take]; exact sizes' (by omega), fun c w hcw => ?_, gs ++ [y], ?_⟩
      · rw [upd_ne (ne_of_none hcw hD2)]
        exact sm _ _ hcw
      · rw [map_take hz]
        exact ⟨by rw [upd_same, List.map_append]; rfl, (hG.e.keep fun _ _ z => kk.1 _ _ z).snoc (kk.1 _ _ hy)⟩
    rintro H5 ⟨s5, g2, P5⟩
    rw [List.length_map, O3.e.1, List.take_length] at P5
    have P4' := P4.keep s5
    refine ⟨_, _, _, _, rfl, rfl, P4'.l, P5.l, (by rw [List.length_map, List.length_map, P4'.e.1, P5.e.1, List.length_map, List.length_map]; exact Nat.le_of_lt (sizes' (by omega))), fun nd nnd => ?_⟩
    obtain ⟨s6, h6⟩ := fr (rfl : upd H5 nd (.lst (g1.map V.ref ++ g2.map V.ref)) = _) nnd
    have ND : PtL (upd H5 nd (.lst (g1.map V.ref ++ g2.map V.ref))) nd (g1 ++ g2) (own.map (·.one) ++ own.map (·.two)) := ⟨by rw [h6, List.map_append], (P4'.keep s6).e.append (P5.keep s6).e⟩
    generalize upd H5 nd (.lst (g1.map V.ref ++ g2.map V.ref)) = H6 at *
    have s36 := s4.trans (s5.trans s6)
    have s06 := s03.trans s36
    have N6 := N3.keep s36
    have nmd := @named_iff own
    generalize own.map (·.one) ++ own.map (·.two) = ns at *
    have inn : ∀ p ∈ ns, p ∈ ptsL := fun p h => by
      rcases names_in (nmd.mp h) with h | ⟨b, hb, h | h⟩
      · cases h
      · rw [h]; exact (om b hb).1
      · rw [h]; exact (om b hb).2
    have mm : ∀ p r, p ∈ ns → r ∈ ns → moreB (distM (tabM own []) p r) (distM (tabM left ptsL) p r) = moreB (Do (ptsL.idxOf p) (ptsL.idxOf r)) (Dl (ptsL.idxOf p) (ptsL.idxOf r)) := fun p r mp mr => by
      rw [deO p r (nmd.mp mp) (nmd.mp mr), deL p r (names_has (inn p mp)) (names_has (inn r mr))]
    have ev : ∀ p, p ∈ evtP (tabM own []).pts ↔ p ∈ ns ∧ p.c = -1 := fun p => by rw [evtP_mem, op, nmd]
    have nF : ∀ p r, p ∈ ns → p.c = -1 → r ∈ ns → r.c = -1 → moreB (Do (ptsL.idxOf p) (ptsL.idxOf r)) (Dl (ptsL.idxOf p) (ptsL.idxOf r)) = true → folB own left = false := fun p r mp cp mr cr h => by
      unfold folB nothB
      rw [List.any_eq_true.mpr ⟨p, (ev p).mpr ⟨mp, cp⟩, List.any_eq_true.mpr ⟨r, (ev r).mpr ⟨mr, cr⟩, by rw [mm p r mp mr]; exact h⟩⟩]
      exact Bool.and_false _
    have nT : (∀ p r, p ∈ ns → p.c = -1 → r ∈ ns → r.c = -1 → moreB (Do (ptsL.idxOf p) (ptsL.idxOf r)) (Dl (ptsL.idxOf p) (ptsL.idxOf r)) = false) → folB own left = true := fun h => by
      unfold folB nothB
      rw [okR, show ((evtP (tabM own []).pts).any fun p => (evtP (tabM own []).pts).any fun q => moreB (distM (tabM own []) p q) (distM (tabM left ptsL) p q)) = false from List.any_eq_false.mpr fun p hp => by
        rw [List.any_eq_false.mpr fun r hr => by
          obtain ⟨mp, cp⟩ := (ev p).mp hp
          obtain ⟨mr, cr⟩ := (ev r).mp hr
          rw [mm p r mp mr, h p r mp cp mr cr]
          decide]
        decide]
      rfl
    generalize folB own left = fo at *
    clear mm ev deO deL okR okR2 P4 P4' P5 N3 O4 s4 s5 s6 h6 nnd hD hD2
    have il : ∀ {i : Nat} (hi : i < 7), ∃ p, ptsL[i]? = some p ∧ p ∈ ptsL ∧ ptsL.idxOf p = i := fun {i} hi => ⟨ptsL[i]'hi, List.getElem?_eq_getElem hi, List.getElem_mem _, nd_ix (by decide : ptsL.Nodup) (idx_get (List.getElem_mem _)) (List.getElem?_eq_getElem hi)⟩
    have B6 := hB.keep s06
    have O6 := O3.keep s36
    refine ⟨_, rfl, _, _, rfl, .inl (SqL.of N6.l), _, rfl, by rw [n7]; decide, by rw [n7]; decide, ?_⟩
    rw [n7]
    refine for_range (lo := 0) (n := ((7 : Nat) : Int).toNat) (fun i σ H' => ∃ v4 v5 v6 v7, σ = [some (.ref o), some (.ref b), some (.ref nm), some (.ref nd), v4, v5, v6, v7, none] ∧ Same H6 H' ∧ ∀ p r, p ∈ ns → p.c = -1 → r ∈ ns → r.c = -1 → ptsL.idxOf p < i → moreB (Do (ptsL.idxOf p) (ptsL.idxOf r)) (Dl (ptsL.idxOf p) (ptsL.idxOf r)) = false) ⟨none, none, none, none, rfl, fun _ _ h => h, fun p r _ _ _ _ h => absurd h (Nat.not_lt_zero _)⟩ ?_ ?_
    · rintro i σ H7 hi ⟨v4, v5, v6, v7, rfl, s7, ih⟩
      have hi : i < 7 := hi
      rw [Int.zero_add]
      obtain ⟨p, gp, mp, ip⟩ := il hi
      have N7 := N6.keep s7
      have D7 := ND.keep s7
      obtain ⟨bp, hbp, hqp⟩ := N7.get gp
      have ap : atI (nbs.map V.ref) (i : Int) = some (.ref bp) := at_of (j := i) rfl (by rw [List.getElem?_map, hbp]; rfl)
      have nxt : ∀ {H' : Hp}, (p ∈ ns → p.c = -1 → ∀ r, r ∈ ns → r.c = -1 → moreB (Do i (ptsL.idxOf r)) (Dl i (ptsL.idxOf r)) = false) → ∀ p' r, p' ∈ ns → p'.c = -1 → r ∈ ns → r.c = -1 → ptsL.idxOf p' < i + 1 → moreB (Do (ptsL.idxOf p') (ptsL.idxOf r)) (Dl (ptsL.idxOf p') (ptsL.idxOf r)) = false := fun {H'} h p' r mp' cp' mr cr lt => by
        by_cases e : ptsL.idxOf p' = i
        · have : p' = p := by
            have g := idx_get (inn p' mp')
            rw [e, gp] at g
            cases g
            rfl
          rw [this] at mp' cp' ⊢
          rw [ip]
          exact h mp' cp' r mr cr
        · exact ih p' r mp' cp' mr cr (by omega)
      refine ⟨_, rfl, _, rfl, _, _, _, _, rfl, rfl, SqL.of N7.l, ap, _, rfl, ptP p, _, pt_dp hqp, D7.dp, rfl, pts_shaped _, _, rfl, ?_⟩
      rw [pts_any]
      refine ite2 (fun c1 => ?_) (fun c1 => ?_)
      · have mp' : p ∈ ns := of_decide_eq_true c1
        refine ⟨_, rfl, _, rfl, _, _, _, _, rfl, rfl, SqL.of N7.l, ap, _, _, _, _, rfl, rfl, SqT.of hqp, at_of (j := 2) rfl rfl, _, rfl, rfl, _, rfl, ?_⟩
        show if decide (V.int p.c = V.int (-1)) = true then _ else _
        rw [cM1]
        refine ite2 (fun c2 => ?_) (fun c2 => ?_)
        · have cp : p.c = -1 := of_decide_eq_true c2
          refine ⟨_, rfl, _, rfl, o, nm, es, nbs, own, ptsL, rfl, O6.keep s7, N7, om, by omega, fun ar afs H8 s8 A8 => ?_⟩
          have N8 := N7.keep s8
          refine ⟨_, rfl, _, _, rfl, .inl (SqL.of N8.l), _, rfl, ar, 7, i, afs, _, Do, by rw [n7]; rfl, A8, clO, hi, by decide, fun l1 H9 s9 nl1 e1 => ?_⟩
          have N9 := N8.keep s9
          have s69 := (s7.trans s8).trans s9
          refine ⟨_, rfl, _, rfl, b, nm, fs, nbs, left, ptsL, rfl, B6.keep s69, N9, lm, by omega, fun ar2 afs2 H10 s10 A10 => ?_⟩
          have N10 := N9.keep s10
          refine ⟨_, rfl, _, _, rfl, .inl (SqL.of N10.l), _, rfl, ar2, 7, i, afs2, _, Dl, by rw [n7]; rfl, A10, clL, hi, by decide, fun l2 H11 s11 nl2 e2 => ?_⟩
          have N11 := N10.keep s11
          have s611 := (s69.trans s10).trans s11
          have e1' := s11 _ _ (s10 _ _ e1)
          have D11 := ND.keep s611
          clear N8 N9 N10 e1 s10 s11 s8 s9 A8 A10 s69 nl1 nl2
          refine ⟨_, rfl, _, _, rfl, .inl (SqL.of N11.l), _, rfl, by rw [n7]; decide, by rw [n7]; decide, ?_⟩
          rw [n7]
          refine for_range (lo := 0) (n := ((7 : Nat) : Int).toNat) (fun j σ H' => ∃ v7, σ = [some (.ref o), some (.ref b), some (.ref nm), some (.ref nd), some (.int (i : Int)), some (.ref l1), some (.ref l2), v7, none] ∧ Same H11 H' ∧ ∀ r, r ∈ ns → r.c = -1 → ptsL.idxOf r < j → moreB (Do i (ptsL.idxOf r)) (Dl i (ptsL.idxOf r)) = false) ⟨v7, rfl, fun _ _ h => h, fun r _ _ h => absurd h (Nat.not_lt_zero _)⟩ ?_ ?_
          · rintro j σ H12 hj ⟨w7, rfl, s12, ih2⟩
            have hj : j < 7 := hj
            rw [Int.zero_add]
            obtain ⟨r, gr, mr, ir⟩ := il hj
            have N12 := N11.keep s12
            have D12 := D11.keep s12
            have e1r := s12 _ _ e1'
            have e2r := s12 _ _ e2
            obtain ⟨br, hbr, hqr⟩ := N12.get gr
            have ar : atI (nbs.map V.ref) (j : Int) = some (.ref br) := at_of (j := j) rfl (by rw [List.getElem?_map, hbr]; rfl)
            have sk : (r ∈ ns → r.c = -1 → moreB (Do i j) (Dl i j) = false) → ∃ v7, ([some (.ref o), some (.ref b), some (.ref nm), some (.ref nd), some (.int (i : Int)), some (.ref l1), some (.ref l2), some (.int (j : Int)), none] : List (Option V)) = [some (.ref o), some (.ref b), some (.ref nm), some (.ref nd), some (.int (i : Int)), some (.ref l1), some (.ref l2), v7, none] ∧ Same H11 H12 ∧ ∀ r, r ∈ ns → r.c = -1 → ptsL.idxOf r < j + 1 → moreB (Do i (ptsL.idxOf r)) (Dl i (ptsL.idxOf r)) = false := fun h => ⟨_, rfl, s12, fun r' mr' cr' lt => by
              by_cases e : ptsL.idxOf r' = j
              · have : r' = r := by
                  have g := idx_get (inn r' mr')
                  rw [e, gr] at g
                  cases g
                  rfl
                rw [this] at mr' cr' ⊢
                rw [ir]
                exact h mr' cr'
              · exact ih2 r' mr' cr' (by omega)⟩
            refine ⟨_, rfl, _, rfl, _, _, _, _, rfl, rfl, SqL.of N12.l, ar, _, rfl, ptP r, _, pt_dp hqr, D12.dp, rfl, pts_shaped _, _, rfl, ?_⟩
            rw [pts_any]
            refine ite2 (fun c3 => ?_) (fun c3 => iteF (sk fun m => absurd (decide_eq_true m) c3))
            have mr' : r ∈ ns := of_decide_eq_true c3
            refine ⟨_, rfl, _, rfl, _, _, _, _, rfl, rfl, SqL.of N12.l, ar, _, _, _, _, rfl, rfl, SqT.of hqr, at_of (j := 2) rfl rfl, _, rfl, rfl, _, rfl, ?_⟩
            show if decide (V.int r.c = V.int (-1)) = true then _ else _
            rw [cM1]
            refine ite2 (fun c4 => ?_) (fun c4 => iteF (sk fun _ m => absurd (decide_eq_true m) c4))
            have cr : r.c = -1 := of_decide_eq_true c4
            refine ⟨_, rfl, _, rfl, _, _, _, _, rfl, rfl, rowAt e1r, row_of hj, rfl, _, rfl, ?_⟩
            show if (!decide (hiV (Do i j) = V.non)) = true then _ else _
            rw [hvNn]
            have bad : moreB (Do i j) (Dl i j) = true → fo = false := fun h => nF p r mp' cp mr' cr (by rw [ip, ir]; exact h)
            cases hd : Do i j with
            | none => exact iteF (sk fun _ _ => by rw [hd]; rfl)
            | some d =>
              rw [hd] at sk bad
              refine iteT ⟨_, rfl, _, rfl, _, _, _, _, rfl, rfl, rowAt e2r, row_of hj, rfl, _, rfl, ?_⟩
              show if decide (hiV (Dl i j) = V.non) = true then _ else _
              rw [hvN]
              cases hr : Dl i j with
              | none =>
                rw [hr] at bad
                rw [bad rfl] at q
                exact iteT (iteT (q H12 ((s06.trans s611).trans s12)))
              | some x =>
                rw [hr] at bad sk
                have a2 : atI (((List.range 7).map (Dl i)).map hiV) (j : Int) = some (.int x) := by
                  have := row_of (f := Dl i) hj
                  rw [hr] at this
                  exact this
                have a1 : atI (((List.range 7).map (Do i)).map hiV) (j : Int) = some (.int d) := by
                  have := row_of (f := Do i) hj
                  rw [hd] at this
                  exact this
                refine iteF ⟨_, rfl, _, rfl, _, _, _, _, rfl, rfl, rowAt e2r, a2, _, rfl, _, rfl, _, _, _, _, rfl, rfl, rowAt e1r, a1, _, _, rfl, rfl, _, rfl, ?_⟩
                refine ite2 (fun c5 => ?_) (fun c5 => ?_)
                · rw [bad c5] at q
                  exact q H12 ((s06.trans s611).trans s12)
                · exact sk fun _ _ => Bool.eq_false_iff.mpr c5
          · rintro σ H12 ⟨w7, rfl, s12, ih2⟩
            exact ⟨_, _, _, _, rfl, s611.trans s12, nxt (H' := H12) fun _ _ r mr cr => ih2 r mr cr (idx_lt (inn r mr))⟩
        · exact ⟨_, _, _, _, rfl, s7, nxt (H' := H7) fun _ cp => absurd (decide_eq_true cp) c2⟩
      · exact iteF ⟨_, _, _, _, rfl, s7, nxt (H' := H7) fun m => absurd (decide_eq_true m) c1⟩
    rintro σ H7 ⟨v4, v5, v6, v7, rfl, s7, ih⟩
    have := nT fun p r mp cp mr cr => ih p r mp cp mr cr (idx_lt (inn p mp))
    rw [this] at q
    exact q H7 (s06.trans s7)
/-- a row of a choice and the bounds that it leaves -/
def LfE (bds : List Bd) (P : Addr) (H : Hp) (e : Addr) (ch : List Int) : Prop := ∃ c lf gs, H e = some (.tup [.ref c, .ref lf]) ∧ H c = some (.tup (ch.map V.int)) ∧ BnL H lf gs (leftB bds ch) ∧ lf ≠ P
theorem LfE.keep {bds : List Bd} {P : Addr} {H H' : Hp} {e : Addr} {ch : List Int} (s : Same H H') (h : LfE bds P H e ch) : LfE bds P H' e ch := by
  obtain ⟨c, lf, gs, a, b, d, n⟩ := h
  exact ⟨c, lf, gs, s _ _ a, s _ _ b, d.keep s, n⟩
theorem LfE.put {bds : List Bd} {P : Addr} {H : Hp} {e : Addr} {ch : List Int} {xs ys : List V} (hp : H P = some (.lst xs)) (h : LfE bds P H e ch) : LfE bds P (upd H P (.lst ys)) e ch := by
  obtain ⟨c, lf, gs, a, b, d, n⟩ := h
  have kk : TupK H (upd H P (.lst ys)) := .set hp
  exact ⟨c, lf, gs, kk.1 _ _ a, kk.1 _ _ b, d.tk kk (by rw [upd_ne n]; exact d.l), n⟩
theorem len_all {α : Type} {f : α → Bool} (l : List α) : decide ((l.filter f).length = l.length) = l.all f := by
  rw [Bool.eq_iff_iff, decide_eq_true_iff, List.length_filter_eq_length_iff, List.all_eq_true]
theorem len_no {α : Type} {f g : α → Bool} (l : List α) : decide (((l.filter f).filter fun x => !g x).length = 0) = l.all fun x => !f x || g x := by
  rw [Bool.eq_iff_iff, decide_eq_true_iff, List.length_eq_zero_iff, List.filter_eq_nil_iff, List.all_eq_true]
  constructor
  · intro h x hx
    cases e : f x with
    | false => rfl
    | true =>
      have := h x (List.mem_filter.mpr ⟨hx, e⟩)
      cases e2 : g x with
      | true => rfl
      | false =>
        rw [e2] at this
        exact absurd rfl this
  · intro h x hx
    obtain ⟨m, e⟩ := List.mem_filter.mp hx
    have := h x m
    rw [e] at this
    cases e2 : g x with
    | true => decide
    | false =>
      rw [e2] at this
      cases this
theorem dIntN {a b : Nat} : decide (V.int (a : Int) = V.int (b : Int)) = decide (a = b) := decide_eq_decide.mpr ⟨fun h => by injection h with h; omega, fun h => by rw [h]⟩
def sp__law_guilt (K : PySem.W.Frag) : Sp := fun vs H Q _ => ∃ (b : Addr) (es : List Addr) (bds : List Bd) (n k : Nat), vs = [.ref b, .int (n : Int), .int (k : Int)] ∧ BnL H b es bds ∧ (∀ z ∈ bds, z.one ∈ ptsL ∧ z.two ∈ ptsL) ∧ bds.length ≤ 15 ∧ n < 10 ∧ k < 3 ∧
  ∀ v H', Same H H' → GuR bds n ((rowsF n k).map chI) H H' v → Q v H'
set_option maxHeartbeats 4000000 in
theorem ok__law_guilt {f : Addr} {fd : FuncData} (D : Df K mg "_law_guilt" s__law_guilt ["bounds", "parts", "faults"] f fd) (T : Txt K mg) {f__law_points : Addr} {fd__law_points : FuncData} (D__law_points : Df K mg "_law_points" s__law_points [] f__law_points fd__law_points) (G__law_points : FnOk P w K mg base CX0 1 f__law_points fd__law_points [] (sp__law_points K)) {f__law_ring : Addr} {fd__law_ring : FuncData} (D__law_ring : Df K mg "_law_ring" s__law_ring ["arcs", "many"] f__law_ring fd__law_ring) (G__law_ring : FnOk P w K mg base CX0 1 f__law_ring fd__law_ring ["arcs", "many"] (sp__law_ring K)) {f__law_arcs_of : Addr} {fd__law_arcs_of : FuncData} (D__law_arcs_of : Df K mg "_law_arcs_of" s__law_arcs_of ["bounds", "points"] f__law_arcs_of fd__law_arcs_of) (G__law_arcs_of : FnOk P w K mg base CX0 1 f__law_arcs_of fd__law_arcs_of ["bounds", "points"] (sp__law_arcs_of K)) {f__law_choices : Addr} {fd__law_choices : FuncData} (D__law_choices : Df K mg "_law_choices" s__law_choices ["parts", "faults"] f__law_choices fd__law_choices) (G__law_choices : FnOk P w K mg base CX0 1 f__law_choices fd__law_choices ["parts", "faults"] (sp__law_choices K)) {f__law_follows : Addr} {fd__law_follows : FuncData} (D__law_follows : Df K mg "_law_follows" s__law_follows ["own", "others"] f__law_follows fd__law_follows) (G__law_follows : FnOk P w K mg base CX0 2 f__law_follows fd__law_follows ["own", "others"] (sp__law_follows K)) : FnOk P w K mg base CX0 3 f fd ["bounds", "parts", "faults"] (sp__law_guilt K) := by
  refine D.F.ok sc__law_guilt (fun vs H Q E h => ?_) (fun cdv A outer s H vs Q E hr h => ?_)
  · obtain ⟨b, es, bds, n, k, rfl, _⟩ := h
    rfl
  obtain ⟨b, es, bds, n, k, rfl, hB, hm, few, hn, hk, qq⟩ := h
  refine ⟨_, (pss_cons (ps_set (i := 3) sc__law_guilt.nd rfl (Or.inl rfl) (pe_call0 G__law_points (hr.mono (by decide)) rfl D__law_points.m D__law_points.F.kp D__law_points.b .nil pass0))
    (pss_cons (ps_set (i := 4) sc__law_guilt.nd rfl (Or.inl rfl) (pe_lst pa_nil))
    (pss_cons (ps_for PassesOwn.never rfl (pi_list (pe_call G__law_choices (hr.mono (by decide)) rfl D__law_choices.m D__law_choices.F.kp D__law_choices.b .nil pass0 (pa_cons (pv 1) (pa_cons (pv 2) pa_nil)))) (pg_name (i := 5) sc__law_guilt.nd rfl (Or.inr rfl))
      (pss_cons (ps_setLc (i := 9) (own := [("bound", 12)]) (g := gName 12) (tt := _) rfl sc__law_guilt.nd rfl rfl (sw_true rfl rfl rfl (by decide +kernel)) (pi_list (pv 0)) (blkOk_by (own := [("bound", 12)]) (N := nm__law_guilt) (sc := defScope s__law_guilt) (by decide +kernel)) (fun _ _ _ _ _ => (pg_name (i := 12) sc__law_guilt.nd rfl (Or.inl rfl))) (fun _ _ _ _ _ => (pts_one (pt_cmpR (r := rIn K true) op_notIn_seq (pe_ix (r := rIxT K) ix_tup (pv 12) pe_int (fun _ _ => rfl)) (pv 5) (by rfl)))) (fun _ _ _ _ _ => (pv 12)))
    (pss_one (ps_if (pt_not (pt_val (pe_call G__law_ring (hr.mono (by decide)) rfl D__law_ring.m D__law_ring.F.kp D__law_ring.b .nil pass0 (pa_cons (pe_call G__law_arcs_of (hr.mono (by decide)) rfl D__law_arcs_of.m D__law_arcs_of.F.kp D__law_arcs_of.b .nil pass0 (pa_cons (pv 9) (pa_cons (pv 3) pa_nil))) (pa_cons (pe_callB call_len_seq rfl T.len PySem.boot_len (pa_cons (pv 3) pa_nil)) pa_nil)))))
      (pss_one (ps_expr (pe_bm PySem.F.plainAttrs_list PySem.F.slot_list_append PySem.F.type_list_append mt_append (pv 4) (pa_cons (pe_tup (pa_cons (pv 5) (pa_cons (pv 9) pa_nil))) pa_nil))))
      pss_nil))))
    (pss_cons (ps_if (pt_cmpR op_eq (pe_callB call_len_seq rfl T.len PySem.boot_len (pa_cons (pv 4) pa_nil)) pe_int (nomark _))
      (pss_one (ps_ret pe_non))
      pss_nil)
    (pss_cons (ps_set (i := 6) sc__law_guilt.nd rfl (Or.inl rfl) (pe_lst pa_nil))
    (pss_cons (ps_set (i := 7) sc__law_guilt.nd rfl (Or.inl rfl) (pe_lst pa_nil))
    (pss_cons (ps_for PassesOwn.never rfl (pi_range1 rfl T.range (pa_cons (pv 1) pa_nil)) (pg_name (i := 8) sc__law_guilt.nd rfl (Or.inr rfl))
      (pss_cons (ps_set (i := 10) sc__law_guilt.nd rfl (Or.inr rfl) (pe_lc (own := [("bound", 12)]) (g := gName 12) (tt := _) rfl sc__law_guilt.nd (pi_list (pv 0)) (blkOk_by (own := [("bound", 12)]) (N := nm__law_guilt) (sc := defScope s__law_guilt) (by decide +kernel)) (fun _ _ _ _ _ => (pg_name (i := 12) sc__law_guilt.nd rfl (Or.inl rfl))) (fun _ _ _ _ _ => (pts_one (pt_cmpR op_eq (pe_ix (r := rIxT K) ix_tup (pv 12) pe_int (fun _ _ => rfl)) (pv 8) (nomark _)))) (fun _ _ _ _ _ => (pv 12))))
    (pss_cons (ps_setLc (i := 11) (own := [("row", 13)]) (g := gName 13) (tt := _) rfl sc__law_guilt.nd rfl rfl (sw_true rfl rfl rfl (by decide +kernel)) (pi_list (pv 4)) (blkOk_by (own := [("row", 13)]) (N := nm__law_guilt) (sc := defScope s__law_guilt) (by decide +kernel)) (fun _ _ _ _ _ => (pg_name (i := 13) sc__law_guilt.nd rfl (Or.inl rfl))) (fun _ _ _ _ _ => (pts_one (pt_cmpR (r := rIn K false) op_in_seq (pv 8) (pe_ix (r := rIxT K) ix_tup (pv 13) pe_int (fun _ _ => rfl)) (by rfl)))) (fun _ _ _ _ _ => (pv 13)))
    (C8.pss_cut (ps_if (pt_cmpR op_eq (pe_callB call_len_seq rfl T.len PySem.boot_len (pa_cons (pv 11) pa_nil)) (pe_callB call_len_seq rfl T.len PySem.boot_len (pa_cons (pv 4) pa_nil)) (nomark _))
      (pss_one (ps_expr (pe_bm PySem.F.plainAttrs_list PySem.F.slot_list_append PySem.F.type_list_append mt_append (pv 6) (pa_cons (pv 8) pa_nil))))
      pss_nil)
    (pss_one (ps_if (pt_cmpR op_eq (pe_callB call_len_seq rfl T.len PySem.boot_len (pa_cons (pe_lc (own := [("row", 13)]) (g := gName 13) (tt := _) rfl sc__law_guilt.nd (pi_list (pv 11)) (blkOk_by (own := [("row", 13)]) (N := nm__law_guilt) (sc := defScope s__law_guilt) (by decide +kernel)) (fun _ _ _ _ _ => (pg_name (i := 13) sc__law_guilt.nd rfl (Or.inl rfl))) (fun _ _ _ _ _ => (pts_one (pt_not (pt_val (pe_call G__law_follows (hr.mono (by decide)) rfl D__law_follows.m D__law_follows.F.kp D__law_follows.b .nil pass0 (pa_cons (pv 10) (pa_cons (pe_ix (r := rIxT K) ix_tup (pv 13) pe_int (fun _ _ => rfl)) pa_nil))))))) (fun _ _ _ _ _ => (pv 13))) pa_nil)) pe_int (nomark _))
      (pss_one (ps_expr (pe_bm PySem.F.plainAttrs_list PySem.F.slot_list_append PySem.F.type_list_append mt_append (pv 7) (pa_cons (pv 8) pa_nil))))
      pss_nil))))))
    (pss_one (ps_ret (pe_tup (pa_cons (pv 6) (pa_cons (pv 7) pa_nil)))))))))))), ?_⟩
  have q0 : posC bds ((rowsF n k).map chI) = [] → ∀ H', Same H H' → Q .non H' := fun h H' s => qq .non H' s (.inl ⟨h, rfl⟩)
  have q1 : posC bds ((rowsF n k).map chI) ≠ [] → ∀ (p l1 l2 : Addr) (H' : Hp), Same H H' → H l1 = none → H l2 = none → l1 ≠ l2 → H' p = some (.tup [.ref l1, .ref l2]) → H' l1 = some (.lst ((broM n (posC bds ((rowsF n k).map chI))).map V.int)) → H' l2 = some (.lst ((rigM bds n (posC bds ((rowsF n k).map chI))).map V.int)) → Q (.ref p) H' := fun h p l1 l2 H' s a b c d e f => qq (.ref p) H' s (.inr ⟨h, p, l1, l2, rfl, a, b, c, d, e, f⟩)
  clear qq
  refine ⟨rfl, fun nm nbs H1 s1 n1 N1 => ?_⟩
  have n7 : (nbs.map V.ref).length = 7 := by rw [List.length_map, N1.e.1]; rfl
  refine ⟨by show 0 ≤ sizeLine; decide, fun P nP => ?_⟩
  obtain ⟨s2, h2⟩ := fr (rfl : upd H1 P (.lst []) = _) nP
  generalize upd H1 P (.lst []) = H2 at *
  have nP0 : H P = none := s1.free nP
  have N2 := N1.keep s2
  have s02 := s1.trans s2
  refine ⟨_, rfl, _, rfl, n, k, rfl, hn, hk, fun c cs H3 s3 n3 C3 => ?_⟩
  have cl : ((rowsF n k).map chI).length ≤ 100 := by
    rw [List.length_map]
    exact (rows_nx hn (by omega)).2.2
  generalize (rowsF n k).map chI = chs at *
  have stp : ∀ {i : Nat} {ch : List Int}, chs[i]? = some ch → posC bds (chs.take (i + 1)) = posC bds (chs.take i) ++ (if okC bds ch = true then [ch] else []) := fun {i ch} h => filter_take h
  have cP : c ≠ P := fun e => by rw [e, h2] at n3; cases n3
  have N3 := N2.keep s3
  have s03 := s02.trans s3
  refine ⟨_, rfl, ⟨_, SqL.of C3.l⟩, for_list (K := K) (a := c) (xs := cs.map V.ref) (fun i σ H' => ∃ v5 v9 fs, σ = [some (.ref b), some (.int (n : Int)), some (.int (k : Int)), some (.ref nm), some (.ref P), v5, none, none, none, v9, none, none, none, none] ∧ Same H H' ∧ ChL H' c cs chs ∧ PtL H' nm nbs ptsL ∧ H' P = some (.lst (fs.map V.ref)) ∧ Each (LfE bds P H') fs (posC bds (chs.take i))) ⟨none, none, [], rfl, s03, C3, N3, s3 _ _ h2, Each.nil⟩ (fun i σ H' _ ⟨_, _, _, _, _, z, _⟩ => SqL.of z.l) ?_ ?_⟩
  · rintro i v σ H4 hv ⟨v5, v9, fs, rfl, s4, C4, N4, P4, E4⟩
    obtain ⟨e, he, rfl⟩ := ref_of hv
    obtain ⟨ch, hch, hq⟩ := C4.e.get he
    have hi : i < chs.length := (List.getElem?_eq_some_iff.mp hch).1
    have lim : (posC bds (chs.take i)).length ≤ 100 := Nat.le_trans (List.length_filter_le _ _) (by rw [List.length_take]; omega)
    rw [stp hch]
    have B4 := hB.keep s4
    generalize posC bds (chs.take i) = J at *
    refine ⟨_, rfl, _, rfl, ⟨_, SqL.of B4.l⟩, fun E hE => lc_list (K := K) (a := b) (xs := es.map V.ref) (fun i H' => Same H4 H' ∧ ∃ fs, BnL H' E fs (leftB (bds.take i) ch)) ⟨same_upd hE, [], upd_same, Each.nil⟩ (fun i H' _ z => SqL.of (z.1 _ _ B4.l)) ?_ ?_⟩
    · rintro i v H' hv ⟨sm, fs, hL⟩
      obtain ⟨e', he', rfl⟩ := ref_of hv
      obtain ⟨z, hz, hzq⟩ := B4.e.get he'
      have hq' := hzq.tk (TupK.of sm)
      obtain ⟨x, y, ht, hx, hy⟩ := id hq'
      have hi : i < bds.length := (List.getElem?_eq_some_iff.mp hz).1
      refine ⟨rfl, _, rfl, _, _, _, _, rfl, rfl, SqT.of ht, at_of (j := 3) rfl rfl, _, rfl, _, _, rfl, .inr (SqT.of (sm _ _ hq)), rfl, flat_ints _, _, rfl, ?_⟩
      rw [inV_int]
      have hfl : (leftB (bds.take i) ch).length ≤ 10000 := Nat.le_trans (List.length_filter_le _ _) (by rw [List.length_take]; omega)
      cases ec : ch.contains z.part with
      | true =>
        refine iteF ⟨sm, fs, ?_⟩
        rw [left_step hz, ec, if_pos rfl, List.append_nil]
        exact hL
      | false =>
        have kk : TupK H' (upd H' E (.lst (fs.map V.ref ++ [V.ref e']))) := .set hL.l
        refine iteT ⟨_, rfl, _, hL.l, by rw [List.length_map, hL.e.1]; exact sizes' (by omega), fun c w hcw => ?_, fs ++ [e'], ?_⟩
        · rw [upd_ne (ne_of_none hcw hE)]
          exact sm _ _ hcw
        · rw [left_step hz, ec, if_neg (by decide)]
          exact ⟨by rw [upd_same, List.map_append]; rfl, (hL.e.keep fun _ _ z => z.tk kk).snoc (hq'.tk kk)⟩
    rintro H5 ⟨s5, gs, B5⟩
    rw [List.length_map, B4.e.1, List.take_length] at B5
    have EP : E ≠ P := fun g => by rw [g, P4] at hE; cases hE
    have ll := left_len bds ch
    have lm : ∀ z ∈ leftB bds ch, z.one ∈ ptsL ∧ z.two ∈ ptsL := fun z hz => hm z (left_mem hz)
    obtain ⟨_, res, okR, ring, _⟩ := tab_ringN (big := ptsL) (by decide) (ps := ptsL) lm (fun r hr => hr) (Nat.le_trans (names_few lm fun r hr => hr) (by decide))
    have okR : okC bds ch = !res := okR
    have N5 := N4.keep s5
    refine ⟨_, rfl, _, rfl, E, nm, gs, nbs, leftB bds ch, ptsL, rfl, B5, N5, lm, by omega, fun ar afs H6 s6 A6 => ?_⟩
    have N6 := N5.keep s6
    refine ⟨_, rfl, _, _, rfl, .inl (SqL.of N6.l), ar, 7, afs, _, res, by rw [n7]; rfl, A6, fun z hz => ?_, by decide, ring, fun H7 s7 => ?_⟩
    · obtain ⟨w, hw, rfl⟩ := List.mem_map.mp hz
      exact ⟨idx_lt (lm w hw).1, idx_lt (lm w hw).2⟩
    have s47 := (s5.trans s6).trans s7
    have E7 : Each (LfE bds P H7) fs J := E4.keep fun _ _ z => z.keep s47
    rw [okR]
    cases res with
    | true =>
      refine ⟨_, rfl, iteF ⟨_, _, fs, rfl, s4.trans s47, C4.keep s47, N4.keep s47, s47 _ _ P4, ?_⟩⟩
      rw [if_neg (by decide), List.append_nil]
      exact E7
    | false =>
      refine ⟨_, rfl, iteT ⟨_, rfl, .inl ⟨rfl, _, SqL.of (s47 _ _ P4)⟩, _, rfl, _, rfl, by show 2 ≤ sizeLine; decide, fun u nu => ?_⟩⟩
      obtain ⟨s8, h8⟩ := fr (rfl : upd H7 u (.tup [.ref e, .ref E]) = _) nu
      generalize upd H7 u (.tup [.ref e, .ref E]) = H8 at *
      have s48 := s47.trans s8
      have P8 := s48 _ _ P4
      have E8 : Each (LfE bds P H8) fs J := E4.keep fun _ _ z => z.keep s48
      have kk : TupK H8 (upd H8 P (.lst (fs.map V.ref ++ [.ref u]))) := .set P8
      have nmP : nm ≠ P := fun g => by
        have := N1.l
        rw [g, nP] at this
        cases this
      refine ⟨_, _, _, rfl, rfl, P8, by rw [List.length_map, E4.1]; exact sizes' (by omega), ?_⟩
      refine ⟨_, _, fs ++ [u], rfl, fun c w hc => ?_, (C4.keep s48).e |> fun z => ⟨by rw [upd_ne cP]; exact (C4.keep s48).l, z.keep fun _ _ y => kk.1 _ _ y⟩, (N4.keep s48).tk kk (by rw [upd_ne nmP]; exact (N4.keep s48).l), by rw [upd_same, List.map_append]; rfl, ?_⟩
      · rw [upd_ne (ne_of_none hc nP0)]
        exact s48 _ _ (s4 _ _ hc)
      · rw [if_pos (by decide)]
        exact (E8.keep fun _ _ z => z.put P8).snoc (LfE.put P8 ⟨e, E, gs, h8, s48 _ _ hq, (B5.keep (s6.trans s7)).keep s8, EP⟩)
  rintro σ H4 ⟨v5, v9, fs, rfl, s4, C4, N4, P4, E4⟩
  rw [List.length_map, C3.e.1, List.take_length] at E4
  have pl : (posC bds chs).length ≤ 100 := Nat.le_trans (List.length_filter_le _ _) cl
  have fl := E4.1
  have okp : ∀ ch ∈ posC bds chs, (tabM (leftB bds ch) ptsL).ok = true := fun ch h => (List.mem_filter.mp h).2
  generalize posC bds chs = pc at *
  refine ⟨_, rfl, _, _, rfl, .inl (SqL.of P4), rfl, _, rfl, ?_⟩
  show if decide (V.int (((fs.map V.ref).length : Nat) : Int) = V.int ((0 : Nat) : Int)) = true then _ else _
  rw [dIntN, List.length_map, fl]
  refine ite2 (fun c1 => ?_) (fun c1 => ?_)
  · exact q0 (List.length_eq_zero_iff.mp (of_decide_eq_true c1)) H4 s4
  have q1 := q1 fun g => by rw [g] at c1; exact c1 rfl
  clear q0 c1
  refine ⟨by show 0 ≤ sizeLine; decide, fun l1 nl1 => ?_⟩
  obtain ⟨s5, h5⟩ := fr (rfl : upd H4 l1 (.lst []) = _) nl1
  generalize upd H4 l1 (.lst []) = H5 at *
  refine ⟨by show 0 ≤ sizeLine; decide, fun l2 nl2 => ?_⟩
  obtain ⟨s6, h6⟩ := fr (rfl : upd H5 l2 (.lst []) = _) nl2
  generalize upd H5 l2 (.lst []) = H6 at *
  have l12 : l1 ≠ l2 := fun g => by rw [← g, h5] at nl2; cases nl2
  have nl2' : H4 l2 = none := s5.free nl2
  have h5' := s6 _ _ h5
  have s46 := s5.trans s6
  refine ⟨_, rfl, _, rfl, by omega, by omega, for_range (lo := 0) (n := ((n : Nat) : Int).toNat) (fun i σ H' => ∃ v8 v10 v11, σ = [some (.ref b), some (.int (n : Int)), some (.int (k : Int)), some (.ref nm), some (.ref P), v5, some (.ref l1), some (.ref l2), v8, v9, v10, v11, none, none] ∧ Same H4 H' ∧ H' l1 = some (.lst (((((List.range n).map fun (i : Nat) => (i : Int)).take i).filter fun i => pc.all fun ch => ch.contains i).map V.int)) ∧ H' l2 = some (.lst (((((List.range n).map fun (i : Nat) => (i : Int)).take i).filter fun i => pc.all fun ch => !ch.contains i || folB (ownB bds i) (leftB bds ch)).map V.int))) ⟨none, none, none, rfl, s46, h5', h6⟩ ?_ ?_⟩
  · rintro i σ H7 hi ⟨v8, v10, v11, rfl, s7, e1, e2⟩
    have hi : i < n := by omega
    rw [Int.zero_add]
    rw [rng_fil (f := fun i => pc.all fun ch => ch.contains i) hi, rng_fil (f := fun i => pc.all fun ch => !ch.contains i || folB (ownB bds i) (leftB bds ch)) hi]
    have lim1 : ((((List.range n).map fun (i : Nat) => (i : Int)).take i).filter fun i => pc.all fun ch => ch.contains i).length ≤ i := Nat.le_trans (List.length_filter_le _ _) (by rw [List.length_take]; omega)
    have lim2 : ((((List.range n).map fun (i : Nat) => (i : Int)).take i).filter fun i => pc.all fun ch => !ch.contains i || folB (ownB bds i) (leftB bds ch)).length ≤ i := Nat.le_trans (List.length_filter_le _ _) (by rw [List.length_take]; omega)
    generalize (((List.range n).map fun (i : Nat) => (i : Int)).take i).filter (fun i => pc.all fun ch => ch.contains i) = J1 at *
    generalize (((List.range n).map fun (i : Nat) => (i : Int)).take i).filter (fun i => pc.all fun ch => !ch.contains i || folB (ownB bds i) (leftB bds ch)) = J2 at *
    have B7 := (hB.keep s4).keep s7
    have P7 := s7 _ _ P4
    refine ⟨_, rfl, _, rfl, ⟨_, SqL.of B7.l⟩, fun D hD => lc_list (K := K) (a := b) (xs := es.map V.ref) (fun j H' => Same H7 H' ∧ ∃ gs, BnL H' D gs (ownB (bds.take j) (i : Int))) ⟨same_upd hD, [], upd_same, Each.nil⟩ (fun i H' _ p => SqL.of (p.1 _ _ B7.l)) ?_ ?_⟩
    · rintro j v H' hv ⟨sm, gs, hG⟩
      obtain ⟨e, he, rfl⟩ := ref_of hv
      obtain ⟨z, hz, hq⟩ := B7.e.get he
      have hq' := hq.tk (TupK.of sm)
      obtain ⟨x, y, ht, hx, hy⟩ := id hq'
      have hj : j < bds.length := (List.getElem?_eq_some_iff.mp hz).1
      refine ⟨rfl, _, rfl, _, _, _, _, rfl, rfl, SqT.of ht, at_of (j := 3) rfl rfl, _, rfl, rfl, _, rfl, ?_⟩
      show if decide (V.int z.part = V.int (i : Int)) = true then _ else _
      rw [show decide (V.int z.part = V.int (i : Int)) = decide (z.part = (i : Int)) from decide_eq_decide.mpr ⟨fun h => by injection h, fun h => by rw [h]⟩]
      have hfl : (ownB (bds.take j) (i : Int)).length ≤ 10000 := Nat.le_trans (List.length_filter_le _ _) (by rw [List.length_take]; omega)
      rw [own_step hz]
      cases ec : decide (z.part = (i : Int)) with
      | false =>
        refine iteF ⟨sm, gs, ?_⟩
        rw [if_neg (by decide), List.append_nil]
        exact hG
      | true =>
        have kk : TupK H' (upd H' D (.lst (gs.map V.ref ++ [V.ref e]))) := .set hG.l
        refine iteT ⟨_, rfl, _, hG.l, by rw [List.length_map, hG.e.1]; exact sizes' (by omega), fun c w hcw => ?_, gs ++ [e], ?_⟩
        · rw [upd_ne (ne_of_none hcw hD)]
          exact sm _ _ hcw
        · rw [if_pos rfl]
          exact ⟨by rw [upd_same, List.map_append]; rfl, (hG.e.keep fun _ _ z => z.tk kk).snoc (hq'.tk kk)⟩
    rintro H8 ⟨s8, gs, G8⟩
    rw [List.length_map, B7.e.1, List.take_length] at G8
    have s48 := s7.trans s8
    have P8 := s8 _ _ P7
    refine ⟨_, rfl, _, rfl, ⟨_, SqL.of P8⟩, fun F hF => lc_list (K := K) (a := P) (xs := fs.map V.ref) (fun j H' => Same H8 H' ∧ ∃ hs, H' F = some (.lst (hs.map V.ref)) ∧ Each (LfE bds P H4) hs ((pc.take j).filter fun ch => ch.contains (i : Int))) ⟨same_upd hF, [], upd_same, Each.nil⟩ (fun i H' _ p => SqL.of (p.1 _ _ P8)) ?_ ?_⟩
    · rintro j v H9 hv ⟨s9, hs, h9, E9⟩
      obtain ⟨e, he, rfl⟩ := ref_of hv
      obtain ⟨ch, hch, hz⟩ := E4.get he
      obtain ⟨c', lf, gs', a1, a2, a3, a4⟩ := id hz
      have hj : j < pc.length := (List.getElem?_eq_some_iff.mp hch).1
      have s49 := s48.trans s9
      refine ⟨rfl, _, rfl, _, rfl, _, _, _, _, rfl, rfl, SqT.of (s49 _ _ a1), at_of (j := 0) rfl rfl, _, _, rfl, .inr (SqT.of (s49 _ _ a2)), rfl, flat_ints _, _, rfl, ?_⟩
      rw [inV_int, filter_take hch]
      have hfl : ((pc.take j).filter fun ch => ch.contains (i : Int)).length ≤ 10000 := Nat.le_trans (List.length_filter_le _ _) (by rw [List.length_take]; omega)
      cases ec : ch.contains (i : Int) with
      | false =>
        refine iteF ⟨s9, hs, h9, ?_⟩
        rw [if_neg (by decide), List.append_nil]
        exact E9
      | true =>
        refine iteT ⟨_, rfl, _, h9, by rw [List.length_map, E9.1]; exact sizes' (by omega), fun c w hcw => ?_, hs ++ [e], ?_, ?_⟩
        · rw [upd_ne (ne_of_none hcw hF)]
          exact s9 _ _ hcw
        · rw [upd_same, List.map_append]
          rfl
        · rw [if_pos rfl]
          exact E9.snoc hz
    rintro H9 ⟨s9, hs, h9, E9⟩
    rw [List.length_map, fl, List.take_length] at E9
    have hl := E9.1
    have s49 := s48.trans s9
    have e1' := s9 _ _ (s8 _ _ e1)
    have e2' := s9 _ _ (s8 _ _ e2)
    have G9 := G8.keep s9
    have D1 : D ≠ l1 := fun g => by rw [g, e1] at hD; cases hD
    have F1 : F ≠ l1 := fun g => by rw [g, s8 _ _ e1] at hF; cases hF
    refine ⟨fun σ H' => σ = [some (.ref b), some (.int (n : Int)), some (.int (k : Int)), some (.ref nm), some (.ref P), v5, some (.ref l1), some (.ref l2), some (.int (i : Int)), v9, some (.ref D), some (.ref F), none, none] ∧ Same H4 H' ∧ BnL H' D gs (ownB bds (i : Int)) ∧ H' F = some (.lst (hs.map V.ref)) ∧ H' l1 = some (.lst ((J1 ++ if (pc.all fun ch => ch.contains (i : Int)) = true then [(i : Int)] else []).map V.int)) ∧ H' l2 = some (.lst (J2.map V.int)), ?_, ?_⟩
    · refine ⟨_, rfl, _, _, rfl, .inl (SqL.of h9), _, rfl, _, _, rfl, .inl (SqL.of (s49 _ _ P4)), rfl, _, rfl, ?_⟩
      show if decide (V.int (((hs.map V.ref).length : Nat) : Int) = V.int (((fs.map V.ref).length : Nat) : Int)) = true then _ else _
      rw [dIntN, List.length_map, List.length_map, hl, fl, len_all]
      cases hb : pc.all fun ch => ch.contains (i : Int) with
      | false =>
        refine iteF ⟨rfl, s49, G9, h9, ?_, e2'⟩
        rw [if_neg (by decide), List.append_nil]
        exact e1'
      | true =>
        have kk : TupK H9 (upd H9 l1 (.lst (J1.map V.int ++ [.int (i : Int)]))) := .set e1'
        refine iteT ⟨_, rfl, .inl ⟨rfl, _, SqL.of e1'⟩, _, rfl, _, _, _, rfl, rfl, e1', by rw [List.length_map]; exact sizes' (by omega), ?_⟩
        refine ⟨rfl, fun c w hc => ?_, G9.tk kk (by rw [upd_ne D1]; exact G9.l), by rw [upd_ne F1]; exact h9, by rw [upd_same, if_pos rfl, List.map_append]; rfl, by rw [upd_ne (Ne.symm l12)]; exact e2'⟩
        rw [upd_ne (ne_of_none hc nl1)]
        exact s49 _ _ hc
    clear G9 e1' e2' h9 s49 s9
    rintro σ H10 ⟨rfl, s10, G10, h10, i1, i2⟩
    refine ⟨_, rfl, _, rfl, ⟨_, SqL.of h10⟩, fun G hG => lc_list (K := K) (a := F) (xs := hs.map V.ref) (fun j H' => Same H10 H' ∧ ∃ xs : List Addr, H' G = some (.lst (xs.map V.ref)) ∧ xs.length = (((pc.filter fun ch => ch.contains (i : Int)).take j).filter fun ch => !folB (ownB bds (i : Int)) (leftB bds ch)).length) ⟨same_upd hG, [], upd_same, rfl⟩ (fun i H' _ p => SqL.of (p.1 _ _ h10)) ?_ ?_⟩
    · rintro j v H11 hv ⟨s11, xs, h11, len⟩
      obtain ⟨e, he, rfl⟩ := ref_of hv
      obtain ⟨ch, hch, hz⟩ := E9.get he
      obtain ⟨c', lf, gs', a1, a2, a3, a4⟩ := id hz
      have s411 := s10.trans s11
      have mch := (List.mem_filter.mp (List.mem_of_getElem? hch)).1
      have ll := left_len bds ch
      have ol := own_len bds (i : Int)
      have hj : j < (pc.filter fun ch => ch.contains (i : Int)).length := (List.getElem?_eq_some_iff.mp hch).1
      have pfl : (pc.filter fun ch => ch.contains (i : Int)).length ≤ pc.length := List.length_filter_le _ _
      have hfl : (((pc.filter fun ch => ch.contains (i : Int)).take j).filter fun ch => !folB (ownB bds (i : Int)) (leftB bds ch)).length ≤ 10000 := Nat.le_trans (List.length_filter_le _ _) (by rw [List.length_take]; omega)
      refine ⟨rfl, _, rfl, _, rfl, _, _, _, _, rfl, rfl, SqT.of (s411 _ _ a1), at_of (j := 1) rfl rfl, D, lf, gs, gs', ownB bds (i : Int), leftB bds ch, rfl, G10.keep s11, a3.keep s411, fun z hz => hm z (own_mem hz), fun z hz => hm z (left_mem hz), by omega, by omega, okp ch mch, fun H12 s12 => ⟨_, rfl, ?_⟩⟩
      rw [filter_take hch]
      cases hb : folB (ownB bds (i : Int)) (leftB bds ch) with
      | true =>
        refine iteF ⟨s11.trans s12, xs, s12 _ _ h11, ?_⟩
        rw [if_neg (by decide), List.append_nil]
        exact len
      | false =>
        refine iteT ⟨_, rfl, _, s12 _ _ h11, by rw [List.length_map, len]; exact sizes' (by omega), fun c w hcw => ?_, xs ++ [e], ?_, ?_⟩
        · rw [upd_ne (ne_of_none hcw hG)]
          exact s12 _ _ (s11 _ _ hcw)
        · rw [upd_same, List.map_append]
          rfl
        · rw [if_pos (by decide), List.length_append, List.length_append, len]
          rfl
    rintro H11 ⟨s11, xs, h11, len⟩
    rw [List.length_map, hl, List.take_length] at len
    have s411 := s10.trans s11
    have i1' := s11 _ _ i1
    have i2' := s11 _ _ i2
    refine ⟨_, _, rfl, .inl (SqL.of h11), rfl, _, rfl, ?_⟩
    show if decide (V.int (((xs.map V.ref).length : Nat) : Int) = V.int ((0 : Nat) : Int)) = true then _ else _
    rw [dIntN, List.length_map, len, len_no]
    cases hb : pc.all fun ch => !ch.contains (i : Int) || folB (ownB bds (i : Int)) (leftB bds ch) with
    | false =>
      refine iteF ⟨_, _, _, rfl, s411, i1', ?_⟩
      rw [if_neg (by decide), List.append_nil]
      exact i2'
    | true =>
      refine iteT ⟨_, rfl, .inl ⟨rfl, _, SqL.of i2'⟩, _, rfl, _, _, _, rfl, rfl, i2', by rw [List.length_map]; exact sizes' (by omega), ?_⟩
      refine ⟨_, _, _, rfl, fun c w hc => ?_, by rw [upd_ne l12]; exact i1', by rw [upd_same, if_pos rfl, List.map_append]; rfl⟩
      rw [upd_ne (ne_of_none hc nl2')]
      exact s411 _ _ hc
  rintro σ H7 ⟨v8, v10, v11, rfl, s7, e1, e2⟩
  rw [Int.toNat_natCast, List.take_of_length_le (by rw [List.length_map, List.length_range]; exact Nat.le_refl _)] at e1 e2
  refine ⟨_, rfl, _, rfl, by show 2 ≤ sizeLine; decide, fun p np => ?_⟩
  have s8 := same_upd (o := .tup [.ref l1, .ref l2]) np
  exact q1 p l1 l2 _ ((s4.trans s7).trans s8) (s4.free nl1) (s4.free nl2') l12 upd_same (s8 _ _ e1) (s8 _ _ e2)
def sp__law_whole (K : PySem.W.Frag) : Sp := fun vs H Q _ => ∃ (i : Int), vs = [.int i] ∧ Q (.bl true) H
theorem ok__law_whole {f : Addr} {fd : FuncData} (D : Df K mg "_law_whole" s__law_whole ["told"] f fd) (T : Txt K mg) : FnOk P w K mg base CX0 1 f fd ["told"] (sp__law_whole K) := by
  refine D.F.ok sc__law_whole (fun vs H Q E h => ?_) (fun cdv A outer s H vs Q E hr h => ?_)
  · obtain ⟨i, rfl, _⟩ := h
    rfl
  obtain ⟨i, rfl, q⟩ := h
  refine ⟨_, (pss_one (ps_ret (pe_and (pe_callB call_isi rfl T.isinstance (by decide +kernel) (pa_cons (pv 0) (pa_cons (pe_bltn (v := V.ty "int") (by rfl) T.int (by decide +kernel) rfl) pa_nil))) (pe_one (pe_not (pe_callB call_isi rfl T.isinstance (by decide +kernel) (pa_cons (pv 0) (pa_cons (pe_bltn (v := V.ty "bool") (by rfl) T.bool (by decide +kernel) rfl) pa_nil)))))))), ?_⟩
  exact ⟨_, rfl, _, _, _, _, _, rfl, ClsV.ty "int", .base (TyOf.int _), kit_ty (r := true) (by decide +kernel), _, rfl, iteT ⟨_, rfl, _, _, _, _, _, rfl, ClsV.ty "bool", .base (TyOf.int _), kit_ty (r := false) (by decide +kernel), _, rfl, q⟩⟩
theorem ints_ls {K : PySem.W.Frag} {H : Hp} {l : Addr} {xs : List Int} (h : H l = some (.lst (xs.map V.int))) : LsI K H l (xs.map PyData.int) := ⟨_, h, ImL.ints⟩
theorem intl_depth (xs : List Int) : (PyData.list (xs.map PyData.int)).depth ≤ 64 := by
  have := csi_depth xs
  simp only [PyData.depth]
  omega
/-- two lists of numbers in a tuple -/
def TwoL (H : Hp) (p : Addr) (xs ys : List Int) : Prop := ∃ l m, H p = some (.tup [.ref l, .ref m]) ∧ H l = some (.lst (xs.map V.int)) ∧ H m = some (.lst (ys.map V.int))
theorem TwoL.keep {H H' : Hp} {p : Addr} {xs ys : List Int} (s : Same H H') (h : TwoL H p xs ys) : TwoL H' p xs ys := by
  obtain ⟨l, m, a, b, c⟩ := h
  exact ⟨l, m, s _ _ a, s _ _ b, s _ _ c⟩
def sp__law_guilt_right (K : PySem.W.Frag) : Sp := fun vs H Q _ => ∃ (t d : V), vs = [t, d] ∧ ((t = .non ∧ d = .non) ∨ ∃ p q xs ys, t = .ref p ∧ d = .ref q ∧ TwoL H p xs ys ∧ TwoL H q xs ys) ∧ Q (.bl true) H
set_option maxHeartbeats 2000000 in
theorem ok__law_guilt_right {f : Addr} {fd : FuncData} (D : Df K mg "_law_guilt_right" s__law_guilt_right ["told", "due"] f fd) (T : Txt K mg) {f__law_whole : Addr} {fd__law_whole : FuncData} (D__law_whole : Df K mg "_law_whole" s__law_whole ["told"] f__law_whole fd__law_whole) (G__law_whole : FnOk P w K mg base CX0 1 f__law_whole fd__law_whole ["told"] (sp__law_whole K)) : FnOk P w K mg base CX0 2 f fd ["told", "due"] (sp__law_guilt_right K) := by
  refine D.F.ok sc__law_guilt_right (fun vs H Q E h => ?_) (fun cdv A outer s H vs Q E hr h => ?_)
  · obtain ⟨t, d, rfl, _⟩ := h
    rfl
  obtain ⟨t, d, rfl, h, q⟩ := h
  refine ⟨_, (pss_cons (ps_if (pt_cmpR op_isN (pv 1) pe_non (nomark _))
      (pss_one (ps_ret (pe_cmpR op_isN (pv 0) pe_non (nomark _))))
      pss_nil)
    (pss_cons (ps_if (PW.pt (pw_or (pt_not (pt_val (pe_callB call_isi rfl T.isinstance (by decide +kernel) (pa_cons (pv 0) (pa_cons (pe_bltn (v := V.ty "tuple") (by rfl) T.tuple (by decide +kernel) rfl) pa_nil))))) (pw_or (pt_cmpR op_ne (pe_callB call_len_seq rfl T.len PySem.boot_len (pa_cons (pv 0) pa_nil)) pe_int (nomark _)) (pw_or (pt_cmpR (op_neP hr.units) (pe_ix ix_tup (pv 0) pe_int (fun _ _ => rfl)) (pe_ix ix_tup (pv 1) pe_int (fun _ _ => rfl)) (nomark _)) (pw_or1 (pt_cmpR (op_neP hr.units) (pe_ix ix_tup (pv 0) pe_int (fun _ _ => rfl)) (pe_ix ix_tup (pv 1) pe_int (fun _ _ => rfl)) (nomark _)))))))
      (pss_one (ps_ret pe_bl))
      pss_nil)
    (pss_cons (ps_for PassesOwn.never rfl (pi_tup (pv 0)) (pg_name (i := 2) sc__law_guilt_right.nd rfl (Or.inl rfl))
      (pss_cons (ps_if (pt_not (pt_val (pe_callB call_isi rfl T.isinstance (by decide +kernel) (pa_cons (pv 2) (pa_cons (pe_bltn (v := V.ty "list") (by rfl) T.list (by decide +kernel) rfl) pa_nil)))))
      (pss_one (ps_ret pe_bl))
      pss_nil)
    (pss_one (ps_for PassesOwn.never rfl (pi_list (pv 2)) (pg_name (i := 3) sc__law_guilt_right.nd rfl (Or.inl rfl))
      (pss_one (ps_if (pt_not (pt_val (pe_call G__law_whole (hr.mono (by decide)) rfl D__law_whole.m D__law_whole.F.kp D__law_whole.b .nil pass0 (pa_cons (pv 3) pa_nil))))
      (pss_one (ps_ret pe_bl))
      pss_nil))))))
    (pss_one (ps_ret pe_bl))))), ?_⟩
  rcases h with ⟨rfl, rfl⟩ | ⟨p, r, xs, ys, rfl, rfl, ⟨l, m, hp, hl, hm⟩, ⟨l2, m2, hr, hl2, hm2⟩⟩
  · exact ⟨_, rfl, rfl, _, rfl, iteT ⟨_, rfl, rfl, q⟩⟩
  have ha := SqT.of (K := K) hp
  refine ⟨_, rfl, rfl, _, rfl, iteF ?_⟩
  refine ⟨_, rfl, _, _, _, _, _, rfl, ClsV.ty "tuple", tyT ha, kit_ty (r := true) (by decide +kernel), _, rfl, iteF ⟨_, rfl, _, _, rfl, .inr ha, rfl, _, rfl, ite2 (fun c => absurd rfl (vne_int c)) (fun _ => ?_)⟩⟩
  refine ⟨_, rfl, _, _, _, _, rfl, rfl, SqT.of hp, at_of (j := 0) rfl rfl, _, rfl, _, _, _, _, rfl, rfl, SqT.of hr, at_of (j := 0) rfl rfl, (ints_ls hl).neP (ints_ls hl2) (intl_depth _) ⟨_, rfl, iteF ?_⟩⟩
  refine ⟨_, rfl, _, _, _, _, rfl, rfl, SqT.of hp, at_of (j := 1) rfl rfl, _, rfl, _, _, _, _, rfl, rfl, SqT.of hr, at_of (j := 1) rfl rfl, (ints_ls hm).neP (ints_ls hm2) (intl_depth _) ⟨_, rfl, iteF ?_⟩⟩
  refine ⟨_, rfl, _, rfl, ⟨_, ha⟩, for_tup (K := K) (a := p) (xs := [.ref l, .ref m]) (fun i σ H' => ∃ v2 v3, σ = [some (.ref p), some (.ref r), v2, v3] ∧ H' = H) ⟨none, none, rfl, rfl⟩ (fun i σ H' _ ⟨_, _, _, z⟩ => by rw [z]; exact ha) ?_ ?_⟩
  · rintro i v σ H1 hv ⟨v2, v3, rfl, rfl⟩
    have hx : ∃ (a : Addr) (zs : List Int), v = .ref a ∧ H1 a = some (.lst (zs.map V.int)) := by
      match i, hv with
      | 0, hv => exact ⟨l, xs, (Option.some.inj hv).symm, hl⟩
      | 1, hv => exact ⟨m, ys, (Option.some.inj hv).symm, hm⟩
      | k + 2, hv => simp at hv
    obtain ⟨a, zs, rfl, hz⟩ := hx
    refine ⟨_, rfl, _, _, _, _, _, rfl, ClsV.ty "list", tyL (SqL.of hz), kit_ty (r := true) (by decide +kernel), _, rfl, iteF ?_⟩
    refine ⟨_, rfl, _, rfl, ⟨_, SqL.of hz⟩, for_list (K := K) (a := a) (xs := zs.map V.int) (fun i σ H' => ∃ v3, σ = [some (.ref p), some (.ref r), some (.ref a), v3] ∧ H' = H1) ⟨_, rfl, rfl⟩ (fun i σ H' _ ⟨_, _, z⟩ => by rw [z]; exact SqL.of hz) ?_ ?_⟩
    · rintro j x σ H2 hx ⟨w, rfl, rfl⟩
      have hy : ∃ y, x = .int y := by
        rw [List.getElem?_map] at hx
        cases g : zs[j]? with
        | none => rw [g] at hx; cases hx
        | some y => rw [g] at hx; exact ⟨y, (Option.some.inj hx).symm⟩
      obtain ⟨y, rfl⟩ := hy
      exact ⟨_, rfl, y, rfl, _, rfl, iteF ⟨_, rfl, rfl⟩⟩
    · rintro σ H2 ⟨w, rfl, rfl⟩
      exact ⟨_, _, rfl, rfl⟩
  rintro σ H1 ⟨v2, v3, rfl, rfl⟩
  exact q
def bnsP (bs : List Bd) : PyData := .list (bs.map bdP)
theorem bn_dp {K : PySem.W.Frag} {H : Hp} {e : Addr} {z : Bd} (h : BnE H e z) : Dp K H (.ref e) (bdP z) := by
  obtain ⟨x, y, h1, h2, h3⟩ := h
  exact .tup (SqT.of h1) (.cons (pt_dp h2) (.cons (pt_dp h3) (.cons (.int _) (.cons (.int _) .nil))))
theorem BnL.dp {K : PySem.W.Frag} {H : Hp} {l : Addr} {es : List Addr} {bs : List Bd} (h : BnL H l es bs) : Dp K H (.ref l) (bnsP bs) := .lst (SqL.of h.l) (all_dp (P := BnE H) (fun _ _ z => bn_dp z) h.e)
theorem bns_plain (bs : List Bd) : (bnsP bs).plain = true := all_plain (fun _ => rfl) bs
theorem bns_depth (bs : List Bd) : (bnsP bs).depth ≤ 64 := by
  have h2 := ldepth bd_depth bs
  simp only [bnsP, PyData.depth] at *
  omega
theorem bro_len (n : Nat) (ps : List (List Int)) : (broM n ps).length ≤ n := Nat.le_trans (List.length_filter_le _ _) (by rw [List.length_map, List.length_range]; exact Nat.le_refl _)
theorem rig_len (bds : List Bd) (n : Nat) (ps : List (List Int)) : (rigM bds n ps).length ≤ n := Nat.le_trans (List.length_filter_le _ _) (by rw [List.length_map, List.length_range]; exact Nat.le_refl _)
theorem GuR.two {bds : List Bd} {n : Nat} {chs : List (List Int)} {H0 H1 H2 H3 H : Hp} {u v : V} (a : GuR bds n chs H0 H1 u) (b : GuR bds n chs H2 H3 v) (s : Same H1 H) (t : Same H3 H) : (u = .non ∧ v = .non) ∨ ∃ p q xs ys, u = .ref p ∧ v = .ref q ∧ TwoL H p xs ys ∧ TwoL H q xs ys := by
  rcases a with ⟨h, rfl⟩ | ⟨h, p, l, m, rfl, _, _, _, a1, a2, a3⟩ <;> rcases b with ⟨g, rfl⟩ | ⟨g, q, l2, m2, rfl, _, _, _, b1, b2, b3⟩
  · exact .inl ⟨rfl, rfl⟩
  · exact absurd h g
  · exact absurd g h
  · exact .inr ⟨p, q, _, _, rfl, rfl, ⟨l, m, s _ _ a1, s _ _ a2, s _ _ a3⟩, ⟨l2, m2, t _ _ b1, t _ _ b2, t _ _ b3⟩⟩
def sp_law (K : PySem.W.Frag) : Sp := fun vs H Q _ => ∃ (a : Addr) (ns : List Int), vs = [.ref a] ∧ SqL K H a (ns.map V.int) ∧ ns.length ≤ 63 ∧ ∀ H', Q (.bl true) H'
set_option maxHeartbeats 8000000 in
theorem ok_law {f : Addr} {fd : FuncData} {CT : Addr} (TTb : Ck_Table K mg CT) (D : Df K mg "law" s_law ["script"] f fd) (T : Txt K mg) {f_guilt_of : Addr} {fd_guilt_of : FuncData} (D_guilt_of : Df K mg "guilt_of" s_guilt_of ["bounds", "parts", "faults"] f_guilt_of fd_guilt_of) (G_guilt_of : FnOk P w K mg base CX0 6 f_guilt_of fd_guilt_of ["bounds", "parts", "faults"] (sp_guilt_of K CT)) {f__law_draws : Addr} {fd__law_draws : FuncData} (D__law_draws : Df K mg "_law_draws" s__law_draws ["script", "count"] f__law_draws fd__law_draws) (G__law_draws : FnOk P w K mg base CX0 1 f__law_draws fd__law_draws ["script", "count"] (sp__law_draws K)) {f__law_take : Addr} {fd__law_take : FuncData} (D__law_take : Df K mg "_law_take" s__law_take ["rows", "at", "many"] f__law_take fd__law_take) (G__law_take : FnOk P w K mg base CX0 1 f__law_take fd__law_take ["rows", "at", "many"] (sp__law_take K)) {f__law_points : Addr} {fd__law_points : FuncData} (D__law_points : Df K mg "_law_points" s__law_points [] f__law_points fd__law_points) (G__law_points : FnOk P w K mg base CX0 1 f__law_points fd__law_points [] (sp__law_points K)) {f__law_bound : Addr} {fd__law_bound : FuncData} (D__law_bound : Df K mg "_law_bound" s__law_bound ["rows", "at", "points", "parts"] f__law_bound fd__law_bound) (G__law_bound : FnOk P w K mg base CX0 3 f__law_bound fd__law_bound ["rows", "at", "points", "parts"] (sp__law_bound K)) {f__law_guilt : Addr} {fd__law_guilt : FuncData} (D__law_guilt : Df K mg "_law_guilt" s__law_guilt ["bounds", "parts", "faults"] f__law_guilt fd__law_guilt) (G__law_guilt : FnOk P w K mg base CX0 3 f__law_guilt fd__law_guilt ["bounds", "parts", "faults"] (sp__law_guilt K)) {f__law_guilt_right : Addr} {fd__law_guilt_right : FuncData} (D__law_guilt_right : Df K mg "_law_guilt_right" s__law_guilt_right ["told", "due"] f__law_guilt_right fd__law_guilt_right) (G__law_guilt_right : FnOk P w K mg base CX0 2 f__law_guilt_right fd__law_guilt_right ["told", "due"] (sp__law_guilt_right K)) : FnOk P w K mg base CX0 7 f fd ["script"] (sp_law K) := by
  refine D.F.ok sc_law (fun vs H Q E h => ?_) (fun cdv A outer s H vs Q E hr h => ?_)
  · obtain ⟨a, ns, rfl, _⟩ := h
    rfl
  obtain ⟨a, ns, rfl, hS, h63, q⟩ := h
  refine ⟨_, (pss_cons (ps_set (i := 1) sc_law.nd rfl (Or.inr rfl) (pe_call G__law_draws (hr.mono (by decide)) rfl D__law_draws.m D__law_draws.F.kp D__law_draws.b .nil pass0 (pa_cons (pv 0) (pa_cons pe_int pa_nil))))
    (pss_cons (ps_set (i := 2) sc_law.nd rfl (Or.inr rfl) (pe_op op_add pe_int (pe_call G__law_take (hr.mono (by decide)) rfl D__law_take.m D__law_take.F.kp D__law_take.b .nil pass0 (pa_cons (pv 1) (pa_cons pe_int (pa_cons pe_int pa_nil))))))
    (pss_cons (ps_set (i := 3) sc_law.nd rfl (Or.inl rfl) (pe_callB (call_min2 rfl) rfl T.min (by decide +kernel) (pa_cons (pe_call G__law_take (hr.mono (by decide)) rfl D__law_take.m D__law_take.F.kp D__law_take.b .nil pass0 (pa_cons (pv 1) (pa_cons pe_int (pa_cons pe_int pa_nil)))) (pa_cons (pv 2) pa_nil))))
    (pss_cons (ps_set (i := 4) sc_law.nd rfl (Or.inr rfl) (pe_slice (r := rSlL K) sl_list (pe_call0 G__law_points (hr.mono (by decide)) rfl D__law_points.m D__law_points.F.kp D__law_points.b .nil pass0) po_none (po_some (pe_ix ix_tup (pe_tup (pa_cons pe_int (pa_cons pe_int (pa_cons pe_int (pa_cons pe_int pa_nil))))) (pe_call G__law_take (hr.mono (by decide)) rfl D__law_take.m D__law_take.F.kp D__law_take.b .nil pass0 (pa_cons (pv 1) (pa_cons pe_int (pa_cons pe_int pa_nil)))) (fun _ _ => rfl)))))
    (pss_cons (ps_setLc (i := 5) (own := [("k", 9)]) (g := gName 9) (tt := tYes) rfl sc_law.nd rfl rfl (sw_true rfl rfl rfl (by decide +kernel)) (pi_range1 rfl T.range (pa_cons (pe_call G__law_take (hr.mono (by decide)) rfl D__law_take.m D__law_take.F.kp D__law_take.b .nil pass0 (pa_cons (pv 1) (pa_cons pe_int (pa_cons pe_int pa_nil)))) pa_nil)) (blkOk_by (own := [("k", 9)]) (N := nm_law) (sc := defScope s_law) (by decide +kernel)) (fun _ _ _ _ _ => (pg_name (i := 9) sc_law.nd rfl (Or.inl rfl))) (fun _ _ _ _ _ => pts_nil) (fun _ _ _ _ _ => (pe_call G__law_bound (hr.mono (by decide)) rfl D__law_bound.m D__law_bound.F.kp D__law_bound.b .nil pass0 (pa_cons (pv 1) (pa_cons (pe_op op_add pe_int (pv 9)) (pa_cons (pv 4) (pa_cons (pv 2) pa_nil)))))))
    (pss_cons (ps_set (i := 6) sc_law.nd rfl (Or.inl rfl) (pe_call G__law_guilt (hr.mono (by decide)) rfl D__law_guilt.m D__law_guilt.F.kp D__law_guilt.b .nil pass0 (pa_cons (pv 5) (pa_cons (pv 2) (pa_cons (pv 3) pa_nil)))))
    (pss_cons (ps_set (i := 7) sc_law.nd rfl (Or.inl rfl) (pe_callTy call_list_of rfl T.list (by decide +kernel) (pa_cons (pv 5) pa_nil)))
    (pss_cons (ps_set (i := 8) sc_law.nd rfl (Or.inl rfl) (pe_call G_guilt_of (hr.mono (by decide)) rfl D_guilt_of.m D_guilt_of.F.kp D_guilt_of.b .nil pass0 (pa_cons (pv 7) (pa_cons (pv 2) (pa_cons (pv 3) pa_nil)))))
    (pss_cons (ps_if (PW.pt (pw_or (pt_cmpR (op_neP hr.units) (pv 7) (pv 5) (nomark _)) (pw_or1 (pt_not (pt_val (pe_call G__law_guilt_right (hr.mono (by decide)) rfl D__law_guilt_right.m D__law_guilt_right.F.kp D__law_guilt_right.b .nil pass0 (pa_cons (pv 8) (pa_cons (pv 6) pa_nil))))))))
      (pss_one (ps_ret pe_bl))
      pss_nil)
    (C8.pss_cut (ps_if (pt_cmpR op_notN (pv 8) pe_non (nomark _))
      (pss_cons (ps_expr (pe_bm PySem.F.plainAttrs_list PySem.F.slot_list_append PySem.F.type_list_append mt_append (pe_ix ix_tup (pv 8) pe_int (fun _ _ => rfl)) (pa_cons pe_int pa_nil)))
    (pss_one (ps_expr (pe_bm PySem.F.plainAttrs_list PySem.F.slot_list_append PySem.F.type_list_append mt_append (pe_ix ix_tup (pv 8) pe_int (fun _ _ => rfl)) (pa_cons pe_int pa_nil)))))
      pss_nil)
    (pss_one (ps_ret (pe_call G__law_guilt_right (hr.mono (by decide)) rfl D__law_guilt_right.m D__law_guilt_right.F.kp D__law_guilt_right.b .nil pass0 (pa_cons (pe_call G_guilt_of (hr.mono (by decide)) rfl D_guilt_of.m D_guilt_of.F.kp D_guilt_of.b .nil pass0 (pa_cons (pv 7) (pa_cons (pv 2) (pa_cons (pv 3) pa_nil)))) (pa_cons (pv 6) pa_nil))))))))))))))), ?_⟩
  refine ⟨_, rfl, a, ns, 12, rfl, hS, by decide, by decide, fun r H1 rws s1 nr hr0 hl => ?_⟩
  have r1 : RwAt H1 r 12 := ⟨rws, hr0, hl⟩
  clear hr0 hl s1 nr hS
  refine ⟨_, rfl, r, 0, 4, 12, rfl, r1, by decide, by decide, by decide, by decide, fun g H2 g0 g1 b2 r2 => ⟨_, _, rfl, rfl, ?_⟩⟩
  refine ⟨_, rfl, r, 0, 3, 12, rfl, r2, by decide, by decide, by decide, by decide, fun f H3 f0 f1 b3 r3 => ⟨_, rfl, _, _, rfl, ?_⟩⟩
  have hfz : ∃ z : Int, (if (1 + g : Int) < f then (1 + g : Int) else f) = z ∧ 0 ≤ z := ⟨_, rfl, by split <;> omega⟩
  obtain ⟨fz, efz, fz0⟩ := hfz
  clear r1 b2 r2 b3
  refine ⟨rfl, fun pa pcs H4 s4 n4 hL => ?_⟩
  have r4 := r3.keep s4
  have par : pa ≠ r := r3.ne n4
  refine ⟨by show 4 ≤ sizeLine; decide, fun t4 nt4 => ?_⟩
  obtain ⟨s5, h5⟩ := fr (rfl : upd H4 t4 (.tup [.int 2, .int 3, .int 4, .int 7]) = _) nt4
  generalize upd H4 t4 (.tup [.int 2, .int 3, .int 4, .int 7]) = H5 at *
  have r5 := r4.keep s5
  have L5 := hL.keep s5
  refine ⟨_, rfl, r, 0, 4, 12, rfl, r5, by decide, by decide, by decide, by decide, fun g6 H6 g60 g61 b6 r6 => ?_⟩
  have k6 := r5.tk b6
  have h6 := k6.1 _ _ h5
  have L6 := L5.tk k6 (b6 _ _ par L5.l)
  have hat : ∃ m : Nat, atI [V.int 2, V.int 3, V.int 4, V.int 7] g6 = some (.int (m : Int)) ∧ 2 ≤ m ∧ m ≤ 7 := by
    obtain ⟨j, rfl⟩ : ∃ j : Nat, g6 = (j : Int) := ⟨g6.toNat, by omega⟩
    match j, g61 with
    | 0, _ => exact ⟨2, rfl, by decide, by decide⟩
    | 1, _ => exact ⟨3, rfl, by decide, by decide⟩
    | 2, _ => exact ⟨4, rfl, by decide, by decide⟩
    | 3, _ => exact ⟨7, rfl, by decide, by decide⟩
    | k + 4, h => exact absurd h (by omega)
  obtain ⟨m, hm, m2, m7⟩ := hat
  refine ⟨_, _, _, _, rfl, rfl, SqT.of h6, hm, _, rfl, _, _, rfl, SqL.of L6.l, fun po npo => ?_⟩
  rw [cutP (by rw [List.length_map, L6.e.1]; exact m7), ← List.map_take]
  obtain ⟨s7, h7⟩ := fr (rfl : upd H6 po (.lst ((pcs.take m).map V.ref)) = _) npo
  generalize upd H6 po (.lst ((pcs.take m).map V.ref)) = H7 at *
  have P7 : PtL H7 po (pcs.take m) (ptsL.take m) := ⟨h7, (L6.keep s7).e.take _⟩
  have r7 := r6.keep s7
  have por : po ≠ r := r6.ne npo
  have subp : ∀ p ∈ ptsL.take m, p ∈ ptsL := fun p h => List.mem_of_mem_take h
  have plen : (ptsL.take m).length = m := by rw [List.length_take]; have : ptsL.length = 7 := rfl; omega
  generalize ptsL.take m = ps at *
  generalize pcs.take m = cs at *
  clear L6 L5 hL k6 h6 h5 s5 s4 n4 b6 r6 r5 r4 r3 nt4 hm s7 npo h7 par
  refine ⟨_, rfl, r, 0, 12, 12, rfl, r7, by decide, by decide, by decide, by decide, fun g8 H8 g80 g81 b8 r8 => ?_⟩
  have P8 := P7.tk (r7.tk b8) (b8 _ _ por P7.l)
  clear P7 r7 b8
  refine ⟨_, rfl, by omega, by omega, fun bD hbD => lc_range (lo := 0) (n := g8.toNat) (fun i H' => ∃ (es : List Addr) (bds : List Bd), But r H8 H' ∧ RwAt H' r 12 ∧ TupK H8 H' ∧ H' bD = some (.lst (es.map V.ref)) ∧ Each (BnE H') es bds ∧ bds.length ≤ i ∧ ∀ z ∈ bds, z.one ∈ ps ∧ z.two ∈ ps) ⟨[], [], But.of (same_upd hbD), r8.keep (same_upd hbD), TupK.new hbD, upd_same, ⟨rfl, fun i a x h => by simp at h⟩, Nat.le_refl _, fun z h => by cases h⟩ ?_ ?_⟩
  · rintro i H9 hi ⟨es, bds, b9, r9, k9, eD, each, bl9, mb⟩
    have P9 := P8.tk k9 (b9 _ _ por P8.l)
    have bDr : bD ≠ r := r8.ne hbD
    refine ⟨rfl, _, rfl, _, rfl, _, _, rfl, rfl, _, rfl, _, rfl, r, po, _, _, 12, ps, cs, rfl, r9, by omega, by omega, by show 0 ≤ 1 + g; omega, by show 1 + g ≤ 100; omega, P9, por, by omega, by omega, fun z e H10 m1 m2' b10 r10 he => ?_⟩
    have k10 := r9.tk b10
    have eD10 := b10 _ _ bDr eD
    have kk : TupK H10 (upd H10 bD (.lst (es.map V.ref ++ [V.ref e]))) := .set eD10
    refine ⟨_, eD10, ?_, es ++ [e], bds ++ [z], fun c u hc hu => ?_, r10.but But.set bDr.symm, k9.trans (k10.trans kk), by rw [upd_same, List.map_append]; rfl, (each.keep fun _ _ y => y.tk (k10.trans kk)).snoc (he.tk kk), by rw [List.length_append, List.length_singleton]; omega, fun y hy => ?_⟩
    · rw [List.length_map, each.1]
      exact sizes' (by omega)
    · rw [upd_ne (ne_of_none hu hbD)]
      exact b10 _ _ hc (b9 _ _ hc hu)
    · rcases List.mem_append.mp hy with h | h
      · exact mb y h
      · rw [List.mem_singleton.mp h]
        exact ⟨m1, m2'⟩
  rintro H9 ⟨es, bds, b9, r9, k9, eD, each, bl9, mb⟩
  have bl9 : bds.length ≤ 11 := by omega
  have bDr : bD ≠ r := r8.ne hbD
  have P9 := P8.tk k9 (b9 _ _ por P8.l)
  have B9 : BnL H9 bD es bds := ⟨eD, each⟩
  have mem : ∀ z ∈ bds, z.one ∈ ptsL ∧ z.two ∈ ptsL := fun z hz => ⟨subp _ (mb z hz).1, subp _ (mb z hz).2⟩
  clear P8 b9 k9 eD each hbD r8 mb
  have vse : ([.ref bD, .int (1 + g), .int fz] : List V) = [.ref bD, .int (((1 + g).toNat : Nat) : Int), .int ((fz.toNat : Nat) : Int)] := by rw [Int.toNat_of_nonneg (by omega), Int.toNat_of_nonneg fz0]
  have fz3 : fz.toNat < 3 := by
    have : fz < 3 := by rw [← efz]; split <;> omega
    omega
  have pn9 : (1 + g).toNat < 10 := by omega
  have vse' : ∀ x : Addr, ([.ref x, .int (1 + g), .int (if (1 + g : Int) < f then (1 + g : Int) else f)] : List V) = [.ref x, .int (((1 + g).toNat : Nat) : Int), .int ((fz.toNat : Nat) : Int)] := fun x => by rw [efz, Int.toNat_of_nonneg (by omega), Int.toNat_of_nonneg fz0]
  clear vse P9
  refine ⟨_, rfl, _, rfl, _, rfl, bD, es, bds, (1 + g).toNat, fz.toNat, vse' bD, B9, mem, by omega, pn9, fz3, fun d H10 s10 gd => ?_⟩
  have B10 := B9.keep s10
  refine ⟨_, rfl, _, _, rfl, .inl (SqL.of B10.l), fun gv n11 => ?_⟩
  obtain ⟨s11, h11⟩ := fr (rfl : upd H10 gv (.lst (es.map V.ref)) = _) n11
  generalize upd H10 gv (.lst (es.map V.ref)) = H11 at *
  have G11 : BnL H11 gv es bds := ⟨h11, (B10.keep s11).e⟩
  have B11 := B10.keep s11
  refine ⟨_, rfl, _, rfl, _, rfl, gv, es, bds, (1 + g).toNat, fz.toNat, vse' gv, G11, mem, by omega, pn9, by omega, fun t H12 s12 gt => ?_⟩
  have G12 := G11.keep s12
  have B12 := B11.keep s12
  refine ⟨_, rfl, _, rfl, _, _, G12.dp, B12.dp, bns_plain _, bns_plain _, bns_depth _, ?_⟩
  rw [SeqAt.eqv_refl_plain _ (bns_plain _)]
  refine ⟨_, rfl, iteF ⟨_, rfl, _, rfl, t, d, rfl, gt.two gd (fun _ _ h => h) (s11.trans s12), _, rfl, iteF ?_⟩⟩
  refine ⟨fun σ H' => σ = [some (.ref a), some (.ref r), some (.int (1 + g)), some (.int (if (1 + g : Int) < f then (1 + g : Int) else f)), some (.ref po), some (.ref bD), some d, some (.ref gv), some t, none] ∧ Same H11 H', ?_, ?_⟩
  · rcases gt with ⟨h, rfl⟩ | ⟨h, p, l1, l2, rfl, nl1, nl2, l12, a1, a2, a3⟩
    · exact ⟨_, rfl, rfl, _, rfl, iteF ⟨rfl, s12⟩⟩
    · have b1 := bro_len (1 + g).toNat (posC bds ((rowsF (1 + g).toNat fz.toNat).map chI))
      have b2 := rig_len bds (1 + g).toNat (posC bds ((rowsF (1 + g).toNat fz.toNat).map chI))
      generalize posC bds ((rowsF (1 + g).toNat fz.toNat).map chI) = pc at *
      refine ⟨_, rfl, rfl, _, rfl, iteT ?_⟩
      refine ⟨_, rfl, _, _, _, _, rfl, rfl, SqT.of a1, at_of (j := 0) rfl rfl, .inl ⟨rfl, _, SqL.of a2⟩, _, _, _, rfl, rfl, a2, by rw [List.length_map]; exact sizes' (by omega), ?_⟩
      have kk : TupK H12 (upd H12 l1 (.lst ((broM (1 + g).toNat pc).map V.int ++ [.int 9]))) := .set a2
      have a1' := kk.1 _ _ a1
      have a3' : upd H12 l1 (.lst ((broM (1 + g).toNat pc).map V.int ++ [.int 9])) l2 = some (.lst ((rigM bds (1 + g).toNat pc).map V.int)) := by rw [upd_ne (Ne.symm l12)]; exact a3
      have s13 : Same H11 (upd H12 l1 (.lst ((broM (1 + g).toNat pc).map V.int ++ [.int 9]))) := fun c w hc => by
        rw [upd_ne (ne_of_none hc nl1)]
        exact s12 _ _ hc
      generalize upd H12 l1 (.lst ((broM (1 + g).toNat pc).map V.int ++ [.int 9])) = H13 at *
      refine ⟨_, rfl, _, _, _, _, rfl, rfl, SqT.of a1', at_of (j := 1) rfl rfl, .inl ⟨rfl, _, SqL.of a3'⟩, _, _, _, rfl, rfl, a3', by rw [List.length_map]; exact sizes' (by omega), ?_⟩
      refine ⟨rfl, fun c w hc => ?_⟩
      rw [upd_ne (ne_of_none hc nl2)]
      exact s13 _ _ hc
  clear gt s12 G12 B12
  rintro σ H13 ⟨rfl, s13⟩
  refine ⟨_, rfl, _, rfl, _, rfl, gv, es, bds, (1 + g).toNat, fz.toNat, vse' gv, G11.keep s13, mem, by omega, pn9, by omega, fun t2 H14 s14 gt2 => ?_⟩
  exact ⟨_, rfl, t2, d, rfl, gt2.two gd (fun _ _ h => h) (s11.trans (s13.trans s14)), q _⟩
end
set_option maxHeartbeats 8000000 in
theorem all_mk {l : PySem.W.OpenLaw} {w : World} {K : PySem.W.Frag} {h : Heap} {mg : Str → Option Value} {fa : Addr} (X : K.In h) (G : h.Ns mainGlobals mg) (hfa : mg "law" = some (.ref fa))
    {CT : Addr} {od0 an0 : Option Addr} {sl0 : Array (Option Value)} {oc0 kV0 dc0 pm0 cd0 ct0 : Value} {f0 : Addr} {od1 an1 : Option Addr} {sl1 : Array (Option Value)} {oc1 kV1 dc1 pm1 cd1 ct1 : Value} {f1 : Addr} {od2 an2 : Option Addr} {sl2 : Array (Option Value)} {oc2 kV2 dc2 pm2 cd2 ct2 : Value} {f2 : Addr} {od3 an3 : Option Addr} {sl3 : Array (Option Value)} {oc3 kV3 dc3 pm3 cd3 ct3 : Value} {f3 : Addr} {od4 an4 : Option Addr} {sl4 : Array (Option Value)} {oc4 kV4 dc4 pm4 cd4 ct4 : Value} {f4 : Addr} {od5 an5 : Option Addr} {sl5 : Array (Option Value)} {oc5 kV5 dc5 pm5 cd5 ct5 : Value} {f5 : Addr} {od6 an6 : Option Addr} {sl6 : Array (Option Value)} {oc6 kV6 dc6 pm6 cd6 ct6 : Value} {f6 : Addr} {od7 an7 : Option Addr} {sl7 : Array (Option Value)} {oc7 kV7 dc7 pm7 cd7 ct7 : Value} {f7 : Addr} {od8 an8 : Option Addr} {sl8 : Array (Option Value)} {oc8 kV8 dc8 pm8 cd8 ct8 : Value} {f8 : Addr} {od9 an9 : Option Addr} {sl9 : Array (Option Value)} {oc9 kV9 dc9 pm9 cd9 ct9 : Value} {f9 : Addr} {pp9 : Addr} {rs9 : List Value} {od10 an10 : Option Addr} {sl10 : Array (Option Value)} {oc10 kV10 dc10 pm10 cd10 ct10 : Value} {f10 : Addr} {od11 an11 : Option Addr} {sl11 : Array (Option Value)} {oc11 kV11 dc11 pm11 cd11 ct11 : Value} {f11 : Addr} {od12 an12 : Option Addr} {sl12 : Array (Option Value)} {oc12 kV12 dc12 pm12 cd12 ct12 : Value} {f12 : Addr} {od13 an13 : Option Addr} {sl13 : Array (Option Value)} {oc13 kV13 dc13 pm13 cd13 ct13 : Value} {f13 : Addr} {od14 an14 : Option Addr} {sl14 : Array (Option Value)} {oc14 kV14 dc14 pm14 cd14 ct14 : Value} {f14 : Addr} {od15 an15 : Option Addr} {sl15 : Array (Option Value)} {oc15 kV15 dc15 pm15 cd15 ct15 : Value} {f15 : Addr} {pp15 : Addr} {rs15 : List Value} {od16 an16 : Option Addr} {sl16 : Array (Option Value)} {oc16 kV16 dc16 pm16 cd16 ct16 : Value} {f16 : Addr} {od17 an17 : Option Addr} {sl17 : Array (Option Value)} {oc17 kV17 dc17 pm17 cd17 ct17 : Value} {f17 : Addr} {od18 an18 : Option Addr} {sl18 : Array (Option Value)} {oc18 kV18 dc18 pm18 cd18 ct18 : Value} {f18 : Addr} {od19 an19 : Option Addr} {sl19 : Array (Option Value)} {oc19 kV19 dc19 pm19 cd19 ct19 : Value} {f19 : Addr} {od20 an20 : Option Addr} {sl20 : Array (Option Value)} {oc20 kV20 dc20 pm20 cd20 ct20 : Value} {f20 : Addr} {od21 an21 : Option Addr} {sl21 : Array (Option Value)} {oc21 kV21 dc21 pm21 cd21 ct21 : Value} {f21 : Addr} {od22 an22 : Option Addr} {sl22 : Array (Option Value)} {oc22 kV22 dc22 pm22 cd22 ct22 : Value} {f22 : Addr} {od23 an23 : Option Addr} {sl23 : Array (Option Value)} {oc23 kV23 dc23 pm23 cd23 ct23 : Value} {f23 : Addr} {od24 an24 : Option Addr} {sl24 : Array (Option Value)} {oc24 kV24 dc24 pm24 cd24 ct24 : Value} {f24 : Addr} {od25 an25 : Option Addr} {sl25 : Array (Option Value)} {oc25 kV25 dc25 pm25 cd25 ct25 : Value} {f25 : Addr} {od26 an26 : Option Addr} {sl26 : Array (Option Value)} {oc26 kV26 dc26 pm26 cd26 ct26 : Value} {f26 : Addr} {od27 an27 : Option Addr} {sl27 : Array (Option Value)} {oc27 kV27 dc27 pm27 cd27 ct27 : Value} {f27 : Addr} {od28 an28 : Option Addr} {sl28 : Array (Option Value)} {oc28 kV28 dc28 pm28 cd28 ct28 : Value} {f28 : Addr} {od29 an29 : Option Addr} {sl29 : Array (Option Value)} {oc29 kV29 dc29 pm29 cd29 ct29 : Value} {f29 : Addr} {od30 an30 : Option Addr} {sl30 : Array (Option Value)} {oc30 kV30 dc30 pm30 cd30 ct30 : Value} {f30 : Addr} {od31 an31 : Option Addr} {sl31 : Array (Option Value)} {oc31 kV31 dc31 pm31 cd31 ct31 : Value} {f31 : Addr} {od32 an32 : Option Addr} {sl32 : Array (Option Value)} {oc32 kV32 dc32 pm32 cd32 ct32 : Value} {f32 : Addr} {t_NO_CLOCK : Tok}
    (aC_Table : PySem.W.nsIn K mainGlobals "Table" = some (some (.ref CT))) (pg_Table : PySem.W.plainGet K CT Str.empty = true) (hd_Table : PySem.W.hasDictIn K CT = true) (po_Table : PySem.W.plainOver K CT = true) (sa_Table : PySem.W.findIn K (.ref CT) "__setattr__" = some (some (.builtin "object.__setattr__"))) (mk_Table : PySem.W.makesIn K CT = true) (kc_Table : PySem.W.keepIn K (.ref CT) = true) (n_Table__places : PySem.W.findIn K (.ref CT) "_places" = some none) (n_Table__rows : PySem.W.findIn K (.ref CT) "_rows" = some none) (n_Table__possible : PySem.W.findIn K (.ref CT) "_possible" = some none)
    (a0 : PySem.W.nsIn K mainGlobals "all_choices" = some (some (.ref f0)))
    (l0 : K.lookup f0 = some ⟨oc0, od0, .func (PySem.W.fnOf "all_choices" "all_choices" (defArgs s_all_choices) (defBody s_all_choices) (defScope s_all_choices) .none kV0 dc0 pm0 an0 cd0 ct0), sl0⟩) (c0 : PySem.W.codeIn K cd0 "all_choices" = true) (k0 : PySem.W.keepIn K (.ref f0) = true)
    (a1 : PySem.W.nsIn K mainGlobals "bounds_left" = some (some (.ref f1)))
    (l1 : K.lookup f1 = some ⟨oc1, od1, .func (PySem.W.fnOf "bounds_left" "bounds_left" (defArgs s_bounds_left) (defBody s_bounds_left) (defScope s_bounds_left) .none kV1 dc1 pm1 an1 cd1 ct1), sl1⟩) (c1 : PySem.W.codeIn K cd1 "bounds_left" = true) (k1 : PySem.W.keepIn K (.ref f1) = true)
    (a2 : PySem.W.nsIn K mainGlobals "points_named" = some (some (.ref f2)))
    (l2 : K.lookup f2 = some ⟨oc2, od2, .func (PySem.W.fnOf "points_named" "points_named" (defArgs s_points_named) (defBody s_points_named) (defScope s_points_named) .none kV2 dc2 pm2 an2 cd2 ct2), sl2⟩) (c2 : PySem.W.codeIn K cd2 "points_named" = true) (k2 : PySem.W.keepIn K (.ref f2) = true)
    (a3 : PySem.W.findIn K (.ref CT) "__init__" = some (some (.ref f3))) (i3 : PySem.W.isFn K (.ref f3) = true)
    (l3 : K.lookup f3 = some ⟨oc3, od3, .func (PySem.W.fnOf "__init__" "Table.__init__" (defArgs s_Table___init__) (defBody s_Table___init__) (defScope s_Table___init__) .none kV3 dc3 pm3 an3 cd3 ct3), sl3⟩) (c3 : PySem.W.codeIn K cd3 "Table.__init__" = true) (k3 : PySem.W.keepIn K (.ref f3) = true)
    (a4 : PySem.W.findIn K (.ref CT) "add_point" = some (some (.ref f4))) (i4 : PySem.W.isFn K (.ref f4) = true)
    (l4 : K.lookup f4 = some ⟨oc4, od4, .func (PySem.W.fnOf "add_point" "Table.add_point" (defArgs s_Table_add_point) (defBody s_Table_add_point) (defScope s_Table_add_point) .none kV4 dc4 pm4 an4 cd4 ct4), sl4⟩) (c4 : PySem.W.codeIn K cd4 "Table.add_point" = true) (k4 : PySem.W.keepIn K (.ref f4) = true)
    (a5 : PySem.W.nsIn K mainGlobals "is_nearer" = some (some (.ref f5)))
    (l5 : K.lookup f5 = some ⟨oc5, od5, .func (PySem.W.fnOf "is_nearer" "is_nearer" (defArgs s_is_nearer) (defBody s_is_nearer) (defScope s_is_nearer) .none kV5 dc5 pm5 an5 cd5 ct5), sl5⟩) (c5 : PySem.W.codeIn K cd5 "is_nearer" = true) (k5 : PySem.W.keepIn K (.ref f5) = true)
    (a6 : PySem.W.findIn K (.ref CT) "_shorten" = some (some (.ref f6))) (i6 : PySem.W.isFn K (.ref f6) = true)
    (l6 : K.lookup f6 = some ⟨oc6, od6, .func (PySem.W.fnOf "_shorten" "Table._shorten" (defArgs s_Table__shorten) (defBody s_Table__shorten) (defScope s_Table__shorten) .none kV6 dc6 pm6 an6 cd6 ct6), sl6⟩) (c6 : PySem.W.codeIn K cd6 "Table._shorten" = true) (k6 : PySem.W.keepIn K (.ref f6) = true)
    (a7 : PySem.W.findIn K (.ref CT) "put_bound" = some (some (.ref f7))) (i7 : PySem.W.isFn K (.ref f7) = true)
    (l7 : K.lookup f7 = some ⟨oc7, od7, .func (PySem.W.fnOf "put_bound" "Table.put_bound" (defArgs s_Table_put_bound) (defBody s_Table_put_bound) (defScope s_Table_put_bound) .none kV7 dc7 pm7 an7 cd7 ct7), sl7⟩) (c7 : PySem.W.codeIn K cd7 "Table.put_bound" = true) (k7 : PySem.W.keepIn K (.ref f7) = true)
    (a8 : PySem.W.nsIn K mainGlobals "table_of" = some (some (.ref f8)))
    (l8 : K.lookup f8 = some ⟨oc8, od8, .func (PySem.W.fnOf "table_of" "table_of" (defArgs s_table_of) (defBody s_table_of) (defScope s_table_of) .none kV8 dc8 pm8 an8 cd8 ct8), sl8⟩) (c8 : PySem.W.codeIn K cd8 "table_of" = true) (k8 : PySem.W.keepIn K (.ref f8) = true)
    (a9 : PySem.W.findIn K (.ref CT) "possible" = some (some (.ref pp9))) (g9 : PySem.W.specialIn K (.ref pp9) "__get__" = some (some (.builtin "property.__get__"))) (t9 : PySem.W.takesIn K (.ref pp9) = some true) (r9 : PySem.W.recIn K pp9 "property" = some (.ref f9 :: rs9))
    (l9 : K.lookup f9 = some ⟨oc9, od9, .func (PySem.W.fnOf "possible" "Table.possible" (defArgs s_Table_possible) (defBody s_Table_possible) (defScope s_Table_possible) .none kV9 dc9 pm9 an9 cd9 ct9), sl9⟩) (c9 : PySem.W.codeIn K cd9 "Table.possible" = true) (k9 : PySem.W.keepIn K (.ref f9) = true)
    (a10 : PySem.W.findIn K (.ref CT) "keep_points" = some (some (.ref f10))) (i10 : PySem.W.isFn K (.ref f10) = true)
    (l10 : K.lookup f10 = some ⟨oc10, od10, .func (PySem.W.fnOf "keep_points" "Table.keep_points" (defArgs s_Table_keep_points) (defBody s_Table_keep_points) (defScope s_Table_keep_points) .none kV10 dc10 pm10 an10 cd10 ct10), sl10⟩) (c10 : PySem.W.codeIn K cd10 "Table.keep_points" = true) (k10 : PySem.W.keepIn K (.ref f10) = true)
    (a11 : PySem.W.nsIn K mainGlobals "possible_tables" = some (some (.ref f11)))
    (l11 : K.lookup f11 = some ⟨oc11, od11, .func (PySem.W.fnOf "possible_tables" "possible_tables" (defArgs s_possible_tables) (defBody s_possible_tables) (defScope s_possible_tables) .none kV11 dc11 pm11 an11 cd11 ct11), sl11⟩) (c11 : PySem.W.codeIn K cd11 "possible_tables" = true) (k11 : PySem.W.keepIn K (.ref f11) = true)
    (a12 : PySem.W.nsIn K mainGlobals "event_points" = some (some (.ref f12)))
    (l12 : K.lookup f12 = some ⟨oc12, od12, .func (PySem.W.fnOf "event_points" "event_points" (defArgs s_event_points) (defBody s_event_points) (defScope s_event_points) .none kV12 dc12 pm12 an12 cd12 ct12), sl12⟩) (c12 : PySem.W.codeIn K cd12 "event_points" = true) (k12 : PySem.W.keepIn K (.ref f12) = true)
    (a13 : PySem.W.findIn K (.ref CT) "distance" = some (some (.ref f13))) (i13 : PySem.W.isFn K (.ref f13) = true)
    (l13 : K.lookup f13 = some ⟨oc13, od13, .func (PySem.W.fnOf "distance" "Table.distance" (defArgs s_Table_distance) (defBody s_Table_distance) (defScope s_Table_distance) .none kV13 dc13 pm13 an13 cd13 ct13), sl13⟩) (c13 : PySem.W.codeIn K cd13 "Table.distance" = true) (k13 : PySem.W.keepIn K (.ref f13) = true)
    (a14 : PySem.W.nsIn K mainGlobals "says_more" = some (some (.ref f14)))
    (l14 : K.lookup f14 = some ⟨oc14, od14, .func (PySem.W.fnOf "says_more" "says_more" (defArgs s_says_more) (defBody s_says_more) (defScope s_says_more) .none kV14 dc14 pm14 an14 cd14 ct14), sl14⟩) (c14 : PySem.W.codeIn K cd14 "says_more" = true) (k14 : PySem.W.keepIn K (.ref f14) = true)
    (a15 : PySem.W.findIn K (.ref CT) "points" = some (some (.ref pp15))) (g15 : PySem.W.specialIn K (.ref pp15) "__get__" = some (some (.builtin "property.__get__"))) (t15 : PySem.W.takesIn K (.ref pp15) = some true) (r15 : PySem.W.recIn K pp15 "property" = some (.ref f15 :: rs15))
    (l15 : K.lookup f15 = some ⟨oc15, od15, .func (PySem.W.fnOf "points" "Table.points" (defArgs s_Table_points) (defBody s_Table_points) (defScope s_Table_points) .none kV15 dc15 pm15 an15 cd15 ct15), sl15⟩) (c15 : PySem.W.codeIn K cd15 "Table.points" = true) (k15 : PySem.W.keepIn K (.ref f15) = true)
    (a16 : PySem.W.nsIn K mainGlobals "adds_nothing" = some (some (.ref f16)))
    (l16 : K.lookup f16 = some ⟨oc16, od16, .func (PySem.W.fnOf "adds_nothing" "adds_nothing" (defArgs s_adds_nothing) (defBody s_adds_nothing) (defScope s_adds_nothing) .none kV16 dc16 pm16 an16 cd16 ct16), sl16⟩) (c16 : PySem.W.codeIn K cd16 "adds_nothing" = true) (k16 : PySem.W.keepIn K (.ref f16) = true)
    (a17 : PySem.W.nsIn K mainGlobals "is_surely_right" = some (some (.ref f17)))
    (l17 : K.lookup f17 = some ⟨oc17, od17, .func (PySem.W.fnOf "is_surely_right" "is_surely_right" (defArgs s_is_surely_right) (defBody s_is_surely_right) (defScope s_is_surely_right) .none kV17 dc17 pm17 an17 cd17 ct17), sl17⟩) (c17 : PySem.W.codeIn K cd17 "is_surely_right" = true) (k17 : PySem.W.keepIn K (.ref f17) = true)
    (a18 : PySem.W.nsIn K mainGlobals "guilt_of" = some (some (.ref f18)))
    (l18 : K.lookup f18 = some ⟨oc18, od18, .func (PySem.W.fnOf "guilt_of" "guilt_of" (defArgs s_guilt_of) (defBody s_guilt_of) (defScope s_guilt_of) .none kV18 dc18 pm18 an18 cd18 ct18), sl18⟩) (c18 : PySem.W.codeIn K cd18 "guilt_of" = true) (k18 : PySem.W.keepIn K (.ref f18) = true)
    (a19 : PySem.W.nsIn K mainGlobals "_law_draws" = some (some (.ref f19)))
    (l19 : K.lookup f19 = some ⟨oc19, od19, .func (PySem.W.fnOf "_law_draws" "_law_draws" (defArgs s__law_draws) (defBody s__law_draws) (defScope s__law_draws) .none kV19 dc19 pm19 an19 cd19 ct19), sl19⟩) (c19 : PySem.W.codeIn K cd19 "_law_draws" = true) (k19 : PySem.W.keepIn K (.ref f19) = true)
    (a20 : PySem.W.nsIn K mainGlobals "_law_take" = some (some (.ref f20)))
    (l20 : K.lookup f20 = some ⟨oc20, od20, .func (PySem.W.fnOf "_law_take" "_law_take" (defArgs s__law_take) (defBody s__law_take) (defScope s__law_take) .none kV20 dc20 pm20 an20 cd20 ct20), sl20⟩) (c20 : PySem.W.codeIn K cd20 "_law_take" = true) (k20 : PySem.W.keepIn K (.ref f20) = true)
    (a21 : PySem.W.nsIn K mainGlobals "_law_points" = some (some (.ref f21)))
    (l21 : K.lookup f21 = some ⟨oc21, od21, .func (PySem.W.fnOf "_law_points" "_law_points" (defArgs s__law_points) (defBody s__law_points) (defScope s__law_points) .none kV21 dc21 pm21 an21 cd21 ct21), sl21⟩) (c21 : PySem.W.codeIn K cd21 "_law_points" = true) (k21 : PySem.W.keepIn K (.ref f21) = true)
    (a22 : PySem.W.nsIn K mainGlobals "_law_amount" = some (some (.ref f22)))
    (l22 : K.lookup f22 = some ⟨oc22, od22, .func (PySem.W.fnOf "_law_amount" "_law_amount" (defArgs s__law_amount) (defBody s__law_amount) (defScope s__law_amount) .none kV22 dc22 pm22 an22 cd22 ct22), sl22⟩) (c22 : PySem.W.codeIn K cd22 "_law_amount" = true) (k22 : PySem.W.keepIn K (.ref f22) = true)
    (a23 : PySem.W.nsIn K mainGlobals "_law_bound" = some (some (.ref f23)))
    (l23 : K.lookup f23 = some ⟨oc23, od23, .func (PySem.W.fnOf "_law_bound" "_law_bound" (defArgs s__law_bound) (defBody s__law_bound) (defScope s__law_bound) .none kV23 dc23 pm23 an23 cd23 ct23), sl23⟩) (c23 : PySem.W.codeIn K cd23 "_law_bound" = true) (k23 : PySem.W.keepIn K (.ref f23) = true)
    (a24 : PySem.W.nsIn K mainGlobals "_law_ring" = some (some (.ref f24)))
    (l24 : K.lookup f24 = some ⟨oc24, od24, .func (PySem.W.fnOf "_law_ring" "_law_ring" (defArgs s__law_ring) (defBody s__law_ring) (defScope s__law_ring) .none kV24 dc24 pm24 an24 cd24 ct24), sl24⟩) (c24 : PySem.W.codeIn K cd24 "_law_ring" = true) (k24 : PySem.W.keepIn K (.ref f24) = true)
    (a25 : PySem.W.nsIn K mainGlobals "_law_arcs_of" = some (some (.ref f25)))
    (l25 : K.lookup f25 = some ⟨oc25, od25, .func (PySem.W.fnOf "_law_arcs_of" "_law_arcs_of" (defArgs s__law_arcs_of) (defBody s__law_arcs_of) (defScope s__law_arcs_of) .none kV25 dc25 pm25 an25 cd25 ct25), sl25⟩) (c25 : PySem.W.codeIn K cd25 "_law_arcs_of" = true) (k25 : PySem.W.keepIn K (.ref f25) = true)
    (a26 : PySem.W.nsIn K mainGlobals "_law_choices" = some (some (.ref f26)))
    (l26 : K.lookup f26 = some ⟨oc26, od26, .func (PySem.W.fnOf "_law_choices" "_law_choices" (defArgs s__law_choices) (defBody s__law_choices) (defScope s__law_choices) .none kV26 dc26 pm26 an26 cd26 ct26), sl26⟩) (c26 : PySem.W.codeIn K cd26 "_law_choices" = true) (k26 : PySem.W.keepIn K (.ref f26) = true)
    (a27 : PySem.W.nsIn K mainGlobals "_law_least" = some (some (.ref f27)))
    (l27 : K.lookup f27 = some ⟨oc27, od27, .func (PySem.W.fnOf "_law_least" "_law_least" (defArgs s__law_least) (defBody s__law_least) (defScope s__law_least) .none kV27 dc27 pm27 an27 cd27 ct27), sl27⟩) (c27 : PySem.W.codeIn K cd27 "_law_least" = true) (k27 : PySem.W.keepIn K (.ref f27) = true)
    (a28 : PySem.W.nsIn K mainGlobals "_law_follows" = some (some (.ref f28)))
    (l28 : K.lookup f28 = some ⟨oc28, od28, .func (PySem.W.fnOf "_law_follows" "_law_follows" (defArgs s__law_follows) (defBody s__law_follows) (defScope s__law_follows) .none kV28 dc28 pm28 an28 cd28 ct28), sl28⟩) (c28 : PySem.W.codeIn K cd28 "_law_follows" = true) (k28 : PySem.W.keepIn K (.ref f28) = true)
    (a29 : PySem.W.nsIn K mainGlobals "_law_guilt" = some (some (.ref f29)))
    (l29 : K.lookup f29 = some ⟨oc29, od29, .func (PySem.W.fnOf "_law_guilt" "_law_guilt" (defArgs s__law_guilt) (defBody s__law_guilt) (defScope s__law_guilt) .none kV29 dc29 pm29 an29 cd29 ct29), sl29⟩) (c29 : PySem.W.codeIn K cd29 "_law_guilt" = true) (k29 : PySem.W.keepIn K (.ref f29) = true)
    (a30 : PySem.W.nsIn K mainGlobals "_law_whole" = some (some (.ref f30)))
    (l30 : K.lookup f30 = some ⟨oc30, od30, .func (PySem.W.fnOf "_law_whole" "_law_whole" (defArgs s__law_whole) (defBody s__law_whole) (defScope s__law_whole) .none kV30 dc30 pm30 an30 cd30 ct30), sl30⟩) (c30 : PySem.W.codeIn K cd30 "_law_whole" = true) (k30 : PySem.W.keepIn K (.ref f30) = true)
    (a31 : PySem.W.nsIn K mainGlobals "_law_guilt_right" = some (some (.ref f31)))
    (l31 : K.lookup f31 = some ⟨oc31, od31, .func (PySem.W.fnOf "_law_guilt_right" "_law_guilt_right" (defArgs s__law_guilt_right) (defBody s__law_guilt_right) (defScope s__law_guilt_right) .none kV31 dc31 pm31 an31 cd31 ct31), sl31⟩) (c31 : PySem.W.codeIn K cd31 "_law_guilt_right" = true) (k31 : PySem.W.keepIn K (.ref f31) = true)
    (a32 : PySem.W.nsIn K mainGlobals "law" = some (some (.ref f32)))
    (l32 : K.lookup f32 = some ⟨oc32, od32, .func (PySem.W.fnOf "law" "law" (defArgs s_law) (defBody s_law) (defScope s_law) .none kV32 dc32 pm32 an32 cd32 ct32), sl32⟩) (c32 : PySem.W.codeIn K cd32 "law" = true) (k32 : PySem.W.keepIn K (.ref f32) = true)
    (z_len : PySem.W.nsIn K mainGlobals "len" = some none)
    (z_str : PySem.W.nsIn K mainGlobals "str" = some none)
    (z_int : PySem.W.nsIn K mainGlobals "int" = some none)
    (z_range : PySem.W.nsIn K mainGlobals "range" = some none)
    (z_tuple : PySem.W.nsIn K mainGlobals "tuple" = some none)
    (z_list : PySem.W.nsIn K mainGlobals "list" = some none)
    (z_isinstance : PySem.W.nsIn K mainGlobals "isinstance" = some none)
    (z_bool : PySem.W.nsIn K mainGlobals "bool" = some none)
    (z_all : PySem.W.nsIn K mainGlobals "all" = some none)
    (z_min : PySem.W.nsIn K mainGlobals "min" = some none)
    (z_sum : PySem.W.nsIn K mainGlobals "sum" = some none)
    (z_enumerate : PySem.W.nsIn K mainGlobals "enumerate" = some none)
    (z_set : PySem.W.nsIn K mainGlobals "set" = some none)
    (z_sorted : PySem.W.nsIn K mainGlobals "sorted" = some none)
    (z_max : PySem.W.nsIn K mainGlobals "max" = some none)
    (z_zip : PySem.W.nsIn K mainGlobals "zip" = some none)
    (z_any : PySem.W.nsIn K mainGlobals "any" = some none)
    (z_NO_CLOCK : PySem.W.nsIn K mainGlobals "NO_CLOCK" = some (some (.int (-1) t_NO_CLOCK)))
    (z_combinations : PySem.W.nsIn K mainGlobals "combinations" = some (some (.type "itertools.combinations"))) :
    ∃ fd : FuncData, (∀ (s : Shared) (v : Value), BindsTo s fd ⟨[v], []⟩ [("script", v)]) ∧ ∀ base : Heap, K.In base → base.Ns mainGlobals mg → FnOk l.prog w K mg base CX0 7 fa fd ["script"] (sp_law K) := by
  have e := hfa.symm.trans (PySem.W.mg_of X G a32)
  cases e
  have TTb : Ck_Table K mg CT := ⟨⟨pg_Table, hd_Table, po_Table, sa_Table⟩, PySem.W.mg_of X G aC_Table, n_Table__places, n_Table__rows, n_Table__possible⟩
  have F0 := fun_mk (st := s_all_choices) l0 c0 k0
  have D_all_choices : Df K mg "all_choices" s_all_choices ["parts", "faults"] _ _ := ⟨F0, F0.binds (ps := ["parts", "faults"]) fun _ _ _ _ _ _ us hl => match us, hl with | [_, _], _ => rfl, PySem.W.mg_of X G a0⟩
  have F1 := fun_mk (st := s_bounds_left) l1 c1 k1
  have D_bounds_left : Df K mg "bounds_left" s_bounds_left ["bounds", "choice"] _ _ := ⟨F1, F1.binds (ps := ["bounds", "choice"]) fun _ _ _ _ _ _ us hl => match us, hl with | [_, _], _ => rfl, PySem.W.mg_of X G a1⟩
  have F2 := fun_mk (st := s_points_named) l2 c2 k2
  have D_points_named : Df K mg "points_named" s_points_named ["bounds", "points"] _ _ := ⟨F2, F2.binds (ps := ["bounds", "points"]) fun _ _ _ _ _ _ us hl => match us, hl with | [_, _], _ => rfl, PySem.W.mg_of X G a2⟩
  have F3 := fun_mk (st := s_Table___init__) l3 c3 k3
  have M_Table___init__ : Mt K CT "__init__" "Table.__init__" s_Table___init__ ["self"] _ _ := ⟨F3, F3.binds (ps := ["self"]) fun _ _ _ _ _ _ us hl => match us, hl with | [_], _ => rfl, ⟨a3, i3, k3⟩⟩
  have MTb : Mk K CT _ := ⟨mk_Table, a3, i3, kc_Table⟩
  have F4 := fun_mk (st := s_Table_add_point) l4 c4 k4
  have M_Table_add_point : Mt K CT "add_point" "Table.add_point" s_Table_add_point ["self", "point"] _ _ := ⟨F4, F4.binds (ps := ["self", "point"]) fun _ _ _ _ _ _ us hl => match us, hl with | [_, _], _ => rfl, ⟨a4, i4, k4⟩⟩
  have F5 := fun_mk (st := s_is_nearer) l5 c5 k5
  have D_is_nearer : Df K mg "is_nearer" s_is_nearer ["amount", "distance"] _ _ := ⟨F5, F5.binds (ps := ["amount", "distance"]) fun _ _ _ _ _ _ us hl => match us, hl with | [_, _], _ => rfl, PySem.W.mg_of X G a5⟩
  have F6 := fun_mk (st := s_Table__shorten) l6 c6 k6
  have M_Table__shorten : Mt K CT "_shorten" "Table._shorten" s_Table__shorten ["self", "start", "end", "amount"] _ _ := ⟨F6, F6.binds (ps := ["self", "start", "end", "amount"]) fun _ _ _ _ _ _ us hl => match us, hl with | [_, _, _, _], _ => rfl, ⟨a6, i6, k6⟩⟩
  have F7 := fun_mk (st := s_Table_put_bound) l7 c7 k7
  have M_Table_put_bound : Mt K CT "put_bound" "Table.put_bound" s_Table_put_bound ["self", "first", "second", "amount"] _ _ := ⟨F7, F7.binds (ps := ["self", "first", "second", "amount"]) fun _ _ _ _ _ _ us hl => match us, hl with | [_, _, _, _], _ => rfl, ⟨a7, i7, k7⟩⟩
  have F8 := fun_mk (st := s_table_of) l8 c8 k8
  have D_table_of : Df K mg "table_of" s_table_of ["bounds", "points"] _ _ := ⟨F8, F8.binds (ps := ["bounds", "points"]) fun _ _ _ _ _ _ us hl => match us, hl with | [_, _], _ => rfl, PySem.W.mg_of X G a8⟩
  have F9 := fun_mk (st := s_Table_possible) l9 c9 k9
  have M_Table_possible : Pr K CT "possible" "Table.possible" s_Table_possible ["self"] _ _ := ⟨F9, F9.binds (ps := ["self"]) fun _ _ _ _ _ _ us hl => match us, hl with | [_], _ => rfl, ⟨_, a9, g9, t9, ⟨_, r9⟩⟩⟩
  have F10 := fun_mk (st := s_Table_keep_points) l10 c10 k10
  have M_Table_keep_points : Mt K CT "keep_points" "Table.keep_points" s_Table_keep_points ["self", "points"] _ _ := ⟨F10, F10.binds (ps := ["self", "points"]) fun _ _ _ _ _ _ us hl => match us, hl with | [_, _], _ => rfl, ⟨a10, i10, k10⟩⟩
  have F11 := fun_mk (st := s_possible_tables) l11 c11 k11
  have D_possible_tables : Df K mg "possible_tables" s_possible_tables ["bounds", "choices", "points"] _ _ := ⟨F11, F11.binds (ps := ["bounds", "choices", "points"]) fun _ _ _ _ _ _ us hl => match us, hl with | [_, _, _], _ => rfl, PySem.W.mg_of X G a11⟩
  have F12 := fun_mk (st := s_event_points) l12 c12 k12
  have D_event_points : Df K mg "event_points" s_event_points ["points"] _ _ := ⟨F12, F12.binds (ps := ["points"]) fun _ _ _ _ _ _ us hl => match us, hl with | [_], _ => rfl, PySem.W.mg_of X G a12⟩
  have F13 := fun_mk (st := s_Table_distance) l13 c13 k13
  have M_Table_distance : Mt K CT "distance" "Table.distance" s_Table_distance ["self", "first", "second"] _ _ := ⟨F13, F13.binds (ps := ["self", "first", "second"]) fun _ _ _ _ _ _ us hl => match us, hl with | [_, _, _], _ => rfl, ⟨a13, i13, k13⟩⟩
  have F14 := fun_mk (st := s_says_more) l14 c14 k14
  have D_says_more : Df K mg "says_more" s_says_more ["own", "other", "first", "second"] _ _ := ⟨F14, F14.binds (ps := ["own", "other", "first", "second"]) fun _ _ _ _ _ _ us hl => match us, hl with | [_, _, _, _], _ => rfl, PySem.W.mg_of X G a14⟩
  have F15 := fun_mk (st := s_Table_points) l15 c15 k15
  have M_Table_points : Pr K CT "points" "Table.points" s_Table_points ["self"] _ _ := ⟨F15, F15.binds (ps := ["self"]) fun _ _ _ _ _ _ us hl => match us, hl with | [_], _ => rfl, ⟨_, a15, g15, t15, ⟨_, r15⟩⟩⟩
  have F16 := fun_mk (st := s_adds_nothing) l16 c16 k16
  have D_adds_nothing : Df K mg "adds_nothing" s_adds_nothing ["own", "other"] _ _ := ⟨F16, F16.binds (ps := ["own", "other"]) fun _ _ _ _ _ _ us hl => match us, hl with | [_, _], _ => rfl, PySem.W.mg_of X G a16⟩
  have F17 := fun_mk (st := s_is_surely_right) l17 c17 k17
  have D_is_surely_right : Df K mg "is_surely_right" s_is_surely_right ["part", "bounds", "tables"] _ _ := ⟨F17, F17.binds (ps := ["part", "bounds", "tables"]) fun _ _ _ _ _ _ us hl => match us, hl with | [_, _, _], _ => rfl, PySem.W.mg_of X G a17⟩
  have F18 := fun_mk (st := s_guilt_of) l18 c18 k18
  have D_guilt_of : Df K mg "guilt_of" s_guilt_of ["bounds", "parts", "faults"] _ _ := ⟨F18, F18.binds (ps := ["bounds", "parts", "faults"]) fun _ _ _ _ _ _ us hl => match us, hl with | [_, _, _], _ => rfl, PySem.W.mg_of X G a18⟩
  have F19 := fun_mk (st := s__law_draws) l19 c19 k19
  have D__law_draws : Df K mg "_law_draws" s__law_draws ["script", "count"] _ _ := ⟨F19, F19.binds (ps := ["script", "count"]) fun _ _ _ _ _ _ us hl => match us, hl with | [_, _], _ => rfl, PySem.W.mg_of X G a19⟩
  have F20 := fun_mk (st := s__law_take) l20 c20 k20
  have D__law_take : Df K mg "_law_take" s__law_take ["rows", "at", "many"] _ _ := ⟨F20, F20.binds (ps := ["rows", "at", "many"]) fun _ _ _ _ _ _ us hl => match us, hl with | [_, _, _], _ => rfl, PySem.W.mg_of X G a20⟩
  have F21 := fun_mk (st := s__law_points) l21 c21 k21
  have D__law_points : Df K mg "_law_points" s__law_points [] _ _ := ⟨F21, F21.binds (ps := []) fun _ _ _ _ _ _ us hl => match us, hl with | [], _ => rfl, PySem.W.mg_of X G a21⟩
  have F22 := fun_mk (st := s__law_amount) l22 c22 k22
  have D__law_amount : Df K mg "_law_amount" s__law_amount ["rows", "at"] _ _ := ⟨F22, F22.binds (ps := ["rows", "at"]) fun _ _ _ _ _ _ us hl => match us, hl with | [_, _], _ => rfl, PySem.W.mg_of X G a22⟩
  have F23 := fun_mk (st := s__law_bound) l23 c23 k23
  have D__law_bound : Df K mg "_law_bound" s__law_bound ["rows", "at", "points", "parts"] _ _ := ⟨F23, F23.binds (ps := ["rows", "at", "points", "parts"]) fun _ _ _ _ _ _ us hl => match us, hl with | [_, _, _, _], _ => rfl, PySem.W.mg_of X G a23⟩
  have F24 := fun_mk (st := s__law_ring) l24 c24 k24
  have D__law_ring : Df K mg "_law_ring" s__law_ring ["arcs", "many"] _ _ := ⟨F24, F24.binds (ps := ["arcs", "many"]) fun _ _ _ _ _ _ us hl => match us, hl with | [_, _], _ => rfl, PySem.W.mg_of X G a24⟩
  have F25 := fun_mk (st := s__law_arcs_of) l25 c25 k25
  have D__law_arcs_of : Df K mg "_law_arcs_of" s__law_arcs_of ["bounds", "points"] _ _ := ⟨F25, F25.binds (ps := ["bounds", "points"]) fun _ _ _ _ _ _ us hl => match us, hl with | [_, _], _ => rfl, PySem.W.mg_of X G a25⟩
  have F26 := fun_mk (st := s__law_choices) l26 c26 k26
  have D__law_choices : Df K mg "_law_choices" s__law_choices ["parts", "faults"] _ _ := ⟨F26, F26.binds (ps := ["parts", "faults"]) fun _ _ _ _ _ _ us hl => match us, hl with | [_, _], _ => rfl, PySem.W.mg_of X G a26⟩
  have F27 := fun_mk (st := s__law_least) l27 c27 k27
  have D__law_least : Df K mg "_law_least" s__law_least ["arcs", "many", "start"] _ _ := ⟨F27, F27.binds (ps := ["arcs", "many", "start"]) fun _ _ _ _ _ _ us hl => match us, hl with | [_, _, _], _ => rfl, PySem.W.mg_of X G a27⟩
  have F28 := fun_mk (st := s__law_follows) l28 c28 k28
  have D__law_follows : Df K mg "_law_follows" s__law_follows ["own", "others"] _ _ := ⟨F28, F28.binds (ps := ["own", "others"]) fun _ _ _ _ _ _ us hl => match us, hl with | [_, _], _ => rfl, PySem.W.mg_of X G a28⟩
  have F29 := fun_mk (st := s__law_guilt) l29 c29 k29
  have D__law_guilt : Df K mg "_law_guilt" s__law_guilt ["bounds", "parts", "faults"] _ _ := ⟨F29, F29.binds (ps := ["bounds", "parts", "faults"]) fun _ _ _ _ _ _ us hl => match us, hl with | [_, _, _], _ => rfl, PySem.W.mg_of X G a29⟩
  have F30 := fun_mk (st := s__law_whole) l30 c30 k30
  have D__law_whole : Df K mg "_law_whole" s__law_whole ["told"] _ _ := ⟨F30, F30.binds (ps := ["told"]) fun _ _ _ _ _ _ us hl => match us, hl with | [_], _ => rfl, PySem.W.mg_of X G a30⟩
  have F31 := fun_mk (st := s__law_guilt_right) l31 c31 k31
  have D__law_guilt_right : Df K mg "_law_guilt_right" s__law_guilt_right ["told", "due"] _ _ := ⟨F31, F31.binds (ps := ["told", "due"]) fun _ _ _ _ _ _ us hl => match us, hl with | [_, _], _ => rfl, PySem.W.mg_of X G a31⟩
  have F32 := fun_mk (st := s_law) l32 c32 k32
  have D_law : Df K mg "law" s_law ["script"] _ _ := ⟨F32, F32.binds (ps := ["script"]) fun _ _ _ _ _ _ us hl => match us, hl with | [_], _ => rfl, PySem.W.mg_of X G a32⟩
  have g_NO_CLOCK := PySem.W.mg_of X G z_NO_CLOCK
  have g_combinations := PySem.W.mg_of X G z_combinations
  have T : Txt K mg := ⟨PySem.W.mg_none_of X G z_len, PySem.W.mg_none_of X G z_str, PySem.W.mg_none_of X G z_int, PySem.W.mg_none_of X G z_range, PySem.W.mg_none_of X G z_tuple, PySem.W.mg_none_of X G z_list, PySem.W.mg_none_of X G z_isinstance, PySem.W.mg_none_of X G z_bool, PySem.W.mg_none_of X G z_all, PySem.W.mg_none_of X G z_min, PySem.W.mg_none_of X G z_sum, PySem.W.mg_none_of X G z_enumerate, PySem.W.mg_none_of X G z_set, PySem.W.mg_none_of X G z_sorted, PySem.W.mg_none_of X G z_max, PySem.W.mg_none_of X G z_zip, PySem.W.mg_none_of X G z_any⟩
  refine ⟨PySem.W.fnOf "law" "law" (defArgs s_law) (defBody s_law) (defScope s_law) .none kV32 dc32 pm32 an32 cd32 ct32, fun s v => .of_eq rfl, fun base _ _ => ?_⟩
  have G_all_choices : FnOk l.prog w K mg base CX0 1 _ _ ["parts", "faults"] (sp_all_choices K) := ok_all_choices D_all_choices T g_combinations 
  have G_bounds_left : FnOk l.prog w K mg base CX0 1 _ _ ["bounds", "choice"] (sp_bounds_left K) := ok_bounds_left D_bounds_left T  
  have G_points_named : FnOk l.prog w K mg base CX0 1 _ _ ["bounds", "points"] (sp_points_named K) := ok_points_named D_points_named T  
  have G_Table___init__ : FnOk l.prog w K mg base CX0 1 _ _ ["self"] (sp_Table___init__ K CT) := ok_Table___init__ TTb M_Table___init__ T  
  have G_Table_add_point : FnOk l.prog w K mg base CX0 1 _ _ ["self", "point"] (sp_Table_add_point K CT) := ok_Table_add_point TTb M_Table_add_point T  
  have G_is_nearer : FnOk l.prog w K mg base CX0 1 _ _ ["amount", "distance"] (sp_is_nearer K) := ok_is_nearer D_is_nearer T  
  have G_Table__shorten : FnOk l.prog w K mg base CX0 2 _ _ ["self", "start", "end", "amount"] (sp_Table__shorten K CT) := ok_Table__shorten TTb M_Table__shorten T  D_is_nearer G_is_nearer
  have G_Table_put_bound : FnOk l.prog w K mg base CX0 3 _ _ ["self", "first", "second", "amount"] (sp_Table_put_bound K CT) := ok_Table_put_bound TTb M_Table_put_bound T  D_is_nearer G_is_nearer M_Table__shorten G_Table__shorten
  have G_table_of : FnOk l.prog w K mg base CX0 4 _ _ ["bounds", "points"] (sp_table_of K CT) := ok_table_of TTb MTb D_table_of T  D_points_named G_points_named M_Table___init__ G_Table___init__ M_Table_add_point G_Table_add_point M_Table_put_bound G_Table_put_bound
  have G_Table_possible : FnOk l.prog w K mg base CX0 1 _ _ ["self"] (sp_Table_possible K CT) := ok_Table_possible TTb M_Table_possible T  
  have G_Table_keep_points : FnOk l.prog w K mg base CX0 1 _ _ ["self", "points"] (sp_Table_keep_points K CT) := ok_Table_keep_points TTb M_Table_keep_points T  
  have G_possible_tables : FnOk l.prog w K mg base CX0 5 _ _ ["bounds", "choices", "points"] (sp_possible_tables K CT) := ok_possible_tables TTb D_possible_tables T  D_bounds_left G_bounds_left D_table_of G_table_of M_Table_possible G_Table_possible M_Table_keep_points G_Table_keep_points
  have G_event_points : FnOk l.prog w K mg base CX0 1 _ _ ["points"] (sp_event_points K) := ok_event_points D_event_points T g_NO_CLOCK 
  have G_Table_distance : FnOk l.prog w K mg base CX0 1 _ _ ["self", "first", "second"] (sp_Table_distance K CT) := ok_Table_distance TTb M_Table_distance T  
  have G_says_more : FnOk l.prog w K mg base CX0 2 _ _ ["own", "other", "first", "second"] (sp_says_more K CT) := ok_says_more TTb D_says_more T  M_Table_distance G_Table_distance
  have G_Table_points : FnOk l.prog w K mg base CX0 1 _ _ ["self"] (sp_Table_points K CT) := ok_Table_points TTb M_Table_points T  
  have G_adds_nothing : FnOk l.prog w K mg base CX0 3 _ _ ["own", "other"] (sp_adds_nothing K CT) := ok_adds_nothing TTb D_adds_nothing T  D_event_points G_event_points D_says_more G_says_more M_Table_points G_Table_points M_Table_possible G_Table_possible
  have G_is_surely_right : FnOk l.prog w K mg base CX0 5 _ _ ["part", "bounds", "tables"] (sp_is_surely_right K CT) := ok_is_surely_right TTb D_is_surely_right T  D_table_of G_table_of D_adds_nothing G_adds_nothing
  have G_guilt_of : FnOk l.prog w K mg base CX0 6 _ _ ["bounds", "parts", "faults"] (sp_guilt_of K CT) := ok_guilt_of TTb D_guilt_of T  D_all_choices G_all_choices D_possible_tables G_possible_tables D_event_points G_event_points D_is_surely_right G_is_surely_right
  have G__law_draws : FnOk l.prog w K mg base CX0 1 _ _ ["script", "count"] (sp__law_draws K) := ok__law_draws D__law_draws T  
  have G__law_take : FnOk l.prog w K mg base CX0 1 _ _ ["rows", "at", "many"] (sp__law_take K) := ok__law_take D__law_take T  
  have G__law_points : FnOk l.prog w K mg base CX0 1 _ _ [] (sp__law_points K) := ok__law_points D__law_points T  
  have G__law_amount : FnOk l.prog w K mg base CX0 2 _ _ ["rows", "at"] (sp__law_amount K) := ok__law_amount D__law_amount T  D__law_take G__law_take
  have G__law_bound : FnOk l.prog w K mg base CX0 3 _ _ ["rows", "at", "points", "parts"] (sp__law_bound K) := ok__law_bound D__law_bound T  D__law_take G__law_take D__law_amount G__law_amount
  have G__law_ring : FnOk l.prog w K mg base CX0 1 _ _ ["arcs", "many"] (sp__law_ring K) := ok__law_ring D__law_ring T  
  have G__law_arcs_of : FnOk l.prog w K mg base CX0 1 _ _ ["bounds", "points"] (sp__law_arcs_of K) := ok__law_arcs_of D__law_arcs_of T  
  have G__law_choices : FnOk l.prog w K mg base CX0 1 _ _ ["parts", "faults"] (sp__law_choices K) := ok__law_choices D__law_choices T  
  have G__law_least : FnOk l.prog w K mg base CX0 1 _ _ ["arcs", "many", "start"] (sp__law_least K) := ok__law_least D__law_least T  
  have G__law_follows : FnOk l.prog w K mg base CX0 2 _ _ ["own", "others"] (sp__law_follows K) := ok__law_follows D__law_follows T  D__law_points G__law_points D__law_least G__law_least D__law_ring G__law_ring D__law_arcs_of G__law_arcs_of
  have G__law_guilt : FnOk l.prog w K mg base CX0 3 _ _ ["bounds", "parts", "faults"] (sp__law_guilt K) := ok__law_guilt D__law_guilt T  D__law_points G__law_points D__law_ring G__law_ring D__law_arcs_of G__law_arcs_of D__law_choices G__law_choices D__law_follows G__law_follows
  have G__law_whole : FnOk l.prog w K mg base CX0 1 _ _ ["told"] (sp__law_whole K) := ok__law_whole D__law_whole T  
  have G__law_guilt_right : FnOk l.prog w K mg base CX0 2 _ _ ["told", "due"] (sp__law_guilt_right K) := ok__law_guilt_right D__law_guilt_right T  D__law_whole G__law_whole
  have G_law : FnOk l.prog w K mg base CX0 7 _ _ ["script"] (sp_law K) := ok_law TTb D_law T  D_guilt_of G_guilt_of D__law_draws G__law_draws D__law_take G__law_take D__law_points G__law_points D__law_bound G__law_bound D__law_guilt G__law_guilt D__law_guilt_right G__law_guilt_right
  exact G_law
theorem walk {l : PySem.W.OpenLaw} {q : Program} {loose : List Str} {XP : (Str → Option Value) → Heap → Prop} {YP : World → Heap → Prop} {d : DefRec} {K : Params → PySem.W.Frag} (hn : l.most = some 63) (hdf : d.params.defaults = [])
    (hY : ∀ (w : World) (h : Heap), YP w h → (K w.params).In h)
    (F : ∀ (w : World) (mg : Str → Option Value) (fa : Addr) (h : Heap), (K w.params).In h → h.Ns mainGlobals mg → mg d.name = some (.ref fa) →
      ∃ fd : FuncData, (∀ (s : Shared) (u : Value), BindsTo s fd ⟨[u], []⟩ [("script", u)]) ∧ ∀ base : Heap, (K w.params).In base → base.Ns mainGlobals mg → FnOk l.prog w (K w.params) mg base CX0 7 fa fd ["script"] (sp_law (K w.params))) :
    PySem.W.WalkO q loose XP YP l.row.toRowW d [] (fun f vs => PySem.call f vs) :=
  L2.walk_of (n := 63) (k := 7) (x := "script") (CX := fun _ => CX0) (sp := fun w => sp_law (K w.params)) hn (by decide) hdf ⟨rfl, by decide, by decide⟩ hY F (fun _ _ a ns hl _ hS => ⟨a, ns, rfl, hS, hl, fun _ => rfl⟩) fun _ _ _ _ _ z => z
end Vs
open PySem PySem.W PyProof.Rows
set_option maxRecDepth 100000 in
set_option maxHeartbeats 0 in
theorem PySem.Challenge.cw_whensure_k38_guilt_by_its_definition_holds : PySem.Challenge.rw_whensure_k38_guilt_by_its_definition.Holds := by
  w_on; o_law; k_head; (case hw => w_witness2)
  k_fill
  refine Vs.walk (l := PySem.Challenge.rw_whensure_k38_guilt_by_its_definition) rfl rfl (fun w h Y => PySem.W.kIn_of Y) ?F
  case F =>
    intro w mg fa h KX G hmg
    refine' Vs.all_mk KX G hmg ?aC_Table ?pg_Table ?hd_Table ?po_Table ?sa_Table ?mk_Table ?kc_Table ?n_Table__places ?n_Table__rows ?n_Table__possible ?a0 ?l0 ?c0 ?k0 ?a1 ?l1 ?c1 ?k1 ?a2 ?l2 ?c2 ?k2 ?a3 ?i3 ?l3 ?c3 ?k3 ?a4 ?i4 ?l4 ?c4 ?k4 ?a5 ?l5 ?c5 ?k5 ?a6 ?i6 ?l6 ?c6 ?k6 ?a7 ?i7 ?l7 ?c7 ?k7 ?a8 ?l8 ?c8 ?k8 ?a9 ?g9 ?t9 ?r9 ?l9 ?c9 ?k9 ?a10 ?i10 ?l10 ?c10 ?k10 ?a11 ?l11 ?c11 ?k11 ?a12 ?l12 ?c12 ?k12 ?a13 ?i13 ?l13 ?c13 ?k13 ?a14 ?l14 ?c14 ?k14 ?a15 ?g15 ?t15 ?r15 ?l15 ?c15 ?k15 ?a16 ?l16 ?c16 ?k16 ?a17 ?l17 ?c17 ?k17 ?a18 ?l18 ?c18 ?k18 ?a19 ?l19 ?c19 ?k19 ?a20 ?l20 ?c20 ?k20 ?a21 ?l21 ?c21 ?k21 ?a22 ?l22 ?c22 ?k22 ?a23 ?l23 ?c23 ?k23 ?a24 ?l24 ?c24 ?k24 ?a25 ?l25 ?c25 ?k25 ?a26 ?l26 ?c26 ?k26 ?a27 ?l27 ?c27 ?k27 ?a28 ?l28 ?c28 ?k28 ?a29 ?l29 ?c29 ?k29 ?a30 ?l30 ?c30 ?k30 ?a31 ?l31 ?c31 ?k31 ?a32 ?l32 ?c32 ?k32 ?z_len ?z_str ?z_int ?z_range ?z_tuple ?z_list ?z_isinstance ?z_bool ?z_all ?z_min ?z_sum ?z_enumerate ?z_set ?z_sorted ?z_max ?z_zip ?z_any ?z_NO_CLOCK ?z_combinations
    (case aC_Table => k_is)
    (case pg_Table => k_is)
    (case hd_Table => k_is)
    (case po_Table => k_is)
    (case sa_Table => k_is)
    (case mk_Table => k_is)
    (case kc_Table => k_is)
    (case n_Table__places => k_is)
    (case n_Table__rows => k_is)
    (case n_Table__possible => k_is)
    (case a0 => k_is)
    (case l0 => k_is)
    (case c0 => k_is)
    (case k0 => k_is)
    (case a1 => k_is)
    (case l1 => k_is)
    (case c1 => k_is)
    (case k1 => k_is)
    (case a2 => k_is)
    (case l2 => k_is)
    (case c2 => k_is)
    (case k2 => k_is)
    (case a3 => k_is)
    (case i3 => k_is)
    (case l3 => k_is)
    (case c3 => k_is)
    (case k3 => k_is)
    (case a4 => k_is)
    (case i4 => k_is)
    (case l4 => k_is)
    (case c4 => k_is)
    (case k4 => k_is)
    (case a5 => k_is)
    (case l5 => k_is)
    (case c5 => k_is)
    (case k5 => k_is)
    (case a6 => k_is)
    (case i6 => k_is)
    (case l6 => k_is)
    (case c6 => k_is)
    (case k6 => k_is)
    (case a7 => k_is)
    (case i7 => k_is)
    (case l7 => k_is)
    (case c7 => k_is)
    (case k7 => k_is)
    (case a8 => k_is)
    (case l8 => k_is)
    (case c8 => k_is)
    (case k8 => k_is)
    (case a9 => k_is)
    (case g9 => k_is)
    (case t9 => k_is)
    (case r9 => k_is)
    (case l9 => k_is)
    (case c9 => k_is)
    (case k9 => k_is)
    (case a10 => k_is)
    (case i10 => k_is)
    (case l10 => k_is)
    (case c10 => k_is)
    (case k10 => k_is)
    (case a11 => k_is)
    (case l11 => k_is)
    (case c11 => k_is)
    (case k11 => k_is)
    (case a12 => k_is)
    (case l12 => k_is)
    (case c12 => k_is)
    (case k12 => k_is)
    (case a13 => k_is)
    (case i13 => k_is)
    (case l13 => k_is)
    (case c13 => k_is)
    (case k13 => k_is)
    (case a14 => k_is)
    (case l14 => k_is)
    (case c14 => k_is)
    (case k14 => k_is)
    (case a15 => k_is)
    (case g15 => k_is)
    (case t15 => k_is)
    (case r15 => k_is)
    (case l15 => k_is)
    (case c15 => k_is)
    (case k15 => k_is)
    (case a16 => k_is)
    (case l16 => k_is)
    (case c16 => k_is)
    (case k16 => k_is)
    (case a17 => k_is)
    (case l17 => k_is)
    (case c17 => k_is)
    (case k17 => k_is)
    (case a18 => k_is)
    (case l18 => k_is)
    (case c18 => k_is)
    (case k18 => k_is)
    (case a19 => k_is)
    (case l19 => k_is)
    (case c19 => k_is)
    (case k19 => k_is)
    (case a20 => k_is)
    (case l20 => k_is)
    (case c20 => k_is)
    (case k20 => k_is)
    (case a21 => k_is)
    (case l21 => k_is)
    (case c21 => k_is)
    (case k21 => k_is)
    (case a22 => k_is)
    (case l22 => k_is)
    (case c22 => k_is)
    (case k22 => k_is)
    (case a23 => k_is)
    (case l23 => k_is)
    (case c23 => k_is)
    (case k23 => k_is)
    (case a24 => k_is)
    (case l24 => k_is)
    (case c24 => k_is)
    (case k24 => k_is)
    (case a25 => k_is)
    (case l25 => k_is)
    (case c25 => k_is)
    (case k25 => k_is)
    (case a26 => k_is)
    (case l26 => k_is)
    (case c26 => k_is)
    (case k26 => k_is)
    (case a27 => k_is)
    (case l27 => k_is)
    (case c27 => k_is)
    (case k27 => k_is)
    (case a28 => k_is)
    (case l28 => k_is)
    (case c28 => k_is)
    (case k28 => k_is)
    (case a29 => k_is)
    (case l29 => k_is)
    (case c29 => k_is)
    (case k29 => k_is)
    (case a30 => k_is)
    (case l30 => k_is)
    (case c30 => k_is)
    (case k30 => k_is)
    (case a31 => k_is)
    (case l31 => k_is)
    (case c31 => k_is)
    (case k31 => k_is)
    (case a32 => k_is)
    (case l32 => k_is)
    (case c32 => k_is)
    (case k32 => k_is)
    (case z_len => k_is)
    (case z_str => k_is)
    (case z_int => k_is)
    (case z_range => k_is)
    (case z_tuple => k_is)
    (case z_list => k_is)
    (case z_isinstance => k_is)
    (case z_bool => k_is)
    (case z_all => k_is)
    (case z_min => k_is)
    (case z_sum => k_is)
    (case z_enumerate => k_is)
    (case z_set => k_is)
    (case z_sorted => k_is)
    (case z_max => k_is)
    (case z_zip => k_is)
    (case z_any => k_is)
    (case z_NO_CLOCK => k_is)
    (case z_combinations => k_is)
#print axioms PySem.Challenge.cw_whensure_k38_guilt_by_its_definition_holds
