import PyProof.Rows.All
import Wide.All
import OpenK.AllK
import Wide.FinOn
import HandS.ForMost
import HandS.Strs
import HandS.IsInst
import HandS.StrMore
import HandS.NoneIn
import KE.DataEq
import HandS.TupAny
import HandS.Codes
import HandS.Wide
import HandS.FStr
import HandS.Deep
import PySem.Challenge.RW_whensure_k32_bounds_that_are_left
set_option Elab.async false
set_option linter.all false
set_option maxRecDepth 100000
namespace Vs
open PySem PySem.Spec PyProof.Rows L2

theorem posJ {j : Int} (h : decide (0 < j) = true) : 0 < j := of_decide_eq_true h
/-! ### heaps -/
theorem same_upd {H : Hp} {p : Addr} {o : HO} (h : H p = none) : Same H (upd H p o) := fun b x e => by
  rw [upd_ne (ne_of_none e h)]
  exact e
theorem sTup {K : PySem.W.Frag} {H H' : Hp} {a : Addr} {xs : List V} (e : Same H H') (h : SqT K H a xs) : SqT K H' a xs := by
  rcases h with (h | ⟨o, h⟩) | h
  · exact .inl (.inl (e _ _ h))
  · exact .inl (.inr ⟨o, e _ _ h⟩)
  · exact .inr h
/-- all that was tracked is as it was, but for what stands at o -/
def But (o : Addr) (H H' : Hp) : Prop := ∀ b u, b ≠ o → H b = some u → H' b = some u
theorem But.refl (o : Addr) (H : Hp) : But o H H := fun _ _ _ h => h
theorem But.trans {o : Addr} {H H1 H2 : Hp} (a : But o H H1) (b : But o H1 H2) : But o H H2 := fun c u n h => b c u n (a c u n h)
theorem But.of {o : Addr} {H H' : Hp} (a : Same H H') : But o H H' := fun c u _ h => a c u h
theorem But.set {o : Addr} {H : Hp} {u : HO} : But o H (upd H o u) := fun c u' n h => by rw [upd_ne n]; exact h

/-! ### xs.extend(t), t a tuple -/
theorem ext_tup (l : Addr) (items : Array Value) (n : Nat) (b : Addr) (ob : Obj) (items2 : Array Value) (n2 : Nat) (hs0 : ¬(!items.isEmpty && Builtin.List.listTooLong (items.size + items2.size)) = true) (hs1 : items.size ≤ sizeLine) (hs2 : items.size + items2.size ≤ sizeLine + 1) (hcl : ob.cls = .type "tuple") (hda : ob.data = .seq items2 n2) :
    Meets (Builtin.«list.extend» ⟨[.ref l, .ref b], []⟩) (fun _ R s => s.heap.get? l = some { cls := .type "list", dict := none, data := .seq items n, slots := #[] } ∧ s.heap.get? b = some ob ∧ R (.ok (.ret Value.none)) { s with heap := s.heap.update l (Obj.mapSeq fun x => x ++ items2), toks := s.toks }) := by
  obtain ⟨oc, od, oda, osl⟩ := ob
  cases hcl
  cases hda
  refine .of_wp fun prog w A R s h => ?_
  obtain ⟨hp, g, d, tk, os⟩ := s
  obtain ⟨hl, hb, h⟩ := h
  have f1 := AutoSeq1.idx_int; have f2 := AutoSeq1.sub_tuple_tuple; have f3 := AutoSeq1.sub_list_list; have f4 := AutoSeq1.sub_tuple_list; have f5 := AutoSeq1.sub_list_tuple
  have hz' : (items ++ items2).size ≤ sizeLine + 1 := by rw [Array.size_append]; exact hs2
  wp_walk using (wpAny_updateSeq hl rfl (hz := hs1) (_hz' := hz')), AutoSeq1.wpAny_loadPart' hl, AutoSeq1.wpAny_loadPart' hb
  exact ⟨_, rfl, h⟩
def rExtT (K : PySem.W.Frag) : V → List V → Hp → VK → Prop := fun x vs H Q => ∃ l b xs zs, x = .ref l ∧ vs = [.ref b] ∧ H l = some (.lst xs) ∧ SqT K H b zs ∧ xs.length + zs.length ≤ sizeLine ∧ Q .non (upd H l (.lst (xs ++ zs)))
theorem mt_extendT {X : Cx} : MtR X "list.extend" (rExtT X.K) := by
  intro pins s σ H x vs v us Q I rx rv h
  obtain ⟨l, b, xs, zs, rfl, rfl, hH, hB, hz, q⟩ := h
  cases rx
  obtain ⟨u, rfl, ru⟩ := rv.one
  cases ru
  obtain ⟨z, its, n, r, hl, e⟩ := I.lstM hH
  obtain ⟨its2, r2, ⟨ob, e2, hcl, n2, hda⟩, hl2⟩ := I.tuple hB
  have hl3 := r2.length
  have hsz : its.toArray.size + its2.toArray.size ≤ sizeLine := by rw [List.size_toArray, List.size_toArray]; omega
  have hlong : ¬ (!its.toArray.isEmpty && Builtin.List.listTooLong (its.toArray.size + its2.toArray.size)) = true := by
    rw [notLongL hsz, Bool.and_false]
    exact Bool.false_ne_true
  refine call_meets F.slot_list_extend ⟨_, e, rfl⟩ F.entry_list_extend (F.args_list_extend_2 _ _)
    (ext_tup l its.toArray n b ob its2.toArray n2 hlong (by rw [List.size_toArray]; omega) (by omega) hcl hda) ⟨e, e2, ?_⟩
  refine ⟨.non, _, I.lset (its' := its ++ its2) hH e (by simp) (r.append r2) ?_, rfl, q⟩
  rw [List.length_append]
  omega

/-! ### what a letter, a view holds -/
def deedNames : List Str := ["note", "kind", "mark", "send", "tell", "hear", "promise", "commit", "anew"]
theorem dn_len : deedNames.length = 9 := rfl
theorem dn_nodup : deedNames.Nodup := by decide +kernel
structure Dd where
  place : Nat
  nums : List Int
structure Ev where
  asleep : Bool
  shown : List Int
  after : List Int
  deed : Dd
  knows : List Int
structure Rc where
  dev : Int
  num : Int
  ev : Ev
structure Lt where
  s : Int
  r : Int
  k : Int
  n : Int
  recs : List Rc
def b2n (b : Bool) : Int := if b then 1 else 0
def numSeq (ns : List Int) : List Int := (ns.length : Int) :: ns
def numD (d : Dd) : List Int := (d.place : Int) :: (if d.place = 8 then numSeq d.nums else d.nums)
def numE (e : Ev) : List Int := [b2n e.asleep] ++ numSeq e.shown ++ numSeq e.after ++ numD e.deed ++ numSeq e.knows
def numR (r : Rc) : List Int := [r.dev, r.num] ++ numE r.ev
def numL (l : Lt) : List Int := [l.s, l.r, l.k, l.n, (l.recs.length : Int)] ++ l.recs.flatMap numR
def In18 (n : Int) : Prop := n.natAbs < 10 ^ 18
def Nt18 (n : Int) : Prop := In18 n ∧ 0 ≤ n
def arity (p : Nat) : Nat := [0, 2, 3, 2, 1, 2, 2, 1, 0].getD p 0
/-- which number of a deed may be below 0 -/
def mayNeg (p i : Nat) : Prop := (p = 2 ∧ i = 2) ∨ p = 7
structure Dd.Ok (d : Dd) : Prop where
  pl : d.place < 9
  len : d.nums.length ≤ 4
  ar : d.place ≠ 8 → d.nums.length = arity d.place
  sm : ∀ n ∈ d.nums, In18 n
  nt : ∀ i n, d.nums[i]? = some n → ¬ mayNeg d.place i → 0 ≤ n
structure Ev.Ok (e : Ev) : Prop where
  s1 : e.shown.length ≤ 4
  s2 : e.after.length ≤ 4
  s3 : e.knows.length ≤ 6
  m1 : ∀ n ∈ e.shown, In18 n
  m2 : ∀ n ∈ e.after, In18 n
  m3 : ∀ n ∈ e.knows, Nt18 n
  d : e.deed.Ok
structure Rc.Ok (r : Rc) : Prop where
  d : Nt18 r.dev
  n : Nt18 r.num
  e : r.ev.Ok
structure Lt.Ok (l : Lt) : Prop where
  s : Nt18 l.s
  r : Nt18 l.r
  k : Nt18 l.k
  n : Nt18 l.n
  len : l.recs.length ≤ 20
  rs : ∀ r ∈ l.recs, r.Ok
/-- the tuple of a list of ints -/
def TupI (K : PySem.W.Frag) (H : Hp) (a : Addr) (ns : List Int) : Prop := SqT K H a (ns.map V.int)
def DdAt (K : PySem.W.Frag) (H : Hp) (a : Addr) (d : Dd) : Prop :=
  ∃ z rest, deedNames[d.place]? = some z ∧ SqT K H a (.str z :: rest) ∧ ((d.place = 8 ∧ ∃ b, rest = [.ref b] ∧ TupI K H b d.nums) ∨ (d.place ≠ 8 ∧ rest = d.nums.map V.int))
def EvAt (K : PySem.W.Frag) (H : Hp) (a : Addr) (e : Ev) : Prop :=
  ∃ p q d r, SqT K H a [.bl e.asleep, .ref p, .ref q, .ref d, .ref r] ∧ TupI K H p e.shown ∧ TupI K H q e.after ∧ DdAt K H d e.deed ∧ TupI K H r e.knows
def RcAt (K : PySem.W.Frag) (H : Hp) (a : Addr) (r : Rc) : Prop := ∃ e, SqT K H a [.int r.dev, .int r.num, .ref e] ∧ EvAt K H e r.ev
/-- objects one beside the other -/
def Each {α : Type} (P : Addr → α → Prop) (as : List Addr) (xs : List α) : Prop := as.length = xs.length ∧ ∀ (i : Nat) (a : Addr) (x : α), as[i]? = some a → xs[i]? = some x → P a x
def LtAt (K : PySem.W.Frag) (H : Hp) (a : Addr) (l : Lt) : Prop :=
  ∃ b as, SqT K H a [.int l.s, .int l.r, .int l.k, .int l.n, .ref b] ∧ SqT K H b (as.map V.ref) ∧ Each (RcAt K H) as l.recs
section
variable {K : PySem.W.Frag} {H H' : Hp}
theorem TupI.keep {a ns} (e : Same H H') (h : TupI K H a ns) : TupI K H' a ns := sTup e h
theorem DdAt.keep {a d} (e : Same H H') (h : DdAt K H a d) : DdAt K H' a d := by
  obtain ⟨z, rest, h0, h1, h2⟩ := h
  refine ⟨z, rest, h0, sTup e h1, ?_⟩
  rcases h2 with ⟨h2, b, h3, h4⟩ | h2
  · exact .inl ⟨h2, b, h3, h4.keep e⟩
  · exact .inr h2
theorem EvAt.keep {a d} (e : Same H H') (h : EvAt K H a d) : EvAt K H' a d := by
  obtain ⟨p, q, d, r, h1, h2, h3, h4, h5⟩ := h
  exact ⟨p, q, d, r, sTup e h1, h2.keep e, h3.keep e, h4.keep e, h5.keep e⟩
theorem RcAt.keep {a d} (e : Same H H') (h : RcAt K H a d) : RcAt K H' a d := by
  obtain ⟨p, h1, h2⟩ := h
  exact ⟨p, sTup e h1, h2.keep e⟩
theorem Each.keep {α : Type} {P P' : Addr → α → Prop} {as xs} (h : Each P as xs) (f : ∀ a x, P a x → P' a x) : Each P' as xs := ⟨h.1, fun i a x h1 h2 => f a x (h.2 i a x h1 h2)⟩
theorem Each.nil {α : Type} {P : Addr → α → Prop} : Each P [] [] := ⟨rfl, fun i a x h => by simp at h⟩
theorem Each.snoc {α : Type} {P : Addr → α → Prop} {as xs} (h : Each P as xs) {a : Addr} {x : α} (p : P a x) : Each P (as ++ [a]) (xs ++ [x]) := by
  refine ⟨by simp [h.1], fun i b y h1 h2 => ?_⟩
  by_cases hi : i < as.length
  · rw [List.getElem?_append_left hi] at h1
    rw [List.getElem?_append_left (by rw [← h.1]; exact hi)] at h2
    exact h.2 i b y h1 h2
  · rw [List.getElem?_append_right (by omega)] at h1
    rw [List.getElem?_append_right (by rw [← h.1]; omega)] at h2
    rw [← h.1] at h2
    cases e : i - as.length with
    | zero =>
      rw [e] at h1 h2
      cases h1
      cases h2
      exact p
    | succ n =>
      rw [e] at h1
      simp at h1
theorem Each.get {α : Type} {P : Addr → α → Prop} {as xs} (h : Each P as xs) {i : Nat} {a : Addr} (ha : as[i]? = some a) : ∃ x, xs[i]? = some x ∧ P a x := by
  have hi : i < xs.length := by rw [← h.1]; exact (List.getElem?_eq_some_iff.mp ha).1
  exact ⟨xs[i], List.getElem?_eq_getElem hi, h.2 i a _ ha (List.getElem?_eq_getElem hi)⟩
theorem LtAt.keep {a d} (e : Same H H') (h : LtAt K H a d) : LtAt K H' a d := by
  obtain ⟨b, as, h1, h2, h3⟩ := h
  exact ⟨b, as, sTup e h1, sTup e h2, h3.keep fun _ _ q => q.keep e⟩
end
/-! ### sizes -/
theorem numD_len {d : Dd} (h : d.Ok) : (numD d).length ≤ 6 := by
  have := h.len
  unfold numD numSeq
  split <;> simp <;> omega
theorem numE_len {e : Ev} (h : e.Ok) : (numE e).length ≤ 24 := by
  have h1 := h.s1; have h2 := h.s2; have h3 := h.s3; have h4 := numD_len h.d
  unfold numE numSeq
  simp only [List.length_append, List.length_cons, List.length_nil]
  omega
theorem numR_len {r : Rc} (h : r.Ok) : (numR r).length ≤ 26 := by
  have h1 := numE_len h.e
  unfold numR
  simp only [List.length_append, List.length_cons, List.length_nil]
  omega
theorem flat_len {α : Type} {f : α → List Int} {m : Nat} : ∀ {xs : List α}, (∀ x ∈ xs, (f x).length ≤ m) → (xs.flatMap f).length ≤ xs.length * m
  | [], _ => by simp
  | x :: r, h => by
    have h1 := h x List.mem_cons_self
    have h2 := flat_len (xs := r) fun y hy => h y (List.mem_cons_of_mem _ hy)
    rw [List.flatMap_cons, List.length_append, List.length_cons, Nat.succ_mul]
    omega
theorem In18.zero : In18 0 := by unfold In18; decide
theorem In18.small {n : Nat} (h : n ≤ 1000) : In18 (n : Int) := by
  unfold In18
  rw [Int.natAbs_natCast]
  exact Nat.lt_of_le_of_lt h (by decide)
theorem In18.log {n : Int} (h : In18 n) : n.natAbs.log2 < 1920 := by
  unfold In18 at h
  by_cases h0 : n.natAbs = 0
  · rw [h0]
    decide
  · exact (Nat.log2_lt h0).mpr (Nat.lt_of_lt_of_le h (by decide +kernel))
theorem numD_in {d : Dd} (h : d.Ok) : ∀ n ∈ numD d, In18 n := by
  intro n hn
  have hp := h.pl
  have hl := h.len
  unfold numD at hn
  rcases List.mem_cons.mp hn with e | hn
  · rw [e]
    exact In18.small (by omega)
  · split at hn
    · unfold numSeq at hn
      rcases List.mem_cons.mp hn with e | hn
      · rw [e]
        exact In18.small (by omega)
      · exact h.sm n hn
    · exact h.sm n hn
theorem seq_in {ns : List Int} (hl : ns.length ≤ 1000) (h : ∀ n ∈ ns, In18 n) : ∀ n ∈ numSeq ns, In18 n := by
  intro n hn
  unfold numSeq at hn
  rcases List.mem_cons.mp hn with e | hn
  · rw [e]
    exact In18.small hl
  · exact h n hn
theorem numE_in {e : Ev} (h : e.Ok) : ∀ n ∈ numE e, In18 n := by
  intro n hn
  have h1 := h.s1; have h2 := h.s2; have h3 := h.s3
  unfold numE at hn
  rcases List.mem_append.mp hn with hn | hn
  · rcases List.mem_append.mp hn with hn | hn
    · rcases List.mem_append.mp hn with hn | hn
      · rcases List.mem_append.mp hn with hn | hn
        · rw [List.mem_singleton.mp hn]
          unfold b2n
          split
          · exact In18.small (n := 1) (by decide)
          · exact In18.zero
        · exact seq_in (by omega) h.m1 n hn
      · exact seq_in (by omega) h.m2 n hn
    · exact numD_in h.d n hn
  · exact seq_in (by omega) (fun n hn => (h.m3 n hn).1) n hn
theorem numR_in {r : Rc} (h : r.Ok) : ∀ n ∈ numR r, In18 n := by
  intro n hn
  unfold numR at hn
  rcases List.mem_append.mp hn with hn | hn
  · rcases List.mem_cons.mp hn with e | hn
    · rw [e]; exact h.d.1
    · rw [List.mem_singleton.mp hn]; exact h.n.1
  · exact numE_in h.e n hn
theorem numL_len {l : Lt} (h : l.Ok) : (numL l).length ≤ 600 := by
  have h1 := flat_len (f := numR) (m := 26) (xs := l.recs) fun r hr => numR_len (h.rs r hr)
  have h2 := h.len
  unfold numL
  simp only [List.length_append, List.length_cons, List.length_nil]
  omega
theorem numL_in {l : Lt} (h : l.Ok) : ∀ n ∈ numL l, In18 n := by
  intro n hn
  have hl := h.len
  unfold numL at hn
  rcases List.mem_append.mp hn with hn | hn
  · simp only [List.mem_cons, List.not_mem_nil, or_false] at hn
    rcases hn with e | e | e | e | e <;> rw [e]
    · exact h.s.1
    · exact h.r.1
    · exact h.k.1
    · exact h.n.1
    · exact In18.small (by omega)
  · obtain ⟨r, hr, hn⟩ := List.mem_flatMap.mp hn
    exact numR_in (h.rs r hr) n hn
/-! ### the text -/
def words (ns : List Int) : List Str := ns.map fun n => toString n
def textOf (head : Str) (ns : List Int) : Str := head ++ Str.ofString "\n" ++ Txt.join (Str.ofString " ") (words ns) ++ Str.ofString "\n"

theorem join_len (y : Str) : ∀ parts : List Str, (Str.join y parts).length ≤ (parts.map (·.length)).sum + parts.length * y.length
  | [] => Nat.zero_le _
  | [x] => by
    show x.length ≤ x.length + 0 + _
    omega
  | x :: z :: r => by
    have h := join_len y (z :: r)
    show (x ++ y ++ Str.join y (z :: r)).length ≤ _
    rw [Str.length_append, Str.length_append]
    rw [List.map_cons, List.sum_cons, List.length_cons, Nat.succ_mul]
    omega
theorem word_len {n : Int} (h : In18 n) : (Str.ofString (toString n)).length ≤ 19 := by
  unfold In18 at h
  have e := int_text_length_le10 (k := 18) (by decide) h
  rw [PySem.ofString_length]
  exact e
theorem words_sum {ns : List Int} (h : ∀ n ∈ ns, In18 n) : ((words ns).map (·.length)).sum ≤ ns.length * 19 := by
  induction ns with
  | nil => exact Nat.zero_le _
  | cons a r ih =>
    have h1 := word_len (h a List.mem_cons_self)
    have h2 := ih fun n hn => h n (List.mem_cons_of_mem _ hn)
    show (Str.ofString (toString a)).length + ((words r).map (·.length)).sum ≤ _
    rw [List.length_cons, Nat.succ_mul]
    omega
theorem words_len (ns : List Int) : (words ns).length = ns.length := List.length_map _
theorem blank_len : (Str.ofString " ").length = 1 := by decide +kernel
theorem nl_len : (Str.ofString "\n").length = 1 := by decide +kernel
theorem joined_len {ns : List Int} (h : ∀ n ∈ ns, In18 n) : (Txt.join (Str.ofString " ") (words ns)).length ≤ ns.length * 20 := by
  have h1 := join_len (Str.ofString " ") (words ns)
  have h2 := words_sum h
  rw [← TL.join_eq, words_len, blank_len] at h1
  omega
theorem line2 : (20000 : Nat) ≤ sizeLine := by decide
theorem join_fit {ns : List Int} (h : ∀ n ∈ ns, In18 n) (hl : ns.length ≤ 1000) : ((words ns).map (·.length)).sum + (words ns).length * (Str.ofString " ").length ≤ 16777216 := by
  have h2 := words_sum h
  rw [words_len, blank_len]
  omega
theorem sizes {n : Nat} (h : n ≤ 100000) : n ≤ sizeLine := Nat.le_trans h (by decide)
theorem sizes' {n : Nat} (h : n ≤ 100000) : n < sizeLine := Nat.lt_of_le_of_lt h (by decide)
theorem words_take_succ {ns : List Int} {i : Nat} (h : i < ns.length) : words (ns.take (i + 1)) = words (ns.take i) ++ [(toString ns[i] : Str)] := by
  unfold words
  rw [List.take_add_one, List.getElem?_eq_getElem h, List.map_append]
  rfl
theorem int_get {ns : List Int} {i : Nat} {x : V} (h : (ns.map V.int)[i]? = some x) : ∃ hi : i < ns.length, x = V.int ns[i] := by
  have hi := (List.getElem?_eq_some_iff.mp h).1
  rw [List.length_map] at hi
  refine ⟨hi, ?_⟩
  rw [List.getElem?_map, List.getElem?_eq_getElem hi] at h
  exact (Option.some.inj h).symm
theorem ref_get {as : List Addr} {i : Nat} {x : V} (h : (as.map V.ref)[i]? = some x) : ∃ hi : i < as.length, x = V.ref as[i] := by
  have hi := (List.getElem?_eq_some_iff.mp h).1
  rw [List.length_map] at hi
  refine ⟨hi, ?_⟩
  rw [List.getElem?_map, List.getElem?_eq_getElem hi] at h
  exact (Option.some.inj h).symm
/-! ### what is no list stands while the list at o changes -/
theorem butTup {K : PySem.W.Frag} {H H' : Hp} {o a : Addr} {xs ys : List V} (e : But o H H') (ho : H o = some (.lst xs)) (h : SqT K H a ys) : SqT K H' a ys := by
  rcases h with (h | ⟨ob, h⟩) | h
  · exact .inl (.inl (e _ _ (ne_of h ho (by intro z; cases z)) h))
  · exact .inl (.inr ⟨ob, e _ _ (ne_of h ho (by intro z; cases z)) h⟩)
  · exact .inr h
section
variable {K : PySem.W.Frag} {H H' : Hp} {o : Addr} {xs : List V}
theorem TupI.but {a ns} (e : But o H H') (ho : H o = some (.lst xs)) (h : TupI K H a ns) : TupI K H' a ns := butTup e ho h
theorem DdAt.but {a d} (e : But o H H') (ho : H o = some (.lst xs)) (h : DdAt K H a d) : DdAt K H' a d := by
  obtain ⟨z, rest, h0, h1, h2⟩ := h
  refine ⟨z, rest, h0, butTup e ho h1, ?_⟩
  rcases h2 with ⟨h2, b, h3, h4⟩ | h2
  · exact .inl ⟨h2, b, h3, h4.but e ho⟩
  · exact .inr h2
theorem EvAt.but {a d} (e : But o H H') (ho : H o = some (.lst xs)) (h : EvAt K H a d) : EvAt K H' a d := by
  obtain ⟨p, q, d, r, h1, h2, h3, h4, h5⟩ := h
  exact ⟨p, q, d, r, butTup e ho h1, h2.but e ho, h3.but e ho, h4.but e ho, h5.but e ho⟩
end
/-! ### the names of deeds -/
theorem dn_first {j m : Nat} {z : Str} (h : deedNames[j]? = some z) (hm : m < j) : deedNames[m]? ≠ some z := fun e => by
  have := nd_ix dn_nodup e h
  omega
theorem dn_anew {j : Nat} {z : Str} (h : deedNames[j]? = some z) : z = "anew" ↔ j = 8 := by
  refine ⟨fun e => nd_ix dn_nodup (x := z) h (by rw [e]; rfl), fun e => ?_⟩
  subst e
  exact (Option.some.inj h).symm
theorem dn_note {j : Nat} {z : Str} (h : deedNames[j]? = some z) : z = "note" ↔ j = 0 := by
  refine ⟨fun e => nd_ix dn_nodup (x := z) h (by rw [e]; rfl), fun e => ?_⟩
  subst e
  exact (Option.some.inj h).symm
/-- a def of the text, as it stands behind the top -/
structure Df (K : PySem.W.Frag) (mg : Str → Option Value) (x : Str) (st : Stmt) (ps : List Str) (f : Addr) (fd : FuncData) : Prop where
  F : Fun K x x st f fd
  b : Binds K fd ps []
  m : mg x = some (.ref f)
/-- the built-ins that the text calls are still its own -/
structure Txt (K : PySem.W.Frag) (mg : Str → Option Value) : Prop where
  len : mg "len" = none
  str : mg "str" = none
  int : mg "int" = none
  range : mg "range" = none
  tuple : mg "tuple" = none
  list : mg "list" = none
  isinstance : mg "isinstance" = none
  bool : mg "bool" = none
  all : mg "all" = none
  min : mg "min" = none
  sum : mg "sum" = none
  enumerate : mg "enumerate" = none
/-- the tuple of the deeds' names stands at aD -/
structure Deeds (K : PySem.W.Frag) (mg : Str → Option Value) (aD : Addr) : Prop where
  m : mg "DEEDS" = some (.ref aD)
  o : ∃ ob : Obj, K.lookup aD = some ob ∧ ob.cls = .type "tuple" ∧ ob.dict = none
  sq : ∀ H, SqT K H aD (deedNames.map V.str)

theorem vint_eq {a b : Int} (c : decide (V.int a = V.int b) = true) : a = b := by injection (of_decide_eq_true c)
theorem vint_ne {a b : Int} (c : ¬ decide (V.int a = V.int b) = true) : a ≠ b := fun e => c (decide_eq_true (by rw [e]))
theorem one_of {ns : List Int} (h : ns.length = 1) : ∃ x, ns = [x] := by
  match ns, h with
  | [x], _ => exact ⟨x, rfl⟩
theorem two_of {ns : List Int} (h : ns.length = 2) : ∃ x y, ns = [x, y] := by
  match ns, h with
  | [x, y], _ => exact ⟨x, y, rfl⟩
theorem four_of {ns : List Int} (h : ns.length = 4) : ∃ x y z u, ns = [x, y, z, u] := by
  match ns, h with
  | [x, y, z, u], _ => exact ⟨x, y, z, u, rfl⟩
theorem nt_one {a n : Int} {i : Nat} (h : [a][i]? = some n) (ha : 0 ≤ a) : 0 ≤ n := by
  match i, h with
  | 0, h => cases h; exact ha
theorem nt_two {a b n : Int} {i : Nat} (h : [a, b][i]? = some n) (ha : 0 ≤ a) (hb : 0 ≤ b) : 0 ≤ n := by
  match i, h with
  | 0, h => cases h; exact ha
  | 1, h => cases h; exact hb
theorem nt_three {a b c n : Int} {i : Nat} (h : [a, b, c][i]? = some n) (h2 : ¬ mayNeg 2 i) (ha : 0 ≤ a) (hb : 0 ≤ b) : 0 ≤ n := by
  match i, h with
  | 0, h => cases h; exact ha
  | 1, h => cases h; exact hb
  | 2, h => exact absurd (Or.inl ⟨rfl, rfl⟩) h2
end Vs

namespace Vs
open PySem PySem.Spec PyProof.Rows L2
section
variable {K : PySem.W.Frag} {H H' : Hp}
theorem tyT {a : Addr} {xs : List V} (h : SqT K H a xs) : TyX K H (.ref a) (.type "tuple") := by
  rcases h with (h | ⟨o, h⟩) | ⟨o, its, n, h, hc, _⟩
  · exact .base (.tup h)
  · exact .fTuple h
  · exact .kTuple h hc
theorem tyL {a : Addr} {xs : List V} (h : SqL K H a xs) : TyX K H (.ref a) (.type "list") := by
  rcases h with (h | ⟨o, h⟩) | ⟨o, its, n, h, hc, _⟩
  · exact .base (.lst h)
  · exact .base (.frz h)
  · exact .kList h hc
/-- both denote the same, down to depth n -/
def Sim (K : PySem.W.Frag) (H : Hp) : Nat → V → V → Prop
  | 0, _, _ => False
  | n + 1, x, y => (∃ b, x = .bl b ∧ y = .bl b) ∨ (∃ i, x = .int i ∧ y = .int i) ∨ (∃ z, x = .str z ∧ y = .str z) ∨
    (∃ a b xs ys, x = .ref a ∧ y = .ref b ∧ ((SqT K H a xs ∧ SqT K H b ys) ∨ (SqL K H a xs ∧ SqL K H b ys)) ∧ xs.length = ys.length ∧ xs.length ≤ 1000 ∧ ∀ (i : Nat) u v, xs[i]? = some u → ys[i]? = some v → Sim K H n u v)
theorem Sim.int {n : Nat} {i : Int} : Sim K H (n + 1) (.int i) (.int i) := .inr (.inl ⟨i, rfl, rfl⟩)
theorem Sim.str {n : Nat} {z : Str} : Sim K H (n + 1) (.str z) (.str z) := .inr (.inr (.inl ⟨z, rfl, rfl⟩))
theorem Sim.bl {n : Nat} {b : Bool} : Sim K H (n + 1) (.bl b) (.bl b) := .inl ⟨b, rfl, rfl⟩
theorem Sim.tup {n : Nat} {a b : Addr} {xs ys : List V} (h1 : SqT K H a xs) (h2 : SqT K H b ys) (hl : xs.length = ys.length) (hs : xs.length ≤ 1000) (h : ∀ (i : Nat) u v, xs[i]? = some u → ys[i]? = some v → Sim K H n u v) : Sim K H (n + 1) (.ref a) (.ref b) :=
  .inr (.inr (.inr ⟨a, b, xs, ys, rfl, rfl, .inl ⟨h1, h2⟩, hl, hs, h⟩))
theorem Sim.lst {n : Nat} {a b : Addr} {xs ys : List V} (h1 : SqL K H a xs) (h2 : SqL K H b ys) (hl : xs.length = ys.length) (hs : xs.length ≤ 1000) (h : ∀ (i : Nat) u v, xs[i]? = some u → ys[i]? = some v → Sim K H n u v) : Sim K H (n + 1) (.ref a) (.ref b) :=
  .inr (.inr (.inr ⟨a, b, xs, ys, rfl, rfl, .inr ⟨h1, h2⟩, hl, hs, h⟩))
theorem all_nil {R : V → V → Prop} : ∀ (i : Nat) u v, ([] : List V)[i]? = some u → ([] : List V)[i]? = some v → R u v := fun i u v h => by simp at h
theorem all_cons {R : V → V → Prop} {x y : V} {xs ys : List V} (h : R x y) (t : ∀ (i : Nat) u v, xs[i]? = some u → ys[i]? = some v → R u v) : ∀ (i : Nat) u v, (x :: xs)[i]? = some u → (y :: ys)[i]? = some v → R u v
  | 0, _, _, h1, h2 => by cases h1; cases h2; exact h
  | i + 1, u, v, h1, h2 => t i u v h1 h2
theorem all_ints {n : Nat} {ns : List Int} : ∀ (i : Nat) u v, (ns.map V.int)[i]? = some u → (ns.map V.int)[i]? = some v → Sim K H (n + 1) u v := fun i u v h1 h2 => by
  rw [h1] at h2
  cases h2
  obtain ⟨hi, rfl⟩ := int_get h1
  exact .int
theorem simI {n : Nat} {a b : Addr} {ns : List Int} (h1 : TupI K H a ns) (h2 : TupI K H b ns) (hs : ns.length ≤ 1000) : Sim K H (n + 2) (.ref a) (.ref b) := .tup h1 h2 rfl (by rw [List.length_map]; exact hs) all_ints
theorem simD {n : Nat} {a b : Addr} {d : Dd} (h1 : DdAt K H a d) (h2 : DdAt K H b d) (hk : d.Ok) : Sim K H (n + 3) (.ref a) (.ref b) := by
  have hl := hk.len
  obtain ⟨z, r, e1, t1, q1⟩ := h1
  obtain ⟨z', r', e2, t2, q2⟩ := h2
  rw [e1] at e2
  cases e2
  rcases q1 with ⟨p8, c, rfl, h1⟩ | ⟨n8, rfl⟩
  · rcases q2 with ⟨_, c', rfl, h2⟩ | ⟨n8, _⟩
    · exact .tup t1 t2 rfl (by show 2 ≤ 1000; decide) (all_cons .str (all_cons (simI h1 h2 (by omega)) all_nil))
    · exact absurd p8 n8
  · rcases q2 with ⟨p8, _⟩ | ⟨_, rfl⟩
    · exact absurd p8 n8
    · exact .tup t1 t2 rfl (by rw [List.length_cons, List.length_map]; omega) (all_cons .str all_ints)
theorem simE {n : Nat} {a b : Addr} {e : Ev} (h1 : EvAt K H a e) (h2 : EvAt K H b e) (hk : e.Ok) : Sim K H (n + 4) (.ref a) (.ref b) := by
  have k1 := hk.s1; have k2 := hk.s2; have k3 := hk.s3
  obtain ⟨p, q, d, r, t, f1, f2, f3, f4⟩ := h1
  obtain ⟨p', q', d', r', t', g1, g2, g3, g4⟩ := h2
  exact .tup t t' rfl (by show 5 ≤ 1000; decide) (all_cons .bl (all_cons (simI f1 g1 (by omega)) (all_cons (simI f2 g2 (by omega)) (all_cons (simD f3 g3 hk.d) (all_cons (simI f4 g4 (by omega)) all_nil)))))
theorem simR {n : Nat} {a b : Addr} {r : Rc} (h1 : RcAt K H a r) (h2 : RcAt K H b r) (hk : r.Ok) : Sim K H (n + 5) (.ref a) (.ref b) := by
  obtain ⟨e, t, f⟩ := h1
  obtain ⟨e', t', g⟩ := h2
  exact .tup t t' rfl (by show 3 ≤ 1000; decide) (all_cons .int (all_cons .int (all_cons (simE f g hk.e) all_nil)))
theorem simEach {α : Type} {P : Addr → α → Prop} {n : Nat} {as bs : List Addr} {xs : List α} (h1 : Each P as xs) (h2 : Each P bs xs) (h : ∀ a b x, x ∈ xs → P a x → P b x → Sim K H n (.ref a) (.ref b)) :
    ∀ (i : Nat) u v, (as.map V.ref)[i]? = some u → (bs.map V.ref)[i]? = some v → Sim K H n u v := fun i u v e1 e2 => by
  obtain ⟨i1, rfl⟩ := ref_get e1
  obtain ⟨i2, rfl⟩ := ref_get e2
  have ix : i < xs.length := by rw [← h1.1]; exact i1
  exact h _ _ xs[i] (List.getElem_mem ix) (h1.2 i _ _ (List.getElem?_eq_getElem i1) (List.getElem?_eq_getElem ix)) (h2.2 i _ _ (List.getElem?_eq_getElem i2) (List.getElem?_eq_getElem ix))
theorem simL {n : Nat} {a b : Addr} {l : Lt} (h1 : LtAt K H a l) (h2 : LtAt K H b l) (hk : l.Ok) : Sim K H (n + 7) (.ref a) (.ref b) := by
  have hl := hk.len
  obtain ⟨p, as, t, f, g⟩ := h1
  obtain ⟨p', as', t', f', g'⟩ := h2
  refine .tup t t' rfl (by show 5 ≤ 1000; decide) (all_cons .int (all_cons .int (all_cons .int (all_cons .int (all_cons ?_ all_nil)))))
  exact .tup f f' (by rw [List.length_map, List.length_map, g.1, g'.1]) (by rw [List.length_map, g.1]; omega) (simEach g g' fun a b x hx u v => simR u v (hk.rs x hx))
/-! ### what some calls ask, without the frame -/
abbrev rListOf (K : PySem.W.Frag) : List V → Hp → VK → Prop := fun xs H Q => ∃ p ys, xs = [V.ref p] ∧ (SqL K H p ys ∨ SqT K H p ys) ∧ ∀ l, H l = none → Q (.ref l) (upd H l (.lst ys))
abbrev rTupleOf (K : PySem.W.Frag) : List V → Hp → VK → Prop := fun xs H Q => ∃ p ys, xs = [V.ref p] ∧ ((SqL K H p ys ∧ ∀ l, H l = none → Q (.ref l) (upd H l (.tup ys))) ∨ (SqT K H p ys ∧ Q (.ref p) H))
abbrev rLenOf (K : PySem.W.Frag) : List V → Hp → VK → Prop := fun xs H Q => ∃ p ys, xs = [V.ref p] ∧ (SqL K H p ys ∨ SqT K H p ys) ∧ Q (.int ys.length) H
/-! ### views -/
def RowAt (K : PySem.W.Frag) (H : Hp) (a : Addr) (es : List Ev) : Prop := ∃ as, H a = some (.lst (as.map V.ref)) ∧ Each (EvAt K H) as es
def VwAt (K : PySem.W.Frag) (H : Hp) (v : Addr) (vw : List (List Ev)) : Prop := ∃ rows, H v = some (.lst (rows.map V.ref)) ∧ Each (RowAt K H) rows vw
theorem RowAt.keep {a es} (e : Same H H') (h : RowAt K H a es) : RowAt K H' a es := by
  obtain ⟨as, h1, h2⟩ := h
  exact ⟨as, e _ _ h1, h2.keep fun _ _ z => z.keep e⟩
theorem VwAt.keep {v vw} (e : Same H H') (h : VwAt K H v vw) : VwAt K H' v vw := by
  obtain ⟨as, h1, h2⟩ := h
  exact ⟨as, e _ _ h1, h2.keep fun _ _ z => z.keep e⟩
structure VwOk (vw : List (List Ev)) : Prop where
  len : vw.length ≤ 6
  sum : (vw.map List.length).sum ≤ 40
  ok : ∀ es ∈ vw, ∀ e ∈ es, e.Ok
def numEs (es : List Ev) : List Int := (es.length : Int) :: es.flatMap numE
def numV (vw : List (List Ev)) : List Int := (vw.length : Int) :: vw.flatMap numEs
theorem len_le_sum {vw : List (List Ev)} {es : List Ev} (h : es ∈ vw) : es.length ≤ (vw.map List.length).sum := by
  induction vw with
  | nil => simp at h
  | cons x r ih =>
    rw [List.map_cons, List.sum_cons]
    rcases List.mem_cons.mp h with e | h
    · rw [e]; omega
    · have := ih h; omega
theorem simRow {n : Nat} {a b : Addr} {es : List Ev} (h1 : RowAt K H a es) (h2 : RowAt K H b es) (hl : es.length ≤ 100) (hk : ∀ e ∈ es, e.Ok) : Sim K H (n + 5) (.ref a) (.ref b) := by
  obtain ⟨as, f, g⟩ := h1
  obtain ⟨as', f', g'⟩ := h2
  exact .lst (SqL.of f) (SqL.of f') (by rw [List.length_map, List.length_map, g.1, g'.1]) (by rw [List.length_map, g.1]; omega) (simEach g g' fun a b x hx u v => simE u v (hk x hx))
theorem simV {n : Nat} {a b : Addr} {vw : List (List Ev)} (h1 : VwAt K H a vw) (h2 : VwAt K H b vw) (hk : VwOk vw) : Sim K H (n + 6) (.ref a) (.ref b) := by
  have hl := hk.len
  have hs := hk.sum
  obtain ⟨as, f, g⟩ := h1
  obtain ⟨as', f', g'⟩ := h2
  exact .lst (SqL.of f) (SqL.of f') (by rw [List.length_map, List.length_map, g.1, g'.1]) (by rw [List.length_map, g.1]; omega) (simEach g g' fun a b x hx u v => simRow u v (by have := len_le_sum hx; omega) (hk.ok x hx))
end
theorem numV_len_le {vw : List (List Ev)} (h : ∀ es ∈ vw, ∀ e ∈ es, e.Ok) : (vw.flatMap numEs).length ≤ vw.length + (vw.map List.length).sum * 24 := by
  induction vw with
  | nil => exact Nat.zero_le _
  | cons x r ih =>
    have h1 := ih fun es hes => h es (List.mem_cons_of_mem _ hes)
    have h2 := flat_len (f := numE) (m := 24) (xs := x) fun e he => numE_len (h x List.mem_cons_self e he)
    rw [List.flatMap_cons, List.length_append, List.map_cons, List.sum_cons, List.length_cons]
    show ((x.length : Int) :: x.flatMap numE).length + _ ≤ _
    rw [List.length_cons]
    omega
theorem numV_len {vw : List (List Ev)} (h : VwOk vw) : (numV vw).length ≤ 967 := by
  have h1 := numV_len_le h.ok
  have h2 := h.len
  have h3 := h.sum
  unfold numV
  rw [List.length_cons]
  omega
theorem numEs_in {es : List Ev} (hl : es.length ≤ 100) (h : ∀ e ∈ es, e.Ok) : ∀ n ∈ numEs es, In18 n := by
  intro n hn
  unfold numEs at hn
  rcases List.mem_cons.mp hn with e | hn
  · rw [e]; exact In18.small (by omega)
  · obtain ⟨e, he, hn⟩ := List.mem_flatMap.mp hn
    exact numE_in (h e he) n hn
theorem numV_in {vw : List (List Ev)} (h : VwOk vw) : ∀ n ∈ numV vw, In18 n := by
  intro n hn
  have h2 := h.len
  have h3 := h.sum
  unfold numV at hn
  rcases List.mem_cons.mp hn with e | hn
  · rw [e]; exact In18.small (by omega)
  · obtain ⟨es, he, hn⟩ := List.mem_flatMap.mp hn
    exact numEs_in (by have := len_le_sum he; omega) (h.ok es he) n hn
theorem flat_take_le {α : Type} {f : α → List Int} {xs : List α} (i : Nat) : ((xs.take i).flatMap f).length ≤ (xs.flatMap f).length := by
  rw [show xs.flatMap f = (xs.take i).flatMap f ++ (xs.drop i).flatMap f by rw [← List.flatMap_append, List.take_append_drop], List.length_append]
  omega
theorem flat_take {α : Type} {f : α → List Int} {xs : List α} {i : Nat} {x : α} (h : xs[i]? = some x) : (xs.take (i + 1)).flatMap f = (xs.take i).flatMap f ++ f x := by
  rw [List.take_add_one, h, List.flatMap_append]
  show _ ++ (f x ++ []) = _
  rw [List.append_nil]
theorem flat_take_len {α : Type} {f : α → List Int} {m : Nat} {xs : List α} (h : ∀ x ∈ xs, (f x).length ≤ m) (i : Nat) : ((xs.take i).flatMap f).length ≤ i * m := by
  have h1 := flat_len (f := f) (m := m) (xs := xs.take i) fun x hx => h x (List.mem_of_mem_take hx)
  have h2 : (xs.take i).length ≤ i := by rw [List.length_take]; omega
  exact Nat.le_trans h1 (Nat.mul_le_mul_right m h2)
theorem sum_grow {vw : List (List Ev)} {j : Nat} {es : List Ev} {e : Ev} (h : vw[j]? = some es) : ((vw.set j (es ++ [e])).map List.length).sum = (vw.map List.length).sum + 1 := by
  induction vw generalizing j with
  | nil => simp at h
  | cons x r ih =>
    cases j with
    | zero =>
      cases h
      show (es ++ [e]).length + (r.map List.length).sum = es.length + (r.map List.length).sum + 1
      rw [List.length_append, List.length_singleton]
      omega
    | succ j =>
      show x.length + ((r.set j (es ++ [e])).map List.length).sum = x.length + (r.map List.length).sum + 1
      rw [ih h]
      omega
theorem cut1 (xs : List V) : cutV xs (some 1) none = xs.drop 1 := by
  unfold cutV
  rw [show HT.sIx xs.length 0 (some 1) = min 1 xs.length from HT.sIx_nat xs.length 0 1, HT.sIx_none]
  cases xs with
  | nil => rfl
  | cons x r =>
    rw [show min 1 (x :: r).length = 1 by rw [List.length_cons]; omega]
    show (List.take ((x :: r).length - 1) r) = r
    rw [List.length_cons, Nat.add_sub_cancel]
    exact List.take_length
def headL (l : Lt) : List Int := [l.s, l.r, l.k, l.n, (l.recs.length : Int)]
end Vs

namespace Vs
open PySem PySem.Spec PyProof.Rows L2
/-! ### the words of a text -/
abbrev wd (n : Int) : Str := Str.ofString (toString n)
theorem tl_pos {n : Int} (h : 0 ≤ n) : TL.tl (wd n) = TL.numL n.natAbs := by
  have e : n = ((n.natAbs : Nat) : Int) := by omega
  unfold wd
  rw [e, TL.tl_num]
  rfl
theorem tl_neg {n : Int} (h : n < 0) : TL.tl (wd n) = 45 :: TL.numL n.natAbs := by
  have e : (0 : Int) - n = ((n.natAbs : Nat) : Int) := by omega
  unfold wd
  rw [PyProof.Rows.toString_neg h, e]
  have q := TL.tl_num n.natAbs
  rw [TL.tl_ofString] at q ⊢
  rw [String.toList_append, List.map_append, q]
  rfl
theorem In18.numL {n : Int} (h : In18 n) : (TL.numL n.natAbs).length ≤ 18 := TL.numL_len (by decide) h
theorem wd_free {n : Int} {s : Nat} (h : s < 48 ∨ 57 < s) (h2 : s ≠ 45) : s ∉ TL.tl (wd n) := by
  by_cases h0 : 0 ≤ n
  · rw [tl_pos h0]
    exact TL.numL_free h
  · rw [tl_neg (by omega)]
    intro hm
    rcases List.mem_cons.mp hm with e | hm
    · exact h2 e
    · exact TL.numL_free h hm
theorem wd_int {n : Int} (h : In18 n) : intText? (wd n) = some n := by
  have hl := h.numL
  by_cases h0 : 0 ≤ n
  · have e := TL.int_num (n := n.natAbs) (by omega)
    have e2 : ((n.natAbs : Nat) : Int) = n := by omega
    rw [e2] at e
    exact e
  · have t := tl_neg (n := n) (by omega)
    have e := intText_neg (x := wd n) (cs := TL.numL n.natAbs) t (TL.numL_digits _) (TL.numL_ne _) (by rw [TL.len_tl, t, List.length_cons]; omega)
    rw [TL.numL_val] at e
    rw [e]
    congr 1
    omega
/-- the digits of the word -/
def dg (n : Int) : Str := ⟨(TL.numL n.natAbs).toArray⟩
theorem dash_tl : TL.tl (Str.ofString "-") = [45] := by decide +kernel
theorem beqD (a b : List Nat) : (a == b) = decide (a = b) := by
  by_cases h : a = b
  · rw [h, decide_eq_true rfl, beq_self_eq_true]
  · rw [decide_eq_false h, beq_false_of_ne h]
theorem rmdash (x : Str) : TL.tl (Txt.removeprefix x (Str.ofString "-")) = if (TL.tl x).take 1 = [45] then (TL.tl x).drop 1 else TL.tl x := by
  have hl : (Str.ofString "-").length = 1 := by decide +kernel
  unfold Txt.removeprefix
  have hs : Builtin.Str.subAt x (Str.ofString "-") 0 = decide ((TL.tl x).take 1 = [45]) := by
    rw [StrLaws.subAt_eq, hl, show (Str.ofString "-").cps.toList = [45] from dash_tl, List.drop_zero]
    exact beqD _ _
  by_cases h : (TL.tl x).take 1 = [45]
  · rw [hs, decide_eq_true h, if_pos rfl, if_pos h, hl]
    have h1 : 1 ≤ x.length := by
      rw [TL.len_tl]
      cases e : TL.tl x with
      | nil => rw [e] at h; cases h
      | cons a r => rw [List.length_cons]; omega
    unfold Txt.affix
    show TL.tl (if (x.length - 1 == x.length) = true then x else _) = _
    rw [if_neg (by rw [beq_iff_eq]; omega)]
    exact TL.tl_strSub_end x 1
  · rw [hs, decide_eq_false h, if_neg Bool.false_ne_true, if_neg h]
    rfl
theorem zero_tl : TL.tl (Str.ofString "0") = [48] := by decide +kernel
theorem starts0 (x : Str) : Txt.startswith x (Str.ofString "0") = decide ((TL.tl x).take 1 = [48]) := by
  have hl : (Str.ofString "0").length = 1 := by decide +kernel
  unfold Txt.startswith
  rw [StrLaws.subAt_eq, hl, show (Str.ofString "0").cps.toList = [48] from zero_tl, List.drop_zero]
  have e : ((TL.tl x).take 1 == [48]) = decide ((TL.tl x).take 1 = [48]) := beqD _ _
  rw [show List.take 1 x.cps.toList = (TL.tl x).take 1 from rfl, e]
  by_cases h : (TL.tl x).take 1 = [48]
  · have h1 : 1 ≤ x.length := by
      rw [TL.len_tl]
      cases e : TL.tl x with
      | nil => rw [e] at h; cases h
      | cons a r => rw [List.length_cons]; omega
    rw [decide_eq_true h, decide_eq_true (by omega : 0 + 1 ≤ x.length)]
    rfl
  · rw [decide_eq_false h, Bool.and_false]
theorem digit_ascii : ∀ c : Nat, c < 128 → Unicode.isDigit c = (decide (48 ≤ c) && decide (c ≤ 57)) := by decide +kernel
theorem numL_lead {n : Nat} (h : 0 < n) : (TL.numL n).take 1 ≠ [48] := by
  induction n using Nat.strongRecOn with
  | _ n ih =>
    by_cases h1 : n < 10
    · rw [TL.numL_lt h1]
      intro e
      have := List.cons.inj e
      omega
    · rw [TL.numL_step (by omega)]
      have h2 := ih (n / 10) (by omega) (by omega)
      have h3 := TL.numL_ne (n / 10)
      rw [List.take_append_of_le_length (by cases e : TL.numL (n / 10) with | nil => exact absurd e h3 | cons a r => rw [List.length_cons]; omega)]
      exact h2
/-- what is_integer tells of a word -/
def isIntW (z : Str) (m : Int) : Bool :=
  if (!(Txt.isascii (Txt.removeprefix z (Str.ofString "-")) && Txt.isdigit (Txt.removeprefix z (Str.ofString "-"))) || decide (((Txt.removeprefix z (Str.ofString "-")).length : Int) > m)) = true then false
  else (decide (z = Str.ofString "0") || !Txt.startswith (Txt.removeprefix z (Str.ofString "-")) (Str.ofString "0"))
theorem ascii_of {x : Str} (h : NumText.AllDigits (TL.tl x)) (hn : TL.tl x ≠ []) : Txt.isascii x = true ∧ Txt.isdigit x = true := by
  have e1 : x.cps.all (fun c => decide (c < 128)) = (TL.tl x).all (fun c => decide (c < 128)) := (Array.all_toList ..).symm
  have e2 : x.cps.all Unicode.isDigit = (TL.tl x).all Unicode.isDigit := (Array.all_toList ..).symm
  refine ⟨?_, ?_⟩
  · show x.cps.all (fun c => decide (c < 128)) = true
    rw [e1, List.all_eq_true]
    intro c hc
    have := h c hc
    exact decide_eq_true (by omega)
  · unfold Txt.isdigit
    rw [e2, Bool.and_eq_true]
    refine ⟨decide_eq_true (by rw [TL.len_tl]; exact List.length_pos_iff.mpr hn), ?_⟩
    rw [List.all_eq_true]
    intro c hc
    have h1 := h c hc
    rw [digit_ascii c (by omega), decide_eq_true h1.1, decide_eq_true h1.2]
    rfl
theorem wd_digits {n : Int} : TL.tl (Txt.removeprefix (wd n) (Str.ofString "-")) = TL.numL n.natAbs := by
  rw [rmdash]
  by_cases h0 : 0 ≤ n
  · rw [tl_pos h0, if_neg]
    intro e
    have h1 : 45 ∈ TL.numL n.natAbs := List.mem_of_mem_take (by rw [e]; exact List.mem_singleton_self 45)
    exact TL.numL_free (by omega) h1
  · rw [tl_neg (by omega), if_pos (by rfl)]
    rfl
theorem wd_zero : wd 0 = Str.ofString "0" := by decide +kernel
theorem wd_isInt {n m : Int} (h : In18 n) (hm : 18 ≤ m) : isIntW (wd n) m = true := by
  have hd := wd_digits (n := n)
  have hl := h.numL
  have ha := ascii_of (x := Txt.removeprefix (wd n) (Str.ofString "-")) (by rw [hd]; exact TL.numL_digits _) (by rw [hd]; exact TL.numL_ne _)
  unfold isIntW
  rw [ha.1, ha.2, decide_eq_false (by rw [TL.len_tl, hd]; omega)]
  show (decide (wd n = Str.ofString "0") || _) = true
  by_cases h0 : n = 0
  · rw [h0, decide_eq_true wd_zero]
    rfl
  · rw [starts0, hd, decide_eq_false (numL_lead (by omega))]
    exact Bool.or_true _
theorem wd_len {n : Int} (h : In18 n) : (wd n).length ≤ 19 := word_len h
/-! ### the lines and words of a text -/
theorem nl_tl : TL.tl (Str.ofString "\n") = [10] := by decide +kernel
theorem blank_tl : TL.tl (Str.ofString " ") = [32] := by decide +kernel
theorem joinL_free {s : Nat} {S : List Nat} (hs : s ∉ S) : ∀ {ps : List (List Nat)}, (∀ p ∈ ps, s ∉ p) → s ∉ TL.joinL S ps
  | [], _ => by show s ∉ ([] : List Nat); simp
  | [p], h => h p List.mem_cons_self
  | p :: q :: r, h => by
    have h1 := joinL_free hs (ps := q :: r) fun z hz => h z (List.mem_cons_of_mem _ hz)
    intro hm
    rcases List.mem_append.mp hm with hm | hm
    · exact h p List.mem_cons_self hm
    · rcases List.mem_append.mp hm with hm | hm
      · exact hs hm
      · exact h1 hm
theorem joined_free {ns : List Int} : (10 : Nat) ∉ TL.tl (Txt.join (Str.ofString " ") (words ns)) := by
  rw [TL.join_eq, TL.tl_join]
  refine joinL_free (by rw [blank_tl]; decide) fun p hp => ?_
  obtain ⟨z, hz, rfl⟩ := List.mem_map.mp hp
  obtain ⟨n, _, rfl⟩ := List.mem_map.mp hz
  exact wd_free (n := n) (by omega) (by omega)
theorem text_join (hd : Str) (ns : List Int) : textOf hd ns = Txt.join (Str.ofString "\n") [hd, Txt.join (Str.ofString " ") (words ns), Str.ofString ""] := by
  apply TL.ext_tl
  rw [TL.join_eq, TL.tl_join]
  unfold textOf
  rw [TL.tl_append, TL.tl_append, TL.tl_append]
  show _ = TL.tl hd ++ (TL.tl (Str.ofString "\n") ++ (TL.tl (Txt.join (Str.ofString " ") (words ns)) ++ (TL.tl (Str.ofString "\n") ++ [])))
  simp only [List.append_assoc, List.append_nil]
theorem text_split {hd : Str} {ns : List Int} (h : (10 : Nat) ∉ TL.tl hd) : Txt.split (textOf hd ns) (Str.ofString "\n") = [hd, Txt.join (Str.ofString " ") (words ns), Str.ofString ""] := by
  rw [text_join]
  refine TL.split_join (s := 10) (S := []) nl_tl (by decide +kernel) (by simp) fun p hp => ?_
  simp only [List.mem_cons, List.not_mem_nil, or_false] at hp
  rcases hp with rfl | rfl | rfl
  · exact h
  · exact joined_free
  · decide +kernel
theorem words_split {ns : List Int} (h : ns ≠ []) : Txt.split (Txt.join (Str.ofString " ") (words ns)) (Str.ofString " ") = words ns := by
  refine TL.split_join (s := 32) (S := []) blank_tl (by decide +kernel) (by unfold words; simpa using h) fun p hp => ?_
  obtain ⟨n, _, rfl⟩ := List.mem_map.mp hp
  exact wd_free (n := n) (by omega) (by omega)
theorem text_len {hd : Str} {ns : List Int} (h : ∀ n ∈ ns, In18 n) : (textOf hd ns).length ≤ hd.length + ns.length * 20 + 2 := by
  have h1 := joined_len h
  unfold textOf
  rw [Str.length_append, Str.length_append, Str.length_append, nl_len]
  omega
/-! ### methods of a class -/
structure Mt (K : PySem.W.Frag) (C : Addr) (x qual : Str) (st : Stmt) (ps : List Str) (f : Addr) (fd : FuncData) : Prop where
  F : Fun K x qual st f fd
  b : Binds K fd ps []
  m : Meth K C x f
/-! ### a Taker -/
structure Tk (K : PySem.W.Frag) (mg : Str → Option Value) (C : Addr) : Prop where
  cl : Cls K C
  nI : NoAttr K C "integers"
  nT : NoAttr K C "taken"
  mg : mg "Taker" = some (.ref C)
theorem kit : ¬ (("integers" : Str) = "taken") := by decide +kernel
/-- its attributes -/
def tf (l : Addr) (i : Int) : List (Str × V) := putF "taken" (.int i) (putF "integers" (.ref l) [])
theorem tf_eq (l : Addr) (i : Int) : tf l i = ([("integers", V.ref l), ("taken", V.int i)] : List (Str × V)) := by
  show (if ("integers" : Str) = "taken" then [(("integers" : Str), V.int i)] else (("integers" : Str), V.ref l) :: putF "taken" (V.int i) []) = ([("integers", V.ref l), ("taken", V.int i)] : List (Str × V))
  rw [if_neg kit]
  rfl
theorem tf_int (l : Addr) (i : Int) : (tf l i).lookup ("integers" : Str) = some (.ref l) := by
  unfold tf
  rw [lookup_putF, if_neg kit, lookup_putF, if_pos rfl]
theorem tf_tak (l : Addr) (i : Int) : (tf l i).lookup ("taken" : Str) = some (.int i) := by
  unfold tf
  rw [lookup_putF, if_pos rfl]
theorem tf_no (l : Addr) (i : Int) {m : Str} (h1 : ¬ m = "taken") (h2 : ¬ m = "integers") : (tf l i).lookup m = none := by
  unfold tf
  rw [lookup_putF, if_neg h1, lookup_putF, if_neg h2]
  rfl
theorem tf_put (l : Addr) (i j : Int) : putF "taken" (.int j) (tf l i) = tf l j := by
  rw [tf_eq, tf_eq]
  show (if ("integers" : Str) = "taken" then _ else (("integers" : Str), V.ref l) :: (if ("taken" : Str) = "taken" then [(("taken" : Str), V.int j)] else _)) = ([("integers", V.ref l), ("taken", V.int j)] : List (Str × V))
  rw [if_neg kit, if_pos rfl]
/-- a Taker at p, its list at l, with these integers left -/
def TkAt (C : Addr) (H : Hp) (p l : Addr) (rest : List Int) : Prop := ∃ (dx : Addr) (ns : List Int) (i : Nat), H p = some (.ins C dx (tf l (i : Int))) ∧ H l = some (.lst (ns.map V.int)) ∧ i ≤ ns.length ∧ ns.length ≤ 1000 ∧ ns.drop i = rest
theorem TkAt.keep {C : Addr} {H H' : Hp} {p l : Addr} {rest : List Int} (e : Same H H') (h : TkAt C H p l rest) : TkAt C H' p l rest := by
  obtain ⟨dx, ns, i, h1, h2, h3⟩ := h
  exact ⟨dx, ns, i, e _ _ h1, e _ _ h2, h3⟩
theorem TkAt.but {C o : Addr} {H H' : Hp} {p l : Addr} {rest : List Int} (e : But o H H') (hp : o ≠ p) (hl : o ≠ l) (h : TkAt C H p l rest) : TkAt C H' p l rest := by
  obtain ⟨dx, ns, i, h1, h2, h3⟩ := h
  exact ⟨dx, ns, i, e _ _ hp.symm h1, e _ _ hl.symm h2, h3⟩
theorem TkAt.len {C : Addr} {H : Hp} {p l : Addr} {rest : List Int} (h : TkAt C H p l rest) : rest.length ≤ 1000 := by
  obtain ⟨dx, ns, i, h1, h2, h3, h4, rfl⟩ := h
  rw [List.length_drop]
  omega
/-! ### what stands while an instance changes -/
theorem insTup {C dx : Addr} {fs : List (Str × V)} {K : PySem.W.Frag} {H H' : Hp} {o a : Addr} {ys : List V} (e : But o H H') (ho : H o = some (.ins C dx fs)) (h : SqT K H a ys) : SqT K H' a ys := by
  rcases h with (h | ⟨ob, h⟩) | h
  · exact .inl (.inl (e _ _ (ne_of h ho (by intro z; cases z)) h))
  · exact .inl (.inr ⟨ob, e _ _ (ne_of h ho (by intro z; cases z)) h⟩)
  · exact .inr h
section
variable {K : PySem.W.Frag} {H H' : Hp} {o : Addr} {C dx : Addr} {fs : List (Str × V)}
theorem TupI.ins {a ns} (e : But o H H') (ho : H o = some (.ins C dx fs)) (h : TupI K H a ns) : TupI K H' a ns := insTup e ho h
theorem DdAt.ins {a d} (e : But o H H') (ho : H o = some (.ins C dx fs)) (h : DdAt K H a d) : DdAt K H' a d := by
  obtain ⟨z, rest, h0, h1, h2⟩ := h
  refine ⟨z, rest, h0, insTup e ho h1, ?_⟩
  rcases h2 with ⟨h2, b, h3, h4⟩ | h2
  · exact .inl ⟨h2, b, h3, h4.ins e ho⟩
  · exact .inr h2
theorem EvAt.ins {a d} (e : But o H H') (ho : H o = some (.ins C dx fs)) (h : EvAt K H a d) : EvAt K H' a d := by
  obtain ⟨p, q, d, r, h1, h2, h3, h4, h5⟩ := h
  exact ⟨p, q, d, r, insTup e ho h1, h2.ins e ho, h3.ins e ho, h4.ins e ho, h5.ins e ho⟩
theorem RcAt.ins {a d} (e : But o H H') (ho : H o = some (.ins C dx fs)) (h : RcAt K H a d) : RcAt K H' a d := by
  obtain ⟨p, h1, h2⟩ := h
  exact ⟨p, insTup e ho h1, h2.ins e ho⟩
theorem RcAt.but {xs : List V} {a d} (e : But o H H') (ho : H o = some (.lst xs)) (h : RcAt K H a d) : RcAt K H' a d := by
  obtain ⟨p, h1, h2⟩ := h
  exact ⟨p, butTup e ho h1, h2.but e ho⟩
end
theorem inTk {C p l : Addr} {H : Hp} {rs : List Int} (h : TkAt C H p l rs) : ∃ dx i, H p = some (.ins C dx (tf l i)) := by
  obtain ⟨dx, _, i, h, _⟩ := h
  exact ⟨dx, _, h⟩
theorem lsTk {C p l : Addr} {H : Hp} {rs : List Int} (h : TkAt C H p l rs) : ∃ xs, H l = some (.lst xs) := by
  obtain ⟨dx, _, i, _, h, _⟩ := h
  exact ⟨_, h⟩
theorem evs_len_le : ∀ rs : List Ev, rs.length ≤ (rs.flatMap numE).length
  | [] => Nat.zero_le _
  | a :: r => by
    have ih := evs_len_le r
    rw [List.flatMap_cons, List.length_append, List.length_cons]
    have : 1 ≤ (numE a).length := by unfold numE; simp only [List.length_append, List.length_cons]; omega
    omega
theorem rows_len_le : ∀ rs : List (List Ev), rs.length ≤ (rs.flatMap numEs).length
  | [] => Nat.zero_le _
  | a :: r => by
    have ih := rows_len_le r
    rw [List.flatMap_cons, List.length_append, List.length_cons]
    have : 1 ≤ (numEs a).length := by unfold numEs; rw [List.length_cons]; omega
    omega
end Vs

namespace Vs
open PySem PySem.Spec PyProof.Rows L2
/-! ### == and != of data, whatever its texts -/
section
variable {X : Cx}
def rEqP (K : PySem.W.Frag) : R2 := fun x y H Q => ∃ d e, Dp K H x d ∧ Dp K H y e ∧ d.plain = true ∧ e.plain = true ∧ d.depth ≤ 64 ∧ Q (.bl (PyData.eqv d e)) H
def rNeP (K : PySem.W.Frag) : R2 := fun x y H Q => ∃ d e, Dp K H x d ∧ Dp K H y e ∧ d.plain = true ∧ e.plain = true ∧ d.depth ≤ 64 ∧ Q (.bl (!PyData.eqv d e)) H
theorem op_eqP (hu : X.A.units + 64 < cLine) : OpR X (compareOp .Eq) (rEqP X.K) := by
  intro pins s σ H x y v u Q I rx ry h
  obtain ⟨d, e, hd, he, sd, se, hz, q⟩ := h
  obtain ⟨as, r1⟩ := Dp.reads I d x v hd rx
  obtain ⟨bs, r2⟩ := Dp.reads I e y u he ry
  exact SeqAt.eq_plain r1 r2 sd se (Nat.lt_of_le_of_lt (Nat.add_le_add_left (Nat.le_trans (Nat.min_le_left _ _) hz) _) hu) ⟨.bl _, H, I, rfl, q⟩
theorem op_neP (hu : X.A.units + 64 < cLine) : OpR X (compareOp .NotEq) (rNeP X.K) := by
  intro pins s σ H x y v u Q I rx ry h
  obtain ⟨d, e, hd, he, sd, se, hz, q⟩ := h
  obtain ⟨as, r1⟩ := Dp.reads I d x v hd rx
  obtain ⟨bs, r2⟩ := Dp.reads I e y u he ry
  exact SeqAt.ne_plain r1 r2 sd se (Nat.lt_of_le_of_lt (Nat.add_le_add_left (Nat.le_trans (Nat.min_le_left _ _) hz) _) hu) ⟨.bl _, H, I, rfl, q⟩
end
theorem strs_all {K : PySem.W.Frag} {H : Hp} : ∀ ss : List Str, DpAll K H (ss.map V.str) (ss.map PyData.str)
  | [] => .nil
  | s :: r => .cons (.str s) (strs_all r)
theorem strs_dp {K : PySem.W.Frag} {H : Hp} {a : Addr} {ss : List Str} (h : SqL K H a (ss.map V.str)) : Dp K H (.ref a) (.list (ss.map PyData.str)) := .lst h (strs_all ss)
theorem strs_plain : ∀ ss : List Str, PyData.plainAll (ss.map PyData.str) = true
  | [] => rfl
  | s :: r => by
    show (true && PyData.plainAll (r.map PyData.str)) = true
    rw [strs_plain r]
    rfl
theorem strs_depth : ∀ ss : List Str, PyData.depthAll (ss.map PyData.str) ≤ 1
  | [] => Nat.zero_le _
  | s :: r => by
    show max (PyData.depth (PyData.str s)) (PyData.depthAll (r.map PyData.str)) ≤ 1
    have := strs_depth r
    have h : PyData.depth (PyData.str s) ≤ 1 := by simp [PyData.depth]
    omega
theorem strl_plain (ss : List Str) : (PyData.list (ss.map PyData.str)).plain = true := strs_plain ss
theorem strl_depth (ss : List Str) : (PyData.list (ss.map PyData.str)).depth ≤ 64 := by
  have := strs_depth ss
  simp only [PyData.depth]
  omega
end Vs

namespace Vs
open PySem PySem.Spec PyProof.Rows L2
/-! ### data, and when two of them are the same to the sign -/
inductive DV where
  | bl (b : Bool)
  | int (i : Int)
  | str (z : Str)
  | tup (xs : List DV)
  | lst (xs : List DV)
mutual
def sameV : DV → DV → Bool
  | .bl a, .bl b => a == b
  | .int a, .int b => a == b
  | .str a, .str b => a == b
  | .tup xs, .tup ys => sameVL xs ys
  | .lst xs, .lst ys => sameVL xs ys
  | .bl _, .int _ | .bl _, .str _ | .bl _, .tup _ | .bl _, .lst _ => false
  | .int _, .bl _ | .int _, .str _ | .int _, .tup _ | .int _, .lst _ => false
  | .str _, .bl _ | .str _, .int _ | .str _, .tup _ | .str _, .lst _ => false
  | .tup _, .bl _ | .tup _, .int _ | .tup _, .str _ | .tup _, .lst _ => false
  | .lst _, .bl _ | .lst _, .int _ | .lst _, .str _ | .lst _, .tup _ => false
def sameVL : List DV → List DV → Bool
  | [], [] => true
  | x :: xs, y :: ys => sameV x y && sameVL xs ys
  | [], _ :: _ => false
  | _ :: _, [] => false
end
mutual
def depV : DV → Nat
  | .tup xs | .lst xs => depVL xs + 1
  | .bl _ | .int _ | .str _ => 1
def depVL : List DV → Nat
  | [] => 0
  | x :: xs => max (depV x) (depVL xs)
end
mutual
def Den (K : PySem.W.Frag) (H : Hp) : DV → V → Prop
  | .bl b, v => v = .bl b
  | .int i, v => v = .int i
  | .str z, v => v = .str z
  | .tup xs, v => ∃ a vs, v = .ref a ∧ SqT K H a vs ∧ vs.length ≤ 1000 ∧ DenL K H xs vs
  | .lst xs, v => ∃ a vs, v = .ref a ∧ SqL K H a vs ∧ vs.length ≤ 1000 ∧ DenL K H xs vs
def DenL (K : PySem.W.Frag) (H : Hp) : List DV → List V → Prop
  | [], vs => vs = []
  | d :: ds, vs => ∃ v r, vs = v :: r ∧ Den K H d v ∧ DenL K H ds r
end
mutual
theorem sameV_eq : ∀ d e : DV, sameV d e = true → d = e
  | .bl a, .bl b, h => by simp [sameV] at h; rw [h]
  | .int a, .int b, h => by simp [sameV] at h; rw [h]
  | .str a, .str b, h => by simp [sameV] at h; rw [h]
  | .tup xs, .tup ys, h => by rw [sameVL_eq xs ys (by simpa [sameV] using h)]
  | .lst xs, .lst ys, h => by rw [sameVL_eq xs ys (by simpa [sameV] using h)]
  | .bl _, .int _, h | .bl _, .str _, h | .bl _, .tup _, h | .bl _, .lst _, h => by simp [sameV] at h
  | .int _, .bl _, h | .int _, .str _, h | .int _, .tup _, h | .int _, .lst _, h => by simp [sameV] at h
  | .str _, .bl _, h | .str _, .int _, h | .str _, .tup _, h | .str _, .lst _, h => by simp [sameV] at h
  | .tup _, .bl _, h | .tup _, .int _, h | .tup _, .str _, h | .tup _, .lst _, h => by simp [sameV] at h
  | .lst _, .bl _, h | .lst _, .int _, h | .lst _, .str _, h | .lst _, .tup _, h => by simp [sameV] at h
theorem sameVL_eq : ∀ d e : List DV, sameVL d e = true → d = e
  | [], [], _ => rfl
  | x :: xs, y :: ys, h => by
    have h' : sameV x y = true ∧ sameVL xs ys = true := by simpa [sameVL] using h
    rw [sameV_eq x y h'.1, sameVL_eq xs ys h'.2]
  | [], _ :: _, h => by simp [sameVL] at h
  | _ :: _, [], h => by simp [sameVL] at h
end
mutual
theorem sameV_refl : ∀ d : DV, sameV d d = true
  | .bl a => by simp [sameV]
  | .int a => by simp [sameV]
  | .str a => by simp [sameV]
  | .tup xs => by rw [sameV]; exact sameVL_refl xs
  | .lst xs => by rw [sameV]; exact sameVL_refl xs
theorem sameVL_refl : ∀ d : List DV, sameVL d d = true
  | [] => by simp [sameVL]
  | x :: xs => by rw [sameVL, sameV_refl x, sameVL_refl xs]; rfl
end
theorem sameVL_at : ∀ {xs ys : List DV}, xs.length = ys.length → (∀ (i : Nat) x y, xs[i]? = some x → ys[i]? = some y → sameV x y = true) → sameVL xs ys = true
  | [], [], _, _ => by simp [sameVL]
  | x :: xs, y :: ys, hl, h => by
    rw [sameVL, h 0 x y rfl rfl, sameVL_at (Nat.succ.inj hl) fun i u v h1 h2 => h (i + 1) u v h1 h2]
    rfl
theorem sameVL_len : ∀ {xs ys : List DV}, xs.length ≠ ys.length → sameVL xs ys = false
  | [], [], h => absurd rfl h
  | x :: xs, y :: ys, h => by
    rw [sameVL, sameVL_len fun e => h (by rw [List.length_cons, List.length_cons, e]), Bool.and_false]
  | [], _ :: _, _ => by simp [sameVL]
  | _ :: _, [], _ => by simp [sameVL]
theorem sameVL_no : ∀ {xs ys : List DV} {i : Nat} {x y : DV}, xs[i]? = some x → ys[i]? = some y → sameV x y = false → sameVL xs ys = false
  | x :: xs, y :: ys, 0, _, _, h1, h2, h => by
    cases h1
    cases h2
    rw [sameVL, h]
    rfl
  | x :: xs, y :: ys, i + 1, u, v, h1, h2, h => by
    rw [sameVL, sameVL_no (i := i) h1 h2 h, Bool.and_false]
  | [], _, _, _, _, h1, _, _ => by simp at h1
  | _ :: _, [], _, _, _, _, h2, _ => by simp at h2
theorem depVL_at : ∀ {xs : List DV} {i : Nat} {x : DV}, xs[i]? = some x → depV x ≤ depVL xs
  | x :: xs, 0, _, h => by cases h; rw [depVL]; omega
  | x :: xs, i + 1, u, h => by
    have := depVL_at (xs := xs) (i := i) h
    rw [depVL]
    omega
  | [], _, _, h => by simp at h
section
variable {K : PySem.W.Frag} {H H' : Hp}
theorem DenL.len : ∀ {ds : List DV} {vs : List V}, DenL K H ds vs → vs.length = ds.length
  | [], _, h => by rw [DenL] at h; rw [h]; rfl
  | d :: ds, _, h => by
    rw [DenL] at h
    obtain ⟨v, r, rfl, _, h2⟩ := h
    rw [List.length_cons, List.length_cons, DenL.len h2]
theorem DenL.get : ∀ {ds : List DV} {vs : List V} {i : Nat} {d : DV}, DenL K H ds vs → ds[i]? = some d → ∃ v, vs[i]? = some v ∧ Den K H d v
  | d :: ds, _, 0, _, h, hi => by
    rw [DenL] at h
    obtain ⟨v, r, rfl, h1, _⟩ := h
    cases hi
    exact ⟨v, rfl, h1⟩
  | d :: ds, _, i + 1, e, h, hi => by
    rw [DenL] at h
    obtain ⟨v, r, rfl, _, h2⟩ := h
    exact DenL.get (i := i) h2 hi
  | [], _, _, _, _, hi => by simp at hi
theorem DenL.ints : ∀ {ns : List Int}, DenL K H (ns.map DV.int) (ns.map V.int)
  | [] => by rw [List.map_nil, DenL]; rfl
  | n :: r => by
    rw [List.map_cons, DenL]
    exact ⟨_, _, rfl, by rw [Den], DenL.ints⟩
theorem DenL.refs {α : Type} {P : Addr → α → Prop} {f : α → DV} (h : ∀ a x, P a x → Den K H (f x) (.ref a)) : ∀ {as : List Addr} {xs : List α}, Each P as xs → DenL K H (xs.map f) (as.map V.ref)
  | [], [], _ => by rw [List.map_nil, DenL]; rfl
  | a :: as, x :: xs, e => by
    rw [List.map_cons, DenL]
    exact ⟨_, _, rfl, h a x (e.2 0 a x rfl rfl), DenL.refs h ⟨Nat.succ.inj e.1, fun i b y h1 h2 => e.2 (i + 1) b y h1 h2⟩⟩
  | [], _ :: _, e => absurd e.1 (by simp)
  | _ :: _, [], e => absurd e.1 (by simp)
/-- the name of its type -/
def tyN : DV → String
  | .bl _ => "bool"
  | .int _ => "int"
  | .str _ => "str"
  | .tup _ => "tuple"
  | .lst _ => "list"
theorem Den.ty {d : DV} {v : V} (h : Den K H d v) : TyX K H v (.type (tyN d)) := by
  cases d with
  | bl b => rw [Den] at h; rw [h]; exact .base (.bl _)
  | int b => rw [Den] at h; rw [h]; exact .base (.int _)
  | str b => rw [Den] at h; rw [h]; exact .base (.str _)
  | tup xs => rw [Den] at h; obtain ⟨a, vs, rfl, h1, _⟩ := h; exact tyT h1
  | lst xs => rw [Den] at h; obtain ⟨a, vs, rfl, h1, _⟩ := h; exact tyL h1
theorem Den.int_ {i : Int} : Den K H (.int i) (.int i) := by rw [Den]
theorem Den.bl_ {i : Bool} : Den K H (.bl i) (.bl i) := by rw [Den]
theorem Den.str_ {i : Str} : Den K H (.str i) (.str i) := by rw [Den]
theorem Den.tup_ {a : Addr} {vs : List V} {ds : List DV} (h : SqT K H a vs) (hl : vs.length ≤ 1000) (e : DenL K H ds vs) : Den K H (.tup ds) (.ref a) := by rw [Den]; exact ⟨a, vs, rfl, h, hl, e⟩
theorem DenL.nil_ : DenL K H [] [] := by rw [DenL]
theorem DenL.cons_ {d : DV} {ds : List DV} {v : V} {vs : List V} (h : Den K H d v) (t : DenL K H ds vs) : DenL K H (d :: ds) (v :: vs) := by rw [DenL]; exact ⟨_, _, rfl, h, t⟩
/-! ### a letter as data -/
def dvI (ns : List Int) : DV := .tup (ns.map DV.int)
def dvD (d : Dd) : DV := .tup (.str (deedNames.getD d.place Str.empty) :: (if d.place = 8 then [dvI d.nums] else d.nums.map DV.int))
def dvE (e : Ev) : DV := .tup [.bl e.asleep, dvI e.shown, dvI e.after, dvD e.deed, dvI e.knows]
def dvR (r : Rc) : DV := .tup [.int r.dev, .int r.num, dvE r.ev]
def dvL (l : Lt) : DV := .tup [.int l.s, .int l.r, .int l.k, .int l.n, .tup (l.recs.map dvR)]
theorem denI {a ns} (h : TupI K H a ns) (hl : ns.length ≤ 1000) : Den K H (dvI ns) (.ref a) := Den.tup_ h (by rw [List.length_map]; exact hl) DenL.ints
theorem denD {a d} (h : DdAt K H a d) (hk : d.Ok) : Den K H (dvD d) (.ref a) := by
  have hl := hk.len
  obtain ⟨z, r, e, t, q⟩ := h
  have ez : deedNames.getD d.place Str.empty = z := by rw [List.getD_eq_getElem?_getD, e]; rfl
  unfold dvD
  rw [ez]
  rcases q with ⟨p8, b, rfl, h2⟩ | ⟨n8, rfl⟩
  · rw [if_pos p8]
    exact Den.tup_ t (by show 2 ≤ 1000; decide) (DenL.cons_ Den.str_ (DenL.cons_ (denI h2 (by omega)) DenL.nil_))
  · rw [if_neg n8]
    exact Den.tup_ t (by rw [List.length_cons, List.length_map]; omega) (DenL.cons_ Den.str_ DenL.ints)
theorem denE {a e} (h : EvAt K H a e) (hk : e.Ok) : Den K H (dvE e) (.ref a) := by
  have k1 := hk.s1; have k2 := hk.s2; have k3 := hk.s3
  obtain ⟨p, q, d, r, t, f1, f2, f3, f4⟩ := h
  exact Den.tup_ t (by show 5 ≤ 1000; decide) (DenL.cons_ Den.bl_ (DenL.cons_ (denI f1 (by omega)) (DenL.cons_ (denI f2 (by omega)) (DenL.cons_ (denD f3 hk.d) (DenL.cons_ (denI f4 (by omega)) DenL.nil_)))))
theorem denR {a r} (h : RcAt K H a r) (hk : r.Ok) : Den K H (dvR r) (.ref a) := by
  obtain ⟨e, t, f⟩ := h
  exact Den.tup_ t (by show 3 ≤ 1000; decide) (DenL.cons_ Den.int_ (DenL.cons_ Den.int_ (DenL.cons_ (denE f hk.e) DenL.nil_)))
theorem denL {a l} (h : LtAt K H a l) (hk : l.Ok) : Den K H (dvL l) (.ref a) := by
  have hl := hk.len
  obtain ⟨b, as, t, f, g⟩ := h
  refine Den.tup_ t (by show 5 ≤ 1000; decide) (DenL.cons_ Den.int_ (DenL.cons_ Den.int_ (DenL.cons_ Den.int_ (DenL.cons_ Den.int_ (DenL.cons_ (Den.tup_ f (by rw [List.length_map, g.1]; omega) ?_) DenL.nil_)))))
  exact DenL.refs (P := fun a r => RcAt K H a r ∧ r.Ok) (fun a r h => denR h.1 h.2) ⟨g.1, fun i b y h1 h2 => ⟨g.2 i b y h1 h2, hk.rs y (List.mem_of_getElem? h2)⟩⟩
end
theorem int_inj {as bs : List Int} (h : as.map DV.int = bs.map DV.int) : as = bs := by
  induction as generalizing bs with
  | nil =>
    cases bs with
    | nil => rfl
    | cons b r => simp at h
  | cons a r ih =>
    cases bs with
    | nil => simp at h
    | cons b s =>
      rw [List.map_cons, List.map_cons] at h
      injection h with h1 h2
      injection h1 with h1
      rw [h1, ih h2]
theorem dvI_inj {as bs : List Int} (h : dvI as = dvI bs) : as = bs := by
  unfold dvI at h
  injection h with h
  exact int_inj h
theorem dvD_inj {a b : Dd} (ha : a.place < 9) (hb : b.place < 9) (h : dvD a = dvD b) : a = b := by
  unfold dvD at h
  injection h with h
  injection h with h1 h2
  injection h1 with h1
  have e1 : deedNames[a.place]? = some (deedNames.getD a.place Str.empty) := by rw [List.getD_eq_getElem?_getD, List.getElem?_eq_getElem (by rw [dn_len]; exact ha)]; rfl
  have e2 : deedNames[b.place]? = some (deedNames.getD b.place Str.empty) := by rw [List.getD_eq_getElem?_getD, List.getElem?_eq_getElem (by rw [dn_len]; exact hb)]; rfl
  rw [h1] at e1
  have hp := nd_ix dn_nodup e1 e2
  have hn : a.nums = b.nums := by
    by_cases h8 : b.place = 8
    · rw [if_pos (hp.trans h8), if_pos h8] at h2
      injection h2 with h2
      exact dvI_inj h2
    · rw [if_neg (fun e => h8 (hp ▸ e)), if_neg h8] at h2
      exact int_inj h2
  cases a; cases b
  simp only at hp hn
  rw [hp, hn]
theorem dvE_inj {a b : Ev} (ha : a.Ok) (hb : b.Ok) (h : dvE a = dvE b) : a = b := by
  unfold dvE at h
  injection h with h
  injection h with h1 h
  injection h with h2 h
  injection h with h3 h
  injection h with h4 h
  injection h with h5 h
  injection h1 with h1
  have e2 := dvI_inj h2
  have e3 := dvI_inj h3
  have e4 := dvD_inj ha.d.pl hb.d.pl h4
  have e5 := dvI_inj h5
  cases a; cases b
  simp only at h1 e2 e3 e4 e5
  rw [h1, e2, e3, e4, e5]
theorem dvR_inj {a b : Rc} (ha : a.Ok) (hb : b.Ok) (h : dvR a = dvR b) : a = b := by
  unfold dvR at h
  injection h with h
  injection h with h1 h
  injection h with h2 h
  injection h with h3 h
  injection h1 with h1
  injection h2 with h2
  have e3 := dvE_inj ha.e hb.e h3
  cases a; cases b
  simp only at h1 h2 e3
  rw [h1, h2, e3]
theorem recs_inj : ∀ {as bs : List Rc}, (∀ r ∈ as, r.Ok) → (∀ r ∈ bs, r.Ok) → as.map dvR = bs.map dvR → as = bs
  | [], [], _, _, _ => rfl
  | [], _ :: _, _, _, h => by simp at h
  | _ :: _, [], _, _, h => by simp at h
  | a :: as, b :: bs, ha, hb, h => by
    rw [List.map_cons, List.map_cons] at h
    injection h with h1 h2
    rw [dvR_inj (ha a List.mem_cons_self) (hb b List.mem_cons_self) h1, recs_inj (fun r hr => ha r (List.mem_cons_of_mem _ hr)) (fun r hr => hb r (List.mem_cons_of_mem _ hr)) h2]
theorem dvL_inj {a b : Lt} (ha : a.Ok) (hb : b.Ok) (h : dvL a = dvL b) : a = b := by
  unfold dvL at h
  injection h with h
  injection h with h1 h
  injection h with h2 h
  injection h with h3 h
  injection h with h4 h
  injection h with h5 h
  injection h1 with h1
  injection h2 with h2
  injection h3 with h3
  injection h4 with h4
  injection h5 with h5
  have e5 := recs_inj ha.rs hb.rs h5
  cases a; cases b
  simp only at h1 h2 h3 h4 e5
  rw [h1, h2, h3, h4, e5]
/-! ### the integers tell the letter -/
theorem numSeq_inj {as bs r s : List Int} (h : numSeq as ++ r = numSeq bs ++ s) : as = bs ∧ r = s := by
  unfold numSeq at h
  rw [List.cons_append, List.cons_append] at h
  injection h with h1 h2
  exact List.append_inj h2 (by omega)
theorem numD_inj {a b : Dd} {r s : List Int} (ha : a.Ok) (hb : b.Ok) (h : numD a ++ r = numD b ++ s) : a = b ∧ r = s := by
  unfold numD at h
  rw [List.cons_append, List.cons_append] at h
  injection h with h1 h2
  have hp : a.place = b.place := by omega
  have key : a.nums = b.nums ∧ r = s := by
    by_cases h8 : b.place = 8
    · rw [if_pos (hp.trans h8), if_pos h8] at h2
      exact numSeq_inj h2
    · rw [if_neg (fun e => h8 (hp ▸ e)), if_neg h8] at h2
      exact List.append_inj h2 (by rw [ha.ar (fun e => h8 (hp ▸ e)), hb.ar h8, hp])
  refine ⟨?_, key.2⟩
  cases a; cases b
  simp only at hp key
  rw [hp, key.1]
theorem b2n_inj {a b : Bool} (h : b2n a = b2n b) : a = b := by
  cases a <;> cases b <;> first | rfl | (exact absurd h (by decide))
theorem numE_app' (e : Ev) (rest : List Int) : numE e ++ rest = b2n e.asleep :: (numSeq e.shown ++ (numSeq e.after ++ (numD e.deed ++ (numSeq e.knows ++ rest)))) := by
  unfold numE
  simp only [List.append_assoc]
  rfl
theorem numE_inj {a b : Ev} {r s : List Int} (ha : a.Ok) (hb : b.Ok) (h : numE a ++ r = numE b ++ s) : a = b ∧ r = s := by
  rw [numE_app', numE_app'] at h
  injection h with h1 h
  obtain ⟨h2, h⟩ := numSeq_inj h
  obtain ⟨h3, h⟩ := numSeq_inj h
  obtain ⟨h4, h⟩ := numD_inj ha.d hb.d h
  obtain ⟨h5, h⟩ := numSeq_inj h
  have e1 := b2n_inj h1
  refine ⟨?_, h⟩
  cases a; cases b
  simp only at e1 h2 h3 h4 h5
  rw [e1, h2, h3, h4, h5]
theorem numR_inj {a b : Rc} {r s : List Int} (ha : a.Ok) (hb : b.Ok) (h : numR a ++ r = numR b ++ s) : a = b ∧ r = s := by
  have h' : a.dev :: a.num :: (numE a.ev ++ r) = b.dev :: b.num :: (numE b.ev ++ s) := h
  injection h' with h1 h'
  injection h' with h2 h'
  obtain ⟨h3, h⟩ := numE_inj ha.e hb.e h'
  refine ⟨?_, h⟩
  cases a; cases b
  simp only at h1 h2 h3
  rw [h1, h2, h3]
theorem numRs_inj : ∀ {as bs : List Rc}, (∀ r ∈ as, r.Ok) → (∀ r ∈ bs, r.Ok) → as.length = bs.length → as.flatMap numR = bs.flatMap numR → as = bs
  | [], [], _, _, _, _ => rfl
  | [], _ :: _, _, _, h, _ => by simp at h
  | _ :: _, [], _, _, h, _ => by simp at h
  | a :: as, b :: bs, ha, hb, hl, h => by
    rw [List.flatMap_cons, List.flatMap_cons] at h
    obtain ⟨h1, h2⟩ := numR_inj (ha a List.mem_cons_self) (hb b List.mem_cons_self) h
    rw [h1, numRs_inj (fun r hr => ha r (List.mem_cons_of_mem _ hr)) (fun r hr => hb r (List.mem_cons_of_mem _ hr)) (Nat.succ.inj hl) h2]
theorem numL_inj {a b : Lt} (ha : a.Ok) (hb : b.Ok) (h : numL a = numL b) : a = b := by
  have h' : a.s :: a.r :: a.k :: a.n :: (a.recs.length : Int) :: a.recs.flatMap numR = b.s :: b.r :: b.k :: b.n :: (b.recs.length : Int) :: b.recs.flatMap numR := h
  injection h' with h1 h'
  injection h' with h2 h'
  injection h' with h3 h'
  injection h' with h4 h'
  injection h' with h5 h'
  have e6 := numRs_inj ha.rs hb.rs (by omega) h'
  cases a; cases b
  simp only at h1 h2 h3 h4 e6
  rw [h1, h2, h3, h4, e6]
theorem words_inj : ∀ {as bs : List Int}, (∀ n ∈ as, In18 n) → (∀ n ∈ bs, In18 n) → words as = words bs → as = bs
  | [], [], _, _, _ => rfl
  | [], _ :: _, _, _, h => by simp [words] at h
  | _ :: _, [], _, _, h => by simp [words] at h
  | a :: as, b :: bs, ha, hb, h => by
    unfold words at h
    rw [List.map_cons, List.map_cons] at h
    injection h with h1 h2
    have e1 := wd_int (ha a List.mem_cons_self)
    have e2 := wd_int (hb b List.mem_cons_self)
    have h1 : wd a = wd b := h1
    rw [h1, e2] at e1
    rw [Option.some.inj e1, words_inj (fun r hr => ha r (List.mem_cons_of_mem _ hr)) (fun r hr => hb r (List.mem_cons_of_mem _ hr)) h2]
theorem text_inj {hd : Str} {as bs : List Int} (hf : (10 : Nat) ∉ TL.tl hd) (ha : ∀ n ∈ as, In18 n) (hb : ∀ n ∈ bs, In18 n) (na : as ≠ []) (nb : bs ≠ []) (h : textOf hd as = textOf hd bs) : as = bs := by
  have e1 := text_split (ns := as) hf
  have e2 := text_split (ns := bs) hf
  rw [h, e2] at e1
  injection e1 with _ e1
  injection e1 with e1 _
  have w1 := words_split na
  have w2 := words_split nb
  rw [← e1, w2] at w1
  exact (words_inj hb ha w1).symm
theorem letter_text_iff {a b : Lt} (ha : a.Ok) (hb : b.Ok) : decide (V.str (textOf "whensure letter" (numL a)) = V.str (textOf "whensure letter" (numL b))) = sameV (dvL a) (dvL b) := by
  by_cases h : a = b
  · rw [h, sameV_refl, decide_eq_true rfl]
  · have h1 : sameV (dvL a) (dvL b) = false := by
      cases e : sameV (dvL a) (dvL b) with
      | false => rfl
      | true => exact absurd (dvL_inj ha hb (sameV_eq _ _ e)) h
    rw [h1]
    refine decide_eq_false fun e => h ?_
    injection e with e
    exact numL_inj ha hb (text_inj (by decide +kernel) (numL_in ha) (numL_in hb) (by unfold numL; simp) (by unfold numL; simp) e)

theorem ifIntT {a b : Int} {A B : Prop} (h : a = b) (x : A) : if decide (V.int a = V.int b) = true then A else B := by
  rw [decide_eq_true (show V.int a = V.int b by rw [h])]
  exact iteT x
theorem ifIntF {a b : Int} {A B : Prop} (h : a ≠ b) (x : B) : if decide (V.int a = V.int b) = true then A else B := by
  rw [decide_eq_false (show ¬ V.int a = V.int b from fun e => h (by injection e))]
  exact iteF x
theorem depVL_le {n : Nat} : ∀ {xs : List DV}, (∀ x ∈ xs, depV x ≤ n) → depVL xs ≤ n
  | [], _ => by rw [depVL]; exact Nat.zero_le _
  | x :: xs, h => by
    have h1 := h x List.mem_cons_self
    have h2 := depVL_le (xs := xs) fun y hy => h y (List.mem_cons_of_mem _ hy)
    rw [depVL]
    omega
theorem dep_ints (ns : List Int) : depVL (ns.map DV.int) ≤ 1 := depVL_le fun x hx => by
  obtain ⟨n, _, rfl⟩ := List.mem_map.mp hx
  rw [depV]
  omega
theorem dep_I (ns : List Int) : depV (dvI ns) ≤ 2 := by
  have := dep_ints ns
  unfold dvI
  rw [depV]
  omega
theorem dep_D (d : Dd) : depV (dvD d) ≤ 3 := by
  unfold dvD
  rw [depV, depVL, depV]
  split
  · have := dep_I d.nums
    rw [depVL, depVL]
    omega
  · have := dep_ints d.nums
    omega
theorem dep_E (e : Ev) : depV (dvE e) ≤ 4 := by
  have h1 := dep_I e.shown; have h2 := dep_I e.after; have h3 := dep_D e.deed; have h4 := dep_I e.knows
  unfold dvE
  rw [depV, depVL, depVL, depVL, depVL, depVL, depVL, depV]
  omega
theorem dep_R (r : Rc) : depV (dvR r) ≤ 5 := by
  have h1 := dep_E r.ev
  unfold dvR
  rw [depV, depVL, depVL, depVL, depVL, depV, depV]
  omega
theorem dep_L (l : Lt) : depV (dvL l) ≤ 7 := by
  have h1 : depVL (l.recs.map dvR) ≤ 5 := depVL_le fun x hx => by
    obtain ⟨r, _, rfl⟩ := List.mem_map.mp hx
    exact dep_R r
  unfold dvL
  rw [depV, depVL, depVL, depVL, depVL, depVL, depVL, depV, depV, depV, depV, depV]
  omega
theorem kitAll : ∀ t ∈ ["bool", "int", "str", "tuple", "list"], kitB t "bool" = some (t == "bool") ∧ kitB t "int" = some (t == "int" || t == "bool") ∧ kitB t "str" = some (t == "str") ∧ kitB t "tuple" = some (t == "tuple") ∧ kitB t "list" = some (t == "list") := by decide +kernel
theorem tyN_mem (d : DV) : tyN d ∈ ["bool", "int", "str", "tuple", "list"] := by cases d <;> simp [tyN]
theorem kB (d : DV) : kitB (tyN d) "bool" = some (tyN d == "bool") := (kitAll _ (tyN_mem d)).1
theorem kI (d : DV) : kitB (tyN d) "int" = some (tyN d == "int" || tyN d == "bool") := (kitAll _ (tyN_mem d)).2.1
theorem kS (d : DV) : kitB (tyN d) "str" = some (tyN d == "str") := (kitAll _ (tyN_mem d)).2.2.1
theorem kT (d : DV) : kitB (tyN d) "tuple" = some (tyN d == "tuple") := (kitAll _ (tyN_mem d)).2.2.2.1
theorem kL (d : DV) : kitB (tyN d) "list" = some (tyN d == "list") := (kitAll _ (tyN_mem d)).2.2.2.2
theorem Each.take {α : Type} {P : Addr → α → Prop} {as xs} (h : Each P as xs) (n : Nat) : Each P (as.take n) (xs.take n) := by
  refine ⟨by rw [List.length_take, List.length_take, h.1], fun i a x h1 h2 => ?_⟩
  have hi : i < n := by
    have := (List.getElem?_eq_some_iff.mp h1).1
    rw [List.length_take] at this
    omega
  rw [List.getElem?_take_of_lt hi] at h1 h2
  exact h.2 i a x h1 h2
theorem Each.drop {α : Type} {P : Addr → α → Prop} {as xs} (h : Each P as xs) (n : Nat) : Each P (as.drop n) (xs.drop n) := by
  refine ⟨by rw [List.length_drop, List.length_drop, h.1], fun i a x h1 h2 => ?_⟩
  rw [List.getElem?_drop] at h1 h2
  exact h.2 _ a x h1 h2
theorem Each.append {α : Type} {P : Addr → α → Prop} {as xs bs ys} (h : Each P as xs) (h' : Each P bs ys) : Each P (as ++ bs) (xs ++ ys) := by
  refine ⟨by rw [List.length_append, List.length_append, h.1, h'.1], fun i a x h1 h2 => ?_⟩
  by_cases hi : i < as.length
  · rw [List.getElem?_append_left hi] at h1
    rw [List.getElem?_append_left (by rw [← h.1]; exact hi)] at h2
    exact h.2 i a x h1 h2
  · rw [List.getElem?_append_right (by omega)] at h1
    rw [List.getElem?_append_right (by rw [← h.1]; omega), ← h.1] at h2
    exact h'.2 _ a x h1 h2
theorem Each.set {α : Type} {P : Addr → α → Prop} {as xs} (h : Each P as xs) {j : Nat} {a : Addr} {x : α} (p : P a x) : Each P (as.set j a) (xs.set j x) := by
  refine ⟨by rw [List.length_set, List.length_set, h.1], fun i b y h1 h2 => ?_⟩
  by_cases hij : j = i
  · subst hij
    have hj : j < as.length := by
      have := (List.getElem?_eq_some_iff.mp h1).1
      rw [List.length_set] at this
      exact this
    rw [List.getElem?_set_self hj] at h1
    rw [List.getElem?_set_self (by rw [← h.1]; exact hj)] at h2
    cases h1
    cases h2
    exact p
  · rw [List.getElem?_set_ne hij] at h1 h2
    exact h.2 i b y h1 h2

theorem ixn {n j : Nat} (hj : j < n) : ixN n (j : Int) = some j := by
  unfold ixN
  rw [if_pos (by omega), if_pos (by omega)]
  rfl
end Vs

namespace Vs
open PySem PySem.Spec PyProof.Rows L2
/-! ### what a frame holds -/
structure Kd where
  name : Str
  low : Int
  high : Option Int
structure Cl where
  name : Str
  dev : Int
  goes : Bool
  kinds : List Kd
structure Lk where
  name : Str
  s : Int
  r : Int
  kinds : List Kd
structure Sr where
  name : Str
  dev : Int
  kinds : List Kd
structure Fm where
  devices : List Str
  clocks : List Cl
  links : List Lk
  sources : List Sr
  faults : Int
def hiV : Option Int → V
  | some h => .int h
  | none => .non
def KdAt (K : PySem.W.Frag) (H : Hp) (a : Addr) (k : Kd) : Prop := SqT K H a [.str k.name, .int k.low, hiV k.high]
def KsAt (K : PySem.W.Frag) (H : Hp) (a : Addr) (ks : List Kd) : Prop := ∃ as, SqT K H a (as.map V.ref) ∧ Each (KdAt K H) as ks
def ClAt (K : PySem.W.Frag) (H : Hp) (a : Addr) (c : Cl) : Prop := ∃ t, SqT K H a [.str c.name, .int c.dev, .bl c.goes, .ref t] ∧ KsAt K H t c.kinds
def LkAt (K : PySem.W.Frag) (H : Hp) (a : Addr) (c : Lk) : Prop := ∃ t, SqT K H a [.str c.name, .int c.s, .int c.r, .ref t] ∧ KsAt K H t c.kinds
def SrAt (K : PySem.W.Frag) (H : Hp) (a : Addr) (c : Sr) : Prop := ∃ t, SqT K H a [.str c.name, .int c.dev, .ref t] ∧ KsAt K H t c.kinds
structure Kd.Ok (k : Kd) : Prop where
  nm : k.name.length ≤ 12
  lo : In18 k.low
  hi : ∀ h, k.high = some h → In18 h
structure KsOk (ks : List Kd) : Prop where
  len : ks.length ≤ 4
  ok : ∀ k ∈ ks, k.Ok
/-- a number that names one of n devices -/
def DevOk (n : Nat) (d : Int) : Prop := 0 ≤ d ∧ d < (n : Int)
structure Cl.Ok (n : Nat) (c : Cl) : Prop where
  nm : c.name.length ≤ 12
  dv : DevOk n c.dev
  ks : KsOk c.kinds
structure Lk.Ok (n : Nat) (c : Lk) : Prop where
  nm : c.name.length ≤ 12
  ds : DevOk n c.s
  dr : DevOk n c.r
  ks : KsOk c.kinds
structure Sr.Ok (n : Nat) (c : Sr) : Prop where
  nm : c.name.length ≤ 12
  dv : DevOk n c.dev
  ks : KsOk c.kinds
structure Fm.Ok (F : Fm) : Prop where
  dl : F.devices.length ≤ 6
  dn : ∀ z ∈ F.devices, z.length ≤ 12
  cl : F.clocks.length ≤ 9
  ll : F.links.length ≤ 9
  sl : F.sources.length ≤ 9
  c : ∀ c ∈ F.clocks, c.Ok F.devices.length
  l : ∀ c ∈ F.links, c.Ok F.devices.length
  s : ∀ c ∈ F.sources, c.Ok F.devices.length
  f0 : 0 ≤ F.faults
  f2 : F.faults ≤ 2
/-- a frame's five places: the lists, and what they hold -/
structure FmIn (K : PySem.W.Frag) (H : Hp) (d c l s : Addr) (F : Fm) : Prop where
  d : H d = some (.lst (F.devices.map V.str))
  c : ∃ as, H c = some (.lst (as.map V.ref)) ∧ Each (ClAt K H) as F.clocks
  l : ∃ as, H l = some (.lst (as.map V.ref)) ∧ Each (LkAt K H) as F.links
  s : ∃ as, H s = some (.lst (as.map V.ref)) ∧ Each (SrAt K H) as F.sources
def FmAt (K : PySem.W.Frag) (H : Hp) (a : Addr) (F : Fm) : Prop := ∃ d c l s, SqT K H a [.ref d, .ref c, .ref l, .ref s, .int F.faults] ∧ FmIn K H d c l s F
section
variable {K : PySem.W.Frag} {H H' : Hp}
theorem KdAt.keep {a k} (e : Same H H') (h : KdAt K H a k) : KdAt K H' a k := sTup e h
theorem KsAt.keep {a k} (e : Same H H') (h : KsAt K H a k) : KsAt K H' a k := by
  obtain ⟨as, h1, h2⟩ := h
  exact ⟨as, sTup e h1, h2.keep fun _ _ z => z.keep e⟩
theorem ClAt.keep {a k} (e : Same H H') (h : ClAt K H a k) : ClAt K H' a k := by
  obtain ⟨t, h1, h2⟩ := h
  exact ⟨t, sTup e h1, h2.keep e⟩
theorem LkAt.keep {a k} (e : Same H H') (h : LkAt K H a k) : LkAt K H' a k := by
  obtain ⟨t, h1, h2⟩ := h
  exact ⟨t, sTup e h1, h2.keep e⟩
theorem SrAt.keep {a k} (e : Same H H') (h : SrAt K H a k) : SrAt K H' a k := by
  obtain ⟨t, h1, h2⟩ := h
  exact ⟨t, sTup e h1, h2.keep e⟩
variable {o : Addr} {xs : List V}
theorem KdAt.but {a k} (e : But o H H') (ho : H o = some (.lst xs)) (h : KdAt K H a k) : KdAt K H' a k := butTup e ho h
theorem KsAt.but {a k} (e : But o H H') (ho : H o = some (.lst xs)) (h : KsAt K H a k) : KsAt K H' a k := by
  obtain ⟨as, h1, h2⟩ := h
  exact ⟨as, butTup e ho h1, h2.keep fun _ _ z => z.but e ho⟩
theorem ClAt.but {a k} (e : But o H H') (ho : H o = some (.lst xs)) (h : ClAt K H a k) : ClAt K H' a k := by
  obtain ⟨t, h1, h2⟩ := h
  exact ⟨t, butTup e ho h1, h2.but e ho⟩
theorem LkAt.but {a k} (e : But o H H') (ho : H o = some (.lst xs)) (h : LkAt K H a k) : LkAt K H' a k := by
  obtain ⟨t, h1, h2⟩ := h
  exact ⟨t, butTup e ho h1, h2.but e ho⟩
theorem SrAt.but {a k} (e : But o H H') (ho : H o = some (.lst xs)) (h : SrAt K H a k) : SrAt K H' a k := by
  obtain ⟨t, h1, h2⟩ := h
  exact ⟨t, butTup e ho h1, h2.but e ho⟩
theorem FmIn.keep {d c l s F} (e : Same H H') (h : FmIn K H d c l s F) : FmIn K H' d c l s F := by
  obtain ⟨h0, ⟨a1, h1, g1⟩, ⟨a2, h2, g2⟩, ⟨a3, h3, g3⟩⟩ := h
  exact ⟨e _ _ h0, ⟨a1, e _ _ h1, g1.keep fun _ _ z => z.keep e⟩, ⟨a2, e _ _ h2, g2.keep fun _ _ z => z.keep e⟩, ⟨a3, e _ _ h3, g3.keep fun _ _ z => z.keep e⟩⟩
theorem FmAt.keep {a F} (e : Same H H') (h : FmAt K H a F) : FmAt K H' a F := by
  obtain ⟨d, c, l, s, h1, h2⟩ := h
  exact ⟨d, c, l, s, sTup e h1, h2.keep e⟩
end
/-! ### the drawn rows -/
def RowsAt (H : Hp) (r : Addr) : Prop := ∃ ns : List Int, H r = some (.lst (ns.map V.int)) ∧ ns.length = 26
theorem RowsAt.lst {H : Hp} {r : Addr} (h : RowsAt H r) : ∃ xs, H r = some (.lst xs) := by
  obtain ⟨ns, h, _⟩ := h
  exact ⟨_, h⟩
theorem RowsAt.keep {H H' : Hp} {r : Addr} (e : Same H H') (h : RowsAt H r) : RowsAt H' r := by
  obtain ⟨ns, h, h2⟩ := h
  exact ⟨ns, e _ _ h, h2⟩
theorem RowsAt.but {H H' : Hp} {r o : Addr} (e : But o H H') (n : r ≠ o) (h : RowsAt H r) : RowsAt H' r := by
  obtain ⟨ns, h, h2⟩ := h
  exact ⟨ns, e _ _ n h, h2⟩
theorem But.upd {r : Addr} {H H' : Hp} {p : Addr} {o : HO} (b : But r H H') (h : H p = none) : But r H (upd H' p o) := fun c w hc hw => by
  rw [upd_ne (ne_of_none hw h)]
  exact b c w hc hw
theorem But.free {r : Addr} {H H' : Hp} {p : Addr} (b : But r H H') (hr : p ≠ r) (h : H' p = none) : H p = none := by
  cases e : H p with
  | none => rfl
  | some w => rw [b _ _ hr e] at h; cases h
theorem flat_strs : ∀ ss : List Str, (ss.map V.str).all flatV = true
  | [] => rfl
  | s :: r => by
    show (true && (r.map V.str).all flatV) = true
    rw [flat_strs r]
    rfl
theorem str_get {ss : List Str} {i : Nat} {x : V} (h : (ss.map V.str)[i]? = some x) : ∃ hi : i < ss.length, x = V.str ss[i] := by
  have hi := (List.getElem?_eq_some_iff.mp h).1
  rw [List.length_map] at hi
  refine ⟨hi, ?_⟩
  rw [List.getElem?_map, List.getElem?_eq_getElem hi] at h
  exact (Option.some.inj h).symm
theorem str_at {ss : List Str} {j : Int} (h0 : 0 ≤ j) (h1 : j < (ss.length : Int)) : ∃ z ∈ ss, atI (ss.map V.str) j = some (.str z) := by
  have hi : j.toNat < ss.length := by omega
  exact ⟨ss[j.toNat], List.getElem_mem hi, at_of (j := j.toNat) (by omega) (by rw [List.getElem?_map, List.getElem?_eq_getElem hi]; rfl)⟩
theorem sign_at {z : Str} {j : Int} (h0 : 0 ≤ j) (h1 : j < (z.length : Int)) : ∃ c : Nat, atI z.cps.toList j = some c := by
  have hl : z.cps.toList.length = z.length := (TL.len_tl z).symm
  have e : j = ((j.toNat : Nat) : Int) := by omega
  rw [e]
  exact ⟨_, atI_nat (List.getElem?_eq_getElem (by rw [hl]; omega))⟩
theorem cutS_le {z : Str} {n : Nat} : (cutS z none (some (n : Int))).length ≤ n := by
  rw [TL.len_tl]
  unfold cutS
  show (List.take _ (List.drop _ _)).length ≤ n
  rw [List.length_take, HT.sIx_nat]
  omega
theorem menu_int {xs : List Int} {j : Int} (h0 : 0 ≤ j) (h1 : j < (xs.length : Int)) : ∃ z ∈ xs, atI (xs.map V.int) j = some (.int z) := by
  have hi : j.toNat < xs.length := by omega
  exact ⟨xs[j.toNat], List.getElem_mem hi, at_of (j := j.toNat) (by omega) (by rw [List.getElem?_map, List.getElem?_eq_getElem hi]; rfl)⟩
end Vs

namespace Vs
open PySem PySem.Spec PyProof.Rows L2
/-- a text made of parts -/
def tJoin (ts : List TE) : TE := fun σ H Q => tJs ts Str.empty σ H fun out H1 => Q (.str out) H1
theorem pe_joinedD {X : Cx} {v1 v2 : Expr} {rest : List Expr} {ts : List TE} {pos : Pos} (h : PJ X (v1 :: v2 :: rest) ts) : PE X (.JoinedStr (v1 :: v2 :: rest) pos) (tJoin ts) := pe_joined h
/-! ### the lines of a frame -/
def numW : Option Int → Str
  | some h => toString h
  | none => "none"
def kdLine (k : Kd) : Str := "kind " ++ k.name ++ " " ++ numW (some k.low) ++ " " ++ numW k.high
def devAt (ds : List Str) (d : Int) : Str := ds.getD d.toNat ""
def clHead (ds : List Str) (c : Cl) : Str := "clock " ++ c.name ++ " of " ++ devAt ds c.dev ++ (if c.goes = true then Str.ofString " goes on asleep" else Str.ofString "")
def lkHead (ds : List Str) (c : Lk) : Str := "link " ++ c.name ++ " from " ++ devAt ds c.s ++ " to " ++ devAt ds c.r
def srHead (ds : List Str) (c : Sr) : Str := "source " ++ c.name ++ " at " ++ devAt ds c.dev
def clLines (ds : List Str) (c : Cl) : List Str := clHead ds c :: c.kinds.map kdLine
def lkLines (ds : List Str) (c : Lk) : List Str := lkHead ds c :: c.kinds.map kdLine
def srLines (ds : List Str) (c : Sr) : List Str := srHead ds c :: c.kinds.map kdLine
def dvLine (z : Str) : Str := "device " ++ z
def ftLines (n : Int) : List Str := if n = 0 then [] else ["faults " ++ numW (some n)]
def linesF (F : Fm) : List Str := F.devices.map dvLine ++ F.clocks.flatMap (clLines F.devices) ++ F.links.flatMap (lkLines F.devices) ++ F.sources.flatMap (srLines F.devices) ++ ftLines F.faults
/-- the lines, a line feed behind each -/
def textF (ls : List Str) : Str := ls.foldl (fun (t l : Str) => t ++ l ++ "\n") Str.empty
theorem empty_add (x : Str) : Str.empty ++ x = x := by
  show Str.append _ _ = x
  cases x with
  | mk cs => simp [Str.append, Str.empty]
theorem nil_eq : Str.ofString "" = Str.empty := by decide +kernel
theorem add_empty (x : Str) : x ++ (Str.ofString "" : Str) = x := by
  rw [nil_eq]
  show Str.append _ _ = x
  cases x with
  | mk cs => simp [Str.append, Str.empty]
theorem add_assoc (x y z : Str) : x ++ y ++ z = x ++ (y ++ z) := by
  show Str.append (Str.append _ _) _ = Str.append _ (Str.append _ _)
  simp [Str.append, Array.append_assoc]
theorem numW_len {o : Option Int} (h : ∀ i, o = some i → In18 i) : (numW o).length ≤ 19 := by
  cases o with
  | none => exact (by decide +kernel : (Str.ofString "none").length ≤ 19)
  | some i => exact word_len (h i rfl)
theorem lit_len {s : Str} {n : Nat} (h : s.length = n := by decide +kernel) : s.length = n := h
theorem kdLine_len {k : Kd} (h : k.Ok) : (kdLine k).length ≤ 60 := by
  have h1 := h.nm
  have h2 := numW_len (o := some k.low) fun i e => by cases e; exact h.lo
  have h3 := numW_len h.hi
  have l1 : (Str.ofString "kind ").length = 5 := by decide +kernel
  have l2 : (Str.ofString " ").length = 1 := by decide +kernel
  unfold kdLine
  rw [Str.length_append, Str.length_append, Str.length_append, Str.length_append, Str.length_append, l1, l2]
  omega
theorem devAt_eq {ds : List Str} {d : Int} (h : DevOk ds.length d) : atI (ds.map V.str) d = some (.str (devAt ds d)) ∧ devAt ds d ∈ ds := by
  obtain ⟨h0, h1⟩ := h
  have hi : d.toNat < ds.length := by omega
  have e : devAt ds d = ds[d.toNat] := by
    unfold devAt
    rw [List.getD_eq_getElem?_getD, List.getElem?_eq_getElem hi]
    rfl
  rw [e]
  exact ⟨at_of (j := d.toNat) (by omega) (by rw [List.getElem?_map, List.getElem?_eq_getElem hi]; rfl), List.getElem_mem hi⟩
theorem asleep_len : (Str.ofString " goes on asleep").length = 15 := by decide +kernel
theorem clock_len : (Str.ofString "clock ").length = 6 := by decide +kernel
theorem of_len : (Str.ofString " of ").length = 4 := by decide +kernel
theorem link_len : (Str.ofString "link ").length = 5 := by decide +kernel
theorem from_len : (Str.ofString " from ").length = 6 := by decide +kernel
theorem to_len : (Str.ofString " to ").length = 4 := by decide +kernel
theorem source_len : (Str.ofString "source ").length = 7 := by decide +kernel
theorem at_len : (Str.ofString " at ").length = 4 := by decide +kernel
theorem kind_len : (Str.ofString "kind ").length = 5 := by decide +kernel
theorem device_len : (Str.ofString "device ").length = 7 := by decide +kernel
theorem faults_len : (Str.ofString "faults ").length = 7 := by decide +kernel
theorem empty_len : Str.empty.length = 0 := rfl
theorem clHead_len {ds : List Str} {c : Cl} (hd : ∀ z ∈ ds, z.length ≤ 12) (h : c.Ok ds.length) : (clHead ds c).length ≤ 60 := by
  have h1 := h.nm
  have h2 := hd _ (devAt_eq h.dv).2
  have h3 : (if c.goes = true then (Str.ofString " goes on asleep") else (Str.ofString "")).length ≤ 15 := by
    split
    · rw [asleep_len]; exact Nat.le_refl _
    · decide +kernel
  unfold clHead
  rw [Str.length_append, Str.length_append, Str.length_append, Str.length_append, clock_len, of_len]
  omega
theorem lkHead_len {ds : List Str} {c : Lk} (hd : ∀ z ∈ ds, z.length ≤ 12) (h : c.Ok ds.length) : (lkHead ds c).length ≤ 60 := by
  have h1 := h.nm
  have h2 := hd _ (devAt_eq h.ds).2
  have h3 := hd _ (devAt_eq h.dr).2
  unfold lkHead
  rw [Str.length_append, Str.length_append, Str.length_append, Str.length_append, Str.length_append, link_len, from_len, to_len]
  omega
theorem srHead_len {ds : List Str} {c : Sr} (hd : ∀ z ∈ ds, z.length ≤ 12) (h : c.Ok ds.length) : (srHead ds c).length ≤ 60 := by
  have h1 := h.nm
  have h2 := hd _ (devAt_eq h.dv).2
  unfold srHead
  rw [Str.length_append, Str.length_append, Str.length_append, source_len, at_len]
  omega
/-- lines, each short -/
structure LnOk (ls : List Str) (n : Nat) : Prop where
  len : ls.length ≤ n
  ok : ∀ z ∈ ls, z.length ≤ 60
theorem LnOk.app {a b : List Str} {n m : Nat} (h : LnOk a n) (g : LnOk b m) : LnOk (a ++ b) (n + m) :=
  ⟨by rw [List.length_append]; have := h.len; have := g.len; omega, fun z hz => (List.mem_append.mp hz).elim (h.ok z) (g.ok z)⟩
theorem LnOk.mono {a : List Str} {n m : Nat} (h : LnOk a n) (e : n ≤ m) : LnOk a m := ⟨Nat.le_trans h.len e, h.ok⟩
theorem LnOk.flat {α : Type} {f : α → List Str} {k : Nat} : ∀ {xs : List α}, (∀ x ∈ xs, LnOk (f x) k) → LnOk (xs.flatMap f) (xs.length * k)
  | [], _ => ⟨Nat.zero_le _, fun z h => by simp at h⟩
  | x :: r, h => by
    rw [List.flatMap_cons, List.length_cons, Nat.succ_mul, Nat.add_comm]
    exact (h x List.mem_cons_self).app (LnOk.flat fun y hy => h y (List.mem_cons_of_mem _ hy))
theorem kdLines_ok {ks : List Kd} (h : KsOk ks) : LnOk (ks.map kdLine) 4 := ⟨by rw [List.length_map]; exact h.len, fun z hz => by
  obtain ⟨k, hk, rfl⟩ := List.mem_map.mp hz
  exact kdLine_len (h.ok k hk)⟩
theorem cons_ok {z : Str} {ls : List Str} {n : Nat} (hz : z.length ≤ 60) (h : LnOk ls n) : LnOk (z :: ls) (n + 1) := ⟨by rw [List.length_cons]; have := h.len; omega, fun y hy => by
  rcases List.mem_cons.mp hy with e | e
  · rw [e]; exact hz
  · exact h.ok y e⟩
theorem clLines_ok {ds : List Str} {c : Cl} (hd : ∀ z ∈ ds, z.length ≤ 12) (h : c.Ok ds.length) : LnOk (clLines ds c) 5 := cons_ok (clHead_len hd h) (kdLines_ok h.ks)
theorem lkLines_ok {ds : List Str} {c : Lk} (hd : ∀ z ∈ ds, z.length ≤ 12) (h : c.Ok ds.length) : LnOk (lkLines ds c) 5 := cons_ok (lkHead_len hd h) (kdLines_ok h.ks)
theorem srLines_ok {ds : List Str} {c : Sr} (hd : ∀ z ∈ ds, z.length ≤ 12) (h : c.Ok ds.length) : LnOk (srLines ds c) 5 := cons_ok (srHead_len hd h) (kdLines_ok h.ks)
theorem cls_ok {F : Fm} (h : F.Ok) (i : Nat) : LnOk ((F.clocks.take i).flatMap (clLines F.devices)) 45 := (LnOk.flat (k := 5) fun c hc => clLines_ok h.dn (h.c c (List.mem_of_mem_take hc))).mono (by have := h.cl; rw [List.length_take]; omega)
theorem lks_ok {F : Fm} (h : F.Ok) (i : Nat) : LnOk ((F.links.take i).flatMap (lkLines F.devices)) 45 := (LnOk.flat (k := 5) fun c hc => lkLines_ok h.dn (h.l c (List.mem_of_mem_take hc))).mono (by have := h.ll; rw [List.length_take]; omega)
theorem srs_ok {F : Fm} (h : F.Ok) (i : Nat) : LnOk ((F.sources.take i).flatMap (srLines F.devices)) 45 := (LnOk.flat (k := 5) fun c hc => srLines_ok h.dn (h.s c (List.mem_of_mem_take hc))).mono (by have := h.sl; rw [List.length_take]; omega)
theorem dvs_ok {F : Fm} (h : F.Ok) : LnOk (F.devices.map dvLine) 6 := ⟨by rw [List.length_map]; exact h.dl, fun z hz => by
  obtain ⟨k, hk, rfl⟩ := List.mem_map.mp hz
  have := h.dn k hk
  unfold dvLine
  rw [Str.length_append, device_len]
  omega⟩
theorem flt_in {n : Int} (h0 : 0 ≤ n) (h2 : n ≤ 2) : In18 n := by
  have e : n = ((n.toNat : Nat) : Int) := by omega
  rw [e]
  exact In18.small (by omega)
theorem fts_ok {F : Fm} (h : F.Ok) : LnOk (ftLines F.faults) 1 := by
  unfold ftLines
  split
  · exact ⟨Nat.zero_le _, fun z h => by simp at h⟩
  · refine ⟨Nat.le_refl _, fun z hz => ?_⟩
    rw [List.mem_singleton.mp hz, Str.length_append, faults_len]
    have := numW_len (o := some F.faults) fun i e => by cases e; exact flt_in h.f0 h.f2
    omega
theorem linesF_ok {F : Fm} (h : F.Ok) : LnOk (linesF F) 142 := by
  have h1 := cls_ok h F.clocks.length
  have h2 := lks_ok h F.links.length
  have h3 := srs_ok h F.sources.length
  rw [List.take_length] at h1 h2 h3
  exact (((dvs_ok h).app h1).app h2).app h3 |>.app (fts_ok h)
/-! ### the text -/
theorem textF_snoc (ls : List Str) (l : Str) : textF (ls ++ [l]) = textF ls ++ l ++ "\n" := by
  unfold textF
  rw [List.foldl_append]
  rfl
theorem textF_len {ls : List Str} {n : Nat} (h : LnOk ls n) : (textF ls).length ≤ ls.length * 61 := by
  obtain ⟨_, h⟩ := h
  suffices g : ∀ (ls : List Str) (t : Str), (∀ z ∈ ls, z.length ≤ 60) → (ls.foldl (fun (t l : Str) => t ++ l ++ "\n") t).length ≤ t.length + ls.length * 61 by
    have := g ls Str.empty h
    have e : Str.empty.length = 0 := rfl
    unfold textF
    omega
  intro ls
  induction ls with
  | nil => intro t _; simp
  | cons a r ih =>
    intro t hz
    have h1 := ih (t ++ a ++ "\n") fun z hz' => hz z (List.mem_cons_of_mem _ hz')
    rw [Str.length_append, Str.length_append, nl_len] at h1
    have h2 := hz a List.mem_cons_self
    rw [List.foldl_cons, List.length_cons, Nat.succ_mul]
    omega
/-- join of the lines with their line feeds by nothing -/
theorem join_nil_cons (a : Str) (r : List Str) : Str.join (Str.ofString "") (a :: r) = a ++ Str.join (Str.ofString "") r := by
  cases r with
  | nil =>
    show a = a ++ Str.ofString ""
    rw [add_empty]
  | cons b r =>
    show a ++ Str.ofString "" ++ Str.join (Str.ofString "") (b :: r) = _
    rw [add_empty]
theorem joinF (ls : List Str) : Txt.join (Str.ofString "") (ls.map fun l => l ++ "\n") = textF ls := by
  rw [TL.join_eq]
  suffices g : ∀ (ls : List Str) (t : Str), t ++ Str.join (Str.ofString "") (ls.map fun l => l ++ "\n") = ls.foldl (fun (t l : Str) => t ++ l ++ "\n") t by
    have := g ls Str.empty
    rw [empty_add] at this
    exact this
  intro ls
  induction ls with
  | nil => intro t; exact add_empty t
  | cons a r ih =>
    intro t
    rw [List.map_cons, join_nil_cons, List.foldl_cons, ← ih]
    simp only [add_assoc]
theorem fed_sum {ls : List Str} (h : ∀ z ∈ ls, z.length ≤ 60) : ((ls.map fun l => l ++ Str.ofString "\n").map (·.length)).sum ≤ ls.length * 61 := by
  induction ls with
  | nil => simp
  | cons a r ih =>
    have h1 := ih fun z hz => h z (List.mem_cons_of_mem _ hz)
    have h2 := h a List.mem_cons_self
    rw [List.map_cons, List.map_cons, List.sum_cons, List.length_cons, Nat.succ_mul, Str.length_append, nl_len]
    omega
theorem fed_fit {ls : List Str} {n : Nat} (h : LnOk ls n) (hn : n ≤ 1000) : ((ls.map fun l => l ++ Str.ofString "\n").map (·.length)).sum + (ls.map fun l => l ++ Str.ofString "\n").length * (Str.ofString "").length ≤ 16777216 := by
  have h1 := fed_sum h.ok
  have h2 := h.len
  rw [(by decide +kernel : (Str.ofString "").length = 0)]
  omega
/-! ### the data of a frame -/
def hiP : Option Int → PyData
  | some h => .int h
  | none => .none
def kdP (k : Kd) : PyData := .tuple [.str k.name, .int k.low, hiP k.high]
def ksP (ks : List Kd) : PyData := .tuple (ks.map kdP)
def clP (c : Cl) : PyData := .tuple [.str c.name, .int c.dev, .bool c.goes, ksP c.kinds]
def lkP (c : Lk) : PyData := .tuple [.str c.name, .int c.s, .int c.r, ksP c.kinds]
def srP (c : Sr) : PyData := .tuple [.str c.name, .int c.dev, ksP c.kinds]
section
variable {K : PySem.W.Frag} {H : Hp}
theorem hi_dp (o : Option Int) : Dp K H (hiV o) (hiP o) := by
  cases o with
  | none => exact .non
  | some i => exact .int i
theorem kd_dp {a : Addr} {k : Kd} (h : KdAt K H a k) : Dp K H (.ref a) (kdP k) := .tup h (.cons (.str _) (.cons (.int _) (.cons (hi_dp _) .nil)))
theorem all_dp {α : Type} {P : Addr → α → Prop} {f : α → PyData} (hp : ∀ a x, P a x → Dp K H (.ref a) (f x)) : ∀ {as : List Addr} {xs : List α}, Each P as xs → DpAll K H (as.map V.ref) (xs.map f)
  | [], [], _ => .nil
  | [], _ :: _, h => by cases h.1
  | _ :: _, [], h => by cases h.1
  | a :: as, x :: xs, h => .cons (hp a x (h.2 0 a x rfl rfl)) (all_dp hp ⟨Nat.succ.inj h.1, fun i b y e1 e2 => h.2 (i + 1) b y e1 e2⟩)
theorem ks_dp {a : Addr} {ks : List Kd} (h : KsAt K H a ks) : Dp K H (.ref a) (ksP ks) := by
  obtain ⟨as, h1, h2⟩ := h
  exact .tup h1 (all_dp (fun _ _ z => kd_dp z) h2)
theorem cl_dp {a : Addr} {c : Cl} (h : ClAt K H a c) : Dp K H (.ref a) (clP c) := by
  obtain ⟨t, h1, h2⟩ := h
  exact .tup h1 (.cons (.str _) (.cons (.int _) (.cons (.bl _) (.cons (ks_dp h2) .nil))))
theorem lk_dp {a : Addr} {c : Lk} (h : LkAt K H a c) : Dp K H (.ref a) (lkP c) := by
  obtain ⟨t, h1, h2⟩ := h
  exact .tup h1 (.cons (.str _) (.cons (.int _) (.cons (.int _) (.cons (ks_dp h2) .nil))))
theorem sr_dp {a : Addr} {c : Sr} (h : SrAt K H a c) : Dp K H (.ref a) (srP c) := by
  obtain ⟨t, h1, h2⟩ := h
  exact .tup h1 (.cons (.str _) (.cons (.int _) (.cons (ks_dp h2) .nil)))
end
theorem all_plain {α : Type} {f : α → PyData} (h : ∀ x, (f x).plain = true) : ∀ xs : List α, PyData.plainAll (xs.map f) = true
  | [] => rfl
  | x :: r => by
    show ((f x).plain && PyData.plainAll (r.map f)) = true
    rw [h x, all_plain h r]
    rfl
theorem all_depth {α : Type} {f : α → PyData} {n : Nat} (h : ∀ x, (f x).depth ≤ n) : ∀ xs : List α, PyData.depthAll (xs.map f) ≤ n
  | [] => Nat.zero_le _
  | x :: r => by
    show max (f x).depth (PyData.depthAll (r.map f)) ≤ n
    have := h x
    have := all_depth h r
    omega
theorem hi_plain (o : Option Int) : (hiP o).plain = true := by cases o <;> rfl
theorem kd_plain (k : Kd) : (kdP k).plain = true := by
  show (true && (true && ((hiP k.high).plain && true))) = true
  rw [hi_plain]
  rfl
theorem ks_plain (ks : List Kd) : (ksP ks).plain = true := all_plain kd_plain ks
theorem cl_plain (c : Cl) : (clP c).plain = true := by
  show (true && (true && (true && ((ksP c.kinds).plain && true)))) = true
  rw [ks_plain]
  rfl
theorem lk_plain (c : Lk) : (lkP c).plain = true := by
  show (true && (true && (true && ((ksP c.kinds).plain && true)))) = true
  rw [ks_plain]
  rfl
theorem sr_plain (c : Sr) : (srP c).plain = true := by
  show (true && (true && ((ksP c.kinds).plain && true))) = true
  rw [ks_plain]
  rfl
theorem hi_depth (o : Option Int) : (hiP o).depth ≤ 1 := by cases o <;> simp [hiP, PyData.depth]
theorem kd_depth (k : Kd) : (kdP k).depth ≤ 3 := by
  have := hi_depth k.high
  simp only [kdP, PyData.depth, PyData.depthAll]
  omega
theorem ks_depth (ks : List Kd) : (ksP ks).depth ≤ 5 := by
  have := all_depth kd_depth ks
  simp only [ksP, PyData.depth]
  omega
theorem cl_depth (c : Cl) : (clP c).depth ≤ 8 := by
  have := ks_depth c.kinds
  simp only [clP, PyData.depth, PyData.depthAll]
  omega
theorem lk_depth (c : Lk) : (lkP c).depth ≤ 8 := by
  have := ks_depth c.kinds
  simp only [lkP, PyData.depth, PyData.depthAll]
  omega
theorem sr_depth (c : Sr) : (srP c).depth ≤ 8 := by
  have := ks_depth c.kinds
  simp only [srP, PyData.depth, PyData.depthAll]
  omega
theorem list_depth {α : Type} {f : α → PyData} (h : ∀ x, (f x).depth ≤ 8) (xs : List α) : (PyData.list (xs.map f)).depth ≤ 64 := by
  have := all_depth h xs
  simp only [PyData.depth]
  omega
theorem list_eqv {α : Type} {f : α → PyData} (h : ∀ x, (f x).plain = true) (xs : List α) : PyData.eqv (.list (xs.map f)) (.list (xs.map f)) = true := SeqAt.eqv_refl_plain _ (all_plain h xs)
/-! ### blocks of lines -/
def LnAt (H : Hp) (a : Addr) (ls : List Str) : Prop := H a = some (.lst (ls.map V.str))
def BkAt (H : Hp) (l : Addr) (bs : List (List Str)) : Prop := ∃ as, H l = some (.lst (as.map V.ref)) ∧ Each (LnAt H) as bs ∧ l ∉ as
theorem BkAt.keep {H H' : Hp} {l : Addr} {bs : List (List Str)} (e : Same H H') (h : BkAt H l bs) : BkAt H' l bs := by
  obtain ⟨as, h1, h2, h3⟩ := h
  exact ⟨as, e _ _ h1, h2.keep fun _ _ z => e _ _ z, h3⟩
theorem BkAt.add {H : Hp} {l b : Addr} {bs : List (List Str)} {as : List Addr} {ls : List Str} (h1 : H l = some (.lst (as.map V.ref))) (h2 : Each (LnAt H) as bs) (h3 : l ∉ as) (hb : H b = some (.lst (ls.map V.str))) (n : l ≠ b) :
    BkAt (upd H l (.lst (as.map V.ref ++ [V.ref b]))) l (bs ++ [ls]) := by
  refine ⟨as ++ [b], by rw [upd_same, List.map_append]; rfl, Each.snoc ⟨h2.1, fun i a x e1 e2 => ?_⟩ ?_, fun h => ?_⟩
  · show upd _ _ _ _ = _
    rw [upd_ne fun e => h3 (by rw [← e]; exact List.mem_of_getElem? e1)]
    exact h2.2 i a x e1 e2
  · show upd _ _ _ _ = _
    rw [upd_ne n.symm]
    exact hb
  · rcases List.mem_append.mp h with h | h
    · exact h3 h
    · exact n (List.mem_singleton.mp h)
theorem each_app {α : Type} {P : Addr → α → Prop} {as bs : List Addr} {xs ys : List α} (h : Each P as xs) (g : Each P bs ys) : Each P (as ++ bs) (xs ++ ys) := by
  refine ⟨by rw [List.length_append, List.length_append, h.1, g.1], fun i a x h1 h2 => ?_⟩
  by_cases hi : i < as.length
  · rw [List.getElem?_append_left hi] at h1
    rw [List.getElem?_append_left (by rw [← h.1]; exact hi)] at h2
    exact h.2 i a x h1 h2
  · rw [List.getElem?_append_right (by omega)] at h1
    rw [List.getElem?_append_right (by rw [← h.1]; omega)] at h2
    rw [← h.1] at h2
    exact g.2 _ a x h1 h2
theorem flatten_take {bs : List (List Str)} {i : Nat} {x : List Str} (h : bs[i]? = some x) : (bs.take (i + 1)).flatten = (bs.take i).flatten ++ x := by
  rw [List.take_add_one, h, List.flatten_append]
  simp
theorem take_snoc {α β : Type} {f : α → β} {xs : List α} {i : Nat} {x : α} (h : xs[i]? = some x) : (xs.take (i + 1)).map f = (xs.take i).map f ++ [f x] := by
  rw [List.take_add_one, h, List.map_append]
  rfl
/-- all blocks of a frame -/
def blksF (F : Fm) : List (List Str) := F.clocks.map (clLines F.devices) ++ F.links.map (lkLines F.devices) ++ F.sources.map (srLines F.devices)
theorem blks_flat (F : Fm) : F.devices.map dvLine ++ (blksF F).flatten ++ ftLines F.faults = linesF F := by
  unfold blksF linesF
  simp only [List.flatten_append, List.flatMap_def, List.append_assoc]
theorem flatM_take {α : Type} {f : α → List Str} {xs : List α} {i : Nat} {x : α} (h : xs[i]? = some x) : (xs.take (i + 1)).flatMap f = (xs.take i).flatMap f ++ f x := by
  rw [List.take_add_one, h, List.flatMap_append]
  simp
end Vs

namespace Vs
open PySem PySem.Spec PyProof.Rows L2
/-! ### tuples stay where they are -/
def TupK (H H' : Hp) : Prop := (∀ a xs, H a = some (.tup xs) → H' a = some (.tup xs)) ∧ ∀ a o xs, H a = some (.frz o (.tup xs)) → H' a = some (.frz o (.tup xs))
theorem TupK.refl (H : Hp) : TupK H H := ⟨fun _ _ h => h, fun _ _ _ h => h⟩
theorem TupK.trans {H H1 H2 : Hp} (a : TupK H H1) (b : TupK H1 H2) : TupK H H2 := ⟨fun c u h => b.1 c u (a.1 c u h), fun c o u h => b.2 c o u (a.2 c o u h)⟩
theorem TupK.of {H H' : Hp} (e : Same H H') : TupK H H' := ⟨fun _ _ h => e _ _ h, fun _ _ _ h => e _ _ h⟩
theorem TupK.but {H H' : Hp} {o : Addr} {xs : List V} (e : But o H H') (ho : H o = some (.lst xs)) : TupK H H' := ⟨fun _ _ h => e _ _ (ne_of h ho (by intro z; cases z)) h, fun _ _ _ h => e _ _ (ne_of h ho (by intro z; cases z)) h⟩
theorem TupK.new {H : Hp} {p : Addr} {o : HO} (h : H p = none) : TupK H (upd H p o) := TupK.of (same_upd h)
theorem TupK.set {H : Hp} {p : Addr} {xs : List V} {o : HO} (h : H p = some (.lst xs)) : TupK H (upd H p o) := TupK.but But.set h
theorem TupK.sq {K : PySem.W.Frag} {H H' : Hp} {a : Addr} {xs : List V} (e : TupK H H') (h : SqT K H a xs) : SqT K H' a xs := by
  rcases h with (h | ⟨ob, h⟩) | h
  · exact .inl (.inl (e.1 _ _ h))
  · exact .inl (.inr ⟨ob, e.2 _ _ _ h⟩)
  · exact .inr h
theorem fr {H H1 : Hp} {p : Addr} {o : HO} (e : upd H p o = H1) (n : H p = none) : Same H H1 ∧ H1 p = some o := by
  subst e
  exact ⟨same_upd n, upd_same⟩
theorem stt {H H1 : Hp} {p : Addr} {o : HO} (e : upd H p o = H1) : But p H H1 ∧ H1 p = some o := by
  subst e
  exact ⟨But.set, upd_same⟩
/-! ### data made of tuples -/
mutual
def Im (K : PySem.W.Frag) (H : Hp) : PyData → V → Prop
  | .none, v => v = .non
  | .bool b, v => v = .bl b
  | .int i, v => v = .int i
  | .str z, v => v = .str z
  | .tuple ds, v => ∃ a vs, v = .ref a ∧ SqT K H a vs ∧ ImL K H ds vs
  | .list _, _ => False
  | .dict _, _ => False
def ImL (K : PySem.W.Frag) (H : Hp) : List PyData → List V → Prop
  | [], vs => vs = []
  | d :: ds, vs => ∃ v r, vs = v :: r ∧ Im K H d v ∧ ImL K H ds r
end
section
variable {K : PySem.W.Frag} {H H' : Hp}
mutual
theorem Im.mono (e : TupK H H') : ∀ (d : PyData) {v : V}, Im K H d v → Im K H' d v
  | .none, _, h => by rw [Im] at h ⊢; exact h
  | .bool _, _, h => by rw [Im] at h ⊢; exact h
  | .int _, _, h => by rw [Im] at h ⊢; exact h
  | .str _, _, h => by rw [Im] at h ⊢; exact h
  | .tuple ds, _, h => by
    rw [Im] at h ⊢
    obtain ⟨a, vs, h1, h2, h3⟩ := h
    exact ⟨a, vs, h1, e.sq h2, ImL.mono e ds h3⟩
  | .list _, _, h => by rw [Im] at h; exact h.elim
  | .dict _, _, h => by rw [Im] at h; exact h.elim
theorem ImL.mono (e : TupK H H') : ∀ (ds : List PyData) {vs : List V}, ImL K H ds vs → ImL K H' ds vs
  | [], _, h => by rw [ImL] at h ⊢; exact h
  | d :: ds, _, h => by
    rw [ImL] at h ⊢
    obtain ⟨v, r, h1, h2, h3⟩ := h
    exact ⟨v, r, h1, Im.mono e d h2, ImL.mono e ds h3⟩
end
mutual
theorem Im.dp : ∀ (d : PyData) {v : V}, Im K H d v → Dp K H v d
  | .none, _, h => by rw [Im] at h; rw [h]; exact .non
  | .bool _, _, h => by rw [Im] at h; rw [h]; exact .bl _
  | .int _, _, h => by rw [Im] at h; rw [h]; exact .int _
  | .str _, _, h => by rw [Im] at h; rw [h]; exact .str _
  | .tuple ds, _, h => by
    rw [Im] at h
    obtain ⟨a, vs, rfl, h2, h3⟩ := h
    exact .tup h2 (ImL.dp ds h3)
  | .list _, _, h => by rw [Im] at h; exact h.elim
  | .dict _, _, h => by rw [Im] at h; exact h.elim
theorem ImL.dp : ∀ (ds : List PyData) {vs : List V}, ImL K H ds vs → DpAll K H vs ds
  | [], _, h => by rw [ImL] at h; rw [h]; exact .nil
  | d :: ds, _, h => by
    rw [ImL] at h
    obtain ⟨v, r, rfl, h2, h3⟩ := h
    exact .cons (Im.dp d h2) (ImL.dp ds h3)
end
mutual
theorem Im.plain : ∀ (d : PyData) {v : V}, Im K H d v → d.plain = true
  | .none, _, h => rfl
  | .bool _, _, h => rfl
  | .int _, _, h => rfl
  | .str _, _, h => rfl
  | .tuple ds, _, h => by
    rw [Im] at h
    obtain ⟨a, vs, rfl, h2, h3⟩ := h
    exact ImL.plain ds h3
  | .list _, _, h => by rw [Im] at h; exact h.elim
  | .dict _, _, h => by rw [Im] at h; exact h.elim
theorem ImL.plain : ∀ (ds : List PyData) {vs : List V}, ImL K H ds vs → PyData.plainAll ds = true
  | [], _, h => rfl
  | d :: ds, _, h => by
    rw [ImL] at h
    obtain ⟨v, r, rfl, h2, h3⟩ := h
    show (d.plain && PyData.plainAll ds) = true
    rw [Im.plain d h2, ImL.plain ds h3]
    rfl
end
theorem Im.int_ {i : Int} : Im K H (.int i) (.int i) := by rw [Im]
theorem Im.bl_ {b : Bool} : Im K H (.bool b) (.bl b) := by rw [Im]
theorem Im.str_ {z : Str} : Im K H (.str z) (.str z) := by rw [Im]
theorem Im.non_ : Im K H .none .non := by rw [Im]
theorem Im.tup_ {a : Addr} {vs : List V} {ds : List PyData} (h : SqT K H a vs) (e : ImL K H ds vs) : Im K H (.tuple ds) (.ref a) := by rw [Im]; exact ⟨a, vs, rfl, h, e⟩
theorem Im.unt {ds : List PyData} {v : V} (h : Im K H (.tuple ds) v) : ∃ a vs, v = .ref a ∧ SqT K H a vs ∧ ImL K H ds vs := by rw [Im] at h; exact h
theorem Im.uni {i : Int} {v : V} (h : Im K H (.int i) v) : v = .int i := by rw [Im] at h; exact h
theorem Im.unn {v : V} (h : Im K H .none v) : v = .non := by rw [Im] at h; exact h
theorem ImL.nil_ : ImL K H [] [] := by rw [ImL]
theorem ImL.cons_ {d : PyData} {ds : List PyData} {v : V} {vs : List V} (h : Im K H d v) (t : ImL K H ds vs) : ImL K H (d :: ds) (v :: vs) := by rw [ImL]; exact ⟨_, _, rfl, h, t⟩
theorem ImL.unc {d : PyData} {ds : List PyData} {vs : List V} (h : ImL K H (d :: ds) vs) : ∃ v r, vs = v :: r ∧ Im K H d v ∧ ImL K H ds r := by rw [ImL] at h; exact h
theorem ImL.unn {vs : List V} (h : ImL K H [] vs) : vs = [] := by rw [ImL] at h; exact h
theorem ImL.len : ∀ {ds : List PyData} {vs : List V}, ImL K H ds vs → vs.length = ds.length
  | [], _, h => by rw [h.unn]; rfl
  | d :: ds, _, h => by
    obtain ⟨v, r, rfl, _, h2⟩ := h.unc
    rw [List.length_cons, List.length_cons, ImL.len h2]
theorem ImL.get : ∀ {ds : List PyData} {vs : List V} {i : Nat} {d : PyData}, ImL K H ds vs → ds[i]? = some d → ∃ v, vs[i]? = some v ∧ Im K H d v
  | d :: ds, _, 0, _, h, hi => by
    obtain ⟨v, r, rfl, h1, _⟩ := h.unc
    cases hi
    exact ⟨v, rfl, h1⟩
  | d :: ds, _, i + 1, e, h, hi => by
    obtain ⟨v, r, rfl, _, h2⟩ := h.unc
    exact ImL.get (i := i) h2 hi
  | [], _, _, _, _, hi => by simp at hi
theorem ImL.get' : ∀ {ds : List PyData} {vs : List V} {i : Nat} {v : V}, ImL K H ds vs → vs[i]? = some v → ∃ d, ds[i]? = some d ∧ Im K H d v := fun {ds vs i v} h hi => by
  have hl := h.len
  have hi' := (List.getElem?_eq_some_iff.mp hi).1
  have e : ds[i]? = some (ds[i]'(by omega)) := List.getElem?_eq_getElem (by omega)
  obtain ⟨w, h1, h2⟩ := h.get e
  rw [hi] at h1
  cases h1
  exact ⟨_, e, h2⟩
theorem ImL.app : ∀ {ds es : List PyData} {vs ws : List V}, ImL K H ds vs → ImL K H es ws → ImL K H (ds ++ es) (vs ++ ws)
  | [], _, _, _, h, g => by rw [h.unn]; exact g
  | d :: ds, _, _, _, h, g => by
    obtain ⟨v, r, rfl, h1, h2⟩ := h.unc
    exact ImL.cons_ h1 (ImL.app h2 g)
theorem ImL.snoc {ds : List PyData} {d : PyData} {vs : List V} {v : V} (h : ImL K H ds vs) (g : Im K H d v) : ImL K H (ds ++ [d]) (vs ++ [v]) := h.app (ImL.cons_ g ImL.nil_)
theorem ImL.ints : ∀ {ns : List Int}, ImL K H (ns.map PyData.int) (ns.map V.int)
  | [] => ImL.nil_
  | n :: r => ImL.cons_ Im.int_ ImL.ints
theorem ImL.uints : ∀ {ns : List Int} {vs : List V}, ImL K H (ns.map PyData.int) vs → vs = ns.map V.int
  | [], _, h => h.unn
  | n :: r, _, h => by
    obtain ⟨v, r, rfl, h1, h2⟩ := h.unc
    rw [h1.uni, h2.uints]
    rfl
/-- a list of such data, one that may change -/
def LsI (K : PySem.W.Frag) (H : Hp) (a : Addr) (ds : List PyData) : Prop := ∃ vs, H a = some (.lst vs) ∧ ImL K H ds vs
theorem LsI.keep {a ds} (e : Same H H') (h : LsI K H a ds) : LsI K H' a ds := by
  obtain ⟨vs, h1, h2⟩ := h
  exact ⟨vs, e _ _ h1, ImL.mono (.of e) _ h2⟩
theorem LsI.but {a ds} {o : Addr} {xs : List V} (e : But o H H') (ho : H o = some (.lst xs)) (n : a ≠ o) (h : LsI K H a ds) : LsI K H' a ds := by
  obtain ⟨vs, h1, h2⟩ := h
  exact ⟨vs, e _ _ n h1, ImL.mono (.but e ho) _ h2⟩
theorem LsI.lst {a ds} (h : LsI K H a ds) : ∃ xs, H a = some (.lst xs) := by
  obtain ⟨vs, h1, h2⟩ := h
  exact ⟨vs, h1⟩
theorem LsI.dp {a ds} (h : LsI K H a ds) : Dp K H (.ref a) (.list ds) := by
  obtain ⟨vs, h1, h2⟩ := h
  exact .lst (SqL.of h1) h2.dp
theorem LsI.plain {a ds} (h : LsI K H a ds) : (PyData.list ds).plain = true := by
  obtain ⟨vs, h1, h2⟩ := h
  exact h2.plain
theorem LsI.snoc {a ds d v} (h : LsI K H a ds) (g : Im K H d v) : ∃ vs, H a = some (.lst vs) ∧ vs.length = ds.length ∧ LsI K (upd H a (.lst (vs ++ [v]))) a (ds ++ [d]) := by
  obtain ⟨vs, h1, h2⟩ := h
  exact ⟨vs, h1, h2.len, _, upd_same, ImL.mono (.set h1) _ (h2.snoc g)⟩
/-- what == of two equal lists asks -/
theorem LsI.eqP {a b ds} {Q : VK} (h : LsI K H a ds) (g : LsI K H b ds) (hd : (PyData.list ds).depth ≤ 64) (q : Q (.bl true) H) : rEqP K (.ref a) (.ref b) H Q := by
  refine ⟨_, _, h.dp, g.dp, h.plain, g.plain, hd, ?_⟩
  rw [SeqAt.eqv_refl_plain _ h.plain]
  exact q
theorem LsI.neP {a b ds} {Q : VK} (h : LsI K H a ds) (g : LsI K H b ds) (hd : (PyData.list ds).depth ≤ 64) (q : Q (.bl false) H) : rNeP K (.ref a) (.ref b) H Q := by
  refine ⟨_, _, h.dp, g.dp, h.plain, g.plain, hd, ?_⟩
  rw [SeqAt.eqv_refl_plain _ h.plain]
  exact q
end
theorem ldepth {α : Type} {f : α → PyData} {n : Nat} (h : ∀ x, (f x).depth ≤ n) (xs : List α) : (PyData.list (xs.map f)).depth ≤ n + 1 := by
  have := all_depth h xs
  simp only [PyData.depth]
  omega
/-! ### points and bounds -/
structure Pt where
  d : Int
  n : Int
  c : Int
deriving DecidableEq
structure Bd where
  one : Pt
  two : Pt
  amount : Int
  part : Int
deriving DecidableEq
def ptP (p : Pt) : PyData := .tuple [.int p.d, .int p.n, .int p.c]
def bdP (b : Bd) : PyData := .tuple [ptP b.one, ptP b.two, .int b.amount, .int b.part]
theorem pt_depth (p : Pt) : (ptP p).depth ≤ 3 := by simp [ptP, PyData.depth, PyData.depthAll]
theorem bd_depth (b : Bd) : (bdP b).depth ≤ 5 := by
  have h1 := pt_depth b.one
  have h2 := pt_depth b.two
  simp only [bdP, PyData.depth, PyData.depthAll]
  omega
theorem bds_depth (bs : List Bd) : (PyData.list (bs.map bdP)).depth ≤ 64 := Nat.le_trans (ldepth bd_depth bs) (by decide)
theorem pts_depth (bs : List Pt) : (PyData.list (bs.map ptP)).depth ≤ 64 := Nat.le_trans (ldepth pt_depth bs) (by decide)
section
variable {K : PySem.W.Frag} {H : Hp}
theorem Im.unpt {p : Pt} {v : V} (h : Im K H (ptP p) v) : ∃ a, v = .ref a ∧ SqT K H a [.int p.d, .int p.n, .int p.c] := by
  obtain ⟨a, vs, h1, h2, h3⟩ := Im.unt h
  have e := ImL.uints (ns := [p.d, p.n, p.c]) h3
  exact ⟨a, h1, by rw [e] at h2; exact h2⟩
theorem Im.unbd {b : Bd} {v : V} (h : Im K H (bdP b) v) : ∃ a x y, v = .ref a ∧ SqT K H a [x, y, .int b.amount, .int b.part] ∧ Im K H (ptP b.one) x ∧ Im K H (ptP b.two) y := by
  obtain ⟨a, vs, h1, h2, h3⟩ := Im.unt h
  obtain ⟨x, r, rfl, hx, h3⟩ := h3.unc
  obtain ⟨y, r, rfl, hy, h3⟩ := h3.unc
  have e := ImL.uints (ns := [b.amount, b.part]) h3
  exact ⟨a, x, y, h1, by rw [e] at h2; exact h2, hx, hy⟩
theorem ptI {a : Addr} {p : Pt} (h : SqT K H a [.int p.d, .int p.n, .int p.c]) : Im K H (ptP p) (.ref a) := Im.tup_ h (ImL.ints (ns := [p.d, p.n, p.c]))
theorem bdI {a : Addr} {b : Bd} {x y : V} (h : SqT K H a [x, y, .int b.amount, .int b.part]) (hx : Im K H (ptP b.one) x) (hy : Im K H (ptP b.two) y) : Im K H (bdP b) (.ref a) := Im.tup_ h (ImL.cons_ hx (ImL.cons_ hy (ImL.ints (ns := [b.amount, b.part]))))
end
theorem map_get {α : Type} {f : α → PyData} {xs : List α} {i : Nat} {d : PyData} (h : (xs.map f)[i]? = some d) : ∃ x, xs[i]? = some x ∧ d = f x := by
  rw [List.getElem?_map] at h
  cases e : xs[i]? with
  | none => rw [e] at h; cases h
  | some x => rw [e] at h; exact ⟨x, rfl, (Option.some.inj h).symm⟩
/-! ### the drawn rows, n of them -/
def RwAt (H : Hp) (r : Addr) (n : Nat) : Prop := ∃ ns : List Int, H r = some (.lst (ns.map V.int)) ∧ ns.length = n
theorem RwAt.lst {H : Hp} {r : Addr} {n : Nat} (h : RwAt H r n) : ∃ xs, H r = some (.lst xs) := by
  obtain ⟨ns, h, _⟩ := h
  exact ⟨_, h⟩
theorem RwAt.keep {H H' : Hp} {r : Addr} {n : Nat} (e : Same H H') (h : RwAt H r n) : RwAt H' r n := by
  obtain ⟨ns, h, h2⟩ := h
  exact ⟨ns, e _ _ h, h2⟩
theorem RwAt.but {H H' : Hp} {r o : Addr} {n : Nat} (e : But o H H') (ne : r ≠ o) (h : RwAt H r n) : RwAt H' r n := by
  obtain ⟨ns, h, h2⟩ := h
  exact ⟨ns, e _ _ ne h, h2⟩
theorem RwAt.tk {H H' : Hp} {r : Addr} {n : Nat} (h : RwAt H r n) (e : But r H H') : TupK H H' := by
  obtain ⟨xs, h⟩ := h.lst
  exact TupK.but e h
theorem RwAt.ne {H : Hp} {r p : Addr} {n : Nat} (h : RwAt H r n) (e : H p = none) : p ≠ r := by
  obtain ⟨xs, h⟩ := h.lst
  exact (ne_of_none h e).symm
theorem inV_int (p : Int) (ns : List Int) : inV (.int p) (ns.map V.int) = ns.contains p := by
  unfold inV
  induction ns with
  | nil => rfl
  | cons a r ih =>
    rw [List.map_cons, List.any_cons, ih, List.contains_cons]
    show ((a == p) || r.contains p) = _
    rw [Bool.beq_comm]
theorem flat_ints : ∀ ns : List Int, (ns.map V.int).all flatV = true
  | [] => rfl
  | n :: r => by
    show (true && (r.map V.int).all flatV) = true
    rw [flat_ints r]
    rfl
theorem list_at {K : PySem.W.Frag} {H : Hp} {ds : List PyData} {vs : List V} {j : Int} (h : ImL K H ds vs) (h0 : 0 ≤ j) (h1 : j < (ds.length : Int)) : ∃ d v, ds[j.toNat]? = some d ∧ atI vs j = some v ∧ Im K H d v := by
  have hi : j.toNat < ds.length := by omega
  have e : ds[j.toNat]? = some ds[j.toNat] := List.getElem?_eq_getElem hi
  obtain ⟨v, h2, h3⟩ := h.get e
  exact ⟨_, v, e, at_of (j := j.toNat) (by omega) h2, h3⟩
end Vs

namespace Vs
open PySem PySem.Spec PyProof.Rows L2

def topS (i : Nat) : Stmt := PySem.Challenge.pw_whensure_k32_bounds_that_are_left.main.body.getD i (.Pass ⟨0, 0, 0, 0⟩)
abbrev s_bounds_left : Stmt := topS 1
abbrev nm_bounds_left : List Str := ["bounds", "choice", "bound"]
theorem sc_bounds_left : FnScope nm_bounds_left ["bounds", "choice"] (defScope s_bounds_left) := ⟨rfl, rfl, rfl, by decide +kernel, rfl, by decide +kernel, by decide +kernel⟩
abbrev s__law_draws : Stmt := topS 3
abbrev nm__law_draws : List Str := ["script", "count", "rows", "place", "cell"]
theorem sc__law_draws : FnScope nm__law_draws ["script", "count"] (defScope s__law_draws) := ⟨rfl, rfl, rfl, by decide +kernel, rfl, by decide +kernel, by decide +kernel⟩
abbrev s__law_take : Stmt := topS 4
abbrev nm__law_take : List Str := ["rows", "at", "many", "got"]
theorem sc__law_take : FnScope nm__law_take ["rows", "at", "many"] (defScope s__law_take) := ⟨rfl, rfl, rfl, by decide +kernel, rfl, by decide +kernel, by decide +kernel⟩
abbrev s__law_points : Stmt := topS 5
abbrev nm__law_points : List Str := ["events"]
theorem sc__law_points : FnScope nm__law_points [] (defScope s__law_points) := ⟨rfl, rfl, rfl, by decide +kernel, rfl, by decide +kernel, by decide +kernel⟩
abbrev s__law_amount : Stmt := topS 6
abbrev nm__law_amount : List Str := ["rows", "at", "way"]
theorem sc__law_amount : FnScope nm__law_amount ["rows", "at"] (defScope s__law_amount) := ⟨rfl, rfl, rfl, by decide +kernel, rfl, by decide +kernel, by decide +kernel⟩
abbrev s__law_bound : Stmt := topS 7
abbrev nm__law_bound : List Str := ["rows", "at", "points", "parts", "one", "two", "amount"]
theorem sc__law_bound : FnScope nm__law_bound ["rows", "at", "points", "parts"] (defScope s__law_bound) := ⟨rfl, rfl, rfl, by decide +kernel, rfl, by decide +kernel, by decide +kernel⟩
abbrev s_law : Stmt := topS 8
abbrev nm_law : List Str := ["script", "rows", "parts", "points", "bounds", "choice", "part", "due", "bound", "given", "told", "k"]
theorem sc_law : FnScope nm_law ["script"] (defScope s_law) := ⟨rfl, rfl, rfl, by decide +kernel, rfl, by decide +kernel, by decide +kernel⟩
section
variable {P : Program} {w : World} {K : PySem.W.Frag} {mg : Str → Option Value} {base : Heap}
def leftB (bs : List Bd) (ch : List Int) : List Bd := bs.filter fun b => !ch.contains b.part
theorem left_step {bs : List Bd} {ch : List Int} {i : Nat} {b : Bd} (hb : bs[i]? = some b) : leftB (bs.take (i + 1)) ch = leftB (bs.take i) ch ++ (if ch.contains b.part = true then [] else [b]) := by
  unfold leftB
  rw [List.take_add_one, hb, List.filter_append]
  congr 1
  show List.filter _ [b] = _
  rw [List.filter_cons]
  cases ch.contains b.part <;> rfl
def sp_bounds_left (K : PySem.W.Frag) : Sp := fun vs H Q _ => ∃ (a c : Addr) (bs : List Bd) (ch : List Int), vs = [.ref a, .ref c] ∧ LsI K H a (bs.map bdP) ∧ bs.length ≤ 10000 ∧ TupI K H c ch ∧ ∀ (p : Addr) (H' : Hp), Same H H' → H p = none → LsI K H' p ((leftB bs ch).map bdP) → Q (.ref p) H'
theorem ok_bounds_left {f : Addr} {fd : FuncData} (D : Df K mg "bounds_left" s_bounds_left ["bounds", "choice"] f fd) (T : Txt K mg) : FnOk P w K mg base CX0 1 f fd ["bounds", "choice"] (sp_bounds_left K) := by
  refine D.F.ok sc_bounds_left (fun vs H Q E h => ?_) (fun cdv A outer s H vs Q E hr h => ?_)
  · obtain ⟨a, c, bs, ch, rfl, _⟩ := h
    rfl
  obtain ⟨a, c, bs, ch, rfl, ⟨vs, ha, hI⟩, hl, hc, q⟩ := h
  refine ⟨_, (pss_one (ps_ret (pe_lc (own := [("bound", 2)]) (g := gName 2) (tt := _) rfl sc_bounds_left.nd (pi_list (pv 0)) (blkOk_by (own := [("bound", 2)]) (N := nm_bounds_left) (sc := defScope s_bounds_left) (by decide +kernel)) (fun _ _ _ _ _ => (pg_name (i := 2) sc_bounds_left.nd rfl (Or.inl rfl))) (fun _ _ _ _ _ => (pts_one (pt_cmpR (r := rIn K true) op_notIn_seq (pe_ix (r := rIxT K) ix_tup (pv 2) pe_int (fun _ _ => rfl)) (pv 1) (by rfl)))) (fun _ _ _ _ _ => (pv 2))))), ?_⟩
  have hlen := hI.len
  rw [List.length_map] at hlen
  refine ⟨_, rfl, _, rfl, ⟨_, SqL.of ha⟩, fun D hD => lc_list (K := K) (a := a) (xs := vs) (fun i H' => Same H H' ∧ LsI K H' D ((leftB (bs.take i) ch).map bdP)) ⟨same_upd hD, _, upd_same, ImL.nil_⟩ (fun i H' _ p => SqL.of (p.1 _ _ ha)) ?_ ?_⟩
  · rintro i v H' hv ⟨sm, hL⟩
    obtain ⟨d, hd, hIm⟩ := hI.get' hv
    obtain ⟨b, hb, rfl⟩ := map_get hd
    have hIm' := Im.mono (.of sm) _ hIm
    obtain ⟨t, x, y, rfl, ht, hx, hy⟩ := Im.unbd hIm'
    have hi : i < bs.length := (List.getElem?_eq_some_iff.mp hb).1
    refine ⟨rfl, _, rfl, _, _, _, _, rfl, rfl, ht, at_of (j := 3) rfl rfl, _, rfl, _, _, rfl, .inr (sTup sm hc), rfl, flat_ints _, _, rfl, ?_⟩
    rw [inV_int]
    obtain ⟨ws, hw, hwl, hL2⟩ := hL.snoc hIm'
    have hfl : (leftB (bs.take i) ch).length ≤ 10000 := Nat.le_trans (List.length_filter_le _ _) (by rw [List.length_take]; omega)
    cases e : ch.contains b.part with
    | true =>
      refine iteF ⟨sm, ?_⟩
      rw [left_step hb, e, if_pos rfl, List.append_nil]
      exact hL
    | false =>
      refine iteT ⟨_, rfl, ws, hw, by rw [hwl, List.length_map]; exact sizes' (by omega), fun c w hcw => ?_, ?_⟩
      · rw [upd_ne (ne_of_none hcw hD)]
        exact sm _ _ hcw
      · rw [left_step hb, e, if_neg (by decide), List.map_append]
        exact hL2
  · rintro H' ⟨sm, hL⟩
    rw [hlen, List.take_length] at hL
    exact q D H' sm hD hL
def sp__law_draws (K : PySem.W.Frag) : Sp := fun vs H Q _ => ∃ (a : Addr) (ns : List Int) (c : Int), vs = [.ref a, .int c] ∧ SqL K H a (ns.map V.int) ∧ 0 ≤ c ∧ c ≤ 100 ∧ ∀ (p : Addr) (H' : Hp) (rs : List Int), Same H H' → H p = none → H' p = some (.lst (rs.map V.int)) → rs.length = c.toNat → Q (.ref p) H'
theorem ok__law_draws {f : Addr} {fd : FuncData} (D : Df K mg "_law_draws" s__law_draws ["script", "count"] f fd) (T : Txt K mg) : FnOk P w K mg base CX0 1 f fd ["script", "count"] (sp__law_draws K) := by
  refine D.F.ok sc__law_draws (fun vs H Q E h => ?_) (fun cdv A outer s H vs Q E hr h => ?_)
  · obtain ⟨a, ns, c, rfl, _⟩ := h
    rfl
  obtain ⟨a, ns, c, rfl, hS, h0, h1, q⟩ := h
  refine ⟨_, (pss_cons (ps_set (i := 2) sc__law_draws.nd rfl (Or.inl rfl) (pe_lst pa_nil))
    (pss_cons (ps_for PassesOwn.never rfl (pi_range1 rfl T.range (pa_cons (pv 1) pa_nil)) (pg_name (i := 3) sc__law_draws.nd rfl (Or.inl rfl))
      (pss_cons (ps_set (i := 4) sc__law_draws.nd rfl (Or.inl rfl) pe_int)
    (C8.pss_cut (ps_if (pt_cmpR op_lt (pv 3) (pe_callB call_len_seq rfl T.len PySem.boot_len (pa_cons (pv 0) pa_nil)) (nomark _))
      (pss_one (ps_set (i := 4) sc__law_draws.nd rfl (Or.inl rfl) (pe_callTy call_int1 rfl T.int (by decide +kernel) (pa_cons (pe_ix ix_list (pv 0) (pv 3) (fun _ _ => rfl)) pa_nil))))
      pss_nil)
    (C8.pss_cut (ps_if (pt_cmpR op_lt (pv 4) pe_int (nomark _))
      (pss_one (ps_set (i := 4) sc__law_draws.nd rfl (Or.inl rfl) (pe_op op_sub pe_int (pe_op op_mul pe_int (pv 4)))))
      pss_nil)
    (C8.pss_cut (ps_if (pt_cmpR op_lt (pv 4) pe_int (nomark _))
      (pss_cons (ps_set (i := 4) sc__law_draws.nd rfl (Or.inl rfl) (pe_op op_mod (pe_callTy call_int1 rfl T.int (by decide +kernel) (pa_cons (pe_op op_add (pe_op op_mul (pe_op op_add (pe_op op_add (pv 4) (pe_op op_mul pe_int (pv 3))) pe_int) pe_int) (pe_op op_mul (pe_op op_mul (pv 3) (pv 3)) pe_int)) pa_nil)) pe_int))
    (pss_one (ps_set (i := 4) sc__law_draws.nd rfl (Or.inl rfl) (pe_op op_mod (pe_callTy call_int1 rfl T.int (by decide +kernel) (pa_cons (pe_op op_add (pe_op op_mul (pv 4) pe_int) pe_int) pa_nil)) pe_int))))
      pss_nil)
    (pss_one (ps_expr (pe_bm PySem.F.plainAttrs_list PySem.F.slot_list_append PySem.F.type_list_append mt_append (pv 2) (pa_cons (pv 4) pa_nil)))))))))
    (pss_one (ps_ret (pv 2))))), ?_⟩
  refine ⟨(by show 0 ≤ sizeLine; decide), fun p hp => ?_⟩
  refine ⟨_, rfl, _, rfl, by omega, by omega, for_range (lo := 0) (n := c.toNat) (fun i σ H' => ∃ k v, ∃ rs : List Int, σ = [some (.ref a), some (.int c), some (.ref p), k, v] ∧ Same H H' ∧ H' p = some (.lst (rs.map V.int)) ∧ rs.length = i) ⟨none, none, [], rfl, same_upd hp, upd_same, rfl⟩ ?_ ?_⟩
  · rintro i σ H' hi ⟨k, v, rs, rfl, sm, ep, hl⟩
    have hi' : i ≤ 100 := by omega
    refine ⟨fun σ H2 => ∃ c2 : Int, σ = [some (.ref a), some (.int c), some (.ref p), some (.int (0 + (i : Int))), some (.int c2)] ∧ H2 = H', ?_, ?_⟩
    · refine ⟨_, rfl, _, rfl, _, _, rfl, .inl (sm.seq hS), _, _, rfl, rfl, _, rfl, ite2 (fun c' => ?_) (fun c' => ⟨_, rfl, rfl⟩)⟩
      have c2 := of_decide_eq_true c'
      rw [List.length_map] at c2
      exact ⟨_, rfl, _, rfl, _, _, _, _, rfl, rfl, sm.seq hS, at_of (j := i) (v := V.int (ns[i]'(by omega))) (by omega) (by rw [List.getElem?_map, List.getElem?_eq_getElem (by omega)]; rfl), .inl ⟨_, rfl, _, rfl, rfl⟩⟩
    rintro σ H2 ⟨c2, rfl, rfl⟩
    refine ⟨fun σ H3 => ∃ c2 : Int, σ = [some (.ref a), some (.int c), some (.ref p), some (.int (0 + (i : Int))), some (.int c2)] ∧ H3 = H2, ?_, ?_⟩
    · refine ⟨_, rfl, _, _, rfl, rfl, _, rfl, ite2 (fun c' => ?_) (fun c' => ⟨_, rfl, rfl⟩)⟩
      exact ⟨_, rfl, _, _, rfl, rfl, (.inl (by decide)), _, _, rfl, rfl, _, rfl, rfl⟩
    rintro σ H3 ⟨c3, rfl, rfl⟩
    refine ⟨fun σ H4 => ∃ c2 : Int, σ = [some (.ref a), some (.int c), some (.ref p), some (.int (0 + (i : Int))), some (.int c2)] ∧ H4 = H3, ?_, ?_⟩
    · refine ⟨_, rfl, _, _, rfl, rfl, _, rfl, ite2 (fun c' => ?_) (fun c' => ⟨_, rfl, rfl⟩)⟩
      refine ⟨_, rfl, _, rfl, _, _, rfl, rfl, (.inl (by decide)), _, _, rfl, rfl, _, _, rfl, rfl, _, _, rfl, rfl, (.inr (by decide)), _, rfl, _, rfl, _, _, rfl, rfl, (.inl ⟨by omega, by omega⟩), _, _, rfl, rfl, (.inr (by decide)), _, _, rfl, rfl, .inl ⟨_, rfl, _, _, rfl, rfl, (posJ rfl), ?_⟩⟩
      exact ⟨_, rfl, _, _, rfl, rfl, (.inr (by decide)), _, _, rfl, rfl, .inl ⟨_, rfl, _, _, rfl, rfl, (posJ rfl), _, rfl, rfl⟩⟩
    rintro σ H4 ⟨c4, rfl, rfl⟩
    refine ⟨_, rfl, .inl ⟨rfl, _, SqL.of ep⟩, _, rfl, _, _, _, rfl, rfl, ep, by rw [List.length_map, hl]; exact sizes' (by omega), ?_⟩
    refine ⟨_, _, rs ++ [c4], rfl, fun b u h => ?_, by rw [upd_same, List.map_append]; rfl, by rw [List.length_append, List.length_singleton, hl]⟩
    rw [upd_ne (ne_of_none h hp)]
    exact sm _ _ h
  · rintro σ H' ⟨k, v, rs, rfl, sm, ep, hl⟩
    exact ⟨_, rfl, q p H' rs sm hp ep hl⟩
def sp__law_take (K : PySem.W.Frag) : Sp := fun vs H Q _ => ∃ (r : Addr) (at_ m : Int) (n : Nat), vs = [.ref r, .int at_, .int m] ∧ RwAt H r n ∧ 0 ≤ at_ ∧ at_ < n ∧ 0 < m ∧ m ≤ 10 ^ 15 ∧ ∀ (g : Int) (H' : Hp), 0 ≤ g → g < m → But r H H' → RwAt H' r n → Q (.int g) H'
theorem ok__law_take {f : Addr} {fd : FuncData} (D : Df K mg "_law_take" s__law_take ["rows", "at", "many"] f fd) (T : Txt K mg) : FnOk P w K mg base CX0 1 f fd ["rows", "at", "many"] (sp__law_take K) := by
  refine D.F.ok sc__law_take (fun vs H Q E h => ?_) (fun cdv A outer s H vs Q E hr h => ?_)
  · obtain ⟨r, at_, m, n, rfl, _⟩ := h
    rfl
  obtain ⟨r, at_, m, n, rfl, ⟨ns, hr1, hl⟩, h0, h1, hm, hm2, q⟩ := h
  refine ⟨_, (pss_cons (ps_set (i := 3) sc__law_take.nd rfl (Or.inl rfl) (pe_op op_modN (pe_callTy call_int1 rfl T.int (by decide +kernel) (pa_cons (pe_ix ix_list (pv 0) (pv 1) (fun _ _ => rfl)) pa_nil)) (pv 2)))
    (pss_cons (ps_asg (pe_op op_fdivW (pe_callTy call_int1 rfl T.int (by decide +kernel) (pa_cons (pe_ix ix_list (pv 0) (pv 1) (fun _ _ => rfl)) pa_nil)) (pv 2)) (pg_sub (pv 0) (pv 1) set_list))
    (pss_one (ps_ret (pv 3))))), ?_⟩
  obtain ⟨j, rfl⟩ : ∃ j : Nat, at_ = (j : Int) := ⟨at_.toNat, by omega⟩
  have hj : j < ns.length := by omega
  have hat : atI (ns.map V.int) (j : Int) = some (.int ns[j]) := at_of (j := j) rfl (by rw [List.getElem?_map, List.getElem?_eq_getElem hj]; rfl)
  refine ⟨_, rfl, _, rfl, _, _, _, _, rfl, rfl, SqL.of hr1, hat, .inl ⟨_, rfl, _, rfl, _, _, rfl, rfl, by omega, ?_⟩⟩
  refine ⟨_, rfl, _, rfl, _, _, _, _, rfl, rfl, SqL.of hr1, hat, .inl ⟨_, rfl, _, rfl, _, _, rfl, rfl, wide_div (b := 60) hm (by omega) (by decide) (by decide), _, rfl, _, rfl, _, _, _, j, rfl, rfl, hr1, ixn (by rw [List.length_map]; exact hj), ?_⟩⟩
  refine ⟨_, rfl, q _ _ (Int.fmod_nonneg_of_pos _ hm) (Int.fmod_lt_of_pos _ hm) But.set ⟨ns.set j (ns[j] / m), ?_, by rw [List.length_set]; exact hl⟩⟩
  rw [upd_same, List.map_set]
def ptsL : List Pt := [⟨-1, 0, -1⟩, ⟨0, 1, -1⟩, ⟨0, 2, -1⟩, ⟨1, 1, -1⟩, ⟨0, 1, 0⟩, ⟨0, 2, 0⟩, ⟨1, 1, 1⟩]
def sp__law_points (K : PySem.W.Frag) : Sp := fun vs H Q _ => vs = [] ∧ ∀ (a : Addr) (H' : Hp), Same H H' → H a = none → LsI K H' a (ptsL.map ptP) → Q (.ref a) H'
theorem ok__law_points {f : Addr} {fd : FuncData} (D : Df K mg "_law_points" s__law_points [] f fd) (T : Txt K mg) : FnOk P w K mg base CX0 1 f fd [] (sp__law_points K) := by
  refine D.F.ok sc__law_points (fun vs H Q E h => ?_) (fun cdv A outer s H vs Q E hr h => ?_)
  · obtain ⟨rfl, _⟩ := h
    rfl
  obtain ⟨rfl, q⟩ := h
  refine ⟨_, (pss_cons (ps_set (i := 0) sc__law_points.nd rfl (Or.inl rfl) (pe_lst (pa_cons (pe_tup (pa_cons (pe_un un_neg pe_int) (pa_cons pe_int (pa_cons (pe_un un_neg pe_int) pa_nil)))) (pa_cons (pe_tup (pa_cons pe_int (pa_cons pe_int (pa_cons (pe_un un_neg pe_int) pa_nil)))) (pa_cons (pe_tup (pa_cons pe_int (pa_cons pe_int (pa_cons (pe_un un_neg pe_int) pa_nil)))) (pa_cons (pe_tup (pa_cons pe_int (pa_cons pe_int (pa_cons (pe_un un_neg pe_int) pa_nil)))) pa_nil))))))
    (pss_one (ps_ret (pe_op op_cat (pv 0) (pe_lst (pa_cons (pe_tup (pa_cons pe_int (pa_cons pe_int (pa_cons pe_int pa_nil)))) (pa_cons (pe_tup (pa_cons pe_int (pa_cons pe_int (pa_cons pe_int pa_nil)))) (pa_cons (pe_tup (pa_cons pe_int (pa_cons pe_int (pa_cons pe_int pa_nil)))) pa_nil)))))))), ?_⟩
  refine ⟨_, rfl, _, rfl, (by show 3 ≤ sizeLine; decide), fun a1 n1 => ?_⟩
  generalize e1 : upd H a1 _ = H1
  obtain ⟨s1, h1⟩ := fr e1 n1
  clear e1
  refine ⟨_, rfl, (by show 3 ≤ sizeLine; decide), fun a2 n2 => ?_⟩
  generalize e2 : upd H1 a2 _ = H2
  obtain ⟨s2, h2⟩ := fr e2 n2
  clear e2
  refine ⟨_, rfl, (by show 3 ≤ sizeLine; decide), fun a3 n3 => ?_⟩
  generalize e3 : upd H2 a3 _ = H3
  obtain ⟨s3, h3⟩ := fr e3 n3
  clear e3
  refine ⟨_, rfl, (by show 3 ≤ sizeLine; decide), fun a4 n4 => ?_⟩
  generalize e4 : upd H3 a4 _ = H4
  obtain ⟨s4, h4⟩ := fr e4 n4
  clear e4
  refine ⟨(by show 4 ≤ sizeLine; decide), fun a5 n5 => ?_⟩
  generalize e5 : upd H4 a5 _ = H5
  obtain ⟨s5, h5⟩ := fr e5 n5
  clear e5
  refine ⟨_, rfl, (by show 3 ≤ sizeLine; decide), fun a6 n6 => ?_⟩
  generalize e6 : upd H5 a6 _ = H6
  obtain ⟨s6, h6⟩ := fr e6 n6
  clear e6
  refine ⟨(by show 3 ≤ sizeLine; decide), fun a7 n7 => ?_⟩
  generalize e7 : upd H6 a7 _ = H7
  obtain ⟨s7, h7⟩ := fr e7 n7
  clear e7
  refine ⟨(by show 3 ≤ sizeLine; decide), fun a8 n8 => ?_⟩
  generalize e8 : upd H7 a8 _ = H8
  obtain ⟨s8, h8⟩ := fr e8 n8
  clear e8
  refine ⟨(by show 3 ≤ sizeLine; decide), fun a9 n9 => ?_⟩
  generalize e9 : upd H8 a9 _ = H9
  obtain ⟨s9, h9⟩ := fr e9 n9
  clear e9
  have s59 := s6.trans (s7.trans (s8.trans s9))
  refine ⟨_, _, _, _, rfl, rfl, s59 _ _ h5, h9, (by show 7 ≤ sizeLine; decide), fun a10 n10 => ?_⟩
  generalize e10 : upd H9 a10 _ = H10
  obtain ⟨s10, h10⟩ := fr e10 n10
  clear e10
  have t8 := s8.trans (s9.trans s10)
  have t6 := s7.trans t8
  have t4 := s5.trans (s6.trans t6)
  have t3 := s4.trans t4
  have t2 := s3.trans t3
  have t1 := s2.trans t2
  have n0 : H a10 = none := by
    cases e : H a10 with
    | none => rfl
    | some w => rw [(s1.trans (s2.trans (s3.trans (s4.trans (s5.trans s59))))) _ _ e] at n10; cases n10
  refine q a10 H10 (s1.trans t1) n0 ⟨_, h10, ?_⟩
  exact ImL.cons_ (ptI (p := ⟨-1, 0, -1⟩) (SqT.of (t1 _ _ h1))) (ImL.cons_ (ptI (p := ⟨0, 1, -1⟩) (SqT.of (t2 _ _ h2))) (ImL.cons_ (ptI (p := ⟨0, 2, -1⟩) (SqT.of (t3 _ _ h3))) (ImL.cons_ (ptI (p := ⟨1, 1, -1⟩) (SqT.of (t4 _ _ h4)))
    (ImL.cons_ (ptI (p := ⟨0, 1, 0⟩) (SqT.of (t6 _ _ h6))) (ImL.cons_ (ptI (p := ⟨0, 2, 0⟩) (SqT.of (t8 _ _ h7))) (ImL.cons_ (ptI (p := ⟨1, 1, 1⟩) (SqT.of ((s9.trans s10) _ _ h8))) ImL.nil_))))))
def sp__law_amount (K : PySem.W.Frag) : Sp := fun vs H Q _ => ∃ (r : Addr) (at_ : Int) (n : Nat), vs = [.ref r, .int at_] ∧ RwAt H r n ∧ 0 ≤ at_ ∧ at_ < n ∧ ∀ (g : Int) (H' : Hp), -1000000000000 ≤ g → g ≤ 1000000000000 → But r H H' → RwAt H' r n → Q (.int g) H'
theorem ok__law_amount {f : Addr} {fd : FuncData} (D : Df K mg "_law_amount" s__law_amount ["rows", "at"] f fd) (T : Txt K mg) {f__law_take : Addr} {fd__law_take : FuncData} (D__law_take : Df K mg "_law_take" s__law_take ["rows", "at", "many"] f__law_take fd__law_take) (G__law_take : FnOk P w K mg base CX0 1 f__law_take fd__law_take ["rows", "at", "many"] (sp__law_take K)) : FnOk P w K mg base CX0 2 f fd ["rows", "at"] (sp__law_amount K) := by
  refine D.F.ok sc__law_amount (fun vs H Q E h => ?_) (fun cdv A outer s H vs Q E hr h => ?_)
  · obtain ⟨r, at_, n, rfl, _⟩ := h
    rfl
  obtain ⟨r, at_, n, rfl, hr0, h0, h1, q⟩ := h
  refine ⟨_, (pss_cons (ps_set (i := 2) sc__law_amount.nd rfl (Or.inl rfl) (pe_call G__law_take (hr.mono (by decide)) rfl D__law_take.m D__law_take.F.kp D__law_take.b .nil pass0 (pa_cons (pv 0) (pa_cons (pv 1) (pa_cons pe_int pa_nil)))))
    (pss_cons (ps_if (pt_cmpR op_eq (pv 2) pe_int (nomark _))
      (pss_one (ps_ret (pe_op op_sub (pe_call G__law_take (hr.mono (by decide)) rfl D__law_take.m D__law_take.F.kp D__law_take.b .nil pass0 (pa_cons (pv 0) (pa_cons (pv 1) (pa_cons pe_int pa_nil)))) pe_int)))
      pss_nil)
    (pss_cons (ps_if (pt_cmpR op_eq (pv 2) pe_int (nomark _))
      (pss_one (ps_ret pe_int))
      pss_nil)
    (pss_cons (ps_if (pt_cmpR op_lt (pv 2) pe_int (nomark _))
      (pss_one (ps_ret (pe_op op_sub (pe_call G__law_take (hr.mono (by decide)) rfl D__law_take.m D__law_take.F.kp D__law_take.b .nil pass0 (pa_cons (pv 0) (pa_cons (pv 1) (pa_cons pe_int pa_nil)))) pe_int)))
      pss_nil)
    (pss_one (ps_ret (pe_call G__law_take (hr.mono (by decide)) rfl D__law_take.m D__law_take.F.kp D__law_take.b .nil pass0 (pa_cons (pv 0) (pa_cons (pv 1) (pa_cons pe_int pa_nil)))))))))), ?_⟩
  refine ⟨_, rfl, _, rfl, r, at_, 8, n, rfl, hr0, h0, h1, by decide, by decide, fun w H1 w0 w1 b1 r1 => ?_⟩
  refine ⟨_, rfl, rfl, _, rfl, ite2 (fun c => ?_) (fun c => ?_)⟩
  · refine ⟨_, rfl, _, rfl, r, at_, 2000000000001, n, rfl, r1, h0, h1, by decide, by decide, fun g H2 g0 g1 b2 r2 => ?_⟩
    exact ⟨_, _, rfl, rfl, q _ H2 (by omega) (by omega) (b1.trans b2) r2⟩
  refine ⟨_, rfl, rfl, _, rfl, ite2 (fun c => ?_) (fun c => ?_)⟩
  · exact q _ H1 (by decide) (by decide) b1 r1
  refine ⟨_, rfl, _, _, rfl, rfl, _, rfl, ite2 (fun c => ?_) (fun c => ?_)⟩
  · refine ⟨_, rfl, _, rfl, r, at_, 41, n, rfl, r1, h0, h1, by decide, by decide, fun g H2 g0 g1 b2 r2 => ?_⟩
    exact ⟨_, _, rfl, rfl, q _ H2 (by omega) (by omega) (b1.trans b2) r2⟩
  · exact ⟨_, rfl, _, rfl, r, at_, 60, n, rfl, r1, h0, h1, by decide, by decide, fun g H2 g0 g1 b2 r2 => q _ H2 (by omega) (by omega) (b1.trans b2) r2⟩
def sp__law_bound (K : PySem.W.Frag) : Sp := fun vs H Q _ => ∃ (r a : Addr) (at_ pa : Int) (n : Nat) (ps : List Pt), vs = [.ref r, .int at_, .ref a, .int pa] ∧ RwAt H r n ∧ 0 ≤ at_ ∧ at_ < n ∧ 0 ≤ pa ∧ pa ≤ 100 ∧ LsI K H a (ps.map ptP) ∧ a ≠ r ∧ 0 < ps.length ∧ ps.length ≤ 100 ∧
  ∀ (b : Bd) (v : V) (H' : Hp), b.one ∈ ps → b.two ∈ ps → -1000000000000 ≤ b.amount → b.amount ≤ 1000000000000 → -1 ≤ b.part → b.part < pa → But r H H' → RwAt H' r n → Im K H' (bdP b) v → Q v H'
theorem ok__law_bound {f : Addr} {fd : FuncData} (D : Df K mg "_law_bound" s__law_bound ["rows", "at", "points", "parts"] f fd) (T : Txt K mg) {f__law_take : Addr} {fd__law_take : FuncData} (D__law_take : Df K mg "_law_take" s__law_take ["rows", "at", "many"] f__law_take fd__law_take) (G__law_take : FnOk P w K mg base CX0 1 f__law_take fd__law_take ["rows", "at", "many"] (sp__law_take K)) {f__law_amount : Addr} {fd__law_amount : FuncData} (D__law_amount : Df K mg "_law_amount" s__law_amount ["rows", "at"] f__law_amount fd__law_amount) (G__law_amount : FnOk P w K mg base CX0 2 f__law_amount fd__law_amount ["rows", "at"] (sp__law_amount K)) : FnOk P w K mg base CX0 3 f fd ["rows", "at", "points", "parts"] (sp__law_bound K) := by
  refine D.F.ok sc__law_bound (fun vs H Q E h => ?_) (fun cdv A outer s H vs Q E hr h => ?_)
  · obtain ⟨r, a, at_, pa, n, ps, rfl, _⟩ := h
    rfl
  obtain ⟨r, a, at_, pa, n, ps, rfl, hr0, h0, h1, p0, p1, hL, nar, l0, l1, q⟩ := h
  refine ⟨_, (pss_cons (ps_set (i := 4) sc__law_bound.nd rfl (Or.inl rfl) (pe_ix ix_list (pv 2) (pe_call G__law_take (hr.mono (by decide)) rfl D__law_take.m D__law_take.F.kp D__law_take.b .nil pass0 (pa_cons (pv 0) (pa_cons (pv 1) (pa_cons (pe_callB call_len_seq rfl T.len PySem.boot_len (pa_cons (pv 2) pa_nil)) pa_nil)))) (fun _ _ => rfl)))
    (pss_cons (ps_set (i := 5) sc__law_bound.nd rfl (Or.inl rfl) (pe_ix ix_list (pv 2) (pe_call G__law_take (hr.mono (by decide)) rfl D__law_take.m D__law_take.F.kp D__law_take.b .nil pass0 (pa_cons (pv 0) (pa_cons (pv 1) (pa_cons (pe_callB call_len_seq rfl T.len PySem.boot_len (pa_cons (pv 2) pa_nil)) pa_nil)))) (fun _ _ => rfl)))
    (pss_cons (ps_set (i := 6) sc__law_bound.nd rfl (Or.inl rfl) (pe_call G__law_amount (hr.mono (by decide)) rfl D__law_amount.m D__law_amount.F.kp D__law_amount.b .nil pass0 (pa_cons (pv 0) (pa_cons (pv 1) pa_nil))))
    (pss_one (ps_ret (pe_tup (pa_cons (pv 4) (pa_cons (pv 5) (pa_cons (pv 6) (pa_cons (pe_op op_sub (pe_call G__law_take (hr.mono (by decide)) rfl D__law_take.m D__law_take.F.kp D__law_take.b .nil pass0 (pa_cons (pv 0) (pa_cons (pv 1) (pa_cons (pe_op op_add (pv 3) pe_int) pa_nil)))) pe_int) pa_nil)))))))))), ?_⟩
  obtain ⟨vs, ha, hI⟩ := hL
  have hl := hI.len
  rw [List.length_map] at hl
  refine ⟨_, rfl, _, rfl, _, rfl, _, rfl, _, _, rfl, .inl (SqL.of ha), r, at_, _, n, rfl, hr0, h0, h1, by omega, by omega, fun g H1 g0 g1 b1 r1 => ?_⟩
  obtain ⟨d1, v1, e1, t1, i1⟩ := list_at hI g0 (by rw [List.length_map]; omega)
  obtain ⟨x1, ex1, rfl⟩ := map_get e1
  have k1 := hr0.tk b1
  have ha1 := b1 _ _ nar ha
  refine ⟨_, _, _, _, rfl, rfl, SqL.of ha1, t1, ?_⟩
  refine ⟨_, rfl, _, rfl, _, rfl, _, rfl, _, _, rfl, .inl (SqL.of ha1), r, at_, _, n, rfl, r1, h0, h1, by omega, by omega, fun g2 H2 g20 g21 b2 r2 => ?_⟩
  obtain ⟨d2, v2, e2, t2, i2⟩ := list_at hI g20 (by rw [List.length_map]; omega)
  obtain ⟨x2, ex2, rfl⟩ := map_get e2
  have k2 := r1.tk b2
  have ha2 := b2 _ _ nar ha1
  refine ⟨_, _, _, _, rfl, rfl, SqL.of ha2, t2, ?_⟩
  refine ⟨_, rfl, _, rfl, r, at_, n, rfl, r2, h0, h1, fun am H3 m0 m1 b3 r3 => ?_⟩
  have k3 := r2.tk b3
  refine ⟨_, rfl, _, rfl, _, rfl, _, rfl, _, rfl, _, rfl, _, _, rfl, rfl, r, at_, _, n, rfl, r3, h0, h1, by omega, by omega, fun g4 H4 g40 g41 b4 r4 => ?_⟩
  have k4 := r3.tk b4
  refine ⟨_, _, rfl, rfl, (by show 4 ≤ sizeLine; decide), fun a5 n5 => ?_⟩
  generalize e5 : upd H4 a5 _ = H5
  obtain ⟨s5, h5⟩ := fr e5 n5
  clear e5
  have k5 := TupK.of s5
  have k25 := k3.trans (k4.trans k5)
  exact q ⟨x1, x2, am, g4 - 1⟩ _ H5 (List.mem_of_getElem? ex1) (List.mem_of_getElem? ex2) m0 m1 (by show -1 ≤ g4 - 1; omega) (by show g4 - 1 < pa; omega) (b1.trans (b2.trans (b3.trans (b4.trans (But.of s5))))) (r4.keep s5) (bdI (b := ⟨x1, x2, am, g4 - 1⟩) (SqT.of h5) (Im.mono (k1.trans (k2.trans k25)) _ i1) (Im.mono (k1.trans (k2.trans k25)) _ i2))
def sp_law (K : PySem.W.Frag) : Sp := fun vs H Q _ => ∃ (a : Addr) (ns : List Int), vs = [.ref a] ∧ SqL K H a (ns.map V.int) ∧ ns.length ≤ 63 ∧ ∀ H', Q (.bl true) H'
theorem ok_law {f : Addr} {fd : FuncData} (D : Df K mg "law" s_law ["script"] f fd) (T : Txt K mg) {f_bounds_left : Addr} {fd_bounds_left : FuncData} (D_bounds_left : Df K mg "bounds_left" s_bounds_left ["bounds", "choice"] f_bounds_left fd_bounds_left) (G_bounds_left : FnOk P w K mg base CX0 1 f_bounds_left fd_bounds_left ["bounds", "choice"] (sp_bounds_left K)) {f__law_draws : Addr} {fd__law_draws : FuncData} (D__law_draws : Df K mg "_law_draws" s__law_draws ["script", "count"] f__law_draws fd__law_draws) (G__law_draws : FnOk P w K mg base CX0 1 f__law_draws fd__law_draws ["script", "count"] (sp__law_draws K)) {f__law_take : Addr} {fd__law_take : FuncData} (D__law_take : Df K mg "_law_take" s__law_take ["rows", "at", "many"] f__law_take fd__law_take) (G__law_take : FnOk P w K mg base CX0 1 f__law_take fd__law_take ["rows", "at", "many"] (sp__law_take K)) {f__law_points : Addr} {fd__law_points : FuncData} (D__law_points : Df K mg "_law_points" s__law_points [] f__law_points fd__law_points) (G__law_points : FnOk P w K mg base CX0 1 f__law_points fd__law_points [] (sp__law_points K)) {f__law_bound : Addr} {fd__law_bound : FuncData} (D__law_bound : Df K mg "_law_bound" s__law_bound ["rows", "at", "points", "parts"] f__law_bound fd__law_bound) (G__law_bound : FnOk P w K mg base CX0 3 f__law_bound fd__law_bound ["rows", "at", "points", "parts"] (sp__law_bound K)) : FnOk P w K mg base CX0 4 f fd ["script"] (sp_law K) := by
  refine D.F.ok sc_law (fun vs H Q E h => ?_) (fun cdv A outer s H vs Q E hr h => ?_)
  · obtain ⟨a, ns, rfl, _⟩ := h
    rfl
  obtain ⟨a, ns, rfl, hS, h63, q⟩ := h
  refine ⟨_, (pss_cons (ps_set (i := 1) sc_law.nd rfl (Or.inr rfl) (pe_call G__law_draws (hr.mono (by decide)) rfl D__law_draws.m D__law_draws.F.kp D__law_draws.b .nil pass0 (pa_cons (pv 0) (pa_cons pe_int pa_nil))))
    (pss_cons (ps_set (i := 2) sc_law.nd rfl (Or.inr rfl) (pe_call G__law_take (hr.mono (by decide)) rfl D__law_take.m D__law_take.F.kp D__law_take.b .nil pass0 (pa_cons (pv 1) (pa_cons pe_int (pa_cons pe_int pa_nil)))))
    (pss_cons (ps_set (i := 3) sc_law.nd rfl (Or.inr rfl) (pe_call0 G__law_points (hr.mono (by decide)) rfl D__law_points.m D__law_points.F.kp D__law_points.b .nil pass0))
    (pss_cons (ps_setLc (i := 4) (own := [("k", 11)]) (g := gName 11) (tt := tYes) rfl sc_law.nd rfl rfl (sw_true rfl rfl rfl (by decide +kernel)) (pi_range1 rfl T.range (pa_cons (pe_call G__law_take (hr.mono (by decide)) rfl D__law_take.m D__law_take.F.kp D__law_take.b .nil pass0 (pa_cons (pv 1) (pa_cons pe_int (pa_cons pe_int pa_nil)))) pa_nil)) (blkOk_by (own := [("k", 11)]) (N := nm_law) (sc := defScope s_law) (by decide +kernel)) (fun _ _ _ _ _ => (pg_name (i := 11) sc_law.nd rfl (Or.inl rfl))) (fun _ _ _ _ _ => pts_nil) (fun _ _ _ _ _ => (pe_call G__law_bound (hr.mono (by decide)) rfl D__law_bound.m D__law_bound.F.kp D__law_bound.b .nil pass0 (pa_cons (pv 1) (pa_cons (pe_op op_add pe_int (pv 11)) (pa_cons (pv 3) (pa_cons (pv 2) pa_nil)))))))
    (C8.pss_cut (ps_if (PW.pt (pw_and (pt_cmpR op_gt (pe_callB call_len_seq rfl T.len PySem.boot_len (pa_cons (pv 4) pa_nil)) pe_int (nomark _)) (pw_and1 (pt_cmpR op_eq (pe_call G__law_take (hr.mono (by decide)) rfl D__law_take.m D__law_take.F.kp D__law_take.b .nil pass0 (pa_cons (pv 1) (pa_cons pe_int (pa_cons pe_int pa_nil)))) pe_int (nomark _)))))
      (pss_one (ps_expr (pe_bm PySem.F.plainAttrs_list PySem.F.slot_list_append PySem.F.type_list_append mt_append (pv 4) (pa_cons (pe_ix ix_list (pv 4) pe_int (fun _ _ => rfl)) pa_nil))))
      pss_nil)
    (pss_cons (ps_set (i := 5) sc_law.nd rfl (Or.inl rfl) (pe_tup pa_nil))
    (pss_cons (ps_for PassesOwn.never rfl (pi_range1 rfl T.range (pa_cons (pv 2) pa_nil)) (pg_name (i := 6) sc_law.nd rfl (Or.inl rfl))
      (pss_one (ps_if (PW.pt (pw_and (pt_cmpR op_lt (pe_callB call_len_seq rfl T.len PySem.boot_len (pa_cons (pv 5) pa_nil)) pe_int (nomark _)) (pw_and1 (pt_cmpR op_eq (pe_call G__law_take (hr.mono (by decide)) rfl D__law_take.m D__law_take.F.kp D__law_take.b .nil pass0 (pa_cons (pv 1) (pa_cons pe_int (pa_cons pe_int pa_nil)))) pe_int (nomark _)))))
      (pss_one (ps_set (i := 5) sc_law.nd rfl (Or.inl rfl) (pe_op op_catA (pv 5) (pe_tup (pa_cons (pv 6) pa_nil)))))
      pss_nil)))
    (pss_cons (ps_set (i := 7) sc_law.nd rfl (Or.inl rfl) (pe_lst pa_nil))
    (pss_cons (ps_for PassesOwn.never rfl (pi_list (pv 4)) (pg_name (i := 8) sc_law.nd rfl (Or.inl rfl))
      (pss_one (ps_if (pt_cmpR op_notIn_seq (pe_ix ix_tup (pv 8) pe_int (fun _ _ => rfl)) (pv 5) (by rfl))
      (pss_one (ps_expr (pe_bm PySem.F.plainAttrs_list PySem.F.slot_list_append PySem.F.type_list_append mt_append (pv 7) (pa_cons (pv 8) pa_nil))))
      pss_nil)))
    (pss_cons (ps_set (i := 9) sc_law.nd rfl (Or.inl rfl) (pe_callTy call_list_of rfl T.list (by decide +kernel) (pa_cons (pv 4) pa_nil)))
    (pss_cons (ps_set (i := 10) sc_law.nd rfl (Or.inl rfl) (pe_call G_bounds_left (hr.mono (by decide)) rfl D_bounds_left.m D_bounds_left.F.kp D_bounds_left.b .nil pass0 (pa_cons (pv 9) (pa_cons (pv 5) pa_nil))))
    (pss_cons (ps_if (PW.pt (pw_or (pt_not (pt_val (pe_callB call_isi rfl T.isinstance (by decide +kernel) (pa_cons (pv 10) (pa_cons (pe_bltn (v := V.ty "list") (by rfl) T.list (by decide +kernel) rfl) pa_nil))))) (pw_or (pt_cmpR (op_neP hr.units) (pv 10) (pv 7) (nomark _)) (pw_or1 (pt_cmpR (op_neP hr.units) (pv 9) (pv 4) (nomark _))))))
      (pss_one (ps_ret pe_bl))
      pss_nil)
    (pss_cons (ps_expr (pe_bm PySem.F.plainAttrs_list PySem.F.slot_list_append PySem.F.type_list_append mt_append (pv 10) (pa_cons pe_int pa_nil)))
    (pss_one (ps_ret (pe_and (pe_cmpR (op_eqP hr.units) (pv 9) (pv 4) (nomark _)) (pe_and (pe_cmpR (op_eqP hr.units) (pe_call G_bounds_left (hr.mono (by decide)) rfl D_bounds_left.m D_bounds_left.F.kp D_bounds_left.b .nil pass0 (pa_cons (pv 9) (pa_cons (pv 5) pa_nil))) (pv 7) (nomark _)) (pe_one (pe_cmpR (op_eqP hr.units) (pe_call G_bounds_left (hr.mono (by decide)) rfl D_bounds_left.m D_bounds_left.F.kp D_bounds_left.b .nil pass0 (pa_cons (pe_lst pa_nil) (pa_cons (pv 5) pa_nil))) (pe_lst pa_nil) (nomark _)))))))))))))))))))), ?_⟩
  refine ⟨_, rfl, a, ns, 14, rfl, hS, by decide, by decide, fun r H1 rs s1 nr er lr => ?_⟩
  have r1 : RwAt H1 r 14 := ⟨rs, er, lr⟩
  refine ⟨_, rfl, r, 0, 6, 14, rfl, r1, by decide, by decide, by decide, by decide, fun pa H2 p0 p6 b2 r2 => ?_⟩
  refine ⟨rfl, fun pts H3 s3 np hP => ?_⟩
  have r3 := r2.keep s3
  have npr : pts ≠ r := r2.ne np
  refine ⟨_, rfl, r, 0, 13, 14, rfl, r3, by decide, by decide, by decide, by decide, fun m H4 m0 m13 b4 r4 => ?_⟩
  obtain ⟨x3, hx3⟩ := r3.lst
  have hP4 := hP.but b4 hx3 npr
  refine ⟨_, rfl, by omega, by omega, fun D hD => lc_range (lo := 0) (n := m.toNat) (fun i H' => ∃ bs : List Bd, But r H4 H' ∧ RwAt H' r 14 ∧ LsI K H' D (bs.map bdP) ∧ bs.length = i) ⟨[], But.of (same_upd hD), r4.keep (same_upd hD), ⟨_, upd_same, ImL.nil_⟩, rfl⟩ ?_ ?_⟩
  · rintro i H' hi ⟨bs, b5, r5, hL, hl⟩
    obtain ⟨x4, hx4⟩ := r4.lst
    have nDr : D ≠ r := r4.ne hD
    refine ⟨rfl, _, rfl, _, rfl, _, _, rfl, rfl, _, rfl, _, rfl, r, pts, _, pa, 14, ptsL, rfl, r5, by omega, by omega, by omega, by omega, hP4.but b5 hx4 npr, npr, by decide, by decide, fun b v H6 _ _ _ _ _ _ b6 r6 hI => ?_⟩
    obtain ⟨x5, hx5⟩ := r5.lst
    obtain ⟨ws, hw, hwl, hL2⟩ := (hL.but b6 hx5 nDr).snoc hI
    rw [List.length_map] at hwl
    refine ⟨ws, hw, sizes' (by omega), bs ++ [b], fun c w hc hcw => ?_, r6.but But.set nDr.symm, by rw [List.map_append]; exact hL2, by rw [List.length_append, List.length_singleton, hl]⟩
    have := b6 _ _ hc (b5 _ _ hc hcw)
    rw [upd_ne (ne_of_none hcw hD)]
    exact this
  rintro H5 ⟨bs, b5, r5, hL, hl⟩
  have nDr : D ≠ r := r4.ne hD
  clear b2 r2 s3 hP r3 b4 hP4 b5 r4 np hD
  refine ⟨fun σ H' => ∃ bs : List Bd, σ = [some (.ref a), some (.ref r), some (.int pa), some (.ref pts), some (.ref D), none, none, none, none, none, none, none] ∧ RwAt H' r 14 ∧ LsI K H' D (bs.map bdP) ∧ bs.length ≤ 20, ?_, ?_⟩
  · obtain ⟨vs, hv, hI⟩ := id hL
    have hvl := hI.len
    rw [List.length_map] at hvl
    refine ⟨_, rfl, _, _, rfl, .inl (SqL.of hv), _, _, rfl, rfl, _, rfl, ite2 (fun c => ?_) (fun c => iteF ⟨bs, rfl, r5, hL, by omega⟩)⟩
    obtain ⟨x5, hx5⟩ := r5.lst
    refine ⟨_, rfl, r, 0, 2, 14, rfl, r5, by decide, by decide, by decide, by decide, fun g H6 g0 g2 b6 r6 => ⟨rfl, _, rfl, ite2 (fun c2 => ?_) (fun _ => ⟨bs, rfl, r6, hL.but b6 hx5 nDr, by omega⟩)⟩⟩
    have c1 := of_decide_eq_true c
    obtain ⟨d, w, hd, hw, hiw⟩ := list_at (j := 0) hI (by decide) (by rw [List.length_map]; omega)
    obtain ⟨b, hb, rfl⟩ := map_get hd
    have hL6 := hL.but b6 hx5 nDr
    have hv6 := b6 _ _ nDr hv
    have hiw6 := Im.mono (r5.tk b6) _ hiw
    obtain ⟨ws, hws, hwl, hL7⟩ := hL6.snoc hiw6
    rw [hv6] at hws
    cases hws
    refine ⟨_, rfl, .inl ⟨rfl, _, SqL.of hv6⟩, _, rfl, _, _, _, _, rfl, rfl, SqL.of hv6, hw, _, _, _, rfl, rfl, hv6, sizes' (by omega), bs ++ [b], rfl, r6.but But.set nDr.symm, by rw [List.map_append]; exact hL7, by rw [List.length_append, List.length_singleton]; omega⟩
  clear hL hl bs
  rintro σ H6 ⟨bs, rfl, r6, hL6, hbl⟩
  refine ⟨(by show 0 ≤ sizeLine; decide), fun a7 n7 => ?_⟩
  generalize e7 : upd H6 a7 _ = H7
  obtain ⟨s7, h7⟩ := fr e7 n7
  clear e7
  refine ⟨_, rfl, _, rfl, by omega, by omega, for_range (lo := 0) (n := pa.toNat) (fun i σ H' => ∃ (c : Addr) (v6 : Option V) (ch : List Int), σ = [some (.ref a), some (.ref r), some (.int pa), some (.ref pts), some (.ref D), some (.ref c), v6, none, none, none, none, none] ∧ RwAt H' r 14 ∧ LsI K H' D (bs.map bdP) ∧ TupI K H' c ch ∧ ch.length ≤ i) ⟨a7, none, [], rfl, r6.keep s7, hL6.keep s7, SqT.of h7, Nat.le_refl _⟩ ?_ ?_⟩
  · rintro i σ H8 hi ⟨c, v6, ch, rfl, r8, hL8, hC8, hcl⟩
    obtain ⟨x8, hx8⟩ := r8.lst
    refine ⟨_, rfl, _, _, rfl, .inr hC8, _, _, rfl, rfl, _, rfl, ite2 (fun g => ?_) (fun g => iteF ⟨c, _, ch, rfl, r8, hL8, hC8, by omega⟩)⟩
    refine ⟨_, rfl, r, 13, 2, 14, rfl, r8, by decide, by decide, by decide, by decide, fun g H9 g0 g2 b9 r9 => ⟨rfl, _, rfl, ite2 (fun c2 => ?_) (fun _ => ⟨c, _, ch, rfl, r9, hL8.but b9 hx8 nDr, hC8.but b9 hx8, by omega⟩)⟩⟩
    have hC9 := hC8.but b9 hx8
    have hL9 := hL8.but b9 hx8 nDr
    refine ⟨_, rfl, _, rfl, (by show 1 ≤ sizeLine; decide), fun a10 n10 => ?_⟩
    generalize e10 : upd H9 a10 _ = H10
    obtain ⟨s10, h10⟩ := fr e10 n10
    clear e10
    have hC10 := hC9.keep s10
    refine ⟨c, a10, _, _, rfl, rfl, hC10, SqT.of h10, by rw [List.length_map, List.length_singleton]; exact sizes (by omega), fun e => ?_, fun _ e => by simp at e, fun _ _ a11 n11 => ?_⟩
    · exact ⟨a10, _, [_], rfl, r9.keep s10, hL9.keep s10, SqT.of h10, by rw [List.length_singleton]; omega⟩
    · generalize e11 : upd H10 a11 _ = H11
      obtain ⟨s11, h11⟩ := fr e11 n11
      clear e11
      refine ⟨a11, _, ch ++ [0 + (i : Int)], rfl, (r9.keep s10).keep s11, (hL9.keep s10).keep s11, ?_, by rw [List.length_append, List.length_singleton]; omega⟩
      unfold TupI
      rw [List.map_append]
      exact SqT.of h11
  rintro σ H8 ⟨c, v6, ch, rfl, r8, hL8, hC8, hcl⟩
  clear hL6 r6 s7 h7 n7
  refine ⟨(by show 0 ≤ sizeLine; decide), fun a9 n9 => ?_⟩
  generalize e9 : upd H8 a9 _ = H9
  obtain ⟨s9, h9⟩ := fr e9 n9
  clear e9
  obtain ⟨vs, hv, hI⟩ := id hL8
  have hvl := hI.len
  rw [List.length_map] at hvl
  refine ⟨_, rfl, _, rfl, ⟨_, SqL.of (s9 _ _ hv)⟩, for_list (K := K) (a := D) (xs := vs) (fun i σ H' => ∃ v8, σ = [some (.ref a), some (.ref r), some (.int pa), some (.ref pts), some (.ref D), some (.ref c), v6, some (.ref a9), v8, none, none, none] ∧ Same H8 H' ∧ LsI K H' a9 ((leftB (bs.take i) ch).map bdP)) ⟨none, rfl, s9, _, h9, ImL.nil_⟩ (fun i σ H' _ ⟨_, _, sm, _⟩ => SqL.of (sm _ _ hv)) ?_ ?_⟩
  · rintro i v σ H' hvi ⟨v8, rfl, sm, hL⟩
    obtain ⟨d, hd, hIm⟩ := hI.get' hvi
    obtain ⟨b, hb, rfl⟩ := map_get hd
    have hIm' := Im.mono (.of sm) _ hIm
    obtain ⟨t, x, y, rfl, ht, hx, hy⟩ := Im.unbd hIm'
    have hi : i < bs.length := (List.getElem?_eq_some_iff.mp hb).1
    refine ⟨_, rfl, _, _, _, _, rfl, rfl, ht, at_of (j := 3) rfl rfl, _, rfl, _, _, rfl, .inr (sTup sm hC8), rfl, flat_ints _, _, rfl, ?_⟩
    rw [inV_int]
    obtain ⟨ws, hw, hwl, hL2⟩ := hL.snoc hIm'
    have hfl : (leftB (bs.take i) ch).length ≤ 10000 := Nat.le_trans (List.length_filter_le _ _) (by rw [List.length_take]; omega)
    cases e : ch.contains b.part with
    | true =>
      refine iteF ⟨_, rfl, sm, ?_⟩
      rw [left_step hb, e, if_pos rfl, List.append_nil]
      exact hL
    | false =>
      refine iteT ⟨_, rfl, .inl ⟨rfl, _, SqL.of hw⟩, _, rfl, _, _, _, rfl, rfl, hw, by rw [hwl, List.length_map]; exact sizes' (by omega), _, rfl, fun c w hcw => ?_, ?_⟩
      · rw [upd_ne (ne_of_none hcw n9)]
        exact sm _ _ hcw
      · rw [left_step hb, e, if_neg (by decide), List.map_append]
        exact hL2
  rintro σ H10 ⟨v8, rfl, s10, hU⟩
  rw [hvl, List.take_length] at hU
  have hv10 := s10 _ _ hv
  have hL10 := hL8.keep s10
  have hC10 : TupI K H10 c ch := sTup s10 hC8
  refine ⟨_, rfl, _, _, rfl, .inl (SqL.of hv10), fun a11 n11 => ?_⟩
  generalize e11 : upd H10 a11 _ = H11
  obtain ⟨s11, h11⟩ := fr e11 n11
  clear e11
  have hG11 : LsI K H11 a11 (bs.map bdP) := ⟨vs, h11, ImL.mono (.of (fun b o h => s11 _ _ (s10 b o h))) _ hI⟩
  refine ⟨_, rfl, _, rfl, a11, c, bs, ch, rfl, hG11, by omega, sTup s11 hC10, fun a12 H12 s12 n12 hT => ?_⟩
  have hU12 := (hU.keep s11).keep s12
  have hL12 := (hL10.keep s11).keep s12
  have hG12 := hG11.keep s12
  obtain ⟨xt, ht⟩ := hT.lst
  refine ⟨_, rfl, _, _, _, _, _, rfl, ClsV.ty "list", tyL (SqL.of ht), kit_ty (r := true) (by decide +kernel), _, rfl, iteF ⟨_, rfl, _, rfl, hT.neP hU12 (bds_depth _) ⟨_, rfl, iteF ⟨_, rfl, _, rfl, hG12.neP hL12 (bds_depth _) ⟨_, rfl, iteF ?_⟩⟩⟩⟩⟩
  have hlt : xt.length ≤ 10000 := by
    obtain ⟨ws, hw, hI'⟩ := hT
    rw [ht] at hw
    cases hw
    rw [hI'.len, List.length_map]
    exact Nat.le_trans (List.length_filter_le _ _) (by omega)
  refine ⟨_, rfl, .inl ⟨rfl, _, SqL.of ht⟩, _, _, _, rfl, rfl, ht, sizes' (by omega), ?_⟩
  generalize e13 : upd H12 a12 _ = H13
  obtain ⟨b13, h13⟩ := stt e13
  clear e13
  have e1 : a11 ≠ a12 := by
    obtain ⟨ws, hw, _⟩ := hG11
    exact ne_of_none hw n12
  have e2 : D ≠ a12 := by
    obtain ⟨ws, hw, _⟩ := hL10.keep s11
    exact ne_of_none hw n12
  have e3 : a9 ≠ a12 := by
    obtain ⟨ws, hw, _⟩ := hU.keep s11
    exact ne_of_none hw n12
  have hG13 := hG12.but b13 ht e1
  have hL13 := hL12.but b13 ht e2
  have hU13 := hU12.but b13 ht e3
  have hC13 : TupI K H13 c ch := butTup b13 ht (sTup s12 (sTup s11 hC10))
  refine ⟨_, rfl, _, rfl, hG13.eqP hL13 (bds_depth _) ⟨_, rfl, iteT ?_⟩⟩
  refine ⟨_, rfl, _, rfl, a11, c, bs, ch, rfl, hG13, by omega, hC13, fun a14 H14 s14 n14 hT14 => ⟨_, rfl, hT14.eqP (hU13.keep s14) (bds_depth _) ⟨_, rfl, iteT ?_⟩⟩⟩
  refine ⟨(by show 0 ≤ sizeLine; decide), fun a15 n15 => ?_⟩
  generalize e15 : upd H14 a15 _ = H15
  obtain ⟨s15, h15⟩ := fr e15 n15
  clear e15
  refine ⟨_, rfl, a15, c, [], ch, rfl, ⟨_, h15, ImL.nil_⟩, by decide, sTup s15 (sTup s14 hC13), fun a16 H16 s16 n16 hT16 => ⟨(by show 0 ≤ sizeLine; decide), fun a17 n17 => ?_⟩⟩
  generalize e17 : upd H16 a17 _ = H17
  obtain ⟨s17, h17⟩ := fr e17 n17
  clear e17
  exact (hT16.keep s17).eqP (ds := []) ⟨_, h17, ImL.nil_⟩ (by decide) (q _)
end
theorem all_mk {l : PySem.W.OpenLaw} {w : World} {K : PySem.W.Frag} {h : Heap} {mg : Str → Option Value} {fa : Addr} (X : K.In h) (G : h.Ns mainGlobals mg) (hfa : mg "law" = some (.ref fa))
    {od0 an0 : Option Addr} {sl0 : Array (Option Value)} {oc0 kV0 dc0 pm0 cd0 ct0 : Value} {f0 : Addr} {od1 an1 : Option Addr} {sl1 : Array (Option Value)} {oc1 kV1 dc1 pm1 cd1 ct1 : Value} {f1 : Addr} {od2 an2 : Option Addr} {sl2 : Array (Option Value)} {oc2 kV2 dc2 pm2 cd2 ct2 : Value} {f2 : Addr} {od3 an3 : Option Addr} {sl3 : Array (Option Value)} {oc3 kV3 dc3 pm3 cd3 ct3 : Value} {f3 : Addr} {od4 an4 : Option Addr} {sl4 : Array (Option Value)} {oc4 kV4 dc4 pm4 cd4 ct4 : Value} {f4 : Addr} {od5 an5 : Option Addr} {sl5 : Array (Option Value)} {oc5 kV5 dc5 pm5 cd5 ct5 : Value} {f5 : Addr} {od6 an6 : Option Addr} {sl6 : Array (Option Value)} {oc6 kV6 dc6 pm6 cd6 ct6 : Value} {f6 : Addr}
    (a0 : PySem.W.nsIn K mainGlobals "bounds_left" = some (some (.ref f0)))
    (l0 : K.lookup f0 = some ⟨oc0, od0, .func (PySem.W.fnOf "bounds_left" "bounds_left" (defArgs s_bounds_left) (defBody s_bounds_left) (defScope s_bounds_left) .none kV0 dc0 pm0 an0 cd0 ct0), sl0⟩) (c0 : PySem.W.codeIn K cd0 "bounds_left" = true) (k0 : PySem.W.keepIn K (.ref f0) = true)
    (a1 : PySem.W.nsIn K mainGlobals "_law_draws" = some (some (.ref f1)))
    (l1 : K.lookup f1 = some ⟨oc1, od1, .func (PySem.W.fnOf "_law_draws" "_law_draws" (defArgs s__law_draws) (defBody s__law_draws) (defScope s__law_draws) .none kV1 dc1 pm1 an1 cd1 ct1), sl1⟩) (c1 : PySem.W.codeIn K cd1 "_law_draws" = true) (k1 : PySem.W.keepIn K (.ref f1) = true)
    (a2 : PySem.W.nsIn K mainGlobals "_law_take" = some (some (.ref f2)))
    (l2 : K.lookup f2 = some ⟨oc2, od2, .func (PySem.W.fnOf "_law_take" "_law_take" (defArgs s__law_take) (defBody s__law_take) (defScope s__law_take) .none kV2 dc2 pm2 an2 cd2 ct2), sl2⟩) (c2 : PySem.W.codeIn K cd2 "_law_take" = true) (k2 : PySem.W.keepIn K (.ref f2) = true)
    (a3 : PySem.W.nsIn K mainGlobals "_law_points" = some (some (.ref f3)))
    (l3 : K.lookup f3 = some ⟨oc3, od3, .func (PySem.W.fnOf "_law_points" "_law_points" (defArgs s__law_points) (defBody s__law_points) (defScope s__law_points) .none kV3 dc3 pm3 an3 cd3 ct3), sl3⟩) (c3 : PySem.W.codeIn K cd3 "_law_points" = true) (k3 : PySem.W.keepIn K (.ref f3) = true)
    (a4 : PySem.W.nsIn K mainGlobals "_law_amount" = some (some (.ref f4)))
    (l4 : K.lookup f4 = some ⟨oc4, od4, .func (PySem.W.fnOf "_law_amount" "_law_amount" (defArgs s__law_amount) (defBody s__law_amount) (defScope s__law_amount) .none kV4 dc4 pm4 an4 cd4 ct4), sl4⟩) (c4 : PySem.W.codeIn K cd4 "_law_amount" = true) (k4 : PySem.W.keepIn K (.ref f4) = true)
    (a5 : PySem.W.nsIn K mainGlobals "_law_bound" = some (some (.ref f5)))
    (l5 : K.lookup f5 = some ⟨oc5, od5, .func (PySem.W.fnOf "_law_bound" "_law_bound" (defArgs s__law_bound) (defBody s__law_bound) (defScope s__law_bound) .none kV5 dc5 pm5 an5 cd5 ct5), sl5⟩) (c5 : PySem.W.codeIn K cd5 "_law_bound" = true) (k5 : PySem.W.keepIn K (.ref f5) = true)
    (a6 : PySem.W.nsIn K mainGlobals "law" = some (some (.ref f6)))
    (l6 : K.lookup f6 = some ⟨oc6, od6, .func (PySem.W.fnOf "law" "law" (defArgs s_law) (defBody s_law) (defScope s_law) .none kV6 dc6 pm6 an6 cd6 ct6), sl6⟩) (c6 : PySem.W.codeIn K cd6 "law" = true) (k6 : PySem.W.keepIn K (.ref f6) = true)
    (z_len : PySem.W.nsIn K mainGlobals "len" = some none)
    (z_str : PySem.W.nsIn K mainGlobals "str" = some none)
    (z_int : PySem.W.nsIn K mainGlobals "int" = some none)
    (z_range : PySem.W.nsIn K mainGlobals "range" = some none)
    (z_tuple : PySem.W.nsIn K mainGlobals "tuple" = some none)
    (z_list : PySem.W.nsIn K mainGlobals "list" = some none)
    (z_isinstance : PySem.W.nsIn K mainGlobals "isinstance" = some none)
    (z_bool : PySem.W.nsIn K mainGlobals "bool" = some none)
    (z_all : PySem.W.nsIn K mainGlobals "all" = some none)
    (z_min : PySem.W.nsIn K mainGlobals "min" = some none)
    (z_sum : PySem.W.nsIn K mainGlobals "sum" = some none)
    (z_enumerate : PySem.W.nsIn K mainGlobals "enumerate" = some none) :
    ∃ fd : FuncData, (∀ (s : Shared) (v : Value), BindsTo s fd ⟨[v], []⟩ [("script", v)]) ∧ ∀ base : Heap, K.In base → base.Ns mainGlobals mg → FnOk l.prog w K mg base CX0 4 fa fd ["script"] (sp_law K) := by
  have e := hfa.symm.trans (PySem.W.mg_of X G a6)
  cases e
  have F0 := fun_mk (st := s_bounds_left) l0 c0 k0
  have D_bounds_left : Df K mg "bounds_left" s_bounds_left ["bounds", "choice"] _ _ := ⟨F0, F0.binds (ps := ["bounds", "choice"]) fun _ _ _ _ _ _ us hl => match us, hl with | [_, _], _ => rfl, PySem.W.mg_of X G a0⟩
  have F1 := fun_mk (st := s__law_draws) l1 c1 k1
  have D__law_draws : Df K mg "_law_draws" s__law_draws ["script", "count"] _ _ := ⟨F1, F1.binds (ps := ["script", "count"]) fun _ _ _ _ _ _ us hl => match us, hl with | [_, _], _ => rfl, PySem.W.mg_of X G a1⟩
  have F2 := fun_mk (st := s__law_take) l2 c2 k2
  have D__law_take : Df K mg "_law_take" s__law_take ["rows", "at", "many"] _ _ := ⟨F2, F2.binds (ps := ["rows", "at", "many"]) fun _ _ _ _ _ _ us hl => match us, hl with | [_, _, _], _ => rfl, PySem.W.mg_of X G a2⟩
  have F3 := fun_mk (st := s__law_points) l3 c3 k3
  have D__law_points : Df K mg "_law_points" s__law_points [] _ _ := ⟨F3, F3.binds (ps := []) fun _ _ _ _ _ _ us hl => match us, hl with | [], _ => rfl, PySem.W.mg_of X G a3⟩
  have F4 := fun_mk (st := s__law_amount) l4 c4 k4
  have D__law_amount : Df K mg "_law_amount" s__law_amount ["rows", "at"] _ _ := ⟨F4, F4.binds (ps := ["rows", "at"]) fun _ _ _ _ _ _ us hl => match us, hl with | [_, _], _ => rfl, PySem.W.mg_of X G a4⟩
  have F5 := fun_mk (st := s__law_bound) l5 c5 k5
  have D__law_bound : Df K mg "_law_bound" s__law_bound ["rows", "at", "points", "parts"] _ _ := ⟨F5, F5.binds (ps := ["rows", "at", "points", "parts"]) fun _ _ _ _ _ _ us hl => match us, hl with | [_, _, _, _], _ => rfl, PySem.W.mg_of X G a5⟩
  have F6 := fun_mk (st := s_law) l6 c6 k6
  have D_law : Df K mg "law" s_law ["script"] _ _ := ⟨F6, F6.binds (ps := ["script"]) fun _ _ _ _ _ _ us hl => match us, hl with | [_], _ => rfl, PySem.W.mg_of X G a6⟩
  have T : Txt K mg := ⟨PySem.W.mg_none_of X G z_len, PySem.W.mg_none_of X G z_str, PySem.W.mg_none_of X G z_int, PySem.W.mg_none_of X G z_range, PySem.W.mg_none_of X G z_tuple, PySem.W.mg_none_of X G z_list, PySem.W.mg_none_of X G z_isinstance, PySem.W.mg_none_of X G z_bool, PySem.W.mg_none_of X G z_all, PySem.W.mg_none_of X G z_min, PySem.W.mg_none_of X G z_sum, PySem.W.mg_none_of X G z_enumerate⟩
  refine ⟨PySem.W.fnOf "law" "law" (defArgs s_law) (defBody s_law) (defScope s_law) .none kV6 dc6 pm6 an6 cd6 ct6, fun s v => .of_eq rfl, fun base _ _ => ?_⟩
  have G_bounds_left : FnOk l.prog w K mg base CX0 1 _ _ ["bounds", "choice"] (sp_bounds_left K) := ok_bounds_left D_bounds_left T  
  have G__law_draws : FnOk l.prog w K mg base CX0 1 _ _ ["script", "count"] (sp__law_draws K) := ok__law_draws D__law_draws T  
  have G__law_take : FnOk l.prog w K mg base CX0 1 _ _ ["rows", "at", "many"] (sp__law_take K) := ok__law_take D__law_take T  
  have G__law_points : FnOk l.prog w K mg base CX0 1 _ _ [] (sp__law_points K) := ok__law_points D__law_points T  
  have G__law_amount : FnOk l.prog w K mg base CX0 2 _ _ ["rows", "at"] (sp__law_amount K) := ok__law_amount D__law_amount T  D__law_take G__law_take
  have G__law_bound : FnOk l.prog w K mg base CX0 3 _ _ ["rows", "at", "points", "parts"] (sp__law_bound K) := ok__law_bound D__law_bound T  D__law_take G__law_take D__law_amount G__law_amount
  have G_law : FnOk l.prog w K mg base CX0 4 _ _ ["script"] (sp_law K) := ok_law D_law T  D_bounds_left G_bounds_left D__law_draws G__law_draws D__law_take G__law_take D__law_points G__law_points D__law_bound G__law_bound
  exact G_law
theorem walk {l : PySem.W.OpenLaw} {q : Program} {loose : List Str} {XP : (Str → Option Value) → Heap → Prop} {YP : World → Heap → Prop} {d : DefRec} {K : Params → PySem.W.Frag} (hn : l.most = some 63) (hdf : d.params.defaults = [])
    (hY : ∀ (w : World) (h : Heap), YP w h → (K w.params).In h)
    (F : ∀ (w : World) (mg : Str → Option Value) (fa : Addr) (h : Heap), (K w.params).In h → h.Ns mainGlobals mg → mg d.name = some (.ref fa) →
      ∃ fd : FuncData, (∀ (s : Shared) (u : Value), BindsTo s fd ⟨[u], []⟩ [("script", u)]) ∧ ∀ base : Heap, (K w.params).In base → base.Ns mainGlobals mg → FnOk l.prog w (K w.params) mg base CX0 4 fa fd ["script"] (sp_law (K w.params))) :
    PySem.W.WalkO q loose XP YP l.row.toRowW d [] (fun f vs => PySem.call f vs) :=
  L2.walk_of (n := 63) (k := 4) (x := "script") (CX := fun _ => CX0) (sp := fun w => sp_law (K w.params)) hn (by decide) hdf ⟨rfl, by decide, by decide⟩ hY F (fun _ _ a ns hl _ hS => ⟨a, ns, rfl, hS, hl, fun _ => rfl⟩) fun _ _ _ _ _ z => z
end Vs
open PySem PySem.W PyProof.Rows
set_option maxRecDepth 100000 in
set_option maxHeartbeats 0 in
theorem PySem.Challenge.cw_whensure_k32_bounds_that_are_left_holds : PySem.Challenge.rw_whensure_k32_bounds_that_are_left.Holds := by
  w_on; o_law; k_head; (case hw => w_witness2)
  k_fill
  refine Vs.walk (l := PySem.Challenge.rw_whensure_k32_bounds_that_are_left) rfl rfl (fun w h Y => PySem.W.kIn_of Y) ?F
  case F =>
    intro w mg fa h KX G hmg
    refine' Vs.all_mk KX G hmg ?a0 ?l0 ?c0 ?k0 ?a1 ?l1 ?c1 ?k1 ?a2 ?l2 ?c2 ?k2 ?a3 ?l3 ?c3 ?k3 ?a4 ?l4 ?c4 ?k4 ?a5 ?l5 ?c5 ?k5 ?a6 ?l6 ?c6 ?k6 ?z_len ?z_str ?z_int ?z_range ?z_tuple ?z_list ?z_isinstance ?z_bool ?z_all ?z_min ?z_sum ?z_enumerate
    (case a0 => k_is)
    (case l0 => k_is)
    (case c0 => k_is)
    (case k0 => k_is)
    (case a1 => k_is)
    (case l1 => k_is)
    (case c1 => k_is)
    (case k1 => k_is)
    (case a2 => k_is)
    (case l2 => k_is)
    (case c2 => k_is)
    (case k2 => k_is)
    (case a3 => k_is)
    (case l3 => k_is)
    (case c3 => k_is)
    (case k3 => k_is)
    (case a4 => k_is)
    (case l4 => k_is)
    (case c4 => k_is)
    (case k4 => k_is)
    (case a5 => k_is)
    (case l5 => k_is)
    (case c5 => k_is)
    (case k5 => k_is)
    (case a6 => k_is)
    (case l6 => k_is)
    (case c6 => k_is)
    (case k6 => k_is)
    (case z_len => k_is)
    (case z_str => k_is)
    (case z_int => k_is)
    (case z_range => k_is)
    (case z_tuple => k_is)
    (case z_list => k_is)
    (case z_isinstance => k_is)
    (case z_bool => k_is)
    (case z_all => k_is)
    (case z_min => k_is)
    (case z_sum => k_is)
    (case z_enumerate => k_is)
#print axioms PySem.Challenge.cw_whensure_k32_bounds_that_are_left_holds
