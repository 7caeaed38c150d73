import PyProof.Rows.All
import Wide.All
import OpenK.AllK
import Wide.FinOn
import PyProof.EqAt
import PyProof.EqKinds
import PyProof.TupleCall
import HandS.ForExc
import HandS.Comp
import HandS.Iter
import HandS.Gcd
import HandS.Wide
import HandS.Evl
import HandS.Defaults
import HandS.ExcIs
import HandS.TupAny
import HandS.TupMul
import HandS.StrMore
import HandS.Text
import HandS.Style
import HandS.Codes
import HandS.ExcInit
import HandS.ExcField
import HandS.Walk
import PyProof.ReprRoads
import PyProof.ReprLen
import PyProof.CallFns
import PyProof.Rows.RegStrFacts
import PySem.Challenge.RW_threadworth_k03_texts_of_numbers
set_option Elab.async false
set_option linter.all false
set_option maxRecDepth 100000
set_option maxHeartbeats 4000000
namespace T
open PySem PySem.Spec PyProof.Rows L2
/-! ### the mathematics of worlds and numbers -/
def primes : List Int := [2, 3, 5, 7, 11, 13, 17, 19, 23, 29, 31]
def isW (p d : Int) : Bool := if p = 0 then (if -20 ≤ d then decide (d ≤ 20) else false) else (if inV (.int p) (primes.map V.int) = true then (if 0 ≤ d then decide (d < p) else false) else false)
theorem inV_ints {p : Int} : ∀ {l : List Int}, inV (.int p) (l.map V.int) = true → p ∈ l
  | [], h => by cases h
  | x :: l, h => by
    have h1 : ((eqV (.int x) (.int p)) || inV (.int p) (l.map V.int)) = true := h
    rcases (Bool.or_eq_true _ _).mp h1 with h | h
    · have : x = p := of_decide_eq_true (show decide (x = p) = true by simpa [eqV] using h)
      rw [this]
      exact List.mem_cons_self
    · exact List.mem_cons_of_mem _ (inV_ints h)
theorem isW_prime {p d : Int} (h : isW p d = true) (hp : p ≠ 0) : p ∈ primes ∧ 0 ≤ d ∧ d < p := by
  unfold isW at h
  rw [if_neg hp] at h
  by_cases e : inV (.int p) (primes.map V.int) = true
  · rw [if_pos e] at h
    by_cases e2 : 0 ≤ d
    · rw [if_pos e2] at h
      exact ⟨inV_ints e, e2, of_decide_eq_true h⟩
    · rw [if_neg e2] at h
      cases h
  · rw [if_neg e] at h
    cases h
theorem prime_pos {p : Int} (h : p ∈ primes) : 2 ≤ p ∧ p ≤ 31 := by
  simp only [primes, List.mem_cons, List.not_mem_nil, or_false] at h
  omega
theorem inv_exN : ∀ p ∈ [2, 3, 5, 7, 11, 13, 17, 19, 23, 29, 31], ∀ r, r < p → r ≠ 0 → ∃ k, k < p ∧ (k * r) % p = 1 := by decide +kernel
theorem inv_ex {p : Int} (hp : p ∈ primes) {r : Int} (h0 : 0 ≤ r) (h1 : r < p) (hr : r ≠ 0) : ∃ k : Int, 1 ≤ k ∧ k < p ∧ k * r % p = 1 := by
  obtain ⟨n, rfl⟩ := Int.eq_ofNat_of_zero_le (show 0 ≤ p by have := prime_pos hp; omega)
  obtain ⟨m, rfl⟩ := Int.eq_ofNat_of_zero_le h0
  have hn : n ∈ [2, 3, 5, 7, 11, 13, 17, 19, 23, 29, 31] := by
    simp only [primes, List.mem_cons, List.not_mem_nil, or_false] at hp ⊢
    omega
  obtain ⟨k, hk, e⟩ := inv_exN n hn m (by omega) (by omega)
  refine ⟨(k : Int), ?_, by omega, ?_⟩
  · rcases Nat.eq_zero_or_pos k with z | z
    · subst z
      rw [Nat.zero_mul, Nat.zero_mod] at e
      cases e
    · omega
  · have : ((k * m % n : Nat) : Int) = ((1 : Nat) : Int) := by rw [e]
    rw [← Int.natCast_mul, ← Int.natCast_emod, e]
    rfl
/-- lowest terms -/
def gI (a b : Int) : Int := ((Nat.gcd a.natAbs b.natAbs : Nat) : Int)
def low (a b : Int) : Int × Int := if b < 0 then ((-a) / gI a b, (-b) / gI a b) else (a / gI a b, b / gI a b)
theorem gI_pos {a b : Int} (hb : b ≠ 0) : 0 < gI a b := by
  have : 0 < Nat.gcd a.natAbs b.natAbs := Nat.gcd_pos_of_pos_right _ (by omega)
  unfold gI
  omega
theorem gI_le {a b : Int} (hb : b ≠ 0) : gI a b ≤ b.natAbs := by
  have := Nat.gcd_le_right (m := a.natAbs) (n := b.natAbs) (by omega)
  unfold gI
  omega
theorem fdiv_negg (a g : Int) (hg : 0 ≤ g) : a.fdiv (-g) = (-a) / g := by
  rw [← Int.fdiv_eq_ediv_of_nonneg _ hg, ← Int.neg_fdiv_neg (-a) g, Int.neg_neg]
/-- the number a / b -/
def bad (p b : Int) : Prop := b = 0 ∨ (0 < p ∧ b % p = 0)
def IsNum (p a b x y : Int) : Prop := (0 < p ∧ y = 1 ∧ 0 ≤ x ∧ x < p ∧ (x * b - a) % p = 0) ∨ (¬ 0 < p ∧ (x, y) = low a b)
theorem inv_solves {p a b k : Int} (hp : 0 < p) (e : k * (b % p) % p = 1) (h1 : 1 < p) : ((a * k % p) * b - a) % p = 0 := by
  have e1 : (k * b) % p = 1 := by
    rw [Int.mul_emod, Int.emod_emod_of_dvd _ (Int.dvd_refl p), ← Int.mul_emod] at e
    exact e
  have d1 : p ∣ k * b - 1 := by
    apply Int.dvd_of_emod_eq_zero
    rw [Int.sub_emod, e1, Int.emod_eq_of_lt (by omega) h1]
    simp
  have d2 : p ∣ a * k - a * k % p := Int.dvd_self_sub_emod
  apply Int.emod_eq_zero_of_dvd
  have : (a * k % p) * b - a = a * (k * b - 1) - (a * k - a * k % p) * b := by
    rw [Int.mul_sub, Int.sub_mul, Int.mul_assoc]
    omega
  rw [this]
  exact Int.dvd_sub (Int.dvd_mul_of_dvd_right d1) (Int.dvd_mul_of_dvd_left d2)
theorem num_unique {p a b x y x' y' : Int} (hp : p = 0 ∨ p ∈ primes) (hb : ¬ bad p b) (h : IsNum p a b x y) (h' : IsNum p a b x' y') : x = x' ∧ y = y' := by
  rcases h with ⟨h0, e1, l1, u1, m1⟩ | ⟨h0, e1⟩
  · rcases h' with ⟨_, e2, l2, u2, m2⟩ | ⟨h0', _⟩
    · refine ⟨?_, e1.trans e2.symm⟩
      rcases hp with rfl | hp
      · omega
      · have hp2 := prime_pos hp
        have hbp : b % p ≠ 0 := fun z => hb (.inr ⟨h0, z⟩)
        obtain ⟨k, k1, k2, ek⟩ := inv_ex hp (Int.emod_nonneg b (by omega)) (Int.emod_lt_of_pos b h0) hbp
        have e1 : (k * b) % p = 1 := by
          rw [Int.mul_emod, Int.emod_emod_of_dvd _ (Int.dvd_refl p), ← Int.mul_emod] at ek
          exact ek
        have d1 : p ∣ k * b - 1 := by
          apply Int.dvd_of_emod_eq_zero
          rw [Int.sub_emod, e1, Int.emod_eq_of_lt (show (0:Int) ≤ 1 by omega) (show (1:Int) < p by omega)]
          simp
        have d2 : p ∣ (x * b - a) - (x' * b - a) := Int.dvd_sub (Int.dvd_of_emod_eq_zero m1) (Int.dvd_of_emod_eq_zero m2)
        have d3 : p ∣ x - x' := by
          have e : x - x' = k * ((x * b - a) - (x' * b - a)) - (x - x') * (k * b - 1) := by
            have e3 : (x * b - a) - (x' * b - a) = (x - x') * b := by
              rw [Int.sub_mul]
              omega
            rw [e3, Int.mul_sub, Int.mul_one, ← Int.mul_assoc, Int.mul_comm k (x - x'), Int.mul_assoc]
            omega
          rw [e]
          exact Int.dvd_sub (Int.dvd_mul_of_dvd_right d2) (Int.dvd_mul_of_dvd_right d1)
        obtain ⟨c, ec⟩ := d3
        have hc : c = 0 := by
          rcases Int.lt_trichotomy c 0 with z | z | z
          · have : p * c ≤ p * (-1) := Int.mul_le_mul_of_nonneg_left (by omega) (by omega)
            omega
          · exact z
          · have : p * 1 ≤ p * c := Int.mul_le_mul_of_nonneg_left (by omega) (by omega)
            omega
        rw [hc, Int.mul_zero] at ec
        omega
    · exact absurd h0 h0'
  · rcases h' with ⟨h0', _⟩ | ⟨_, e2⟩
    · exact absurd h0' h0
    · have := e1.trans e2.symm
      exact ⟨congrArg Prod.fst this, congrArg Prod.snd this⟩
end T

/-! ### defs that are called where nothing is being shown (no repr is under way): what the law's own def may know -/
namespace L2
open PySem PySem.Spec PyProof.Rows
structure FnG (P : Program) (w : World) (K : PySem.W.Frag) (mg : Str → Option Value) (base : Heap) (k : Nat) (f : Addr) (fd : FuncData) (ps : List Str) (sp : Sp) : Prop where
  len : ∀ vs H Q E, sp vs H Q E → vs.length = ps.length
  run : ∀ (A : Around) (outer : List Env) (s : Shared) (H : Hp) (args : Args) (us : List Value) (vs : List V) (Q : VK) (E : XK), A.guards = some [] → Room k A → Env0 P w K mg base A outer s H →
    BindsTo s fd args (ps.zip us) → Vals vs us → sp vs H Q E → codeAny (model P w) A (.call (.ref f) args) (CR CX0 outer P w H s Q E) s
theorem CE_of {P : Program} {w : World} {K : PySem.W.Frag} {mg : Str → Option Value} {base : Heap} {N : List Str} {qual : Str} {scope : Scope} {f : Addr} {cdv : Value} {A : Around} {outer : List Env} {s s' : Shared} {H H' : Hp} {E : XK} {Q : VK} {σ' : St} {v : V} {u : Value}
    (J : Inv (cxOf CX0 P w K mg base N qual scope f cdv A outer s H E) [] σ' H' s') (rv : RelV v u) (q : Q v H') : CE outer P w H s Q u s' := ⟨v, H', J.os, J.bare, J.base, J.hok, rv, q⟩
theorem Fun.okG {P : Program} {w : World} {K : PySem.W.Frag} {mg : Str → Option Value} {base : Heap} {x qual : Str} {st : Stmt} {f : Addr} {fd : FuncData} {N ps : List Str} {k : Nat} {sp : Sp} (F : Fun K x qual st f fd) (S : FnScope N ps (defScope st))
    (len : ∀ vs H Q E, sp vs H Q E → vs.length = ps.length)
    (hbody : ∀ (cdv : Value) (A : Around) (outer : List Env) (s : Shared) (H : Hp) (vs : List V) (Q : VK) (E : XK), (A.deeper (envOfC qual (defScope st) s.heap.objs.size f cdv)).guards = some [] →
      Room k (A.deeper (envOfC qual (defScope st) s.heap.objs.size f cdv)) → sp vs H Q E →
      ∃ t, PSs (cxOf CX0 P w K mg base N qual (defScope st) f cdv A outer s H E).nox (defBody st) t ∧ t { nx := fun _ H' => Q .non H', rt := Q } (start N vs) H) : FnG P w K mg base (k + 1) f fd ps sp := by
  obtain ⟨oc, od, kV, doc, pm, an, cdv, ct, osl, rfl, lk, hcd⟩ := F.ex
  refine ⟨len, fun A outer s H args us vs Q E hgu hr e0 hb r hsp => ?_⟩
  have keep := fun b o (e : base.get? b = some o) => (e0.bs b o e).1
  have inK : K.In s.heap := e0.mod.kin.keeps keep
  refine codeAny_call_function hr.depth (inK _ _ lk) rfl S.co S.gen rfl (PySem.W.codeRec_of inK hcd) (hb _ _ _ _ ?_)
  refine wpAny_newFunctionEnv_cells S.kind (fun ⟨n, v⟩ hy => ?_) fun env he s1 xx => ?_
  · exact (S.par n (List.of_mem_zip hy).1).elim .inl fun q => .inr ⟨q, PySem.W.cellsFrom_some _ _ _ (.inl q)⟩
  · subst he
    refine ⟨(e0.mod.nolimit.keeps keep).keeps xx.toInCall.keep, codeAny_func ?_⟩
    obtain ⟨t, ht, hq⟩ := hbody cdv A outer s H vs Q E hgu (hr.deeper _) hsp
    have I := inv_start (CX := CX0) (E := E) S hr.hd e0 (len _ _ _ _ hsp) r xx
    refine wpAny_mono (ht.nox.run [] s1 _ H _ I hq) (fun fl s' hs => ?_) fun e s' hs => hs
    rcases fl with _ | _ | _ | u
    · obtain ⟨σ', H', J, q⟩ := hs
      exact CE_of (v := V.non) (u := Value.none) J rfl q
    · exact hs.elim fun _ z => z.elim fun _ z => z.2.elim
    · exact hs.elim fun _ z => z.elim fun _ z => z.2.elim
    · obtain ⟨v, σ', H', J, rv, q⟩ := hs
      exact CE_of J rv q
end L2

namespace L2
open PySem PySem.Spec PyProof.Rows
/-- the law's def, called by the claim's caller: nothing is being shown there -/
theorem goes_at {P : Program} {w : World} {K : PySem.W.Frag} {mg mb : Str → Option Value} {k : Nat} {fa a : Addr} {fd : FuncData} {x : Str} {sp : Sp} {t : Shared} {vs : List Value} {xs : List V} {H : Hp}
    (KX : K.In t.heap) (hns : t.heap.Ns mainGlobals mg) (hb : t.heap.Ns builtinsNs mb) (hbb : ∀ y : Str, y ≠ "__name__" → mb y = bootBuiltins y) (hlim : t.heap.NoLimit) (hg : t.gens = #[])
    (ha : t.heap.get? a = some { cls := .type "list", data := .seq vs.toArray }) (hr : Room k callerA)
    (F : ∀ base : Heap, K.In base → base.Ns mainGlobals mg → FnG P w K mg base k fa fd [x] sp) (hbind : ∀ (s : Shared) (u : Value), BindsTo s fd ⟨[u], []⟩ [(x, u)])
    (hO : Only H) (hsp : sp [.ref a] H (fun v _ => v = .bl true) fun _ _ _ => False) (hok : HOk P w H t.heap) (hA : ∀ b, H b ≠ none → b = a) (hK : H a ≠ none → K.lookup a = none) :
    codeAny (model P w) callerA (.call (.ref fa) ⟨[.ref a], []⟩) (fun r s' => r = .ok (.ret (.bool true)) ∧ OldK t.heap s'.heap ∧ s'.os = t.os ∧ AllBare s'.gens) t := by
  have free : ∀ {b : Addr}, (H b ≠ none → False) → H b = none := fun {b} z => by
    rcases e : H b with _ | u
    · rfl
    · exact (z (by rw [e]; exact fun q => nomatch q)).elim
  have ns : ∀ {b : Addr} {m : Str → Option Value}, t.heap.Ns b m → (hidT t.heap H).Ns b m := fun {b m} z => by
    obtain ⟨o, es, ep, e, d, r⟩ := z
    refine ⟨o, es, ep, hidT_get e (free fun z => ?_), d, r⟩
    rw [hA b z, ha] at e
    cases e
    cases d
  have inB : K.In (hidT t.heap H) := fun b o e => hidT_get (KX b o e) (free fun z => by
    have eb := hA b z
    rw [eb] at z e
    rw [hK z] at e
    cases e)
  obtain ⟨mc, l1, l2⟩ := hlim
  have env : Env0 P w K mg (hidT t.heap H) callerA [] t H := ⟨rfl, ⟨inB, ns hns, ⟨mb, ns hb, hbb⟩, ⟨mc, ns l1, l2⟩⟩, fun b o e => of_hidT e, Nat.le_of_eq (hidT_size _ _), trivial, fun b hb => (nomatch hb), hok, .of_eq hg⟩
  refine codeAny_mono ((F _ inB (ns hns)).run callerA [] t H _ [.ref a] [.ref a] _ _ rfl hr env (hbind t (.ref a)) (.cons rfl .nil) hsp) fun r s' h => ?_
  rcases r with e | fl
  · exact (show False from h).elim
  · rcases fl with _ | _ | _ | u
    · exact (show False from h).elim
    · exact (show False from h).elim
    · exact (show False from h).elim
    · obtain ⟨v, H', os, bare, un, hok', rv, q⟩ := h
      obtain rfl : v = .bl true := q
      obtain rfl : u = Value.bool true := rv
      refine ⟨rfl, OldK.of_keep fun b o e => ?_, os, bare⟩
      rcases hO b with z | ⟨ob, ys, z⟩
      · exact un.keep b o e z (fun z => nomatch z) (fun z => nomatch z)
      · have e1 := (hok b _ z).1
        rw [e] at e1
        rw [Option.some.inj e1]
        exact (hok' b _ (un.frzs b ob _ z)).1
theorem walk_ofG {l : PySem.W.OpenLaw} {n k : Nat} {q : Program} {loose : List Str} {XP : (Str → Option Value) → Heap → Prop} {YP : World → Heap → Prop} {d : DefRec} {K : Params → PySem.W.Frag} {sp : World → Sp} {x : Str}
    (hn : l.most = some n) (hn2 : n ≤ sizeLine) (hdf : d.params.defaults = []) (hr : Room k callerA) (hY : ∀ (w : World) (h : Heap), YP w h → (K w.params).In h)
    (F : ∀ (w : World) (mg : Str → Option Value) (fa : Addr) (h : Heap), (K w.params).In h → h.Ns mainGlobals mg → mg d.name = some (.ref fa) →
      ∃ fd : FuncData, (∀ (s : Shared) (u : Value), BindsTo s fd ⟨[u], []⟩ [(x, u)]) ∧ ∀ base : Heap, (K w.params).In base → base.Ns mainGlobals mg → FnG l.prog w (K w.params) mg base k fa fd [x] (sp w))
    (hsp : ∀ (w : World) (H : Hp) (a : Addr) (ns : List Int), ns.length ≤ n → SqL (K w.params) H a (ns.map V.int) → sp w [.ref a] H (fun v _ => v = .bl true) fun _ _ _ => False) :
    PySem.W.WalkO q loose XP YP l.row.toRowW d [] (fun f vs => PySem.call f vs) := by
  refine Att.attach_call hn hdf fun w s₀ t mg mb fa o pm cd doc a vs ns G Y ho hd hcd hmg hobj hints hlen hg => ?_
  have KX := hY w _ Y
  obtain ⟨fd, hb, hF⟩ := F w mg fa _ KX G.T.g hmg
  have rv : Vals (ns.map V.int) vs := vals_ints hints
  have lv := hints.length
  rcases hk : (K w.params).lookup a with _ | oa
  · refine goes_at (xs := ns.map V.int) (H := fun b => if b = a then some (.frz { cls := .type "list", data := .seq vs.toArray } (.lst (ns.map V.int))) else none) KX G.T.g G.T.b G.T.builtins G.T.nolimit hg hobj hr hF hb
      (fun b => ?_) (hsp w _ a ns hlen (.inl (.inr ⟨_, if_pos rfl⟩))) (fun b u z => ?_) (fun b z => Decidable.byContradiction fun c => z (if_neg c)) fun _ => hk
    · by_cases c : b = a
      · exact .inr ⟨_, _, if_pos c⟩
      · exact .inl (if_neg c)
    · by_cases c : b = a
      · have z' := (if_pos c).symm.trans z
        cases z'
        subst c
        exact ⟨hobj, by rw [List.length_map]; omega, vs, _, rv, hobj⟩
      · have z' := (if_neg c).symm.trans z
        cases z'
  · have e := (KX a oa hk).symm.trans hobj
    cases e
    exact goes_at (xs := ns.map V.int) (H := fun _ => none) KX G.T.g G.T.b G.T.builtins G.T.nolimit hg hobj hr hF hb (fun _ => .inl rfl)
      (hsp w _ a ns hlen (.inr ⟨_, vs.toArray, _, hk, rfl, rfl, rfl, by rw [List.size_toArray]; omega, rv⟩)) (fun b u z => nomatch z) (fun b z => (z rfl).elim) fun z => (z rfl).elim
end L2

namespace L2
open PySem PySem.Spec PyProof.Rows
/-! ### repr(data), where nothing is being shown -/
mutual
def wt : PyData → Nat
  | .none => 4
  | .bool _ => 5
  | .int _ => 1921
  | .str x => (reprText x).length
  | .list xs => wtAll xs + 3
  | .tuple xs => wtAll xs + 3
  | .dict _ => 0
def wtAll : List PyData → Nat
  | [] => 0
  | x :: xs => wt x + 2 + wtAll xs
end
mutual
theorem shown_wt : ∀ d : PyData, d.showable = true → d.hasDict = false → d.shown.length ≤ wt d
  | .none, _, _ => by simp only [PyData.shown, wt]; decide +kernel
  | .bool b, _, _ => by cases b <;> simp only [PyData.shown, wt] <;> decide +kernel
  | .int i, h, _ => by
    simp only [PyData.shown, wt]
    exact int_text_len_1921 (by simpa [PyData.showable] using h)
  | .str x, _, _ => by simp only [PyData.shown, wt]; exact Nat.le_refl _
  | .list xs, h, h2 => by
    simp only [PyData.showable] at h
    simp only [PyData.hasDict] at h2
    simp only [PyData.shown, wt]
    have h3 := shown_wtAll xs h h2
    have h4 := listText_len_le (PyData.shownAll xs)
    omega
  | .tuple xs, h, h2 => by
    simp only [PyData.showable] at h
    simp only [PyData.hasDict] at h2
    simp only [PyData.shown, wt]
    have h3 := shown_wtAll xs h h2
    have h4 := tupleText_len_le (PyData.shownAll xs)
    omega
  | .dict _, _, h2 => by simp [PyData.hasDict] at h2
theorem shown_wtAll : ∀ xs : List PyData, PyData.showableAll xs = true → PyData.hasDictAll xs = false → ((PyData.shownAll xs).map (·.length)).sum + 2 * (PyData.shownAll xs).length ≤ wtAll xs
  | [], _, _ => by simp [PyData.shownAll, wtAll]
  | x :: xs, h, h2 => by
    simp only [PyData.showableAll, Bool.and_eq_true] at h
    simp only [PyData.hasDictAll, Bool.or_eq_false_iff] at h2
    have h3 := shown_wt x h.1 h2.1
    have h4 := shown_wtAll xs h.2 h2.2
    simp only [PyData.shownAll, wtAll, List.map_cons, List.sum_cons, List.length_cons]
    omega
end
def rReprD (K : PySem.W.Frag) : List V → Hp → VK → Prop := fun xs H Q => ∃ x d, xs = [x] ∧ Dp K H x d ∧ SeqAt.shaped d = true ∧ d.showable = true ∧ wt d ≤ sizeLine ∧ Q (.str d.shown) H
theorem cr_reprD {X : Cx} (hg : X.A.guards = some []) (hu : X.A.units + 65 < cLine) : CallR X (.builtin "repr") (rReprD X.K) := by
  intro pins s σ H vs us Q I r h
  obtain ⟨x, d, rfl, hd, hs, hw, hz, q⟩ := h
  cases r with
  | cons rv rn =>
    rename_i v us'
    cases rn
    have hs' : (d.canLay0 && decide (d.depth ≤ 64)) = true := hs
    rw [Bool.and_eq_true] at hs'
    have nd := PyData.hasDict_of_canLay d hs'.1
    have dep : d.depth ≤ 64 := of_decide_eq_true hs'.2
    have sz := Nat.le_trans (shown_wt d hw nd) hz
    obtain ⟨as, rd⟩ := Dp.reads I d x v hd rv
    have ref : ∀ a : Addr, v = .ref a → wpAny (model X.prog X.w) X.A (call (.builtin "repr") [v]) (EP X pins σ Q) X.xe s := fun a e => by
      subst e
      exact repr_of_reads' rd hw (PyData.noDict_hsm nd) hg (by omega) (fun _ _ e => e) (fun h' u tk hk => ⟨.str _, H, I.kept (t' := tk) hk, ⟨u, rfl⟩, q⟩) sz
    cases hd with
    | non =>
      cases rv
      exact PySem.P.repr_of_none ⟨.str _, H, I.tok _, ⟨_, rfl⟩, by simpa only [PyData.shown] using q⟩
    | bl b =>
      cases rv
      exact PySem.P.repr_of_bool ⟨.str _, H, I.tok _, ⟨_, rfl⟩, by simpa only [PyData.shown] using q⟩
    | int i =>
      obtain ⟨t, rfl⟩ := rv
      exact PySem.P.repr_of_int (by simpa [PyData.showable] using hw) ⟨.str _, H, I.tok _, ⟨_, rfl⟩, by simpa only [PyData.shown] using q⟩
    | str y =>
      obtain ⟨t, rfl⟩ := rv
      exact PySem.P.repr_of_str ⟨.str _, H, I.tok _, ⟨_, rfl⟩, by simpa only [PyData.shown] using q⟩ (by simpa only [PyData.shown] using sz)
    | lst _ _ => exact ref _ rv
    | tup _ _ => exact ref _ rv
end L2

namespace T
/-! ### fractions -/
theorem low_pos {a : Int} {n : Nat} (hn : n ≠ 0) : low a (n : Int) = ((Rat.divInt a (n : Int)).num, ((Rat.divInt a (n : Int)).den : Int)) := by
  have e : Rat.divInt a (n : Int) = Rat.normalize a n hn := by
    show mkRat a n = _
    rw [Rat.mkRat_def, dif_neg hn]
  rw [e, Rat.normalize_eq]
  unfold low gI
  rw [if_neg (by omega), Int.natAbs_natCast]
  show (_, _) = (_, (((n / a.natAbs.gcd n : Nat)) : Int))
  rw [Int.natCast_ediv]
theorem low_rat {a b : Int} (hb : b ≠ 0) : low a b = ((Rat.divInt a b).num, ((Rat.divInt a b).den : Int)) := by
  by_cases c : 0 < b
  · obtain ⟨n, rfl⟩ := Int.eq_ofNat_of_zero_le (Int.le_of_lt c)
    exact low_pos (by omega)
  · obtain ⟨n, hn⟩ := Int.eq_ofNat_of_zero_le (show 0 ≤ -b by omega)
    have e : Rat.divInt a b = Rat.divInt (-a) (n : Int) := (Rat.divInt_eq_divInt_iff hb (by omega)).mpr (by rw [← hn, Int.mul_neg, Int.neg_mul])
    rw [e, ← low_pos (by omega), ← hn]
    unfold low gI
    rw [if_pos (by omega), if_neg (by omega), Int.natAbs_neg, Int.natAbs_neg]
theorem low_congr {a b a' b' : Int} (hb : b ≠ 0) (hb' : b' ≠ 0) (h : a * b' = a' * b) : low a b = low a' b' := by
  rw [low_rat hb, low_rat hb', (Rat.divInt_eq_divInt_iff hb hb').mpr h]
theorem low_q {a b u v : Int} (hb : b ≠ 0) (h : (u, v) = low a b) : Rat.divInt u v = Rat.divInt a b ∧ 0 < v := by
  rw [low_rat hb] at h
  have e1 : u = (Rat.divInt a b).num := congrArg Prod.fst h
  have e2 : v = ((Rat.divInt a b).den : Int) := congrArg Prod.snd h
  rw [e1, e2]
  exact ⟨Rat.num_divInt_den _, by have := (Rat.divInt a b).den_pos; omega⟩
theorem low_cross {a b u v : Int} (hb : b ≠ 0) (h : (u, v) = low a b) : u * b = a * v ∧ 0 < v := by
  obtain ⟨h1, h2⟩ := low_q hb h
  exact ⟨(Rat.divInt_eq_divInt_iff (by omega) hb).mp h1, h2⟩
/-- a number times a number: the parts may be reduced ahead or behind -/
theorem num_step {p A B u v a b u' v' : Int} (hp : p = 0 ∨ p ∈ primes) (hB : p = 0 → B ≠ 0) (hb0 : p = 0 → b ≠ 0) (hb1 : p ≠ 0 → b = 1) (hB1 : p ≠ 0 → B = 1) (h : IsNum p A B u v) (h' : IsNum p (u * a) (v * b) u' v') : IsNum p (A * a) (B * b) u' v' := by
  by_cases c : p = 0
  · obtain ⟨_, e⟩ := h.resolve_left (fun z => by omega)
    obtain ⟨_, e'⟩ := h'.resolve_left (fun z => by omega)
    obtain ⟨x1, x2⟩ := low_cross (hB c) e
    refine .inr ⟨by omega, e'.trans (low_congr (Int.mul_ne_zero (by omega) (hb0 c)) (Int.mul_ne_zero (hB c) (hb0 c)) ?_)⟩
    calc u * a * (B * b) = u * B * (a * b) := by rw [Int.mul_assoc, Int.mul_assoc]; congr 1; rw [← Int.mul_assoc, ← Int.mul_assoc, Int.mul_comm a B]
      _ = A * v * (a * b) := by rw [x1]
      _ = A * a * (v * b) := by rw [Int.mul_assoc, Int.mul_assoc]; congr 1; rw [← Int.mul_assoc, ← Int.mul_assoc, Int.mul_comm v a]
  · have hp2 := prime_pos (hp.resolve_left c)
    obtain ⟨h0, e1, l1, u1, m1⟩ := h.resolve_right (fun z => by omega)
    obtain ⟨_, e2, l2, u2, m2⟩ := h'.resolve_right (fun z => by omega)
    refine .inl ⟨h0, e2, l2, u2, ?_⟩
    rw [hB1 c, hb1 c]
    rw [hB1 c, Int.mul_one] at m1
    rw [hb1 c, e1] at m2
    have d1 := Int.dvd_of_emod_eq_zero m1
    have d2 := Int.dvd_of_emod_eq_zero m2
    apply Int.emod_eq_zero_of_dvd
    have e : u' * (1 * 1) - A * a = (u' * (1 * 1) - u * a) + (u - A) * a := by
      rw [Int.sub_mul]
      omega
    rw [e]
    exact Int.dvd_add d2 (Int.dvd_mul_of_dvd_left d1)
theorem low_small {a b u v : Int} (h : (u, v) = low a b) : u.natAbs ≤ a.natAbs ∧ v.natAbs ≤ b.natAbs := by
  have e1 := congrArg Prod.fst h
  have e2 := congrArg Prod.snd h
  unfold low at e1 e2
  by_cases c : b < 0
  · rw [if_pos c] at e1 e2
    have f1 : u = (-a) / gI a b := e1
    have f2 : v = (-b) / gI a b := e2
    have g1 := Int.natAbs_ediv_le_natAbs (-a) (gI a b)
    have g2 := Int.natAbs_ediv_le_natAbs (-b) (gI a b)
    rw [f1, f2]
    omega
  · rw [if_neg c] at e1 e2
    have f1 : u = a / gI a b := e1
    have f2 : v = b / gI a b := e2
    have g1 := Int.natAbs_ediv_le_natAbs a (gI a b)
    have g2 := Int.natAbs_ediv_le_natAbs b (gI a b)
    rw [f1, f2]
    omega
theorem num_small {p a b u v : Int} (hp : p = 0 ∨ p ∈ primes) (h : IsNum p a b u v) (ha : a.natAbs < 2 ^ 199) (hb : b.natAbs < 2 ^ 199) : u.natAbs < 2 ^ 200 ∧ v.natAbs < 2 ^ 200 := by
  rcases h with ⟨h0, rfl, h1, h2, _⟩ | ⟨_, h⟩
  · have := prime_pos (hp.resolve_left (by omega))
    omega
  · have := low_small h
    omega
theorem isW_cases {p d : Int} (hw : isW p d = true) : (p = 0 ∨ p ∈ primes) ∧ d.natAbs ≤ 31 := by
  by_cases c : p = 0
  · refine ⟨.inl c, ?_⟩
    unfold isW at hw
    rw [if_pos c] at hw
    by_cases h1 : -20 ≤ d
    · rw [if_pos h1] at hw
      have := of_decide_eq_true hw
      omega
    · rw [if_neg h1] at hw
      cases hw
  · obtain ⟨h1, h2, h3⟩ := isW_prime hw c
    have := prime_pos h1
    exact ⟨.inr h1, by omega⟩
end T

namespace T
open PySem PySem.Spec PyProof.Rows L2
def SameBut (a : Addr) (H H' : Hp) : Prop := ∀ b o, b ≠ a → H b = some o → H' b = some o
theorem SameBut.refl (a : Addr) (H : Hp) : SameBut a H H := fun _ _ _ h => h
theorem SameBut.trans {a : Addr} {H H1 H2 : Hp} (x : SameBut a H H1) (y : SameBut a H1 H2) : SameBut a H H2 := fun b o n h => y b o n (x b o n h)
theorem SameBut.upd {a : Addr} {H : Hp} {o : HO} : SameBut a H (upd H a o) := fun b u n h => by rw [upd_ne n]; exact h
theorem SameBut.new {a p : Addr} {H : Hp} {o : HO} (h : H p = none) : SameBut a H (L2.upd H p o) := fun b u n e => by rw [upd_ne (ne_of_none e h)]; exact e
theorem Same.but {a : Addr} {H H' : Hp} (h : Same H H') : SameBut a H H' := fun b o _ e => h b o e
theorem same_upd {H : Hp} {p : Addr} {o : HO} (h : H p = none) : Same H (upd H p o) := fun b x e => by
  rw [upd_ne (ne_of_none e h)]
  exact e
theorem upd_self {H : Hp} {a : Addr} {o : HO} (h : H a = some o) : upd H a o = H := by
  funext b
  unfold upd
  by_cases e : b = a
  · rw [if_pos e, e, h]
  · rw [if_neg e]
theorem Same.mut {H H' : Hp} {p : Addr} {o : HO} (e : Same H H') (h : H p = none) : Same H (upd H' p o) := fun a u ha => by
  rw [upd_ne (ne_of_none ha h)]
  exact e a u ha
theorem map_int_get {ns : List Int} {i : Nat} {y : V} (hi : (ns.map V.int)[i]? = some y) : ∃ z, ns[i]? = some z ∧ y = V.int z := by
  rw [List.getElem?_map] at hi
  cases e : ns[i]? with
  | none =>
    rw [e] at hi
    cases hi
  | some z =>
    rw [e] at hi
    exact ⟨z, rfl, (Option.some.inj hi).symm⟩
theorem small_of {n : Nat} (h : n ≤ 100000) : n < sizeLine := Nat.lt_of_le_of_lt h (by decide)
structure ErrC (K : PySem.W.Frag) (mg : Str → Option Value) (x : Str) (C : Addr) : Prop where
  gc : mg x = some (.ref C)
  xC : PySem.W.excIn K C [.type "ValueError", .type "Exception", .type "BaseException", .type "object"] "ValueError.__new__" = true
  kc : PySem.W.keepIn K (.ref C) = true
  bc : PySem.W.subIn K (.ref C) (.type "BaseException") = some true
  tc : PySem.W.typeIn K (.ref C) = some (.type "type")
/-- a def whose defaults stand somewhere (called with all its arguments) -/
structure FunA (K : PySem.W.Frag) (x qual : Str) (st : Stmt) (f : Addr) (fd : FuncData) : Prop where
  ex : ∃ (oc : Value) (od : Option Addr) (dV kV doc pm : Value) (an : Option Addr) (cdv ct : Value) (osl : Array (Option Value)),
    fd = PySem.W.fnOf x qual (defArgs st) (defBody st) (defScope st) dV kV doc pm an cdv ct ∧ K.lookup f = some ⟨oc, od, .func fd, osl⟩ ∧ PySem.W.codeIn K cdv qual = true
  kp : PySem.W.keepIn K (.ref f) = true
section
variable {P : Program} {w : World} {K : PySem.W.Frag} {mg : Str → Option Value} {base : Heap}
theorem FunA.okX {x qual : Str} {st : Stmt} {f : Addr} {fd : FuncData} {N ps : List Str} {k : Nat} {sp : Sp} (F : FunA K x qual st f fd) (S : FnScope N ps (defScope st)) (len : ∀ vs H Q E, sp vs H Q E → vs.length = ps.length)
    (hbody : ∀ (cdv : Value) (A : Around) (outer : List Env) (s : Shared) (H : Hp) (vs : List V) (Q : VK) (E : XK), Room k (A.deeper (envOfC qual (defScope st) s.heap.objs.size f cdv)) → sp vs H Q E →
      ∃ t, PSs (cxOf (L2.CX P w) P w K mg base N qual (defScope st) f cdv A outer s H E) (defBody st) t ∧ t { nx := fun _ H' => Q .non H', rt := Q } (start N vs) H) : FnOk P w K mg base (L2.CX P w) (k + 1) f fd ps sp := by
  obtain ⟨oc, od, dV, kV, doc, pm, an, cdv, ct, osl, rfl, lk, hcd⟩ := F.ex
  exact fn_of lk hcd S len fun A outer s H vs Q E hr hsp => hbody cdv A outer s H vs Q E hr hsp
end
theorem if_pos_of {b : Bool} {A B : Prop} (h : b = true) (x : A) : if b = true then A else B := by
  rw [if_pos h]
  exact x
theorem if_neg_of {b : Bool} {A B : Prop} (h : ¬ b = true) (x : B) : if b = true then A else B := by
  rw [if_neg h]
  exact x
theorem sqT_same {K : PySem.W.Frag} {H H' : Hp} {a : Addr} {xs : List V} (e : Same H H') (h : SqT K H a xs) : SqT K H' a xs := by
  rcases h with (h | ⟨o, h⟩) | h
  · exact .inl (.inl (e _ _ h))
  · exact .inl (.inr ⟨o, e _ _ h⟩)
  · exact .inr h
section
variable {P : Program} {w : World} {K : PySem.W.Frag} {mg : Str → Option Value} {base : Heap}
theorem room64 {k : Nat} {A : Around} (hr : Room k A) : A.units + 64 < cLine := by have := hr.un; omega
theorem room65 {k : Nat} {A : Around} (hr : Room k A) : A.units + 65 < cLine := by have := hr.un; omega
theorem inV_primes {p : Int} : inV (.int p) [.int 2, .int 3, .int 5, .int 7, .int 11, .int 13, .int 17, .int 19, .int 23, .int 29, .int 31] = inV (.int p) (primes.map V.int) := rfl
end
theorem sqT_but {K : PySem.W.Frag} {H H' : Hp} {r a : Addr} {xs : List V} (e : SameBut r H H') (n : a ≠ r) (h : SqT K H a xs) : SqT K H' a xs := by
  rcases h with (h | ⟨o, h⟩) | h
  · exact .inl (.inl (e _ _ n h))
  · exact .inl (.inr ⟨o, e _ _ n h⟩)
  · exact .inr h
theorem at_tab {xs : List Int} {i : Int} (h0 : 0 ≤ i) (h1 : i < xs.length) : atI (xs.map V.int) i = some (.int (xs.getD i.toNat 0)) := by
  obtain ⟨n, rfl⟩ := Int.eq_ofNat_of_zero_le h0
  have hn : n < xs.length := by omega
  refine atI_nat ?_
  rw [List.getElem?_map, List.getElem?_eq_getElem hn, List.getD_eq_getElem?_getD, show ((n : Nat) : Int).toNat = n from rfl, List.getElem?_eq_getElem hn]
  rfl
theorem mod_lt8 (n : Int) {m : Int} (h : 0 < m) : 0 ≤ n % m ∧ n % m < m := ⟨Int.emod_nonneg _ (by omega), Int.emod_lt_of_pos _ h⟩
def wtab : List Int := [0, 0, 0, 2, 3, 5, 7, 31]
theorem wtab_in : ∀ k : Nat, k < 8 → wtab.getD k 0 = 0 ∨ (wtab.getD k 0 ≠ 0 ∧ inV (.int (wtab.getD k 0)) (primes.map V.int) = true ∧ 2 ≤ wtab.getD k 0) := by decide
/-! ### isinstance of the error that an except suite holds -/
def rIsE' (K : PySem.W.Frag) (cls : Value) (d : Option Addr) (a : Addr) : List V → Hp → VK → Prop := fun xs H Q => ∃ D : Addr, cls = .ref D ∧ d = none ∧ ExcC K D ∧ rIsE K D a xs H Q
theorem call_isE' {X : Cx} {a : Addr} {oe : Obj} {pn : List (Addr × Obj)} {cls : Value} {d : Option Addr} (hz : Zc cls d oe) (hf : ∃ vs, oe.data = .fields vs) : CallR (X.suite a ((a, oe) :: pn)) (.builtin "isinstance") (rIsE' X.K cls d a) := by
  intro pins s σ H xs us Q I r h
  obtain ⟨D, rfl, rfl, C, h⟩ := h
  exact call_isE C hz hf pins s σ H xs us Q I r h
theorem pe_indexK {X : Cx} {K : PySem.W.Frag} {o e : Expr} {to : TE} {t : TA} {apos cpos : Pos} (hK : X.K = K) (ho : PE X o to) (ha : PA X [e] t)
    (hb : attributeBase o "index" X.env (eval o X.env) = eval o X.env := by rfl)
    (hf : ((backTo cpos (starEach [e] X.env)).all (fun x => !x.1) && (backToKw cpos (keywordEach [] X.env)).all (fun x => x.1.isSome) && decide ([e].length + ([] : List Keyword).length + (if ([] : List Keyword).isEmpty then 0 else 1) < 30)) = true := by rfl)
    (hl : (apos.endLine == cpos.line) = true := by rfl) (hs : starEach [e] X.env = (false, eval e X.env) :: starEach [] X.env := by rfl) (hp : (backTo cpos (starEach [] X.env)).any (·.1) = false := by rfl) :
    PE X (.Call (.Attribute o "index" apos) [e] [] cpos) (tBM K "list" (rIndex K) to t) := by
  subst hK
  exact pe_bm PySem.F.plainAttrs_list PySem.F.slot_list_index PySem.F.type_list_index mt_index ho ha hb hf hl hs hp
/-! ### values without depth -/
inductive Val1 (H : Hp) : V → PyData → Prop
  | non : Val1 H .non .none
  | bl (b : Bool) : Val1 H (.bl b) (.bool b)
  | str (x : Str) : Val1 H (.str x) (.str x)
  | pair {t : Addr} {u v : Int} : H t = some (.tup [.int u, .int v]) → Val1 H (.ref t) (.tuple [.int u, .int v])
theorem Val1.dp {K : PySem.W.Frag} {H : Hp} {x : V} {d : PyData} (h : Val1 H x d) : Dp K H x d := by
  cases h with
  | non => exact .non
  | bl b => exact .bl b
  | str x => exact .str x
  | pair h => exact .tup (.inl (.inl h)) (.cons (.int _) (.cons (.int _) .nil))
theorem Val1.but {H H' : Hp} {D : Addr} {ys : List V} {x : V} {d : PyData} (s : SameBut D H H') (hD : H D = some (.lst ys)) (h : Val1 H x d) : Val1 H' x d := by
  cases h with
  | non => exact .non
  | bl b => exact .bl b
  | str x => exact .str x
  | pair h => exact .pair (s _ _ (ne_of h hD (fun z => nomatch z)) h)
theorem Val1.same {H H' : Hp} {x : V} {d : PyData} (s : Same H H') (h : Val1 H x d) : Val1 H' x d := by
  cases h with
  | non => exact .non
  | bl b => exact .bl b
  | str x => exact .str x
  | pair h => exact .pair (s _ _ h)
theorem vals1_dp {K : PySem.W.Frag} {H : Hp} : ∀ {xs : List V} {ds : List PyData}, Paired (Val1 H) xs ds → DpAll K H xs ds
  | _, _, .nil => .nil
  | _, _, .cons a b => .cons a.dp (vals1_dp b)
theorem paired_snoc {α β : Type} {F : α → β → Prop} {a : α} {b : β} (h : F a b) : ∀ {l : List α} {m : List β}, Paired F l m → Paired F (l ++ [a]) (m ++ [b])
  | _, _, .nil => .cons h .nil
  | _, _, .cons x y => .cons x (paired_snoc h y)

/-- the first def of a class -/
def inCls : Stmt → Stmt
  | .ClassDef _ _ _ body _ _ _ _ _ _ _ => body.getD 0 (.Pass ⟨0, 0, 0, 0⟩)
  | s => s
theorem pt_truthK {X : Cx} {K : PySem.W.Frag} {a : Expr} {ta : TE} (hK : X.K = K) (ha : PE X a ta) (he : ∀ whole, isTrue a X.env whole = (do let v ← whole; standAt a.pos; holding [v] (truthy v))) :
    PT X a (fun σ H Q => ta σ H fun x H' => ∃ k, TruV K x H' k ∧ Q k H') := by
  subst hK
  exact pt_truth ha he
theorem op_in_seqK {X : Cx} {K : PySem.W.Frag} (hK : X.K = K) : OpR X (compareOp .In) (rIn K false) := by
  subst hK
  exact op_in_seq
theorem op_notIn_seqK {X : Cx} {K : PySem.W.Frag} (hK : X.K = K) : OpR X (compareOp .NotIn) (rIn K true) := by
  subst hK
  exact op_notIn_seq
theorem pi_listK {X : Cx} {K : PySem.W.Frag} {tg e : Expr} {te : TE} (hK : X.K = K) (he : PE X e te) : PI X tg e (iList K te) := by
  subst hK
  exact pi_list he

def topS (i : Nat) : Stmt := PySem.Challenge.pw_threadworth_k03_texts_of_numbers.main.body.getD i (.Pass ⟨0, 0, 0, 0⟩)
abbrev s_is_world : Stmt := topS 11
theorem sc_is_world : FnScope ["world", "p", "d"] ["world"] (defScope s_is_world) := ⟨rfl, rfl, rfl, by decide +kernel, rfl, by decide +kernel, by decide +kernel⟩
abbrev s_check_world : Stmt := topS 12
theorem sc_check_world : FnScope ["world"] ["world"] (defScope s_check_world) := ⟨rfl, rfl, rfl, by decide +kernel, rfl, by decide +kernel, by decide +kernel⟩
abbrev s_is_number : Stmt := topS 13
theorem sc_is_number : FnScope ["world", "x", "p", "_", "a", "b"] ["world", "x"] (defScope s_is_number) := ⟨rfl, rfl, rfl, by decide +kernel, rfl, by decide +kernel, by decide +kernel⟩
abbrev s_check_number : Stmt := topS 14
theorem sc_check_number : FnScope ["world", "x"] ["world", "x"] (defScope s_check_number) := ⟨rfl, rfl, rfl, by decide +kernel, rfl, by decide +kernel, by decide +kernel⟩
abbrev s_number_text : Stmt := topS 15
theorem sc_number_text : FnScope ["world", "x", "a", "b"] ["world", "x"] (defScope s_number_text) := ⟨rfl, rfl, rfl, by decide +kernel, rfl, by decide +kernel, by decide +kernel⟩
abbrev s_integer_text_ : Stmt := topS 16
theorem sc_integer_text_ : FnScope ["k", "rest", "chunks", "low", "sign"] ["k"] (defScope s_integer_text_) := ⟨rfl, rfl, rfl, by decide +kernel, rfl, by decide +kernel, by decide +kernel⟩
abbrev s_read_number : Stmt := topS 17
theorem sc_read_number : FnScope ["world", "text", "word"] ["world", "text"] (defScope s_read_number) := ⟨rfl, rfl, rfl, by decide +kernel, rfl, by decide +kernel, by decide +kernel⟩
abbrev s_figure_count_ : Stmt := topS 18
theorem sc_figure_count_ : FnScope ["word"] ["word"] (defScope s_figure_count_) := ⟨rfl, rfl, rfl, by decide +kernel, rfl, by decide +kernel, by decide +kernel⟩
abbrev s_read_any_number : Stmt := topS 19
theorem sc_read_any_number : FnScope ["world", "text", "words", "x", "word"] ["world", "text"] (defScope s_read_any_number) := ⟨rfl, rfl, rfl, by decide +kernel, rfl, by decide +kernel, by decide +kernel⟩
abbrev s_is_integer_ : Stmt := topS 20
theorem sc_is_integer_ : FnScope ["word", "figures"] ["word"] (defScope s_is_integer_) := ⟨rfl, rfl, rfl, by decide +kernel, rfl, by decide +kernel, by decide +kernel⟩
abbrev s_integer_of_ : Stmt := topS 21
theorem sc_integer_of_ : FnScope ["word", "figures", "first", "found", "at"] ["word"] (defScope s_integer_of_) := ⟨rfl, rfl, rfl, by decide +kernel, rfl, by decide +kernel, by decide +kernel⟩
abbrev s_law_plain : Stmt := topS 23
theorem sc_law_plain : FnScope ["cell"] ["cell"] (defScope s_law_plain) := ⟨rfl, rfl, rfl, by decide +kernel, rfl, by decide +kernel, by decide +kernel⟩
abbrev s_law_draws : Stmt := topS 24
theorem sc_law_draws : FnScope ["script", "draws", "cell", "rest", "k", "once", "twice"] ["script"] (defScope s_law_draws) := ⟨rfl, rfl, rfl, by decide +kernel, rfl, by decide +kernel, by decide +kernel⟩
abbrev s_law_next : Stmt := topS 25
theorem sc_law_next : FnScope ["draws"] ["draws"] (defScope s_law_next) := ⟨rfl, rfl, rfl, by decide +kernel, rfl, by decide +kernel, by decide +kernel⟩
abbrev s_law_world : Stmt := topS 26
theorem sc_law_world : FnScope ["draws", "p"] ["draws"] (defScope s_law_world) := ⟨rfl, rfl, rfl, by decide +kernel, rfl, by decide +kernel, by decide +kernel⟩
abbrev s_law_lowest : Stmt := topS 27
theorem sc_law_lowest : FnScope ["a", "b", "one", "other", "j"] ["a", "b"] (defScope s_law_lowest) := ⟨rfl, rfl, rfl, by decide +kernel, rfl, by decide +kernel, by decide +kernel⟩
abbrev s_law_made : Stmt := topS 28
theorem sc_law_made : FnScope ["p", "a", "b", "x"] ["p", "a", "b"] (defScope s_law_made) := ⟨rfl, rfl, rfl, by decide +kernel, rfl, by decide +kernel, by decide +kernel⟩
abbrev s_law_number : Stmt := topS 29
theorem sc_law_number : FnScope ["draws", "world"] ["draws", "world"] (defScope s_law_number) := ⟨rfl, rfl, rfl, by decide +kernel, rfl, by decide +kernel, by decide +kernel⟩
abbrev s_law_whole : Stmt := topS 30
theorem sc_law_whole : FnScope ["text", "figures", "sign"] ["text"] (defScope s_law_whole) := ⟨rfl, rfl, rfl, by decide +kernel, rfl, by decide +kernel, by decide +kernel⟩
abbrev s_law_due : Stmt := topS 31
theorem sc_law_due : FnScope ["world", "text", "parts", "a", "b"] ["world", "text"] (defScope s_law_due) := ⟨rfl, rfl, rfl, by decide +kernel, rfl, by decide +kernel, by decide +kernel⟩
abbrev s_law_told : Stmt := topS 32
theorem sc_law_told : FnScope ["world", "text", "error"] ["world", "text"] (defScope s_law_told) := ⟨rfl, rfl, rfl, by decide +kernel, rfl, by decide +kernel, by decide +kernel⟩
abbrev s_law_refuses : Stmt := topS 33
theorem sc_law_refuses : FnScope ["text"] ["text"] (defScope s_law_refuses) := ⟨rfl, rfl, rfl, by decide +kernel, rfl, by decide +kernel, by decide +kernel⟩
abbrev s_law : Stmt := topS 34
theorem sc_law : FnScope ["script", "draws", "world", "text", "some", "at", "changed", "given", "due"] ["script"] (defScope s_law) := ⟨rfl, rfl, rfl, by decide +kernel, rfl, by decide +kernel, by decide +kernel⟩
abbrev s_Malformed_init : Stmt := inCls (topS 5)
theorem sc_Malformed_init : FnScope ["self", "at"] ["self", "at"] (defScope s_Malformed_init) := ⟨rfl, rfl, rfl, by decide +kernel, rfl, by decide +kernel, by decide +kernel⟩
section
variable {P : Program} {w : World} {K : PySem.W.Frag} {mg : Str → Option Value} {base : Heap}
/-! ### is_world -/
def spIsWorld (K : PySem.W.Frag) : Sp := fun vs H Q _ => ∃ (a : Addr) (p d : Int), vs = [.ref a] ∧ SqT K H a [.int p, .int d] ∧ Q (.bl (isW p d)) H
theorem ok_is_world {f : Addr} {fd : FuncData} {aP : Addr} (F : Fun K "is_world" "is_world" s_is_world f fd) (m_PRIMES : mg "PRIMES" = some (.ref aP)) (tP : ∀ H, SqT K H aP (primes.map V.int)) :
    FnOk P w K mg base CX0 1 f fd ["world"] (spIsWorld K) := by
  have r_PRIMES : RelV (.ref aP) (.ref aP) := rfl
  refine F.ok sc_is_world (fun vs H Q E h => ?_) (fun cdv A outer s H vs Q E hr h => ?_)
  · obtain ⟨a, p, d, rfl, _⟩ := h
    rfl
  · obtain ⟨a, p, d, rfl, hS, q⟩ := h
    refine ⟨_, (pss_cons (ps_asg (pv 0) (pg_tup rfl (pgs_cons (pg_name (i := 1) sc_is_world.nd rfl (.inl rfl)) (pgs_cons (pg_name (i := 2) sc_is_world.nd rfl (.inl rfl)) pgs_nil))))
  (pss_cons (ps_if (pt_cmpR op_eq (pv 1) pe_int (nomark _)) (pss_one (ps_ret (pe_chain op_le op_le (pe_un un_neg pe_int) (pv 2) pe_int))) pss_nil)
  (pss_one (ps_ret (pe_and (pe_cmpR op_in_seq (pv 1) (pe_glob rfl m_PRIMES r_PRIMES) (by with_unfolding_all rfl)) (pe_one (pe_chain op_le op_lt pe_int (pv 2) (pv 1)))))))), ?_⟩
    refine ⟨_, rfl, a, _, rfl, hS, rfl, _, _, rfl, _, _, rfl, rfl, ?_⟩
    refine ⟨_, rfl, rfl, _, rfl, ite2 (fun e => ?_) (fun e => ?_)⟩
    · have e0 : p = 0 := V.int.inj (of_decide_eq_true e)
      have ew : isW p d = if -20 ≤ d then decide (d ≤ 20) else false := if_pos e0
      rw [ew] at q
      refine ⟨_, rfl, _, rfl, _, _, rfl, rfl, _, rfl, ite2 (fun e1 => ?_) (fun e1 => ?_)⟩
      · rw [if_pos (of_decide_eq_true e1)] at q
        exact ⟨_, _, rfl, rfl, q⟩
      · rw [if_neg (fun z => e1 (decide_eq_true z))] at q
        exact q
    · have e0 : p ≠ 0 := fun z => e (decide_eq_true (congrArg V.int z))
      have ew : isW p d = (if inV (.int p) (primes.map V.int) = true then (if 0 ≤ d then decide (d < p) else false) else false) := if_neg e0
      rw [ew] at q
      refine ⟨_, rfl, aP, _, rfl, .inr (tP _), rfl, by decide, _, rfl, ite2 (fun e1 => ?_) (fun e1 => ?_)⟩
      · have e1' : inV (.int p) (primes.map V.int) = true := e1
        rw [if_pos e1'] at q
        refine ⟨_, rfl, _, _, rfl, rfl, _, rfl, ite2 (fun e2 => ?_) (fun e2 => ?_)⟩
        · rw [if_pos (of_decide_eq_true e2)] at q
          exact ⟨_, rfl, _, _, rfl, rfl, q⟩
        · rw [if_neg (fun z => e2 (decide_eq_true z))] at q
          exact q
      · have e1' : ¬ inV (.int p) (primes.map V.int) = true := e1
        rw [if_neg e1'] at q
        have e2 : inV (.int p) (primes.map V.int) = false := Bool.eq_false_iff.mpr e1'
        exact q
end

section
variable {P : Program} {w : World} {K : PySem.W.Frag} {mg : Str → Option Value} {base : Heap}
/-! ### _law_plain -/
def spPlain : Sp := fun vs H Q _ => ∃ n : Int, vs = [.int n] ∧ Q (.int (if n < 0 then -n else n)) H
theorem ok_plain {f : Addr} {fd : FuncData} (F : Fun K "_law_plain" "_law_plain" s_law_plain f fd) : FnOk P w K mg base CX0 1 f fd ["cell"] spPlain := by
  refine F.ok sc_law_plain (fun vs H Q E h => ?_) (fun cdv A outer s H vs Q E hr h => ?_)
  · obtain ⟨n, rfl, _⟩ := h
    rfl
  · obtain ⟨n, rfl, q⟩ := h
    refine ⟨_, (pss_cons (ps_if (pt_cmpR op_lt (pv 0) pe_int (nomark _)) (pss_one (ps_ret (pe_op op_sub pe_int (pv 0)))) pss_nil)
  (pss_one (ps_ret (pv 0))))
    , ?_⟩
    refine ⟨_, rfl, _, _, rfl, rfl, _, rfl, ite2 (fun e => ?_) (fun e => ?_)⟩
    · rw [if_pos (of_decide_eq_true e)] at q
      have q' : Q (.int (0 - n)) H := by
        rw [show (0 : Int) - n = -n by omega]
        exact q
      exact ⟨_, rfl, _, _, rfl, rfl, q'⟩
    · rw [if_neg (fun z => e (decide_eq_true z))] at q
      exact ⟨_, rfl, q⟩
end

section
variable {P : Program} {w : World} {K : PySem.W.Frag} {mg : Str → Option Value} {base : Heap}
/-! ### _law_next -/
def spNext : Sp := fun vs H Q _ => ∃ (a : Addr) (ds : List Int), vs = [.ref a] ∧ H a = some (.lst (ds.map V.int)) ∧ ∀ (n : Int) (ds' : List Int), Q (.int n) (upd H a (.lst (ds'.map V.int)))
theorem ok_next {f : Addr} {fd : FuncData} (F : Fun K "_law_next" "_law_next" s_law_next f fd) : FnOk P w K mg base CX0 1 f fd ["draws"] spNext := by
  refine F.ok sc_law_next (fun vs H Q E h => ?_) (fun cdv A outer s H vs Q E hr h => ?_)
  · obtain ⟨a, ds, rfl, _⟩ := h
    rfl
  · obtain ⟨a, ds, rfl, hL, q⟩ := h
    refine ⟨_, (pss_cons (ps_if (pt_truth (pv 0) (by intro _; rfl)) (pss_one (ps_ret (pe_bm0 PySem.F.plainAttrs_list PySem.F.slot_list_pop PySem.F.type_list_pop mt_pop (pv 0)))) pss_nil)
  (pss_one (ps_ret pe_int)))
    , ?_⟩
    refine ⟨_, rfl, _, .inl ⟨_, .inl (.inl hL), rfl⟩, ite2 (fun e => ?_) (fun e => ?_)⟩
    · have hn : ds ≠ [] := fun z => by subst z; cases e
      have hm : ds.map V.int = ds.dropLast.map V.int ++ [V.int (ds.getLast hn)] := by
        rw [← List.map_singleton, ← List.map_append, List.dropLast_concat_getLast]
      refine ⟨_, rfl, .inl ⟨rfl, _, .inl (.inl hL)⟩, a, _, .int (ds.getLast hn), rfl, rfl, hL, ?_, ?_⟩
      · rw [hm]; simp
      · rw [hm, List.dropLast_concat]
        exact q _ _
    · have := q 0 ds
      rw [upd_self hL] at this
      exact this
end

section
variable {P : Program} {w : World} {K : PySem.W.Frag} {mg : Str → Option Value} {base : Heap}
/-! ### _law_draws -/
def spDraws (K : PySem.W.Frag) : Sp := fun vs H Q _ => ∃ (a : Addr) (ns : List Int), vs = [.ref a] ∧ SqL K H a (ns.map V.int) ∧ ns.length ≤ 63 ∧
  ∀ H' r (ds : List Int), Same H H' → H r = none → H' r = some (.lst (ds.map V.int)) → Q (.ref r) H'
theorem ok_draws {f : Addr} {fd : FuncData} {a_law_plain : Addr} {fd_law_plain : FuncData} (F : Fun K "_law_draws" "_law_draws" s_law_draws f fd) (z_range : mg "range" = none) (z_int : mg "int" = none)
    (G_law_plain : FnOk P w K mg base CX0 1 a_law_plain fd_law_plain ["cell"] spPlain) (g_law_plain : mg "_law_plain" = some (.ref a_law_plain)) (k_law_plain : PySem.W.keepIn K (.ref a_law_plain) = true) (b_law_plain : Binds K fd_law_plain ["cell"] []) :
    FnOk P w K mg base CX0 2 f fd ["script"] (spDraws K) := by
  refine F.ok sc_law_draws (fun vs H Q E h => ?_) (fun cdv A outer s H vs Q E hr h => ?_)
  · obtain ⟨n, _, rfl, _⟩ := h
    rfl
  · obtain ⟨a, ns, rfl, hS, hlen, q⟩ := h
    refine ⟨_, (pss_cons (ps_set (i := 1) sc_law_draws.nd rfl (.inl rfl) (pe_lst pa_nil))
  (pss_cons (ps_for PassesOwn.never rfl (pi_list (pv 0)) (pg_name (i := 2) sc_law_draws.nd rfl (.inl rfl)) (pss_cons (ps_set (i := 3) sc_law_draws.nd rfl (.inl rfl) (pe_call G_law_plain (hr.mono (by decide)) rfl g_law_plain k_law_plain b_law_plain .nil pass0 (pa_cons (pv 2) pa_nil)))
  (pss_one (ps_if (pt_cmpR op_ge (pv 3) pe_int (nomark _)) (pss_one (ps_for PassesOwn.never rfl (pi_range1 rfl z_range (pa_cons pe_int pa_nil)) (pg_name (i := 4) sc_law_draws.nd rfl (.inl rfl)) (pss_cons (ps_if (pt_cmpR op_eq (pv 3) pe_int (nomark _)) (pss_one ps_break) pss_nil)
  (pss_cons (ps_expr (pe_bm PySem.F.plainAttrs_list PySem.F.slot_list_append PySem.F.type_list_append mt_append (pv 1) (pa_cons (pe_op op_mod (pe_callTy call_int1 (by rfl) z_int boot_int (pa_cons (pv 3) pa_nil)) pe_int) pa_nil)))
  (pss_one (ps_set (i := 3) sc_law_draws.nd rfl (.inl rfl) (pe_op op_fdiv (pv 3) pe_int))))))) (pss_cons (ps_set (i := 5) sc_law_draws.nd rfl (.inl rfl) (pe_op op_mod (pe_callTy call_int1 (by rfl) z_int boot_int (pa_cons (pe_op op_add (pe_op op_mul (pv 3) pe_int) pe_int) pa_nil)) pe_int))
  (pss_cons (ps_set (i := 6) sc_law_draws.nd rfl (.inl rfl) (pe_op op_mod (pe_callTy call_int1 (by rfl) z_int boot_int (pa_cons (pe_op op_add (pe_op op_mul (pv 5) pe_int) (pv 3)) pa_nil)) pe_int))
  (pss_one (ps_expr (pe_bm PySem.F.plainAttrs_list PySem.F.slot_list_extend PySem.F.type_list_extend mt_extend (pv 1) (pa_cons (pe_lst (pa_cons (pe_op op_mod (pe_callTy call_int1 (by rfl) z_int boot_int (pa_cons (pv 3) pa_nil)) pe_int) (pa_cons (pe_op op_mod (pe_callTy call_int1 (by rfl) z_int boot_int (pa_cons (pv 5) pa_nil)) pe_int) (pa_cons (pe_op op_mod (pe_callTy call_int1 (by rfl) z_int boot_int (pa_cons (pv 6) pa_nil)) pe_int) pa_nil)))) pa_nil))))))))))
  (pss_one (ps_ret (pv 1)))))
    , ?_⟩
    refine ⟨Nat.zero_le _, fun o no => ?_⟩
    have s1 : Same H (upd H o (.lst [])) := same_upd no
    refine ⟨.ref a, rfl, a, rfl, ⟨_, s1.seq hS⟩, for_list (K := K) (a := a) (xs := ns.map V.int) (fun i σ H' => ∃ v2 v3 v4 v5 v6 ds, σ = [some (.ref a), some (.ref o), v2, v3, v4, v5, v6] ∧ Same H H' ∧ H' o = some (.lst (ds.map V.int)) ∧ ds.length ≤ 60 * i)
      ⟨none, none, none, none, none, [], rfl, s1, upd_same, Nat.le_refl _⟩ (fun i σ H' _ ⟨_, _, _, _, _, _, _, sm, _⟩ => sm.seq hS) ?_ ?_⟩
    · rintro i y σ H1 hi ⟨v2, v3, v4, v5, v6, ds, rfl, sm, hL, hl⟩
      have hi63 : i < 63 := by
        have := (List.getElem?_eq_some_iff.mp hi).1
        rw [List.length_map] at this
        omega
      obtain ⟨z, hz, rfl⟩ := map_int_get hi
      refine ⟨_, rfl, z, rfl, ?_⟩
      generalize hr0 : (if z < 0 then -z else z) = r0
      have h0 : 0 ≤ r0 := by
        subst hr0
        split <;> omega
      refine ⟨_, rfl, _, _, rfl, rfl, _, rfl, ite2 (fun e => ?_) (fun e => ?_)⟩
      · refine ⟨60, rfl, by decide, by decide, for_range (lo := 0) (n := 60) (fun j σ H' => ∃ r v4 ds', σ = [some (.ref a), some (.ref o), some (.int z), some (.int r), v4, v5, v6] ∧ 0 ≤ r ∧ Same H H' ∧ H' o = some (.lst (ds'.map V.int)) ∧ ds'.length ≤ 60 * i + j)
          ⟨r0, v4, ds, rfl, h0, sm, hL, hl⟩ ?_ ?_⟩
        · rintro j σ H2 hj ⟨r, v4', ds', rfl, hr0', sm2, hL2, hl2⟩
          refine ⟨_, rfl, rfl, _, rfl, ite2 (fun e1 => ?_) (fun e1 => ?_)⟩
          · exact ⟨_, _, _, _, _, ds', rfl, sm2, hL2, by omega⟩
          · refine ⟨.ref o, rfl, .inl ⟨rfl, _, .inl (.inl hL2)⟩, .int r, rfl, .inl ⟨r, rfl, r, 1000, rfl, rfl, (show (0:Int) < 1000 by decide), o, _, _, rfl, rfl, hL2, ?_, ?_⟩⟩
            · rw [List.length_map]
              exact small_of (by omega)
            · refine ⟨_, rfl, r, 1000, rfl, rfl, ⟨by decide, by decide⟩, ?_⟩
              refine ⟨r / 1000, _, ds' ++ [r % 1000], rfl, by omega, Same.mut sm2 no, ?_, ?_⟩
              · rw [upd_same, List.map_append]
                rfl
              · rw [List.length_append]
                show ds'.length + 1 ≤ _
                omega
        · rintro σ H2 ⟨r, v4', ds', rfl, hr0', sm2, hL2, hl2⟩
          exact ⟨_, _, _, _, _, ds', rfl, sm2, hL2, by omega⟩
      · have c1 : CMul r0 48271 := .inr ⟨by decide, by decide⟩
        refine ⟨.int r0, rfl, r0, 48271, rfl, rfl, c1, _, 11, rfl, rfl, .inl ⟨_, rfl, _, 2147483647, rfl, rfl, (show (0:Int) < 2147483647 by decide), ?_⟩⟩
        have c2 : ∀ x : Int, CMul x 69621 := fun _ => .inr ⟨by decide, by decide⟩
        refine ⟨_, rfl, _, 69621, rfl, rfl, c2 _, .int r0, rfl, _, r0, rfl, rfl, .inl ⟨_, rfl, _, 2147483629, rfl, rfl, (show (0:Int) < 2147483629 by decide), ?_⟩⟩
        have p1000 : (0:Int) < 1000 := by decide
        refine ⟨.ref o, rfl, .inl ⟨rfl, _, .inl (.inl hL)⟩, ?_⟩
        refine ⟨.int r0, rfl, .inl ⟨r0, rfl, r0, 1000, rfl, rfl, p1000, _, rfl, .inl ⟨_, rfl, _, 1000, rfl, rfl, p1000, _, rfl, .inl ⟨_, rfl, _, 1000, rfl, rfl, p1000, ?_⟩⟩⟩⟩
        refine ⟨(by show 3 ≤ sizeLine; decide), fun c nc => ?_⟩
        have hoc : o ≠ c := ne_of_none hL nc
        refine ⟨o, c, ds.map V.int, _, rfl, rfl, ?_, upd_same, ?_, ?_⟩
        · rw [upd_ne hoc]
          exact hL
        · rw [List.length_map]
          exact Nat.le_of_lt (small_of (show ds.length + 3 ≤ 100000 by omega))
        · refine ⟨_, _, _, _, _, ds ++ [r0 % 1000, (r0 * 48271 + 11) % 2147483647 % 1000, ((r0 * 48271 + 11) % 2147483647 * 69621 + r0) % 2147483629 % 1000], rfl, Same.mut (Same.trans sm (same_upd nc)) no, ?_, ?_⟩
          · rw [upd_same, List.map_append]
            rfl
          · rw [List.length_append]
            show ds.length + 3 ≤ _
            omega
    · rintro σ H1 ⟨v2, v3, v4, v5, v6, ds, rfl, sm, hL, hl⟩
      exact ⟨_, rfl, q H1 o ds sm no hL⟩
end

section
variable {P : Program} {w : World} {K : PySem.W.Frag} {mg : Str → Option Value} {base : Heap}
/-! ### check_world -/
def spCheckWorld (K : PySem.W.Frag) (CW : Addr) : Sp := fun vs H Q E => ∃ (a : Addr) (p d : Int), vs = [.ref a] ∧ SqT K H a [.int p, .int d] ∧ (isW p d = true → Q .non H) ∧ (isW p d = false → E (.ref CW) none H)
theorem ok_check_world {f CW a_is_world : Addr} {fd fd_is_world : FuncData} (F : Fun K "check_world" "check_world" s_check_world f fd) (T : ErrC K mg "NotWorld" CW)
    (G_is_world : FnOk P w K mg base CX0 1 a_is_world fd_is_world ["world"] (spIsWorld K)) (g_is_world : mg "is_world" = some (.ref a_is_world)) (k_is_world : PySem.W.keepIn K (.ref a_is_world) = true) (b_is_world : Binds K fd_is_world ["world"] []) :
    FnOk P w K mg base (L2.CX P w) 2 f fd ["world"] (spCheckWorld K CW) := by
  obtain ⟨gc_NotWorld, x_NotWorld, kc_NotWorld, bc_NotWorld, tc_NotWorld⟩ := T
  refine F.okX sc_check_world (fun vs H Q E h => ?_) (fun cdv A outer s H vs Q E hr h => ?_)
  · obtain ⟨a, p, d, rfl, _⟩ := h
    rfl
  · obtain ⟨a, p, d, rfl, hS, q1, q2⟩ := h
    refine ⟨_, (pss_one (ps_if (pt_not (pt_val (pe_call G_is_world (hr.mono (by decide)) rfl g_is_world k_is_world b_is_world .nil pass0 (pa_cons (pv 0) pa_nil)))) (pss_one (ps_raise rfl (takes_of rfl rfl rfl rfl) (pmk_own PySem.F.excBase_ValueError x_NotWorld gc_NotWorld kc_NotWorld (raises_own bc_NotWorld tc_NotWorld) rfl))) pss_nil))
    , ?_⟩
    refine ⟨_, rfl, a, p, d, rfl, hS, _, rfl, ?_⟩
    cases e : isW p d with
    | true => exact iteF (q1 e)
    | false => exact iteT (q2 e)
end

section
variable {P : Program} {w : World} {K : PySem.W.Frag} {mg : Str → Option Value} {base : Heap}
/-! ### is_number -/
def isN (p u v : Int) : Bool := if p = 0 then (if 1 ≤ v then decide (gI u v = 1) else false) else (if v = 1 then (if 0 ≤ u then decide (u < p) else false) else false)
def spIsNumber (K : PySem.W.Frag) (CW : Addr) : Sp := fun vs H Q E => ∃ (a x : Addr) (p d u v : Int), vs = [.ref a, .ref x] ∧ SqT K H a [.int p, .int d] ∧ SqT K H x [.int u, .int v] ∧ (isW p d = true → Q (.bl (isN p u v)) H) ∧ (isW p d = false → E (.ref CW) none H)
theorem ok_is_number {f CW a_check_world : Addr} {fd fd_check_world : FuncData} (F : Fun K "is_number" "is_number" s_is_number f fd) (m_gcd : mg "gcd" = some (.builtin "math.gcd"))
    (G_check_world : FnOk P w K mg base (L2.CX P w) 2 a_check_world fd_check_world ["world"] (spCheckWorld K CW)) (g_check_world : mg "check_world" = some (.ref a_check_world)) (k_check_world : PySem.W.keepIn K (.ref a_check_world) = true) (b_check_world : Binds K fd_check_world ["world"] []) :
    FnOk P w K mg base (L2.CX P w) 3 f fd ["world", "x"] (spIsNumber K CW) := by
  refine F.okX sc_is_number (fun vs H Q E h => ?_) (fun cdv A outer s H vs Q E hr h => ?_)
  · obtain ⟨a, x, p, d, u, v, rfl, _⟩ := h
    rfl
  · obtain ⟨a, x, p, d, u, v, rfl, hS, hX, q1, q2⟩ := h
    refine ⟨_, (pss_cons (ps_expr (pe_call G_check_world (hr.mono (by decide)) rfl g_check_world k_check_world b_check_world .nil (passes_call (takes_of rfl rfl rfl rfl) (fun _ _ _ _ h => h)) (pa_cons (pv 0) pa_nil)))
  (pss_cons (ps_asg (pv 0) (pg_tup rfl (pgs_cons (pg_name (i := 2) sc_is_number.nd rfl (.inl rfl)) (pgs_cons (pg_name (i := 3) sc_is_number.nd rfl (.inl rfl)) pgs_nil))))
  (pss_cons (ps_asg (pv 1) (pg_tup rfl (pgs_cons (pg_name (i := 4) sc_is_number.nd rfl (.inl rfl)) (pgs_cons (pg_name (i := 5) sc_is_number.nd rfl (.inl rfl)) pgs_nil))))
  (pss_cons (ps_if (pt_cmpR op_eq (pv 2) pe_int (nomark _)) (pss_one (ps_ret (pe_and (pe_cmpR op_ge (pv 5) pe_int (nomark _)) (pe_one (pe_cmpR op_eq (pe_callBfun cr_gcd rfl m_gcd (pa_cons (pv 4) (pa_cons (pv 5) pa_nil))) pe_int (nomark _)))))) pss_nil)
  (pss_one (ps_ret (pe_and (pe_cmpR op_eq (pv 5) pe_int (nomark _)) (pe_one (pe_chain op_le op_lt pe_int (pv 4) (pv 2))))))))))
    , ?_⟩
    refine ⟨_, rfl, a, p, d, rfl, hS, fun ew => ?_, q2⟩
    have q := q1 ew
    refine ⟨_, rfl, a, _, rfl, hS, rfl, _, _, rfl, _, _, rfl, rfl, ?_⟩
    refine ⟨_, rfl, x, _, rfl, hX, rfl, _, _, rfl, _, _, rfl, rfl, ?_⟩
    refine ⟨_, rfl, rfl, _, rfl, ite2 (fun e => ?_) (fun e => ?_)⟩
    · have e0 : p = 0 := V.int.inj (of_decide_eq_true e)
      have ew : isN p u v = if 1 ≤ v then decide (gI u v = 1) else false := if_pos e0
      rw [ew] at q
      refine ⟨_, rfl, _, _, rfl, rfl, _, rfl, ite2 (fun e1 => ?_) (fun e1 => ?_)⟩
      · rw [if_pos (of_decide_eq_true e1)] at q
        have q' : Q (.bl (decide (V.int (gI u v) = V.int 1))) H := by
          rw [show decide (V.int (gI u v) = V.int 1) = decide (gI u v = 1) from decide_eq_decide.mpr ⟨V.int.inj, congrArg V.int⟩]
          exact q
        exact ⟨_, rfl, _, rfl, u, v, rfl, rfl, q'⟩
      · rw [if_neg (fun z => e1 (decide_eq_true z))] at q
        exact q
    · have e0 : p ≠ 0 := fun z => e (decide_eq_true (congrArg V.int z))
      have ew : isN p u v = (if v = 1 then (if 0 ≤ u then decide (u < p) else false) else false) := if_neg e0
      rw [ew] at q
      refine ⟨_, rfl, rfl, _, rfl, ite2 (fun e1 => ?_) (fun e1 => ?_)⟩
      · rw [if_pos (V.int.inj (of_decide_eq_true e1))] at q
        refine ⟨_, rfl, _, _, rfl, rfl, _, rfl, ite2 (fun e2 => ?_) (fun e2 => ?_)⟩
        · rw [if_pos (of_decide_eq_true e2)] at q
          exact ⟨_, rfl, _, _, rfl, rfl, q⟩
        · rw [if_neg (fun z => e2 (decide_eq_true z))] at q
          exact q
      · rw [if_neg (fun z => e1 (decide_eq_true (congrArg V.int z)))] at q
        exact q
end

section
variable {P : Program} {w : World} {K : PySem.W.Frag} {mg : Str → Option Value} {base : Heap}
/-! ### check_number -/
def spCheckNumber (K : PySem.W.Frag) (CW CN : Addr) : Sp := fun vs H Q E => ∃ (a x : Addr) (p d u v : Int), vs = [.ref a, .ref x] ∧ SqT K H a [.int p, .int d] ∧ SqT K H x [.int u, .int v] ∧
  (isW p d = true → isN p u v = true → Q .non H) ∧ (isW p d = true → isN p u v = false → E (.ref CN) none H) ∧ (isW p d = false → E (.ref CW) none H)
theorem ok_check_number {f CW CN a_is_number : Addr} {fd fd_is_number : FuncData} (F : Fun K "check_number" "check_number" s_check_number f fd) (T : ErrC K mg "NotNumber" CN)
    (G_is_number : FnOk P w K mg base (L2.CX P w) 3 a_is_number fd_is_number ["world", "x"] (spIsNumber K CW)) (g_is_number : mg "is_number" = some (.ref a_is_number)) (k_is_number : PySem.W.keepIn K (.ref a_is_number) = true) (b_is_number : Binds K fd_is_number ["world", "x"] []) :
    FnOk P w K mg base (L2.CX P w) 4 f fd ["world", "x"] (spCheckNumber K CW CN) := by
  obtain ⟨gc_NotNumber, x_NotNumber, kc_NotNumber, bc_NotNumber, tc_NotNumber⟩ := T
  refine F.okX sc_check_number (fun vs H Q E h => ?_) (fun cdv A outer s H vs Q E hr h => ?_)
  · obtain ⟨a, x, p, d, u, v, rfl, _⟩ := h
    rfl
  · obtain ⟨a, x, p, d, u, v, rfl, hS, hX, q1, q2, q3⟩ := h
    refine ⟨_, (pss_one (ps_if (pt_not (pt_val (pe_call G_is_number (hr.mono (by decide)) rfl g_is_number k_is_number b_is_number .nil (passes_call (takes_of rfl rfl rfl rfl) (fun _ _ _ _ h => h)) (pa_cons (pv 0) (pa_cons (pv 1) pa_nil))))) (pss_one (ps_raise rfl (takes_of rfl rfl rfl rfl) (pmk_own PySem.F.excBase_ValueError x_NotNumber gc_NotNumber kc_NotNumber (raises_own bc_NotNumber tc_NotNumber) rfl))) pss_nil))
    , ?_⟩
    refine ⟨_, rfl, _, rfl, a, x, p, d, u, v, rfl, hS, hX, fun ew => ?_, q3⟩
    refine ⟨_, rfl, ?_⟩
    cases e : isN p u v with
    | true => exact iteF (q1 ew e)
    | false => exact iteT (q2 ew e)
end

section
variable {P : Program} {w : World} {K : PySem.W.Frag} {mg : Str → Option Value} {base : Heap}
/-! ### _law_lowest -/
def spLawLowest : Sp := fun vs H Q _ => ∃ a b : Int, vs = [.int a, .int b] ∧ b ≠ 0 ∧ b.natAbs ≤ 1000000000 ∧ ∀ r, H r = none → Q (.ref r) (upd H r (.tup [.int (low a b).1, .int (low a b).2]))
theorem ok_law_lowest {f : Addr} {fd : FuncData} (F : Fun K "_law_lowest" "_law_lowest" s_law_lowest f fd) (z_range : mg "range" = none) (z_int : mg "int" = none) (z_abs : mg "abs" = none) : FnOk P w K mg base CX0 1 f fd ["a", "b"] spLawLowest := by
  refine F.ok sc_law_lowest (fun vs H Q E h => ?_) (fun cdv A outer s H vs Q E hr h => ?_)
  · obtain ⟨a, b, rfl, _⟩ := h
    rfl
  · obtain ⟨a, b, rfl, hb, hl, q⟩ := h
    have hg := gI_pos (a := a) hb
    have hg2 := gI_le (a := a) hb
    refine ⟨_, (Evl.pss_cut (ps_if (pt_cmpR op_lt (pv 1) pe_int (nomark _)) (pss_cons (ps_set (i := 0) sc_law_lowest.nd rfl (.inl rfl) (pe_op op_sub pe_int (pv 0)))
  (pss_one (ps_set (i := 1) sc_law_lowest.nd rfl (.inl rfl) (pe_op op_sub pe_int (pv 1))))) pss_nil)
  (pss_cons (ps_set (i := 2) sc_law_lowest.nd rfl (.inl rfl) (pe_callB call_abs (by rfl) z_abs boot_abs (pa_cons (pv 0) pa_nil)))
  (pss_cons (ps_set (i := 3) sc_law_lowest.nd rfl (.inl rfl) (pv 1))
  (pss_cons (ps_for PassesOwn.never rfl (pi_range1 rfl z_range (pa_cons (pe_op op_pow pe_int pe_int) pa_nil)) (pg_name (i := 4) sc_law_lowest.nd rfl (.inl rfl)) (pss_cons (ps_if (pt_cmpR op_eq (pv 3) pe_int (nomark _)) (pss_one ps_break) pss_nil)
  (pss_one (ps_par (i := 2) (j := 3) rfl sc_law_lowest.nd rfl rfl (by decide) rfl rfl (pa_cons (pv 3) (pa_cons (pe_op op_mod (pe_callTy call_int1 (by rfl) z_int boot_int (pa_cons (pv 2) pa_nil)) (pv 3)) pa_nil)) (by rfl)))))
  (pss_one (ps_ret (pe_tup (pa_cons (pe_op op_fdiv (pv 0) (pv 2)) (pa_cons (pe_op op_fdiv (pv 1) (pv 2)) pa_nil)))))))))
    , ?_⟩
    refine ⟨fun σ' H' => ∃ a' b' : Int, σ' = [some (.int a'), some (.int b'), none, none, none] ∧ H' = H ∧ 0 < b' ∧ b' ≤ 1000000000 ∧ gI a' b' = gI a b ∧ low a b = (a' / gI a b, b' / gI a b), ?_, ?_⟩
    · refine ⟨_, rfl, _, _, rfl, rfl, _, rfl, ite2 (fun e => ?_) (fun e => ?_)⟩
      · have e0 : b < 0 := of_decide_eq_true e
        refine ⟨_, rfl, _, _, rfl, rfl, _, rfl, _, _, rfl, rfl, 0 - a, 0 - b, rfl, rfl, by omega, by omega, ?_, ?_⟩
        · unfold gI
          rw [show (0 - a).natAbs = a.natAbs by omega, show (0 - b).natAbs = b.natAbs by omega]
        · unfold low
          rw [if_pos e0, show 0 - a = -a by omega, show 0 - b = -b by omega]
      · have e0 : ¬ b < 0 := fun z => e (decide_eq_true z)
        exact ⟨a, b, rfl, rfl, by omega, by omega, rfl, if_neg e0⟩
    · rintro σ' H' ⟨a', b', rfl, rfl, b1, b2, eg, el⟩
      refine ⟨_, rfl, a', rfl, ?_⟩
      refine ⟨_, rfl, ?_⟩
      refine ⟨10, 9, rfl, rfl, ⟨by decide, by decide, by decide⟩, _, rfl, by decide, by decide, for_range (lo := 0) (n := 1000000000) (fun j σ H'' => ∃ (m n : Nat) (v4 : Option V), σ = [some (.int a'), some (.int b'), some (.int (m : Int)), some (.int (n : Int)), v4] ∧ H'' = H' ∧ ((Nat.gcd m n : Nat) : Int) = gI a b ∧ n + j ≤ b'.toNat)
        ⟨a'.natAbs, b'.natAbs, none, ?_, rfl, eg, by omega⟩ ?_ ?_⟩
      · have e1 : (if a' < 0 then -a' else a') = (a'.natAbs : Int) := by split <;> omega
        have e2 : b' = (b'.natAbs : Int) := by omega
        rw [← e1, ← e2]
        rfl
      · rintro j σ H2 hj ⟨m, n, v4, rfl, rfl, e1, e2⟩
        refine ⟨_, rfl, rfl, _, rfl, ite2 (fun e => ?_) (fun e => ?_)⟩
        · have n0 : (n : Int) = 0 := V.int.inj (of_decide_eq_true e)
          have n0' : n = 0 := by omega
          subst n0'
          rw [Nat.gcd_zero_right] at e1
          have c : CDiv a' (m : Int) := ⟨by omega, by omega⟩
          refine ⟨_, rfl, _, rfl, a', m, rfl, rfl, c, _, rfl, _, rfl, b', m, rfl, rfl, c, (by show 2 ≤ sizeLine; decide), fun r nr => ?_⟩
          have h1 := q r nr
          rw [el, ← e1] at h1
          exact h1
        · have n0 : n ≠ 0 := fun z => e (decide_eq_true (congrArg V.int (by rw [z]; rfl)))
          refine ⟨_, rfl, _, rfl, .inl ⟨_, rfl, _, rfl, m, n, rfl, rfl, (show (0 : Int) < n by omega), _, _, rfl, n, m % n, some (.int (0 + (j : Int))), ?_, rfl, ?_, ?_⟩⟩
          · rw [Int.natCast_emod]
            rfl
          · rw [Nat.gcd_comm n (m % n), ← Nat.gcd_rec, Nat.gcd_comm]
            exact e1
          · have := Nat.mod_lt m (show n > 0 by omega)
            omega
      · rintro σ H2 ⟨m, n, v4, rfl, rfl, e1, e2⟩
        have n0' : n = 0 := by omega
        subst n0'
        rw [Nat.gcd_zero_right] at e1
        have c : CDiv a' (m : Int) := ⟨by omega, by omega⟩
        refine ⟨_, rfl, _, rfl, a', m, rfl, rfl, c, _, rfl, _, rfl, b', m, rfl, rfl, c, (by show 2 ≤ sizeLine; decide), fun r nr => ?_⟩
        have h1 := q r nr
        rw [el, ← e1] at h1
        exact h1
end

theorem low_self {u v : Int} (hv : 0 < v) : (low u v = (u, v)) ↔ gI u v = 1 := by
  have hg := gI_pos (a := u) (b := v) (by omega)
  unfold low
  rw [if_neg (by omega)]
  constructor
  · intro h
    have h2 := congrArg Prod.snd h
    have h3 : v / gI u v = v := h2
    by_cases c : gI u v = 1
    · exact c
    · have : v / gI u v < v := Int.ediv_lt_of_lt_mul (by omega) (by
        have : v * 2 ≤ v * gI u v := Int.mul_le_mul_of_nonneg_left (by omega) (by omega)
        omega)
      omega
  · intro h
    rw [h, Int.ediv_one, Int.ediv_one]

section
variable {P : Program} {w : World} {K : PySem.W.Frag} {mg : Str → Option Value} {base : Heap}
/-! ### _law_world -/
def spLawWorld : Sp := fun vs H Q _ => ∃ (a : Addr) (ds : List Int), vs = [.ref a] ∧ H a = some (.lst (ds.map V.int)) ∧
  ∀ (p d : Int) (ds' : List Int) (x : Addr) (H' : Hp), SameBut a H H' → H' a = some (.lst (ds'.map V.int)) → H x = none → H' x = some (.tup [.int p, .int d]) → isW p d = true → Q (.ref x) H'
theorem ok_law_world {f a_law_next : Addr} {fd fd_law_next : FuncData} (F : Fun K "_law_world" "_law_world" s_law_world f fd) (z_int : mg "int" = none)
    (G_law_next : FnOk P w K mg base CX0 1 a_law_next fd_law_next ["draws"] spNext) (g_law_next : mg "_law_next" = some (.ref a_law_next)) (k_law_next : PySem.W.keepIn K (.ref a_law_next) = true) (b_law_next : Binds K fd_law_next ["draws"] []) :
    FnOk P w K mg base CX0 2 f fd ["draws"] spLawWorld := by
  refine F.ok sc_law_world (fun vs H Q E h => ?_) (fun cdv A outer s H vs Q E hr h => ?_)
  · obtain ⟨a, ds, rfl, _⟩ := h
    rfl
  · obtain ⟨a, ds, rfl, hL, q⟩ := h
    refine ⟨_, (pss_cons (ps_set (i := 1) sc_law_world.nd rfl (.inl rfl) (pe_ix ix_list (pe_lst (pa_cons pe_int (pa_cons pe_int (pa_cons pe_int (pa_cons pe_int (pa_cons pe_int (pa_cons pe_int (pa_cons pe_int (pa_cons pe_int pa_nil))))))))) (pe_op op_mod (pe_callTy call_int1 (by rfl) z_int boot_int (pa_cons (pe_call G_law_next (hr.mono (by decide)) rfl g_law_next k_law_next b_law_next .nil pass0 (pa_cons (pv 0) pa_nil)) pa_nil)) pe_int) (fun _ _ => rfl)))
  (pss_cons (ps_if (pt_cmpR op_eq (pv 1) pe_int (nomark _)) (pss_one (ps_ret (pe_tup (pa_cons pe_int (pa_cons (pe_op op_sub (pe_op op_mod (pe_callTy call_int1 (by rfl) z_int boot_int (pa_cons (pe_call G_law_next (hr.mono (by decide)) rfl g_law_next k_law_next b_law_next .nil pass0 (pa_cons (pv 0) pa_nil)) pa_nil)) pe_int) pe_int) pa_nil))))) pss_nil)
  (pss_one (ps_ret (pe_tup (pa_cons (pv 1) (pa_cons (pe_op op_mod (pe_callTy call_int1 (by rfl) z_int boot_int (pa_cons (pe_call G_law_next (hr.mono (by decide)) rfl g_law_next k_law_next b_law_next .nil pass0 (pa_cons (pv 0) pa_nil)) pa_nil)) (pv 1)) pa_nil)))))))
    , ?_⟩
    refine ⟨(by show 8 ≤ sizeLine; decide), fun l nl => ?_⟩
    have hal : a ≠ l := ne_of_none hL nl
    refine ⟨_, rfl, a, ds, rfl, (by rw [upd_ne hal]; exact hL), fun n ds1 => ?_⟩
    have m8 := mod_lt8 n (show (0 : Int) < 8 by decide)
    refine .inl ⟨n, rfl, n, 8, rfl, rfl, (show (0 : Int) < 8 by decide), l, wtab.map V.int, n % 8, .int (wtab.getD (n % 8).toNat 0), rfl, rfl, .inl (.inl (by rw [upd_ne (Ne.symm hal), upd_same]; rfl)), at_tab m8.1 m8.2, ?_⟩
    have hw := wtab_in (n % 8).toNat (by omega)
    generalize wtab.getD (n % 8).toNat 0 = p at hw
    have s1 : SameBut a H (upd (upd H l (.lst [.int 0, .int 0, .int 0, .int 2, .int 3, .int 5, .int 7, .int 31])) a (.lst (ds1.map V.int))) := (SameBut.new nl).trans SameBut.upd
    refine ⟨_, rfl, rfl, _, rfl, ite2 (fun e => ?_) (fun e => ?_)⟩
    · have e0 : p = 0 := V.int.inj (of_decide_eq_true e)
      refine ⟨_, rfl, a, ds1, rfl, upd_same, fun n2 ds2 => ?_⟩
      have m12 := mod_lt8 n2 (show (0 : Int) < 12 by decide)
      refine .inl ⟨n2, rfl, n2, 12, rfl, rfl, (show (0 : Int) < 12 by decide), _, 5, rfl, rfl, (by show 2 ≤ sizeLine; decide), fun r nr => ?_⟩
      have hra : a ≠ r := ne_of_none upd_same nr
      have nr' : H r = none := by
        rw [upd_ne (Ne.symm hra), upd_ne (Ne.symm hra)] at nr
        by_cases c : r = l
        · rw [c, upd_same] at nr
          cases nr
        · rwa [upd_ne c] at nr
      refine q 0 (n2 % 12 - 5) ds2 r _ ((s1.trans SameBut.upd).trans (SameBut.new nr)) (by rw [upd_ne hra, upd_same]) nr' upd_same ?_
      unfold isW
      rw [if_pos rfl, if_pos (by omega)]
      exact decide_eq_true (by omega)
    · have e0 : p ≠ 0 := fun z => e (decide_eq_true (congrArg V.int z))
      obtain ⟨_, hin, h2⟩ := hw.resolve_left e0
      have hpos : 0 < p := by omega
      refine ⟨_, rfl, _, rfl, a, ds1, rfl, upd_same, fun n2 ds2 => ?_⟩
      have mp := mod_lt8 n2 hpos
      refine .inl ⟨n2, rfl, _, rfl, n2, p, rfl, rfl, hpos, (by show 2 ≤ sizeLine; decide), fun r nr => ?_⟩
      have hra : a ≠ r := ne_of_none upd_same nr
      have nr' : H r = none := by
        rw [upd_ne (Ne.symm hra), upd_ne (Ne.symm hra)] at nr
        by_cases c : r = l
        · rw [c, upd_same] at nr
          cases nr
        · rwa [upd_ne c] at nr
      refine q p (n2 % p) ds2 r _ ((s1.trans SameBut.upd).trans (SameBut.new nr)) (by rw [upd_ne hra, upd_same]) nr' upd_same ?_
      unfold isW
      rw [if_neg e0, if_pos hin, if_pos mp.1]
      exact decide_eq_true mp.2
end

theorem low_isN {a b : Int} (hb : b ≠ 0) : isN 0 (low a b).1 (low a b).2 = true := by
  obtain ⟨h1, h2⟩ := low_q (u := (low a b).1) (v := (low a b).2) hb rfl
  have e : low (low a b).1 (low a b).2 = low a b := by
    rw [low_rat (show (low a b).2 ≠ 0 by omega), h1, ← low_rat hb]
  unfold isN
  rw [if_pos rfl, if_pos (by omega)]
  exact decide_eq_true ((low_self h2).mp e)
section
variable {P : Program} {w : World} {K : PySem.W.Frag} {mg : Str → Option Value} {base : Heap}
/-! ### _law_number -/
def spLawNumber (K : PySem.W.Frag) : Sp := fun vs H Q _ => ∃ (r x : Addr) (ds : List Int) (p d : Int), vs = [.ref r, .ref x] ∧ H r = some (.lst (ds.map V.int)) ∧ SqT K H x [.int p, .int d] ∧ r ≠ x ∧ isW p d = true ∧
  ∀ (a b : Int) (ds' : List Int) (y : Addr) (H' : Hp), SameBut r H H' → H' r = some (.lst (ds'.map V.int)) → H y = none → H' y = some (.tup [.int a, .int b]) → isN p a b = true → (p = 0 → a.natAbs ≤ 9) → a.natAbs ≤ 31 → b.natAbs ≤ 4 → (p ≠ 0 → b = 1) → b ≠ 0 → Q (.ref y) H'
theorem ok_law_number {f a_law_next a_law_lowest : Addr} {fd fd_law_next fd_law_lowest : FuncData} (F : Fun K "_law_number" "_law_number" s_law_number f fd) (z_int : mg "int" = none)
    (G_law_next : FnOk P w K mg base CX0 1 a_law_next fd_law_next ["draws"] spNext) (g_law_next : mg "_law_next" = some (.ref a_law_next)) (k_law_next : PySem.W.keepIn K (.ref a_law_next) = true) (b_law_next : Binds K fd_law_next ["draws"] [])
    (G_law_lowest : FnOk P w K mg base CX0 1 a_law_lowest fd_law_lowest ["a", "b"] spLawLowest) (g_law_lowest : mg "_law_lowest" = some (.ref a_law_lowest)) (k_law_lowest : PySem.W.keepIn K (.ref a_law_lowest) = true) (b_law_lowest : Binds K fd_law_lowest ["a", "b"] []) :
    FnOk P w K mg base CX0 2 f fd ["draws", "world"] (spLawNumber K) := by
  refine F.ok sc_law_number (fun vs H Q E h => ?_) (fun cdv A outer s H vs Q E hr h => ?_)
  · obtain ⟨r, x, ds, p, d, rfl, _⟩ := h
    rfl
  · obtain ⟨r, x, ds, p, d, rfl, hL, hx, hrx, ew, q⟩ := h
    refine ⟨_, (pss_cons (ps_if (pt_cmpR op_gt (pe_ix ix_tup (pv 1) pe_int (fun _ _ => rfl)) pe_int (nomark _)) (pss_one (ps_ret (pe_tup (pa_cons (pe_op op_mod (pe_callTy call_int1 (by rfl) z_int boot_int (pa_cons (pe_call G_law_next (hr.mono (by decide)) rfl g_law_next k_law_next b_law_next .nil pass0 (pa_cons (pv 0) pa_nil)) pa_nil)) (pe_ix ix_tup (pv 1) pe_int (fun _ _ => rfl))) (pa_cons pe_int pa_nil))))) pss_nil)
  (pss_one (ps_ret (pe_call G_law_lowest (hr.mono (by decide)) rfl g_law_lowest k_law_lowest b_law_lowest .nil pass0 (pa_cons (pe_op op_sub (pe_op op_mod (pe_callTy call_int1 (by rfl) z_int boot_int (pa_cons (pe_call G_law_next (hr.mono (by decide)) rfl g_law_next k_law_next b_law_next .nil pass0 (pa_cons (pv 0) pa_nil)) pa_nil)) pe_int) pe_int) (pa_cons (pe_op op_add pe_int (pe_op op_mod (pe_callTy call_int1 (by rfl) z_int boot_int (pa_cons (pe_call G_law_next (hr.mono (by decide)) rfl g_law_next k_law_next b_law_next .nil pass0 (pa_cons (pv 0) pa_nil)) pa_nil)) pe_int)) pa_nil)))))), ?_⟩
    refine ⟨_, rfl, x, _, 0, .int p, rfl, rfl, hx, atI_nat (j := 0) rfl, _, _, rfl, rfl, _, rfl, ite2 (fun e => ?_) (fun e => ?_)⟩
    · have hpos : 0 < p := of_decide_eq_true e
      obtain ⟨hpr, _, _⟩ := isW_prime ew (by omega)
      have hp2 := prime_pos hpr
      refine ⟨_, rfl, r, ds, rfl, hL, fun n ds1 => ?_⟩
      have hx1 : SqT K (upd H r (.lst (ds1.map V.int))) x [.int p, .int d] := sqT_but SameBut.upd (Ne.symm hrx) hx
      have m := mod_lt8 n hpos
      refine .inl ⟨n, rfl, _, rfl, x, _, 0, .int p, rfl, rfl, hx1, atI_nat (j := 0) rfl, n, p, rfl, rfl, hpos, (by show 2 ≤ sizeLine; decide), fun y ny => ?_⟩
      have hry : r ≠ y := ne_of_none upd_same ny
      have ny' : H y = none := by rwa [upd_ne (Ne.symm hry)] at ny
      refine q (n % p) 1 ds1 y _ (SameBut.upd.trans (SameBut.new ny)) (by rw [upd_ne hry, upd_same]) ny' upd_same ?_ (fun z => by omega) (by omega) (by decide) (fun _ => rfl) (by decide)
      unfold isN
      rw [if_neg (by omega), if_pos rfl, if_pos m.1]
      exact decide_eq_true m.2
    · have hpz : p = 0 := by
        have h0 : ¬ 0 < p := fun z => e (decide_eq_true z)
        by_cases c : p = 0
        · exact c
        · have := prime_pos (isW_prime ew c).1
          omega
      refine ⟨_, rfl, r, ds, rfl, hL, fun n ds1 => ?_⟩
      refine .inl ⟨n, rfl, n, 19, rfl, rfl, (show (0 : Int) < 19 by decide), _, 9, rfl, rfl, ?_⟩
      refine ⟨_, rfl, r, ds1, rfl, upd_same, fun n2 ds2 => ?_⟩
      have m1 := mod_lt8 n (show (0 : Int) < 19 by decide)
      have m2 := mod_lt8 n2 (show (0 : Int) < 4 by decide)
      refine .inl ⟨n2, rfl, n2, 4, rfl, rfl, (show (0 : Int) < 4 by decide), 1, _, rfl, rfl, _, _, rfl, (show 1 + n2 % 4 ≠ 0 by omega), (show (1 + n2 % 4).natAbs ≤ 1000000000 by omega), fun y ny => ?_⟩
      have hry : r ≠ y := ne_of_none upd_same ny
      have ny' : H y = none := by rwa [upd_ne (Ne.symm hry), upd_ne (Ne.symm hry)] at ny
      have sm := low_small (u := (low (n % 19 - 9) (1 + n2 % 4)).1) (v := (low (n % 19 - 9) (1 + n2 % 4)).2) rfl
      have cr := low_cross (u := (low (n % 19 - 9) (1 + n2 % 4)).1) (v := (low (n % 19 - 9) (1 + n2 % 4)).2) (show 1 + n2 % 4 ≠ 0 by omega) rfl
      refine q _ _ ds2 y _ ((SameBut.upd.trans SameBut.upd).trans (SameBut.new ny)) (by rw [upd_ne hry, upd_same]) ny' upd_same ?_ (fun _ => by omega) (by omega) (by omega) (fun z => absurd hpz z) (by omega)
      rw [hpz]
      exact low_isN (by omega)
end

def iT (i : Int) : Str := Str.ofString (toString i)
def intTx (k : Int) : Str := (if decide (k < 0) = true then ("-" : Str) else ("" : Str)) ++ Txt.join "" [iT (k.natAbs : Int)]
def numTx (a b : Int) : Str := if b = 1 then intTx a else intTx a ++ ("/" : Str) ++ intTx b
def c60 : Int := 1000000000000000000000000000000000000000000000000000000000000
theorem iT_len {n : Nat} (h : n < 10 ^ 60) : (iT (n : Int)).length ≤ 60 := by
  show (Str.ofString (toString ((n : Nat) : Int))).length ≤ 60
  rw [TL.len_tl, TL.tl_num]
  exact TL.numL_len (by decide) h
theorem log60 {i : Int} (h : i.natAbs < 10 ^ 60) : i.natAbs.log2 < 1920 := by
  by_cases c : i.natAbs = 0
  · rw [c]
    decide
  · exact Nat.lt_of_lt_of_le ((Nat.log2_lt c).mpr (Nat.lt_trans h (by decide : (10 : Nat) ^ 60 < 2 ^ 200))) (by decide)
theorem len_cat (x y : Str) : (x ++ y).length = x.length + y.length := by
  rw [TL.len_tl, TL.len_tl, TL.len_tl, TL.tl_append, List.length_append]
theorem join1 (x : Str) : Txt.join "" [x] = x := by
  have e := SX.join_S [] [x.cps.toList]
  have s : (SX.S x.cps.toList) = x := SX.S_tl x
  rw [show ([x.cps.toList].map SX.S) = [x] by show [SX.S x.cps.toList] = [x]; rw [s]] at e
  rw [show ("" : Str) = SX.S [] by decide +kernel, e]
  show SX.S _ = x
  conv => rhs; rw [← s]
  congr 1
theorem intTx_len {k : Int} (h : k.natAbs < 10 ^ 60) : (intTx k).length ≤ 61 := by
  unfold intTx
  rw [join1, len_cat]
  have := iT_len h
  split
  · have : ("-" : Str).length = 1 := by decide +kernel
    omega
  · have : ("" : Str).length = 0 := by decide +kernel
    omega
section
variable {P : Program} {w : World} {K : PySem.W.Frag} {mg : Str → Option Value} {base : Heap}
/-! ### _integer_text -/
def spIntText : Sp := fun vs H Q _ => ∃ k : Int, vs = [.int k] ∧ k.natAbs < 10 ^ 60 ∧ ∀ H', Same H H' → Q (.str (intTx k)) H'
theorem ok_integer_text_ {f : Addr} {fd : FuncData} {tc tf : Tok} (F : Fun K "_integer_text" "_integer_text" s_integer_text_ f fd) (z_abs : mg "abs" = none) (z_str : mg "str" = none) (z_divmod : mg "divmod" = none)
    (m_CHUNK : mg "CHUNK" = some (.int c60 tc)) (m_CHUNK_FIGURES : mg "CHUNK_FIGURES" = some (.int 60 tf)) : FnOk P w K mg base CX0 1 f fd ["k"] spIntText := by
  have r_CHUNK : RelV (.int c60) (.int c60 tc) := ⟨_, rfl⟩
  have r_CHUNK_FIGURES : RelV (.int 60) (.int 60 tf) := ⟨_, rfl⟩
  refine F.ok sc_integer_text_ (fun vs H Q E h => ?_) (fun cdv A outer s H vs Q E hr h => ?_)
  · obtain ⟨k, rfl, _⟩ := h
    rfl
  · obtain ⟨k, rfl, hk, q⟩ := h
    have lk := iT_len hk
    refine ⟨_, (pss_cons (ps_set (i := 1) sc_integer_text_.nd rfl (.inl rfl) (pe_callB call_abs (by rfl) z_abs boot_abs (pa_cons (pv 0) pa_nil)))
  (pss_cons (ps_set (i := 2) sc_integer_text_.nd rfl (.inl rfl) (pe_lst pa_nil))
  (pss_cons (ps_while PassesOwn.never (pt_cmpR op_ge (pv 1) (pe_glob rfl m_CHUNK r_CHUNK) (nomark _)) (pss_cons (ps_asg (pe_callB call_divmod (by rfl) z_divmod boot_divmod (pa_cons (pv 1) (pa_cons (pe_glob rfl m_CHUNK r_CHUNK) pa_nil))) (pg_tup rfl (pgs_cons (pg_name (i := 1) sc_integer_text_.nd rfl (.inl rfl)) (pgs_cons (pg_name (i := 3) sc_integer_text_.nd rfl (.inl rfl)) pgs_nil))))
  (pss_one (ps_expr (pe_bm PySem.F.plainAttrs_list PySem.F.slot_list_append PySem.F.type_list_append mt_append (pv 2) (pa_cons (pe_bm PySem.F.plainAttrs_str PySem.F.slot_str_zfill PySem.F.type_str_zfill mt_zfill (pe_callTy call_str_int (by rfl) z_str boot_str (pa_cons (pv 3) pa_nil)) (pa_cons (pe_glob rfl m_CHUNK_FIGURES r_CHUNK_FIGURES) pa_nil)) pa_nil))))))
  (pss_cons (ps_expr (pe_bm PySem.F.plainAttrs_list PySem.F.slot_list_append PySem.F.type_list_append mt_append (pv 2) (pa_cons (pe_callTy call_str_int (by rfl) z_str boot_str (pa_cons (pv 1) pa_nil)) pa_nil)))
  (pss_cons (ps_set (i := 4) sc_integer_text_.nd rfl (.inl rfl) (pe_ifExp (pt_cmpR op_lt (pv 0) pe_int (nomark _)) pe_str pe_str))
  (pss_one (ps_ret (pe_op op_add_str (pv 4) (pe_join pe_str (pe_revL (pv 2))))))))))), ?_⟩
    refine ⟨_, rfl, k, rfl, ?_⟩
    rw [show (if k < 0 then -k else k) = (k.natAbs : Int) by omega]
    refine ⟨(by show 0 ≤ sizeLine; decide), fun l nl => ?_⟩
    refine ⟨fun m σ H' => σ = [some (.int k), some (.int k.natAbs), some (.ref l), none, none] ∧ H' = upd H l (.lst []), ⟨0, rfl, rfl⟩, ?_⟩
    rintro m σ H' ⟨rfl, rfl⟩
    refine ⟨_, rfl, _, _, rfl, rfl, _, rfl, ?_⟩
    have cn : ¬ (k.natAbs : Int) ≥ c60 := by
      have e : c60 = ((10 ^ 60 : Nat) : Int) := by decide
      rw [e]
      omega
    rw [decide_eq_false cn]
    refine iteF ?_
    refine ⟨_, rfl, .inl ⟨rfl, _, .inl (.inl upd_same)⟩, _, rfl, k.natAbs, rfl, log60 hk, l, [], _, rfl, rfl, upd_same, (by show 0 < sizeLine; decide), ?_⟩
    refine ⟨_, rfl, k, 0, rfl, rfl, _, rfl, ?_⟩
    have nn : Same H (upd (upd H l (.lst [])) l (.lst ([] ++ [.str (iT (k.natAbs : Int))]))) := Same.mut (same_upd nl) nl
    have hl : upd (upd H l (.lst [])) l (.lst ([] ++ [V.str (iT (k.natAbs : Int))])) l = some (.lst [.str (iT (k.natAbs : Int))]) := upd_same
    have e0 : ("" : Str).length = 0 := by decide +kernel
    have e1 : ("-" : Str).length = 1 := by decide +kernel
    have jl : (Txt.join ("" : Str) [iT (k.natAbs : Int)]).length ≤ 60 := by rw [join1]; exact lk
    have szl : 100 ≤ sizeLine := by decide
    refine ite2 (fun e => ?_) (fun e => ?_)
    · refine ⟨_, rfl, ⟨_, rfl⟩, _, rfl, l, _, rfl, .inl (.inl hl), fun p np => ⟨_, p, [iT (k.natAbs : Int)], rfl, rfl, .inl (.inl (.inl upd_same)), ?_, _, _, rfl, rfl, ?_, ?_⟩⟩
      · show (iT (k.natAbs : Int)).length + 0 + 1 * ("" : Str).length ≤ 16777216
        omega
      · omega
      · have := q _ (Same.trans nn (same_upd (o := .lst [V.str (iT (k.natAbs : Int))].reverse) np))
        unfold intTx at this
        rw [e, if_pos rfl] at this
        exact this
    · refine ⟨_, rfl, ⟨_, rfl⟩, _, rfl, l, _, rfl, .inl (.inl hl), fun p np => ⟨_, p, [iT (k.natAbs : Int)], rfl, rfl, .inl (.inl (.inl upd_same)), ?_, _, _, rfl, rfl, ?_, ?_⟩⟩
      · show (iT (k.natAbs : Int)).length + 0 + 1 * ("" : Str).length ≤ 16777216
        omega
      · omega
      · have := q _ (Same.trans nn (same_upd (o := .lst [V.str (iT (k.natAbs : Int))].reverse) np))
        unfold intTx at this
        rw [if_neg e] at this
        exact this
end

section
variable {P : Program} {w : World} {K : PySem.W.Frag} {mg : Str → Option Value} {base : Heap}
/-! ### number_text -/
def spNumText (K : PySem.W.Frag) (CW CN : Addr) : Sp := fun vs H Q E => ∃ (x y : Addr) (p d a b : Int), vs = [.ref x, .ref y] ∧ SqT K H x [.int p, .int d] ∧ SqT K H y [.int a, .int b] ∧
  (isW p d = false → E (.ref CW) none H) ∧ (isW p d = true → isN p a b = false → E (.ref CN) none H) ∧ (isW p d = true → isN p a b = true → a.natAbs < 10 ^ 60 ∧ b.natAbs < 10 ^ 60 ∧ ∀ H', Same H H' → Q (.str (numTx a b)) H')
theorem ok_number_text {f CW CN a_check_number a_integer_text_ : Addr} {fd fd_check_number fd_integer_text_ : FuncData} (F : Fun K "number_text" "number_text" s_number_text f fd)
    (G_check_number : FnOk P w K mg base (L2.CX P w) 4 a_check_number fd_check_number ["world", "x"] (spCheckNumber K CW CN)) (g_check_number : mg "check_number" = some (.ref a_check_number)) (k_check_number : PySem.W.keepIn K (.ref a_check_number) = true) (b_check_number : Binds K fd_check_number ["world", "x"] [])
    (G_integer_text_ : FnOk P w K mg base CX0 1 a_integer_text_ fd_integer_text_ ["k"] spIntText) (g_integer_text_ : mg "_integer_text" = some (.ref a_integer_text_)) (k_integer_text_ : PySem.W.keepIn K (.ref a_integer_text_) = true) (b_integer_text_ : Binds K fd_integer_text_ ["k"] []) :
    FnOk P w K mg base (L2.CX P w) 5 f fd ["world", "x"] (spNumText K CW CN) := by
  refine F.okX sc_number_text (fun vs H Q E h => ?_) (fun cdv A outer s H vs Q E hr h => ?_)
  · obtain ⟨x, y, p, d, a, b, rfl, _⟩ := h
    rfl
  · obtain ⟨x, y, p, d, a, b, rfl, hx, hy, q1, q2, q3⟩ := h
    refine ⟨_, (pss_cons (ps_expr (pe_call G_check_number (hr.mono (by decide)) rfl g_check_number k_check_number b_check_number .nil (passes_call (takes_of rfl rfl rfl rfl) (fun _ _ _ _ h => h)) (pa_cons (pv 0) (pa_cons (pv 1) pa_nil))))
  (pss_cons (ps_asg (pv 1) (pg_tup rfl (pgs_cons (pg_name (i := 2) sc_number_text.nd rfl (.inl rfl)) (pgs_cons (pg_name (i := 3) sc_number_text.nd rfl (.inl rfl)) pgs_nil))))
  (pss_cons (ps_if (pt_cmpR op_eq (pv 3) pe_int (nomark _)) (pss_one (ps_ret (pe_call G_integer_text_ (hr.mono (by decide)) rfl g_integer_text_ k_integer_text_ b_integer_text_ .nil pass0 (pa_cons (pv 2) pa_nil)))) pss_nil)
  (pss_one (ps_ret (pe_op op_add_str (pe_op op_add_str (pe_call G_integer_text_ (hr.mono (by decide)) rfl g_integer_text_ k_integer_text_ b_integer_text_ .nil pass0 (pa_cons (pv 2) pa_nil)) pe_str) (pe_call G_integer_text_ (hr.mono (by decide)) rfl g_integer_text_ k_integer_text_ b_integer_text_ .nil pass0 (pa_cons (pv 3) pa_nil)))))))), ?_⟩
    refine ⟨_, rfl, _, rfl, x, y, p, d, a, b, rfl, hx, hy, fun ew en => ?_, q2, q1⟩
    obtain ⟨la, lb, q⟩ := q3 ew en
    refine ⟨_, rfl, y, _, rfl, hy, rfl, _, _, rfl, _, _, rfl, rfl, ?_⟩
    refine ⟨_, rfl, rfl, _, rfl, ?_⟩
    have szl : 200 ≤ sizeLine := by decide
    have e1 : ("/" : Str).length = 1 := by decide +kernel
    have la2 := intTx_len la
    have lb2 := intTx_len lb
    by_cases c : b = 1
    · rw [decide_eq_true (congrArg V.int c)]
      refine iteT ⟨_, rfl, a, rfl, la, fun H' sm => ?_⟩
      have := q H' sm
      unfold numTx at this
      rw [if_pos c] at this
      exact this
    · rw [decide_eq_false (fun z => c (V.int.inj z))]
      refine iteF ⟨_, rfl, a, rfl, la, fun H1 s1 => ⟨_, _, rfl, rfl, by omega, _, rfl, b, rfl, lb, fun H2 s2 => ⟨_, _, rfl, rfl, by rw [len_cat]; omega, ?_⟩⟩⟩
      have := q H2 (Same.trans s1 s2)
      unfold numTx at this
      rw [if_neg c] at this
      exact this
end

def shortW (w : Str) : Bool := if Txt.isascii (Txt.removeprefix w "-") = true then (if Txt.isdigit (Txt.removeprefix w "-") = true then decide (((Txt.removeprefix w "-").length : Int) ≤ 60) else false) else false
theorem rp_len (x y : Str) : (Txt.removeprefix x y).length ≤ x.length := by
  unfold Txt.removeprefix Txt.affix
  split
  · rename_i lo hi h
    split
    · exact Nat.le_refl _
    · show (x.cps.extract lo hi).size ≤ x.cps.size
      rw [Array.size_extract]
      omega
  · exact Nat.le_refl _

/-! ### Malformed(at): the class with its own __init__ -/
section
variable {P : Program} {w : World} {K : PySem.W.Frag} {mg : Str → Option Value} {base : Heap}
def spInitM (K : PySem.W.Frag) : Sp := fun vs H Q _ => ∃ (a C : Addr) (v : V), vs = [.ref a, v] ∧ OexC K C ∧ PySem.W.findIn K (.ref C) "at" = some none ∧ H a = some (exo a C none) ∧
  ∀ dx, H dx = none → dx ≠ a → Q .non (upd (upd H dx (exd dx [(("at" : Str), v)])) a (exo a C (some dx)))
theorem ok_Malformed_init {f : Addr} {fd : FuncData} (F : Fun K "__init__" "Malformed.__init__" s_Malformed_init f fd) : FnOk P w K mg base CX0 1 f fd ["self", "at"] (spInitM K) := by
  refine F.ok sc_Malformed_init (fun vs H Q E h => ?_) (fun cdv A outer s H vs Q E hr h => ?_)
  · obtain ⟨a, C, v, rfl, _⟩ := h
    rfl
  · obtain ⟨a, C, v, rfl, T, hn, ha, q⟩ := h
    refine ⟨_, pss_one (ps_ost (pv 0) (pv 1)), ?_⟩
    exact ⟨_, rfl, _, rfl, a, C, rfl, T, hn, .inl ⟨ha, fun dx nd ne => q dx nd ne⟩⟩
/-- what is known of the class -/
structure MalC (K : PySem.W.Frag) (mg : Str → Option Value) (C fI : Addr) : Prop where
  gc : mg "Malformed" = some (.ref C)
  T : OexC K C
  na : PySem.W.findIn K (.ref C) "at" = some none
  iC : PySem.W.findIn K (.ref C) "__init__" = some (some (.ref fI))
  tI : PySem.W.typeIn K (.ref fI) = some (.type "function")
theorem mal_made {C : Addr} {v : V} {H : Hp} {E : XK} (T : OexC K C) (hn : PySem.W.findIn K (.ref C) "at" = some none) (q : ∀ d H', Same H H' → H d = none → H' d = some (.xd [(("at" : Str), v)]) → E (.ref C) (some d) H') :
    ([v] : List V).length ≤ 1000 ∧ ∀ a, H a = none → spInitM K (.ref a :: ([v] ++ [])) (upd H a (exo a C none))
      (fun u H2 => u = .non ∧ ∃ (d : Addr) (fs : List (Str × V)), H2 a = some (exo a C (some d)) ∧ H2 d = some (exd d fs) ∧ H d = none ∧ E (.ref C) (some d) (upd (del H2 a) d (.xd fs))) (fun _ _ _ => False) := by
  refine ⟨(by show 1 ≤ 1000; decide), fun a na => ⟨a, C, v, rfl, T, hn, upd_same, fun dx nd ne => ⟨rfl, dx, [(("at" : Str), v)], upd_same, ?_, ?_, ?_⟩⟩⟩
  · rw [upd_ne ne, upd_same]
  · rwa [upd_ne ne] at nd
  · have nd2 : H dx = none := by rwa [upd_ne ne] at nd
    refine q dx _ (fun b o hb => ?_) nd2 upd_same
    have b1 : b ≠ dx := ne_of_none hb nd2
    have b2 : b ≠ a := ne_of_none hb na
    rw [upd_ne b1, del_ne b2, upd_ne b2, upd_ne b1, upd_ne b2]
    exact hb
end

open PySem.StrLaws PySem.Builtin PySem.Builtin.Str in
theorem sw_minus {x : Str} : Txt.startswith x "-" = true ↔ ∃ l, x.cps.toList = 45 :: l := by
  have e : ("-" : Str).cps = #[45] := by decide +kernel
  unfold Txt.startswith subAt
  rw [Bool.and_eq_true, decide_eq_true_iff, beq_iff_eq, show ("-" : Str).length = 1 by decide +kernel, e]
  constructor
  · rintro ⟨h, g⟩
    have := congrArg Array.toList g
    rw [Array.toList_extract] at this
    cases c : x.cps.toList with
    | nil =>
      rw [c] at this
      simp [List.extract] at this
    | cons a l =>
      rw [c] at this
      simp [List.extract] at this
      exact ⟨l, by rw [this]⟩
  · rintro ⟨l, h⟩
    have hl : x.length = (45 :: l).length := by rw [← h]; simp [Str.length]
    refine ⟨by rw [hl, List.length_cons]; omega, ?_⟩
    refine Array.toList_inj.mp ?_
    rw [Array.toList_extract, h]
    simp [List.extract]
theorem rp_minus {x : Str} {l : List Nat} (h : x.cps.toList = 45 :: l) : (Txt.removeprefix x "-").cps.toList = l := by
  have e := sw_minus.mpr ⟨l, h⟩
  unfold Txt.startswith at e
  rw [PySem.StrLaws.removeprefix_eq, if_pos e, h, show ("-" : Str).length = 1 by decide +kernel]
  have hl : x.length = (45 :: l).length := by rw [← h]; simp [Str.length]
  show (List.drop 1 (45 :: l)).take (x.length - 1) = l
  rw [hl, List.length_cons, List.drop_succ_cons, List.drop_zero, Nat.add_sub_cancel, List.take_length]
theorem rp_none {x : Str} (h : Txt.startswith x "-" = false) : Txt.removeprefix x "-" = x := by
  unfold Txt.startswith at h
  rw [PySem.StrLaws.removeprefix_eq, if_neg (by rw [h]; exact Bool.false_ne_true)]
/-- the figures of a word -/
abbrev figs (x : Str) : List Nat := (Txt.removeprefix x "-").cps.toList
def intW (x : Str) : Bool := if Txt.isascii (Txt.removeprefix x "-") = true then Txt.isdigit (Txt.removeprefix x "-") else false
theorem dig_range : ∀ c, c < 128 → Unicode.isDigit c = true → 48 ≤ c ∧ c ≤ 57 := by decide +kernel
theorem intW_figs {x : Str} (h : intW x = true) : PySem.NumText.AllDigits (figs x) ∧ figs x ≠ [] := by
  unfold intW at h
  by_cases c : Txt.isascii (Txt.removeprefix x "-") = true
  · rw [if_pos c] at h
    unfold Txt.isascii at c
    unfold Txt.isdigit at h
    rw [← Array.all_toList, List.all_eq_true] at c
    rw [Bool.and_eq_true, ← Array.all_toList, List.all_eq_true, decide_eq_true_iff] at h
    refine ⟨fun k hk => dig_range k (of_decide_eq_true (c k hk)) (h.2 k hk), fun z => ?_⟩
    have h1 := h.1
    have : (Txt.removeprefix x "-").length = (figs x).length := by simp [Str.length]
    rw [this, z] at h1
    exact absurd h1 (by decide)
  · rw [if_neg c] at h
    exact nomatch h
theorem figs_len (x : Str) : (Txt.removeprefix x "-").length = (figs x).length := by simp [Str.length]
theorem shortW_int (x : Str) : shortW x = (intW x && decide (((figs x).length : Int) ≤ 60)) := by
  unfold shortW intW
  rw [figs_len]
  by_cases c : Txt.isascii (Txt.removeprefix x "-") = true
  · rw [if_pos c, if_pos c]
    by_cases d : Txt.isdigit (Txt.removeprefix x "-") = true
    · rw [if_pos d, d]
      rfl
    · rw [if_neg d, Bool.not_eq_true _ |>.mp d]
      rfl
  · rw [if_neg c, if_neg c]
    rfl
/-- the integer of a word, from its figures -/
def valW (x : Str) : Int := if Txt.startswith x "-" = true then -((PySem.NumText.digitsVal (figs x) : Nat) : Int) else ((PySem.NumText.digitsVal (figs x) : Nat) : Int)
theorem valW_int {x : Str} (h : intW x = true) (hl : x.length ≤ 4300) : intText? x = some (valW x) := by
  obtain ⟨ad, ne⟩ := intW_figs h
  unfold valW
  by_cases c : Txt.startswith x "-" = true
  · obtain ⟨l, e⟩ := sw_minus.mp c
    have ef : figs x = l := rp_minus e
    rw [if_pos c, ef]
    rw [ef] at ad ne
    exact PySem.intText_neg e ad ne hl
  · rw [if_neg c]
    have ef := rp_none (Bool.not_eq_true _ |>.mp c)
    unfold figs at ad ne ⊢
    rw [ef] at ad ne ⊢
    exact PySem.intText_digits ad ne hl
theorem rg_none (N : Nat) (h : N ≤ 60) : RgC (N : Int) (N : Int) 60 0 := by
  have : ∀ k, k < 61 → (Builtin.Range.small ((k : Nat) : Int) ((k : Nat) : Int) 60 = true ∧ Builtin.Range.rangeSize ((k : Nat) : Int) ((k : Nat) : Int) 60 = ((0 : Nat) : Int)) := by decide +kernel
  exact ⟨by decide, by decide, this N (by omega)⟩
theorem rg_one : RgC 0 60 60 1 := ⟨by decide, by decide, by decide +kernel, by decide +kernel⟩
theorem cut_to {g : Str} {N : Nat} (h : g.length = N) : cutS g none (some (N : Int)) = g := by
  have e : g.cps.toList.length = N := by rw [← h]; simp [Str.length]
  unfold cutS
  rw [HT.sIx_none, HT.sIx_nat, List.drop_zero, Nat.sub_zero, h, Nat.min_self, ← e, List.take_length]
theorem cut_none (g : Str) : cutS g none (some 0) = "" := by
  have e := HT.sIx_nat g.length g.length 0
  unfold cutS
  rw [HT.sIx_none, show (some (0 : Int)) = some ((0 : Nat) : Int) from rfl, e]
  rfl
theorem cut_ft {g : Str} {N : Nat} (h : g.length = N) : cutS g (some 0) (some (N : Int)) = g := by
  have e : g.cps.toList.length = N := by rw [← h]; simp [Str.length]
  have e2 := HT.sIx_nat g.length 0 0
  unfold cutS
  rw [show (some (0 : Int)) = some ((0 : Nat) : Int) from rfl, e2, HT.sIx_nat]
  show (⟨((g.cps.toList.drop (min 0 g.length)).take (min N g.length - min 0 g.length)).toArray⟩ : Str) = g
  rw [Nat.zero_min, List.drop_zero, Nat.sub_zero, h, Nat.min_self, ← e, List.take_length]
theorem zero_fig {g : Str} (ad : PySem.NumText.AllDigits g.cps.toList) (hl : g.length ≤ 4000) : intText? (("0" : Str) ++ g) = some ((PySem.NumText.digitsVal g.cps.toList : Nat) : Int) := by
  have e : (("0" : Str) ++ g).cps.toList = 48 :: g.cps.toList := by
    rw [Str.cps_append, Array.toList_append]
    rfl
  have := PySem.intText_digits (x := ("0" : Str) ++ g) (by
    rw [e]
    intro c hc
    rcases List.mem_cons.mp hc with rfl | hc
    · exact ⟨by omega, by omega⟩
    · exact ad c hc) (by rw [e]; exact List.cons_ne_nil _ _) (by
    have : (("0" : Str) ++ g).length = (("0" : Str) ++ g).cps.toList.length := by simp [Str.length]
    have h2 : g.length = g.cps.toList.length := by simp [Str.length]
    rw [this, e, List.length_cons]
    omega)
  rw [this, e]
  rfl
section
variable {P : Program} {w : World} {K : PySem.W.Frag} {mg : Str → Option Value} {base : Heap}
/-! ### _figure_count, _is_integer, _integer_of -/
def spFig : Sp := fun vs H Q _ => ∃ t : Str, vs = [.str t] ∧ t.length ≤ 5000 ∧ Q (.int ((figs t).length : Nat)) H
theorem ok_figure_count_ {f : Addr} {fd : FuncData} (F : Fun K "_figure_count" "_figure_count" s_figure_count_ f fd) (z_len : mg "len" = none) : FnOk P w K mg base CX0 1 f fd ["word"] spFig := by
  refine F.ok sc_figure_count_ (fun vs H Q E h => ?_) (fun cdv A outer s H vs Q E hr h => ?_)
  · obtain ⟨k, rfl, _⟩ := h
    rfl
  · obtain ⟨t, rfl, hl, q⟩ := h
    refine ⟨_, (pss_one (ps_ret (pe_callB call_len_str (by rfl) z_len boot_len (pa_cons (pe_bm PySem.F.plainAttrs_str PySem.F.slot_str_removeprefix PySem.F.type_str_removeprefix mt_removeprefix (pv 0) (pa_cons pe_str pa_nil)) pa_nil)))), ?_⟩
    have szl : 20000 ≤ sizeLine := by decide
    have hg := rp_len t "-"
    refine ⟨_, rfl, rfl, t, _, rfl, rfl, (by omega), _, rfl, (by omega), ?_⟩
    rw [figs_len]
    exact q
def spIsInt : Sp := fun vs H Q _ => ∃ t : Str, vs = [.str t] ∧ t.length ≤ 5000 ∧ Q (.bl (intW t)) H
theorem ok_is_integer_ {f : Addr} {fd : FuncData} (F : Fun K "_is_integer" "_is_integer" s_is_integer_ f fd) : FnOk P w K mg base CX0 1 f fd ["word"] spIsInt := by
  refine F.ok sc_is_integer_ (fun vs H Q E h => ?_) (fun cdv A outer s H vs Q E hr h => ?_)
  · obtain ⟨k, rfl, _⟩ := h
    rfl
  · obtain ⟨t, rfl, hl, q⟩ := h
    refine ⟨_, (pss_cons (ps_set (i := 1) sc_is_integer_.nd rfl (.inl rfl) (pe_bm PySem.F.plainAttrs_str PySem.F.slot_str_removeprefix PySem.F.type_str_removeprefix mt_removeprefix (pv 0) (pa_cons pe_str pa_nil)))
  (pss_one (ps_ret (pe_and (pe_bm0 PySem.F.plainAttrs_str PySem.F.slot_str_isascii PySem.F.type_str_isascii mt_isascii (pv 1)) (pe_one (pe_m0 PySem.F.slot_str_isdigit PySem.F.type_str_isdigit mt_isdigit (pv 1))))))), ?_⟩
    have szl : 20000 ≤ sizeLine := by decide
    refine ⟨_, rfl, rfl, t, _, rfl, rfl, (by omega), ?_⟩
    unfold intW at q
    revert q
    generalize Txt.removeprefix t "-" = g
    intro q
    refine ⟨_, rfl, rfl, g, rfl, rfl, trivial, ?_⟩
    by_cases e : Txt.isascii g = true
    · rw [if_pos e] at q
      rw [e]
      exact ⟨_, rfl, iteT ⟨_, rfl, ⟨_, rfl⟩, g, rfl, rfl, trivial, q⟩⟩
    · rw [if_neg e] at q
      rw [eq_false_of_ne_true e]
      exact ⟨_, rfl, iteF q⟩
def spIntOf : Sp := fun vs H Q _ => ∃ t : Str, vs = [.str t] ∧ t.length ≤ 5000 ∧ intW t = true ∧ (figs t).length ≤ 60 ∧ Q (.int (valW t)) H
theorem ok_integer_of_ {f : Addr} {fd : FuncData} {tf tc : Tok} (F : Fun K "_integer_of" "_integer_of" s_integer_of_ f fd) (z_len : mg "len" = none) (z_int : mg "int" = none) (z_range : mg "range" = none)
    (m_CHUNK_FIGURES : mg "CHUNK_FIGURES" = some (.int 60 tf)) (m_CHUNK : mg "CHUNK" = some (.int (10 ^ 60) tc)) : FnOk P w K mg base CX0 1 f fd ["word"] spIntOf := by
  have r_CHUNK_FIGURES : RelV (.int 60) (.int 60 tf) := ⟨_, rfl⟩
  have r_CHUNK : RelV (.int (10 ^ 60)) (.int (10 ^ 60) tc) := ⟨_, rfl⟩
  refine F.ok sc_integer_of_ (fun vs H Q E h => ?_) (fun cdv A outer s H vs Q E hr h => ?_)
  · obtain ⟨k, rfl, _⟩ := h
    rfl
  · obtain ⟨t, rfl, hl, iw, hf, q⟩ := h
    refine ⟨_, (pss_cons (ps_set (i := 1) sc_integer_of_.nd rfl (.inl rfl) (pe_bm PySem.F.plainAttrs_str PySem.F.slot_str_removeprefix PySem.F.type_str_removeprefix mt_removeprefix (pv 0) (pa_cons pe_str pa_nil)))
  (pss_cons (ps_set (i := 2) sc_integer_of_.nd rfl (.inl rfl) (pe_op op_mod (pe_callB call_len_str (by rfl) z_len boot_len (pa_cons (pv 1) pa_nil)) (pe_glob rfl m_CHUNK_FIGURES r_CHUNK_FIGURES)))
  (pss_cons (ps_set (i := 3) sc_integer_of_.nd rfl (.inl rfl) (pe_callTy call_int_str (by rfl) z_int boot_int (pa_cons (pe_op op_add_str pe_str (pe_slice sl_str (pv 1) po_none (po_some (pv 2)))) pa_nil)))
  (pss_cons (ps_for PassesOwn.never rfl (pi_range3 rfl z_range (pa_cons (pv 2) (pa_cons (pe_callB call_len_str (by rfl) z_len boot_len (pa_cons (pv 1) pa_nil)) (pa_cons (pe_glob rfl m_CHUNK_FIGURES r_CHUNK_FIGURES) pa_nil)))) (pg_name (i := 4) sc_integer_of_.nd rfl (.inl rfl)) (pss_one (ps_set (i := 3) sc_integer_of_.nd rfl (.inl rfl) (pe_op op_add (pe_op op_mul (pv 3) (pe_glob rfl m_CHUNK r_CHUNK)) (pe_callTy call_int_str (by rfl) z_int boot_int (pa_cons (pe_slice sl_str (pv 1) (po_some (pv 4)) (po_some (pe_op op_add (pv 4) (pe_glob rfl m_CHUNK_FIGURES r_CHUNK_FIGURES)))) pa_nil))))))
  (pss_one (ps_ret (pe_ifExp (pt_val (pe_bm PySem.F.plainAttrs_str PySem.F.slot_str_startswith PySem.F.type_str_startswith mt_startswith (pv 0) (pa_cons pe_str pa_nil))) (pe_un un_neg (pv 3)) (pv 3)))))))), ?_⟩
    have szl : 20000 ≤ sizeLine := by decide
    have hg := rp_len t "-"
    obtain ⟨ad, ne⟩ := intW_figs iw
    have hlen := figs_len t
    refine ⟨_, rfl, rfl, t, _, rfl, rfl, (by omega), ?_⟩
    unfold valW figs at q
    unfold figs at ad ne hf hlen
    revert q ad ne hf hg hlen
    generalize Txt.removeprefix t "-" = g
    intro hf q hg ad ne hlen
    have fin : ∀ {H' : Hp} {v4 : Option V}, H' = H → (tRet (tIf (tB (tBM (cxOf CX0 P w K mg base ["word", "figures", "first", "found", "at"] "_integer_of" (defScope s_integer_of_) f cdv A outer s H E).nox.K "str" (fun x xs H Q => ∃ a b, x = V.str a ∧ xs = [V.str b] ∧ Q (V.bl (Txt.startswith a b)) H) (tVar 0) (tCons (tC (V.str ("-" : Str))) tNil)))
                    (tUn (rU fun i => V.int (-i)) (tVar 3)) (tVar 3))) { nx := fun x H' => Q V.non H', rt := Q } [some (.str t), some (.str g), some (.int (((g.cps.toList.length % 60 : Nat)) : Int)), some (.int ((PySem.NumText.digitsVal g.cps.toList : Nat) : Int)), v4] H' := fun {H' v4} e => by
      subst e
      refine ⟨_, rfl, rfl, t, _, rfl, rfl, _, rfl, ?_⟩
      by_cases c : Txt.startswith t "-" = true
      · rw [if_pos c] at q
        exact if_pos_of c ⟨_, rfl, _, rfl, q⟩
      · rw [if_neg c] at q
        exact if_neg_of c ⟨_, rfl, q⟩
    have gl : g.length = g.cps.toList.length := hlen
    have e60 : ((g.cps.toList.length : Nat) : Int) % 60 = ((g.cps.toList.length % 60 : Nat) : Int) := by omega
    refine ⟨_, rfl, g, rfl, by omega, _, _, rfl, rfl, (show (0 : Int) < 60 by decide), ?_⟩
    dsimp only
    rw [gl, e60]
    by_cases c : g.cps.toList.length = 60
    · have c2 : g.cps.toList.length % 60 = 0 := by omega
      refine ⟨_, rfl, _, rfl, _, rfl, g, rfl, by omega, ?_⟩
      rw [c2, show ((0 : Nat) : Int) = 0 from rfl, cut_none]
      refine ⟨_, _, rfl, rfl, by decide, _, 0, rfl, by decide +kernel, by decide, ?_⟩
      rw [c2] at fin
      refine ⟨_, rfl, _, rfl, g, rfl, by omega, _, _, _, 1, rfl, by rw [gl, c]; exact rg_one, for_it walk_rangeC (fun i σ H' => ∃ v4, σ = [some (.str t), some (.str g), some (.int 0), some (.int (if i = 0 then 0 else ((PySem.NumText.digitsVal g.cps.toList : Nat) : Int))), v4] ∧ H' = H) ⟨none, rfl, rfl⟩ (fun i σ H' _ _ => trivial) (fun i y σ H2 H3 hi hP hy => ?_) (fun σ H' hP => ?_)⟩
      · obtain ⟨v4, rfl, rfl⟩ := hP
        obtain ⟨rfl, rfl⟩ := hy
        obtain rfl : i = 0 := by omega
        have ef := cut_ft (N := 60) (g := g) (by omega)
        have ei := PySem.intText_digits ad ne (by omega)
        have cm : CMul 0 (10 ^ 60) := .inl ⟨by decide, by decide⟩
        refine ⟨_, rfl, _, _, rfl, rfl, cm, _, rfl, _, rfl, _, rfl, _, rfl, _, _, rfl, rfl, _, rfl, g, rfl, by omega, _, ((PySem.NumText.digitsVal g.cps.toList : Nat) : Int), rfl, ?_, ?_, _, _, rfl, rfl, ?_⟩
        · exact (congrArg intText? ef).trans ei
        · rw [show cutS g (some (0 + ((0 : Nat) : Int) * 60)) (some (0 + ((0 : Nat) : Int) * 60 + 60)) = g from ef]
          omega
        · refine ⟨some (.int 0), ?_, rfl⟩
          have e : (0 : Int) * 10 ^ 60 + ((PySem.NumText.digitsVal g.cps.toList : Nat) : Int) = ((PySem.NumText.digitsVal g.cps.toList : Nat) : Int) := by omega
          show ([some (.str t), some (.str g), some (.int 0), some (.int ((0 : Int) * 10 ^ 60 + ((PySem.NumText.digitsVal g.cps.toList : Nat) : Int))), some (.int 0)] : List (Option V)) = [some (.str t), some (.str g), some (.int 0), some (.int ((PySem.NumText.digitsVal g.cps.toList : Nat) : Int)), some (.int 0)]
          rw [e]
      · obtain ⟨v4, rfl, rfl⟩ := hP
        exact fin rfl
    · have c2 : g.cps.toList.length % 60 = g.cps.toList.length := by omega
      refine ⟨_, rfl, _, rfl, _, rfl, g, rfl, by omega, ?_⟩
      rw [c2, cut_to gl]
      refine ⟨_, _, rfl, rfl, by show 1 + _ ≤ _; omega, _, _, rfl, zero_fig ad (by omega), by rw [len_cat]; show 1 + g.length ≤ 640; omega, ?_⟩
      rw [c2] at fin
      refine ⟨_, rfl, _, rfl, g, rfl, by omega, _, _, _, 0, rfl, by rw [gl]; exact rg_none _ hf, for_it walk_rangeC (fun i σ H' => ∃ v4, σ = [some (.str t), some (.str g), some (.int (g.cps.toList.length : Nat)), some (.int ((PySem.NumText.digitsVal g.cps.toList : Nat) : Int)), v4] ∧ H' = H) ⟨none, rfl, rfl⟩ (fun i σ H' _ _ => trivial) (fun i y σ H2 H3 hi hP hy => absurd hi (Nat.not_lt_zero i)) (fun σ H' hP => ?_)⟩
      · obtain ⟨v4, rfl, rfl⟩ := hP
        exact fin rfl
end

/-- what is read of a text, None where there is none -/
def rdInt (w : Str) : Int := (intText? w).getD 0
def rdPair (ws : List Str) : Int × Int := (rdInt (ws.getD 0 ""), if ws.length = 2 then rdInt (ws.getD 1 "") else 1)
def readOk (p : Int) (t : Str) : Option (Int × Int) := if 2 < (Txt.split t "/").length then none else if (Txt.split t "/").all shortW = false then none else
  if isN p (rdPair (Txt.split t "/")).1 (rdPair (Txt.split t "/")).2 = false then none else if numTx (rdPair (Txt.split t "/")).1 (rdPair (Txt.split t "/")).2 = t then some (rdPair (Txt.split t "/")) else none
def wOk (w : Str) : Bool := match intText? w with
  | some n => decide (n.natAbs < 10 ^ 60)
  | none => false
def rdPre (t : Str) : Bool := decide (1 ≤ (Txt.split t "/").length) && (decide ((Txt.split t "/").length ≤ 1000) && (Txt.split t "/").all (fun w => decide (w.length ≤ 500) && (!shortW w || wOk w)))
theorem wOk_int {w : Str} (h : wOk w = true) : intText? w = some (rdInt w) ∧ (rdInt w).natAbs < 10 ^ 60 := by
  unfold wOk at h
  unfold rdInt
  cases e : intText? w with
  | none =>
    rw [e] at h
    exact nomatch h
  | some n =>
    rw [e] at h
    exact ⟨rfl, of_decide_eq_true h⟩
theorem none_back {H H' : Hp} {a : Addr} (s : Same H H') (h : H' a = none) : H a = none := by
  cases e : H a with
  | none => rfl
  | some o =>
    rw [s _ _ e] at h
    exact nomatch h
theorem short_fig {x : Str} (h : (figs x).length ≤ 60) : intW x = shortW x := by
  rw [shortW_int, decide_eq_true (by omega), Bool.and_true]
theorem val_rd {x : Str} (h : intW x = true) (hl : x.length ≤ 4300) : valW x = rdInt x := by
  unfold rdInt
  rw [valW_int h hl]
  rfl
section
variable {P : Program} {w : World} {K : PySem.W.Frag} {mg : Str → Option Value} {base : Heap}
/-! ### read_any_number, read_number -/
def spRead (K : PySem.W.Frag) (CW CM : Addr) : Sp := fun vs H Q E => ∃ (x : Addr) (p d : Int) (t : Str), vs = [.ref x, .str t] ∧ SqT K H x [.int p, .int d] ∧ t.length ≤ 500 ∧ rdPre t = true ∧ (isW p d = false → E (.ref CW) none H) ∧
  (isW p d = true → readOk p t = none → ∀ dd H', Same H H' → H dd = none → H' dd = some (.xd [(("at" : Str), .int 0)]) → E (.ref CM) (some dd) H') ∧
  (isW p d = true → ∀ a b, readOk p t = some (a, b) → ∀ r H', Same H H' → H' r = some (.tup [.int a, .int b]) → Q (.ref r) H')
def spReadAny (K : PySem.W.Frag) (CM : Addr) : Sp := fun vs H Q E => ∃ (x : Addr) (p d : Int) (t : Str), vs = [.ref x, .str t] ∧ SqT K H x [.int p, .int d] ∧ t.length ≤ 500 ∧ rdPre t = true ∧ isW p d = true ∧ (∀ w ∈ Txt.split t "/", (figs w).length ≤ 60) ∧
  (readOk p t = none → ∀ dd H', Same H H' → H dd = none → H' dd = some (.xd [(("at" : Str), .int 0)]) → E (.ref CM) (some dd) H') ∧
  (∀ a b, readOk p t = some (a, b) → ∀ r H', Same H H' → H' r = some (.tup [.int a, .int b]) → Q (.ref r) H')
theorem ok_read_any_number {f CW CN CM fI : Addr} {fd fdI : FuncData} (F : Fun K "read_any_number" "read_any_number" s_read_any_number f fd) (z_len : mg "len" = none) (z_all : mg "all" = none)
    (OX_Malformed : MalC K mg CM fI) (G_Malformed_init : FnOk P w K mg base CX0 1 fI fdI ["self", "at"] (spInitM K)) (b_Malformed_init : Binds K fdI ["self", "at"] [])
    {a_is_number : Addr} {fd_is_number : FuncData} (G_is_number : FnOk P w K mg base (L2.CX P w) 3 a_is_number fd_is_number ["world", "x"] (spIsNumber K CW)) (g_is_number : mg "is_number" = some (.ref a_is_number)) (k_is_number : PySem.W.keepIn K (.ref a_is_number) = true) (b_is_number : Binds K fd_is_number ["world", "x"] [])
    {a_number_text : Addr} {fd_number_text : FuncData} (G_number_text : FnOk P w K mg base (L2.CX P w) 5 a_number_text fd_number_text ["world", "x"] (spNumText K CW CN)) (g_number_text : mg "number_text" = some (.ref a_number_text)) (k_number_text : PySem.W.keepIn K (.ref a_number_text) = true) (b_number_text : Binds K fd_number_text ["world", "x"] [])
    {a_is_integer_ : Addr} {fd_is_integer_ : FuncData} (G_is_integer_ : FnOk P w K mg base CX0 1 a_is_integer_ fd_is_integer_ ["word"] spIsInt) (g_is_integer_ : mg "_is_integer" = some (.ref a_is_integer_)) (k_is_integer_ : PySem.W.keepIn K (.ref a_is_integer_) = true) (b_is_integer_ : Binds K fd_is_integer_ ["word"] [])
    {a_integer_of_ : Addr} {fd_integer_of_ : FuncData} (G_integer_of_ : FnOk P w K mg base CX0 1 a_integer_of_ fd_integer_of_ ["word"] spIntOf) (g_integer_of_ : mg "_integer_of" = some (.ref a_integer_of_)) (k_integer_of_ : PySem.W.keepIn K (.ref a_integer_of_) = true) (b_integer_of_ : Binds K fd_integer_of_ ["word"] []) :
    FnOk P w K mg base (L2.CX P w) 6 f fd ["world", "text"] (spReadAny K CM) := by
  refine F.okX sc_read_any_number (fun vs H Q E h => ?_) (fun cdv A outer s H vs Q E hr h => ?_)
  · obtain ⟨x, p, d, t, rfl, _⟩ := h
    rfl
  · obtain ⟨x, p, d, t, rfl, hx, ht, hpre, ew, fg, r2, r3⟩ := h
    refine ⟨_, (pss_cons (ps_set (i := 2) sc_read_any_number.nd rfl (.inl rfl) (pe_split (pv 1) pe_str))
  (pss_cons (ps_if (L2.PW.pt (pw_or (pt_cmpR op_gt (pe_callB call_len_seq (by rfl) z_len boot_len (pa_cons (pv 2) pa_nil)) pe_int (nomark _)) (pw_or1 (pt_not (pt_val (pe_callB (cr_all rfl) (by rfl) z_all boot_all (pa_cons (pe_lc (own := [("word", 4)]) rfl sc_read_any_number.nd (pi_list (pv 2)) (blkOk_by (N := ["world", "text", "words", "x", "word"]) (sc := defScope s_read_any_number) (by first | decide +kernel | rfl)) (fun _ _ _ _ _ => (pg_name (i := 4) sc_read_any_number.nd rfl (.inl rfl))) (fun _ _ _ _ _ => pts_nil) (fun _ _ _ _ _ => (pe_call G_is_integer_ (hr.mono (by decide)) rfl g_is_integer_ k_is_integer_ b_is_integer_ .nil pass0 (pa_cons (pv 4) pa_nil)))) pa_nil))))))) (pss_one (ps_raise rfl (takes_of rfl rfl rfl rfl) (pmk_oex OX_Malformed.T OX_Malformed.iC OX_Malformed.tI G_Malformed_init (hr.mono (by decide)) b_Malformed_init .nil pass0 rfl OX_Malformed.gc (pa_cons pe_int pa_nil)))) pss_nil)
  (pss_cons (ps_set (i := 3) sc_read_any_number.nd rfl (.inl rfl) (pe_tup (pa_cons (pe_call G_integer_of_ (hr.mono (by decide)) rfl g_integer_of_ k_integer_of_ b_integer_of_ .nil pass0 (pa_cons (pe_ix ix_list (pv 2) pe_int (fun _ _ => rfl)) pa_nil)) (pa_cons (pe_ifExp (pt_cmpR op_eq (pe_callB call_len_seq (by rfl) z_len boot_len (pa_cons (pv 2) pa_nil)) pe_int (nomark _)) (pe_call G_integer_of_ (hr.mono (by decide)) rfl g_integer_of_ k_integer_of_ b_integer_of_ .nil pass0 (pa_cons (pe_ix ix_list (pv 2) pe_int (fun _ _ => rfl)) pa_nil)) pe_int) pa_nil))))
  (pss_cons (ps_if (L2.PW.pt (pw_or (pt_not (pt_val (pe_call G_is_number (hr.mono (by decide)) rfl g_is_number k_is_number b_is_number .nil (passes_call (takes_of rfl rfl rfl rfl) (fun _ _ _ _ h => h)) (pa_cons (pv 0) (pa_cons (pv 3) pa_nil))))) (pw_or1 (pt_cmpR op_ne (pe_call G_number_text (hr.mono (by decide)) rfl g_number_text k_number_text b_number_text .nil (passes_call (takes_of rfl rfl rfl rfl) (fun _ _ _ _ h => h)) (pa_cons (pv 0) (pa_cons (pv 3) pa_nil))) (pv 1) (nomark _))))) (pss_one (ps_raise rfl (takes_of rfl rfl rfl rfl) (pmk_oex OX_Malformed.T OX_Malformed.iC OX_Malformed.tI G_Malformed_init (hr.mono (by decide)) b_Malformed_init .nil pass0 rfl OX_Malformed.gc (pa_cons pe_int pa_nil)))) pss_nil)
  (pss_one (ps_ret (pv 3))))))), ?_⟩
    have szl : 2000 ≤ sizeLine := by decide
    unfold rdPre at hpre
    unfold readOk at r2 r3
    refine ⟨_, rfl, ⟨_, rfl⟩, _, _, rfl, rfl, rfl, (by omega), fun r nr => ?_⟩
    revert r2 r3 hpre fg
    generalize Txt.split t "/" = l
    intro hpre fg r2 r3
    rw [Bool.and_eq_true, Bool.and_eq_true, decide_eq_true_eq, decide_eq_true_eq, List.all_eq_true] at hpre
    obtain ⟨l1, l2, lw⟩ := hpre
    have lw1 : ∀ w ∈ l, w.length ≤ 500 := fun w hw => by
      have := lw w hw
      rw [Bool.and_eq_true] at this
      exact of_decide_eq_true this.1
    have lw2 : ∀ w ∈ l, shortW w = true → wOk w = true := fun w hw hs => by
      have := lw w hw
      rw [Bool.and_eq_true, hs] at this
      exact this.2
    have s1 : Same H (upd H r (.lst (l.map V.str))) := same_upd nr
    have hr1 : upd H r (.lst (l.map V.str)) r = some (.lst (l.map V.str)) := upd_same
    revert s1 hr1
    generalize upd H r (.lst (l.map V.str)) = H1
    intro s1 hr1
    refine ⟨_, rfl, r, _, rfl, .inl (.inl (.inl hr1)), _, _, rfl, rfl, _, rfl, ?_⟩
    rw [List.length_map]
    by_cases c2 : 2 < l.length
    · rw [decide_eq_true (show ((l.length : Nat) : Int) > 2 by omega)]
      rw [if_pos c2] at r2
      exact iteT (iteT (mal_made OX_Malformed.T OX_Malformed.na fun dx H9 s9 nd9 hd9 => r2 rfl dx H9 (Same.trans s1 s9) (none_back s1 nd9) hd9))
    rw [decide_eq_false (show ¬ ((l.length : Nat) : Int) > 2 by omega)]
    rw [if_neg c2] at r2 r3
    refine iteF ?_
    refine ⟨_, rfl, r, rfl, ⟨_, .inl (.inl hr1)⟩, fun D nD => ?_⟩
    have hrD : r ≠ D := ne_of_none hr1 nD
    have msh : l.map intW = l.map shortW := List.map_congr_left fun w hw => short_fig (fg w hw)
    refine lc_list (xs := l.map V.str) (fun i H' => SameBut D H1 H' ∧ H' D = some (.lst (((l.take i).map intW).map V.bl))) ⟨SameBut.upd, upd_same⟩ (fun i H' hi hP => .inl (.inl (hP.1 _ _ hrD hr1))) (fun i y H' hi hP => ?_) (fun H' hP => ?_)
    · obtain ⟨sb, hD⟩ := hP
      rw [List.getElem?_map] at hi
      cases ew : l[i]? with
      | none =>
        rw [ew] at hi
        exact nomatch hi
      | some wd =>
        rw [ew] at hi
        have hy : V.str wd = y := Option.some.inj hi
        rw [← hy]
        obtain ⟨hlt, hget⟩ := List.getElem?_eq_some_iff.mp ew
        have hle := lw1 wd (hget ▸ List.getElem_mem hlt)
        refine ⟨rfl, ?_⟩
        refine ⟨_, rfl, wd, rfl, by omega, _, hD, ?_, sb.trans SameBut.upd, ?_⟩
        · rw [List.length_map, List.length_map, List.length_take]
          omega
        · rw [upd_same, List.take_succ, ew]
          show some (HO.lst (((l.take i).map intW).map V.bl ++ [V.bl (intW wd)])) = some (HO.lst (((l.take i ++ [wd]).map intW).map V.bl))
          rw [List.map_append, List.map_append]
          rfl
    · obtain ⟨sb, hD⟩ := hP
      rw [List.length_map, List.take_length, msh] at hD
      have hr2 := sb _ _ hrD hr1
      have sH : Same H H' := Same.trans s1 (fun c o e => sb _ _ (ne_of_none e nD) e)
      refine ⟨D, l.map shortW, rfl, .inl (.inl hD), ?_⟩
      refine ⟨_, rfl, ?_⟩
      have eall : (l.map shortW).all id = l.all shortW := by rw [List.all_map]; rfl
      rw [eall]
      by_cases ca : l.all shortW = false
      · rw [ca]
        rw [if_pos ca] at r2
        exact iteT (mal_made OX_Malformed.T OX_Malformed.na fun dx H9 s9 nd9 hd9 => r2 rfl dx H9 (Same.trans sH s9) (none_back sH nd9) hd9)
      rw [if_neg ca] at r2 r3
      have ca2 : l.all shortW = true := by
        cases e : l.all shortW with
        | true => rfl
        | false => exact absurd e ca
      rw [ca2]
      refine iteF ?_
      rw [List.all_eq_true] at ca2
      have tail : ∀ (a b : Int) (t' : Addr) (H5 : Hp), True := fun _ _ _ _ => trivial
      match l, l1, c2, lw1, lw2, ca2, hr2, fg, r2, r3 with
      | [w0], l1, c2, lw1, lw2, ca2, hr2, fg, r2, r3 =>
        have iw0 : intW w0 = true := (short_fig (fg w0 (by simp))).trans (ca2 w0 (by simp))
        have ev0 := val_rd iw0 (by have := lw1 w0 (by simp); omega)
        obtain ⟨ia, la⟩ := wOk_int (lw2 w0 (by simp) (ca2 w0 (by simp)))
        have h2 := lw1 w0 (by simp)
        have at0 : atI ([w0].map V.str) 0 = some (.str w0) := atI_nat (j := 0) rfl
        refine ⟨_, rfl, r, _, 0, .str w0, rfl, rfl, .inl (.inl hr2), at0, w0, rfl, by omega, iw0, fg w0 (by simp), ?_⟩
        rw [ev0]
        refine ⟨_, rfl, r, _, rfl, .inl (.inl (.inl hr2)), rfl, _, rfl, ?_⟩
        refine iteF ⟨(by show 2 ≤ sizeLine; decide), fun t1 nt => ?_⟩
        have r2' : (if isN p (rdInt w0) 1 = false then none else if numTx (rdInt w0) 1 = t then some (rdInt w0, (1 : Int)) else none) = none → _ := r2
        have r3' : ∀ a b, (if isN p (rdInt w0) 1 = false then none else if numTx (rdInt w0) 1 = t then some (rdInt w0, (1 : Int)) else none) = some (a, b) → _ := r3
        have lb : (1 : Int).natAbs < 10 ^ 60 := by decide
        revert la r2' r3' lb
        generalize rdInt w0 = a
        generalize (1 : Int) = b
        intro la r2' r3' lb
        have s5 : Same H (upd H' t1 (.tup [.int a, .int b])) := Same.trans sH (same_upd nt)
        have hx5 := sqT_same s5 hx
        have ht5 : upd H' t1 (.tup [.int a, .int b]) t1 = some (.tup [.int a, .int b]) := upd_same
        revert s5 hx5 ht5
        generalize upd H' t1 (.tup [.int a, .int b]) = H5
        intro s5 hx5 ht5
        refine ⟨_, rfl, _, rfl, x, t1, p, d, a, b, rfl, hx5, .inl (.inl ht5), fun _ => ?_, fun z => by rw [ew] at z; exact nomatch z⟩
        refine ⟨_, rfl, ?_⟩
        cases en : isN p a b with
        | false =>
          rw [en, if_pos rfl] at r2'
          exact iteT (iteT (mal_made OX_Malformed.T OX_Malformed.na fun dx H9 s9 nd9 hd9 => r2' rfl dx H9 (Same.trans s5 s9) (none_back s5 nd9) hd9))
        | true =>
          rw [en, if_neg (fun z => nomatch z)] at r2' r3'
          refine iteF ?_
          refine ⟨_, rfl, _, rfl, x, t1, p, d, a, b, rfl, hx5, .inl (.inl ht5), fun z => (by rw [ew] at z; exact nomatch z), fun _ z => (by rw [en] at z; exact nomatch z), fun _ _ => ⟨la, lb, fun H6 s6 => ?_⟩⟩
          refine ⟨_, rfl, rfl, _, rfl, ?_⟩
          by_cases ct : numTx a b = t
          · rw [if_pos ct] at r3'
            rw [decide_eq_true (congrArg V.str ct)]
            exact iteF ⟨_, rfl, r3' a b rfl t1 H6 (Same.trans s5 s6) (s6 _ _ ht5)⟩
          · rw [if_neg ct] at r2'
            rw [decide_eq_false (fun z => ct (V.str.inj z))]
            have s7 := Same.trans s5 s6
            exact iteT (mal_made OX_Malformed.T OX_Malformed.na fun dx H9 s9 nd9 hd9 => r2' rfl dx H9 (Same.trans s7 s9) (none_back s7 nd9) hd9)
      | [w0, w1], l1, c2, lw1, lw2, ca2, hr2, fg, r2, r3 =>
        have iw0 : intW w0 = true := (short_fig (fg w0 (by simp))).trans (ca2 w0 (by simp))
        have ev0 := val_rd iw0 (by have := lw1 w0 (by simp); omega)
        have iw1 : intW w1 = true := (short_fig (fg w1 (by simp))).trans (ca2 w1 (by simp))
        have ev1 := val_rd iw1 (by have := lw1 w1 (by simp); omega)
        obtain ⟨ia, la⟩ := wOk_int (lw2 w0 (by simp) (ca2 w0 (by simp)))
        obtain ⟨ib, lb⟩ := wOk_int (lw2 w1 (by simp) (ca2 w1 (by simp)))
        have h3 := lw1 w0 (by simp)
        have h4 := lw1 w1 (by simp)
        have at0 : atI ([w0, w1].map V.str) 0 = some (.str w0) := atI_nat (j := 0) rfl
        have at1 : atI ([w0, w1].map V.str) 1 = some (.str w1) := atI_nat (j := 1) rfl
        refine ⟨_, rfl, r, _, 0, .str w0, rfl, rfl, .inl (.inl hr2), at0, w0, rfl, by omega, iw0, fg w0 (by simp), ?_⟩
        rw [ev0]
        refine ⟨_, rfl, r, _, rfl, .inl (.inl (.inl hr2)), rfl, _, rfl, ?_⟩
        refine iteT ⟨_, rfl, r, _, 1, .str w1, rfl, rfl, .inl (.inl hr2), at1, w1, rfl, by omega, iw1, fg w1 (by simp), ?_⟩
        rw [ev1]
        refine ⟨(by show 2 ≤ sizeLine; decide), fun t1 nt => ?_⟩
        have r2' : (if isN p (rdInt w0) (rdInt w1) = false then none else if numTx (rdInt w0) (rdInt w1) = t then some (rdInt w0, rdInt w1) else none) = none → _ := r2
        have r3' : ∀ a b, (if isN p (rdInt w0) (rdInt w1) = false then none else if numTx (rdInt w0) (rdInt w1) = t then some (rdInt w0, rdInt w1) else none) = some (a, b) → _ := r3
        revert la r2' r3' lb
        generalize rdInt w0 = a
        generalize rdInt w1 = b
        intro la lb r2' r3'
        have s5 : Same H (upd H' t1 (.tup [.int a, .int b])) := Same.trans sH (same_upd nt)
        have hx5 := sqT_same s5 hx
        have ht5 : upd H' t1 (.tup [.int a, .int b]) t1 = some (.tup [.int a, .int b]) := upd_same
        revert s5 hx5 ht5
        generalize upd H' t1 (.tup [.int a, .int b]) = H5
        intro s5 hx5 ht5
        refine ⟨_, rfl, _, rfl, x, t1, p, d, a, b, rfl, hx5, .inl (.inl ht5), fun _ => ?_, fun z => by rw [ew] at z; exact nomatch z⟩
        refine ⟨_, rfl, ?_⟩
        cases en : isN p a b with
        | false =>
          rw [en, if_pos rfl] at r2'
          exact iteT (iteT (mal_made OX_Malformed.T OX_Malformed.na fun dx H9 s9 nd9 hd9 => r2' rfl dx H9 (Same.trans s5 s9) (none_back s5 nd9) hd9))
        | true =>
          rw [en, if_neg (fun z => nomatch z)] at r2' r3'
          refine iteF ?_
          refine ⟨_, rfl, _, rfl, x, t1, p, d, a, b, rfl, hx5, .inl (.inl ht5), fun z => (by rw [ew] at z; exact nomatch z), fun _ z => (by rw [en] at z; exact nomatch z), fun _ _ => ⟨la, lb, fun H6 s6 => ?_⟩⟩
          refine ⟨_, rfl, rfl, _, rfl, ?_⟩
          by_cases ct : numTx a b = t
          · rw [if_pos ct] at r3'
            rw [decide_eq_true (congrArg V.str ct)]
            exact iteF ⟨_, rfl, r3' a b rfl t1 H6 (Same.trans s5 s6) (s6 _ _ ht5)⟩
          · rw [if_neg ct] at r2'
            rw [decide_eq_false (fun z => ct (V.str.inj z))]
            have s7 := Same.trans s5 s6
            exact iteT (mal_made OX_Malformed.T OX_Malformed.na fun dx H9 s9 nd9 hd9 => r2' rfl dx H9 (Same.trans s7 s9) (none_back s7 nd9) hd9)
      | [], l1, _, _, _, _, _, _, _, _ => exact absurd l1 (by decide)
      | _ :: _ :: _ :: _, _, c2, _, _, _, _, _, _, _ => exact absurd (show 2 < _ from by simp) c2
theorem ok_read_number {f CW CM fI : Addr} {fd fdI : FuncData} {tF : Tok} (F : Fun K "read_number" "read_number" s_read_number f fd) (z_all : mg "all" = none) (m_MOST_FIGURES : mg "MOST_FIGURES" = some (.int 60 tF))
    (OX_Malformed : MalC K mg CM fI) (G_Malformed_init : FnOk P w K mg base CX0 1 fI fdI ["self", "at"] (spInitM K)) (b_Malformed_init : Binds K fdI ["self", "at"] [])
    {a_check_world : Addr} {fd_check_world : FuncData} (G_check_world : FnOk P w K mg base (L2.CX P w) 2 a_check_world fd_check_world ["world"] (spCheckWorld K CW)) (g_check_world : mg "check_world" = some (.ref a_check_world)) (k_check_world : PySem.W.keepIn K (.ref a_check_world) = true) (b_check_world : Binds K fd_check_world ["world"] [])
    {a_figure_count_ : Addr} {fd_figure_count_ : FuncData} (G_figure_count_ : FnOk P w K mg base CX0 1 a_figure_count_ fd_figure_count_ ["word"] spFig) (g_figure_count_ : mg "_figure_count" = some (.ref a_figure_count_)) (k_figure_count_ : PySem.W.keepIn K (.ref a_figure_count_) = true) (b_figure_count_ : Binds K fd_figure_count_ ["word"] [])
    {a_read_any_number : Addr} {fd_read_any_number : FuncData} (G_read_any_number : FnOk P w K mg base (L2.CX P w) 6 a_read_any_number fd_read_any_number ["world", "text"] (spReadAny K CM)) (g_read_any_number : mg "read_any_number" = some (.ref a_read_any_number)) (k_read_any_number : PySem.W.keepIn K (.ref a_read_any_number) = true) (b_read_any_number : Binds K fd_read_any_number ["world", "text"] []) :
    FnOk P w K mg base (L2.CX P w) 7 f fd ["world", "text"] (spRead K CW CM) := by
  have r_MOST_FIGURES : RelV (.int 60) (.int 60 tF) := ⟨_, rfl⟩
  refine F.okX sc_read_number (fun vs H Q E h => ?_) (fun cdv A outer s H vs Q E hr h => ?_)
  · obtain ⟨x, p, d, t, rfl, _⟩ := h
    rfl
  · obtain ⟨x, p, d, t, rfl, hx, ht, hpre, q1, q2, q3⟩ := h
    refine ⟨_, (pss_cons (ps_expr (pe_call G_check_world (hr.mono (by decide)) rfl g_check_world k_check_world b_check_world .nil (passes_call (takes_of rfl rfl rfl rfl) (fun _ _ _ _ h => h)) (pa_cons (pv 0) pa_nil)))
  (pss_cons (ps_if (pt_not (pt_val (pe_callB (cr_all rfl) (by rfl) z_all boot_all (pa_cons (pe_lc (own := [("word", 2)]) rfl sc_read_number.nd (pi_list (pe_split (pv 1) pe_str)) (blkOk_by (N := ["world", "text", "word"]) (sc := defScope s_read_number) (by first | decide +kernel | rfl)) (fun _ _ _ _ _ => (pg_name (i := 2) sc_read_number.nd rfl (.inl rfl))) (fun _ _ _ _ _ => pts_nil) (fun _ _ _ _ _ => (pe_cmpR op_le (pe_call G_figure_count_ (hr.mono (by decide)) rfl g_figure_count_ k_figure_count_ b_figure_count_ .nil pass0 (pa_cons (pv 2) pa_nil)) (pe_glob rfl m_MOST_FIGURES r_MOST_FIGURES) (nomark _)))) pa_nil)))) (pss_one (ps_raise rfl (takes_of rfl rfl rfl rfl) (pmk_oex OX_Malformed.T OX_Malformed.iC OX_Malformed.tI G_Malformed_init (hr.mono (by decide)) b_Malformed_init .nil pass0 rfl OX_Malformed.gc (pa_cons pe_int pa_nil)))) pss_nil)
  (pss_one (ps_ret (pe_call G_read_any_number (hr.mono (by decide)) rfl g_read_any_number k_read_any_number b_read_any_number .nil (passes_call (takes_of rfl rfl rfl rfl) (fun _ _ _ _ h => h)) (pa_cons (pv 0) (pa_cons (pv 1) pa_nil))))))), ?_⟩
    refine ⟨_, rfl, x, p, d, rfl, hx, fun ew => ?_, q1⟩
    have r2 := q2 ew
    have r3 := q3 ew
    have szl : 2000 ≤ sizeLine := by decide
    refine ⟨_, rfl, ⟨_, rfl⟩, _, _, rfl, rfl, rfl, (by omega), fun r nr => ?_⟩
    have pre := hpre
    unfold rdPre at hpre
    rw [Bool.and_eq_true, Bool.and_eq_true, decide_eq_true_eq, decide_eq_true_eq, List.all_eq_true] at hpre
    obtain ⟨l1, l2, lw⟩ := hpre
    have lw1 : ∀ w ∈ Txt.split t "/", w.length ≤ 500 := fun w hw => by
      have := lw w hw
      rw [Bool.and_eq_true] at this
      exact of_decide_eq_true this.1
    have long : (Txt.split t "/").all (fun w => decide ((figs w).length ≤ 60)) = false → readOk p t = none := fun e => by
      have : (Txt.split t "/").all shortW = false := by
        rw [← Bool.not_eq_true, List.all_eq_true] at e ⊢
        exact fun z => e fun w hw => by
          have := z w hw
          rw [shortW_int, Bool.and_eq_true, decide_eq_true_eq] at this
          exact decide_eq_true (by omega)
      unfold readOk
      rw [if_pos this]
      exact ite_self _
    have s1 : Same H (upd H r (.lst ((Txt.split t "/").map V.str))) := same_upd nr
    have hr1 : upd H r (.lst ((Txt.split t "/").map V.str)) r = some (.lst ((Txt.split t "/").map V.str)) := upd_same
    revert s1 hr1
    generalize upd H r (.lst ((Txt.split t "/").map V.str)) = H1
    intro s1 hr1
    refine ⟨r, rfl, ⟨_, .inl (.inl hr1)⟩, fun D nD => ?_⟩
    have hrD : r ≠ D := ne_of_none hr1 nD
    have fgo : ∀ w ∈ Txt.split t "/", (figs w).length ≤ 60 → True := fun _ _ _ => trivial
    generalize el : Txt.split t "/" = l at hr1 lw1 l1 l2 long
    refine lc_list (xs := l.map V.str) (fun i H' => SameBut D H1 H' ∧ H' D = some (.lst (((l.take i).map fun w => decide ((figs w).length ≤ 60)).map V.bl))) ⟨SameBut.upd, upd_same⟩ (fun i H' hi hP => .inl (.inl (hP.1 _ _ hrD hr1))) (fun i y H' hi hP => ?_) (fun H' hP => ?_)
    · obtain ⟨sb, hD⟩ := hP
      rw [List.getElem?_map] at hi
      cases ew : l[i]? with
      | none =>
        rw [ew] at hi
        exact nomatch hi
      | some wd =>
        rw [ew] at hi
        have hy : V.str wd = y := Option.some.inj hi
        rw [← hy]
        obtain ⟨hlt, hget⟩ := List.getElem?_eq_some_iff.mp ew
        have hle := lw1 wd (hget ▸ List.getElem_mem hlt)
        refine ⟨rfl, ?_⟩
        refine ⟨_, rfl, wd, rfl, by omega, _, _, rfl, rfl, _, hD, ?_, sb.trans SameBut.upd, ?_⟩
        · rw [List.length_map, List.length_map, List.length_take]
          omega
        · rw [upd_same, List.take_succ, ew, List.map_append, List.map_append]
          have e2 : decide (((figs wd).length : Int) ≤ 60) = decide ((figs wd).length ≤ 60) := decide_eq_decide.mpr (by omega)
          exact congrArg (fun b => some (HO.lst (List.map V.bl (List.map (fun w => decide ((figs w).length ≤ 60)) (List.take i l)) ++ [V.bl b]))) e2
    · obtain ⟨sb, hD⟩ := hP
      rw [List.length_map, List.take_length] at hD
      have sH : Same H H' := Same.trans s1 (fun c o e => sb _ _ (ne_of_none e nD) e)
      refine ⟨D, _, rfl, .inl (.inl hD), ?_⟩
      refine ⟨_, rfl, ?_⟩
      have eall : (l.map fun w => decide ((figs w).length ≤ 60)).all id = l.all fun w => decide ((figs w).length ≤ 60) := by rw [List.all_map]; rfl
      rw [eall]
      cases ca : l.all fun w => decide ((figs w).length ≤ 60) with
      | false => exact iteT (mal_made OX_Malformed.T OX_Malformed.na fun dx H9 s9 nd9 hd9 => r2 (long ca) dx H9 (Same.trans sH s9) (none_back sH nd9) hd9)
      | true =>
        rw [List.all_eq_true] at ca
        refine iteF ⟨_, rfl, _, rfl, x, p, d, t, rfl, sqT_same sH hx, ht, pre, ew, ?_, fun e dd H9 s9 nd9 hd9 => r2 e dd H9 (Same.trans sH s9) (none_back sH nd9) hd9, fun a b e rr H9 s9 hrr => r3 a b e rr H9 (Same.trans sH s9) hrr⟩
        rw [el]
        exact fun w hw => of_decide_eq_true (ca w hw)
end

/-- the whole number that a text tells, as the law looks at it -/
def zeroS : Str := "0"
def digC (c : Nat) : Bool := if (!decide (([c] : List Nat) < ("0" : Str).cps.toList)) = true then (!decide (("9" : Str).cps.toList < ([c] : List Nat))) else false
def figsF (t : Str) : Str := if decide (V.str (cutS t none (some 1)) = V.str "-") = true then cutS t (some 1) none else t
def wholeF (t : Str) : Option Int := if decide (V.str (figsF t) = V.str "") = true then none else if ((figsF t).length : Int) > 60 then none else if (figsF t).cps.toList.all digC = false then none else
  if (((figsF t).length : Int) > 1 ∧ (figsF t).cps.toList.getD 0 0 = 48) then none else if decide (V.str t = V.str "-0") = true then none else some (rdInt t)
def wholePre (t : Str) : Bool := decide (t.length ≤ 500) && decide ((figsF t).length ≤ 500) && (!(wholeF t).isSome || wOk t)
def vInt : Option Int → V
  | none => .non
  | some n => .int n
theorem if_true_ofB {c : Bool} {A B : Prop} (hc : c = true) (h : A) : if c = true then A else B := by
  rw [if_pos hc]
  exact h
theorem if_false_ofB {c : Bool} {A B : Prop} (hc : ¬ c = true) (h : B) : if c = true then A else B := by
  rw [if_neg hc]
  exact h
section
variable {P : Program} {w : World} {K : PySem.W.Frag} {mg : Str → Option Value} {base : Heap}
/-! ### _law_whole -/
def spWhole : Sp := fun vs H Q _ => ∃ t : Str, vs = [.str t] ∧ wholePre t = true ∧ ∀ H', Same H H' → Q (vInt (wholeF t)) H'
theorem ok_law_whole {f : Addr} {fd : FuncData} (F : Fun K "_law_whole" "_law_whole" s_law_whole f fd) (z_len : mg "len" = none) (z_all : mg "all" = none) (z_int : mg "int" = none) : FnOk P w K mg base CX0 1 f fd ["text"] spWhole := by
  refine F.ok sc_law_whole (fun vs H Q E h => ?_) (fun cdv A outer s H vs Q E hr h => ?_)
  · obtain ⟨t, rfl, _⟩ := h
    rfl
  · obtain ⟨t, rfl, hpre, q⟩ := h
    refine ⟨_, (pss_cons (ps_set (i := 1) sc_law_whole.nd rfl (.inl rfl) (pv 0))
  (Evl.pss_cut (ps_if (pt_cmpR op_eq (pe_slice sl_str (pv 0) po_none (po_some pe_int)) pe_str (nomark _)) (pss_one (ps_set (i := 1) sc_law_whole.nd rfl (.inl rfl) (pe_slice sl_str (pv 0) (po_some pe_int) po_none))) pss_nil)
  (pss_cons (ps_if (L2.PW.pt (pw_or (pt_cmpR op_eq (pv 1) pe_str (nomark _)) (pw_or (pt_cmpR op_gt (pe_callB call_len_str (by rfl) z_len boot_len (pa_cons (pv 1) pa_nil)) pe_int (nomark _)) (pw_or1 (pt_not (pt_val (pe_callB (cr_all rfl) (by rfl) z_all boot_all (pa_cons (pe_lc (own := [("sign", 2)]) rfl sc_law_whole.nd (pi_str (pv 1)) (blkOk_by (N := ["text", "figures", "sign"]) (sc := defScope s_law_whole) (by first | decide +kernel | rfl)) (fun _ _ _ _ _ => (pg_name (i := 2) sc_law_whole.nd rfl (.inl rfl))) (fun _ _ _ _ _ => pts_nil) (fun _ _ _ _ _ => (pe_chain op_le_str op_le_str pe_str (pv 2) pe_str))) pa_nil)))))))) (pss_one (ps_ret pe_non)) pss_nil)
  (pss_cons (ps_if (L2.PW.pt (pw_or (L2.PW.pt (pw_and (pt_cmpR op_gt (pe_callB call_len_str (by rfl) z_len boot_len (pa_cons (pv 1) pa_nil)) pe_int (nomark _)) (pw_and1 (pt_cmpR op_eq (pe_ix ix_str (pv 1) pe_int (fun _ _ => rfl)) pe_str (nomark _))))) (pw_or1 (pt_cmpR op_eq (pv 0) pe_str (nomark _))))) (pss_one (ps_ret pe_non)) pss_nil)
  (pss_one (ps_ret (pe_callTy call_int_str (by rfl) z_int boot_int (pa_cons (pv 0) pa_nil)))))))), ?_⟩
    unfold wholePre at hpre
    rw [Bool.and_eq_true, Bool.and_eq_true, decide_eq_true_eq, decide_eq_true_eq] at hpre
    obtain ⟨⟨lt, lf⟩, hw⟩ := hpre
    have szl : 2000 ≤ sizeLine := by decide
    refine ⟨_, rfl, ?_⟩
    refine ⟨fun σ' H' => σ' = [some (.str t), some (.str (figsF t)), none] ∧ H' = H, ?_, ?_⟩
    · unfold figsF
      refine ⟨_, rfl, 1, rfl, t, rfl, by omega, rfl, _, rfl, ?_⟩
      by_cases e : decide (V.str (cutS t none (some 1)) = V.str "-") = true
      · rw [e]
        exact iteT ⟨_, rfl, 1, rfl, t, rfl, by omega, rfl, rfl⟩
      · rw [if_neg e, eq_false_of_ne_true e]
        exact iteF ⟨rfl, rfl⟩
    · rintro σ' HH ⟨rfl, rfl⟩
      unfold wholeF at hw q
      revert hw q lf
      generalize figsF t = g
      intro hw lf q
      refine ⟨_, rfl, rfl, _, rfl, ?_⟩
      by_cases e : decide (V.str g = V.str "") = true
      · rw [if_pos e] at q
        rw [e]
        exact iteT (iteT (q _ (Same.refl _)))
      rw [if_neg e] at q hw
      rw [eq_false_of_ne_true e]
      refine iteF ?_
      refine ⟨_, rfl, g, rfl, by omega, _, _, rfl, rfl, _, rfl, ?_⟩
      by_cases e2 : (g.length : Int) > 60
      · rw [if_pos e2] at q
        rw [decide_eq_true e2]
        exact iteT (iteT (q _ (Same.refl _)))
      rw [if_neg e2] at q hw
      rw [decide_eq_false e2]
      refine iteF ?_
      refine ⟨_, rfl, g, rfl, fun D nD => ?_⟩
      refine lc_it walk_str (fun i H' => SameBut D HH H' ∧ H' D = some (.lst (((g.cps.toList.take i).map digC).map V.bl))) ⟨SameBut.upd, upd_same⟩ (fun _ _ _ _ => trivial) (fun i y H1 H2 hi hP hy => ?_) (fun H' hP => ?_)
      · obtain ⟨sb, hD⟩ := hP
        obtain ⟨rfl, c, hc, rfl⟩ := hy
        refine ⟨rfl, ?_⟩
        have hc2 : g.cps.toList[i]? = some c := by rw [← hc, Array.getElem?_toList]
        have fin : V.bl (digC c) = V.bl (digC c) → True := fun _ => trivial
        have done : ∀ b : Bool, b = digC c → ∃ acc, H2 D = some (.lst acc) ∧ acc.length < sizeLine ∧ (SameBut D HH (upd H2 D (.lst (acc ++ [V.bl b]))) ∧ upd H2 D (.lst (acc ++ [V.bl b])) D = some (.lst (((g.cps.toList.take (i + 1)).map digC).map V.bl))) := fun b hb => by
          refine ⟨_, hD, ?_, sb.trans SameBut.upd, ?_⟩
          · rw [List.length_map, List.length_map, List.length_take]
            have : i < g.length := hi
            omega
          · rw [upd_same, List.take_succ, hc2, hb]
            show some (HO.lst (((g.cps.toList.take i).map digC).map V.bl ++ [V.bl (digC c)])) = some (HO.lst (((g.cps.toList.take i ++ [c]).map digC).map V.bl))
            rw [List.map_append, List.map_append]
            rfl
        refine ⟨_, rfl, _, _, rfl, rfl, _, rfl, ?_⟩
        by_cases e3 : (!decide (([c] : List Nat) < ("0" : Str).cps.toList)) = true
        · have : digC c = (!decide (("9" : Str).cps.toList < ([c] : List Nat))) := if_pos e3
          exact if_true_ofB e3 ⟨_, _, rfl, rfl, done _ this.symm⟩
        · have : digC c = false := if_neg e3
          exact if_false_ofB e3 (done _ this.symm)
      · obtain ⟨sb, hD⟩ := hP
        rw [show g.cps.size = g.cps.toList.length from (Array.length_toList).symm, List.take_length] at hD
        refine ⟨D, g.cps.toList.map digC, rfl, .inl (.inl hD), ?_⟩
        refine ⟨_, rfl, ?_⟩
        have eall : (g.cps.toList.map digC).all id = g.cps.toList.all digC := by rw [List.all_map]; rfl
        rw [eall]
        by_cases ca : g.cps.toList.all digC = false
        · rw [ca]
          rw [if_pos ca] at q
          exact iteT (q _ (fun a o h => sb _ _ (ne_of_none h nD) h))
        rw [if_neg ca] at q hw
        have ca2 : g.cps.toList.all digC = true := by
          cases e : g.cps.toList.all digC with
          | true => rfl
          | false => exact absurd e ca
        rw [ca2]
        have q' := q H' (fun a o h => sb _ _ (ne_of_none h nD) h)
        refine iteF ?_
        -- the last part: the text itself
        have last : (if decide (V.str t = V.str "-0") = true then (none : Option Int) else some (rdInt t)) = (if decide (V.str t = V.str "-0") = true then none else some (rdInt t)) := rfl
        refine ⟨_, rfl, g, rfl, by omega, _, _, rfl, rfl, _, rfl, ?_⟩
        by_cases c1 : (g.length : Int) > 1
        · rw [decide_eq_true c1]
          refine iteT ?_
          have hl : g.cps.toList.length = g.length := Array.length_toList
          obtain ⟨c, hc⟩ : ∃ c, g.cps.toList[0]? = some c := ⟨_, List.getElem?_eq_getElem (by omega)⟩
          have hc0 : g.cps.toList.getD 0 0 = c := by rw [List.getD_eq_getElem?_getD, hc]; rfl
          refine ⟨_, rfl, g, 0, c, rfl, rfl, by omega, atI_nat (j := 0) hc, rfl, _, rfl, ?_⟩
          by_cases c0 : c = 48
          · rw [if_pos ⟨c1, hc0.trans c0⟩] at q'
            have ec : decide (V.str ⟨#[c]⟩ = V.str ("0" : Str)) = true := by rw [c0]; decide +kernel
            rw [ec]
            exact iteT (iteT q')
          · rw [if_neg (fun z => c0 (hc0.symm.trans z.2))] at q' hw
            have ec : decide (V.str ⟨#[c]⟩ = V.str ("0" : Str)) = false := decide_eq_false (fun z => c0 (by
              have z2 := V.str.inj z
              have z3 : ([c] : List Nat) = ("0" : Str).cps.toList := congrArg (fun s : Str => s.cps.toList) z2
              have z4 : ("0" : Str).cps.toList = [48] := by decide +kernel
              rw [z4] at z3
              exact (List.cons.inj z3).1))
            rw [ec]
            refine iteF ?_
            refine ⟨_, rfl, rfl, _, rfl, ?_⟩
            by_cases e9 : decide (V.str t = V.str "-0") = true
            · rw [if_pos e9] at q'
              rw [e9]
              exact iteT q'
            · rw [if_neg e9] at q' hw
              rw [eq_false_of_ne_true e9]
              exact iteF ⟨_, rfl, t, _, rfl, (wOk_int hw).1, by omega, q'⟩
        · rw [decide_eq_false c1]
          refine iteF (iteF ?_)
          rw [if_neg (fun z => c1 z.1)] at q' hw
          refine ⟨_, rfl, rfl, _, rfl, ?_⟩
          by_cases e9 : decide (V.str t = V.str "-0") = true
          · rw [if_pos e9] at q'
            rw [e9]
            exact iteT q'
          · rw [if_neg e9] at q' hw
            rw [eq_false_of_ne_true e9]
            exact iteF ⟨_, rfl, t, _, rfl, (wOk_int hw).1, by omega, q'⟩
end

def dueB (ws : List Str) : Option Int := if ws.length = 2 then wholeF (ws.getD 1 "") else some 1
def dueEnd (p : Int) (n : Nat) : Option Int → Option Int → Option (Int × Int)
  | none, _ => none
  | some _, none => none
  | some a, some b => if n = 2 ∧ b < 2 then none else if (0 < p ∧ (1 < b ∨ ¬ (0 ≤ a ∧ a < p))) ∨ (p = 0 ∧ low a b ≠ (a, b)) then none else some (a, b)
def dueF (p : Int) (t : Str) : Option (Int × Int) := if 2 < (Txt.split t "/").length then none else dueEnd p (Txt.split t "/").length (wholeF ((Txt.split t "/").getD 0 "")) (dueB (Txt.split t "/"))
def bSm : Option Int → Bool
  | none => true
  | some b => decide (b ≤ 1000000000)
def duePre (t : Str) : Bool := decide (1 ≤ (Txt.split t "/").length) && (decide ((Txt.split t "/").length ≤ 1000) && ((Txt.split t "/").all wholePre && bSm (dueB (Txt.split t "/"))))
theorem eqv_pair (u v : Int) : PyData.eqv (.tuple [.int u, .int v]) (.tuple [.int u, .int v]) = true := by simp [PyData.eqv, PyData.eqvAll]
theorem ne_low {a b : Int} (h : ¬ low a b = (a, b)) : (!PyData.eqv (.tuple [.int (low a b).1, .int (low a b).2]) (.tuple [.int a, .int b])) = true := by
  by_cases c : (low a b).1 = a
  · have : (low a b).2 ≠ b := fun z => h (Prod.ext c z)
    simp [PyData.eqv, PyData.eqvAll, this]
  · simp [PyData.eqv, PyData.eqvAll, c]
def vDue : Option (Int × Int) → V → Hp → Prop
  | none, v, _ => v = .non
  | some (a, b), v, H => ∃ r, v = .ref r ∧ H r = some (.tup [.int a, .int b])
section
variable {P : Program} {w : World} {K : PySem.W.Frag} {mg : Str → Option Value} {base : Heap}
/-! ### _law_due -/
def spDue (K : PySem.W.Frag) : Sp := fun vs H Q _ => ∃ (x : Addr) (p d : Int) (t : Str), vs = [.ref x, .str t] ∧ SqT K H x [.int p, .int d] ∧ 0 ≤ p ∧ t.length ≤ 500 ∧ duePre t = true ∧ ∀ v H', Same H H' → vDue (dueF p t) v H' → Q v H'
theorem ok_law_due {f a_law_whole a_law_lowest : Addr} {fd fd_law_whole fd_law_lowest : FuncData} (F : Fun K "_law_due" "_law_due" s_law_due f fd) (z_len : mg "len" = none)
    (G_law_whole : FnOk P w K mg base CX0 1 a_law_whole fd_law_whole ["text"] spWhole) (g_law_whole : mg "_law_whole" = some (.ref a_law_whole)) (k_law_whole : PySem.W.keepIn K (.ref a_law_whole) = true) (b_law_whole : Binds K fd_law_whole ["text"] [])
    (G_law_lowest : FnOk P w K mg base CX0 1 a_law_lowest fd_law_lowest ["a", "b"] spLawLowest) (g_law_lowest : mg "_law_lowest" = some (.ref a_law_lowest)) (k_law_lowest : PySem.W.keepIn K (.ref a_law_lowest) = true) (b_law_lowest : Binds K fd_law_lowest ["a", "b"] []) :
    FnOk P w K mg base CX0 2 f fd ["world", "text"] (spDue K) := by
  refine F.ok sc_law_due (fun vs H Q E h => ?_) (fun cdv A outer s H vs Q E hr h => ?_)
  · obtain ⟨x, p, d, t, rfl, _⟩ := h
    rfl
  · obtain ⟨x, p, d, t, rfl, hx, hp, lt, hpre, q⟩ := h
    have q1 : dueF p t = none → ∀ H', Same H H' → Q .non H' := fun e H' s => q .non H' s (by rw [e]; rfl)
    have q2 : ∀ a b, dueF p t = some (a, b) → ∀ r H', Same H H' → H' r = some (.tup [.int a, .int b]) → Q (.ref r) H' := fun a b e r H' s h => q (.ref r) H' s (by rw [e]; exact ⟨r, rfl, h⟩)
    clear q
    refine ⟨_, (pss_cons (ps_set (i := 2) sc_law_due.nd rfl (.inl rfl) (pe_split (pv 1) pe_str))
  (pss_cons (ps_if (pt_cmpR op_gt (pe_callB call_len_seq (by rfl) z_len boot_len (pa_cons (pv 2) pa_nil)) pe_int (nomark _)) (pss_one (ps_ret pe_non)) pss_nil)
  (pss_cons (ps_set (i := 3) sc_law_due.nd rfl (.inl rfl) (pe_call G_law_whole (hr.mono (by decide)) rfl g_law_whole k_law_whole b_law_whole .nil pass0 (pa_cons (pe_ix ix_list (pv 2) pe_int (fun _ _ => rfl)) pa_nil)))
  (pss_cons (ps_set (i := 4) sc_law_due.nd rfl (.inl rfl) pe_int)
  (Evl.pss_cut (ps_if (pt_cmpR op_eq (pe_callB call_len_seq (by rfl) z_len boot_len (pa_cons (pv 2) pa_nil)) pe_int (nomark _)) (pss_one (ps_set (i := 4) sc_law_due.nd rfl (.inl rfl) (pe_call G_law_whole (hr.mono (by decide)) rfl g_law_whole k_law_whole b_law_whole .nil pass0 (pa_cons (pe_ix ix_list (pv 2) pe_int (fun _ _ => rfl)) pa_nil)))) pss_nil)
  (pss_cons (ps_if (L2.PW.pt (pw_or (pt_cmpR op_isN (pv 3) pe_non (nomark _)) (pw_or (pt_cmpR op_isN (pv 4) pe_non (nomark _)) (pw_or1 (L2.PW.pt (pw_and (pt_cmpR op_eq (pe_callB call_len_seq (by rfl) z_len boot_len (pa_cons (pv 2) pa_nil)) pe_int (nomark _)) (pw_and1 (pt_cmpR op_lt (pv 4) pe_int (nomark _))))))))) (pss_one (ps_ret pe_non)) pss_nil)
  (pss_cons (ps_if (L2.PW.pt (pw_or (L2.PW.pt (pw_and (pt_cmpR op_gt (pe_ix ix_tup (pv 0) pe_int (fun _ _ => rfl)) pe_int (nomark _)) (pw_and1 (L2.PW.pt (pw_or (pt_cmpR op_gt (pv 4) pe_int (nomark _)) (pw_or1 (pt_not (pt_chain op_le op_lt pe_int (pv 3) (pe_ix ix_tup (pv 0) pe_int (fun _ _ => rfl)))))))))) (pw_or1 (L2.PW.pt (pw_and (pt_cmpR op_eq (pe_ix ix_tup (pv 0) pe_int (fun _ _ => rfl)) pe_int (nomark _)) (pw_and1 (pt_cmpR (op_neD (room64 hr)) (pe_call G_law_lowest (hr.mono (by decide)) rfl g_law_lowest k_law_lowest b_law_lowest .nil pass0 (pa_cons (pv 3) (pa_cons (pv 4) pa_nil))) (pe_tup (pa_cons (pv 3) (pa_cons (pv 4) pa_nil))) (nomark _)))))))) (pss_one (ps_ret pe_non)) pss_nil)
  (pss_one (ps_ret (pe_tup (pa_cons (pv 3) (pa_cons (pv 4) pa_nil)))))))))))), ?_⟩
    have szl : 2000 ≤ sizeLine := by decide
    unfold duePre at hpre
    unfold dueF at q1 q2
    refine ⟨_, rfl, ⟨_, rfl⟩, _, _, rfl, rfl, rfl, (by omega), fun r nr => ?_⟩
    revert q1 q2 hpre
    generalize Txt.split t "/" = l
    intro hpre q1 q2
    rw [Bool.and_eq_true, Bool.and_eq_true, Bool.and_eq_true, decide_eq_true_eq, decide_eq_true_eq, List.all_eq_true] at hpre
    obtain ⟨l1, l2, lw, lb⟩ := hpre
    have s1 : Same H (upd H r (.lst (l.map V.str))) := same_upd nr
    have hr1 : upd H r (.lst (l.map V.str)) r = some (.lst (l.map V.str)) := upd_same
    revert s1 hr1
    generalize upd H r (.lst (l.map V.str)) = H1
    intro s1 hr1
    refine ⟨_, rfl, r, _, rfl, .inl (.inl (.inl hr1)), _, _, rfl, rfl, _, rfl, ?_⟩
    rw [List.length_map]
    by_cases c2 : 2 < l.length
    · rw [decide_eq_true (show ((l.length : Nat) : Int) > 2 by omega)]
      rw [if_pos c2] at q1
      exact iteT (q1 rfl _ s1)
    rw [decide_eq_false (show ¬ ((l.length : Nat) : Int) > 2 by omega)]
    rw [if_neg c2] at q1 q2
    refine iteF ?_
    have gd : ∀ k : Nat, k < l.length → atI (l.map V.str) (k : Int) = some (.str (l.getD k "")) ∧ wholePre (l.getD k "") = true := fun k hk => by
      have e1 : l[k]? = some l[k] := List.getElem?_eq_getElem hk
      have e2 : l.getD k "" = l[k] := by rw [List.getD_eq_getElem?_getD, e1]; rfl
      refine ⟨atI_nat (j := k) (by rw [List.getElem?_map, e1, e2]; rfl), ?_⟩
      rw [e2]
      exact lw _ (List.getElem_mem hk)
    obtain ⟨at0, pr0⟩ := gd 0 l1
    refine ⟨_, rfl, r, _, 0, _, rfl, rfl, .inl (.inl hr1), at0, _, rfl, pr0, fun H2 s2 => ?_⟩
    have hr2 := s2 _ _ hr1
    revert lb q1 q2
    generalize wholeF (l.getD 0 "") = A
    intro q1 q2 lb
    refine ⟨fun σ' H' => σ' = [some (.ref x), some (.str t), some (.ref r), some (vInt A), some (vInt (dueB l))] ∧ Same H H' ∧ H' r = some (.lst (l.map V.str)), ?_, ?_⟩
    · refine ⟨_, rfl, r, _, rfl, .inl (.inl (.inl hr2)), rfl, _, rfl, ?_⟩
      rw [List.length_map]
      unfold dueB
      by_cases c : l.length = 2
      · rw [decide_eq_true (show V.int ((l.length : Nat) : Int) = V.int 2 by rw [c]; rfl), if_pos c]
        obtain ⟨at1, pr1⟩ := gd 1 (by omega)
        refine iteT ⟨_, rfl, r, _, 1, _, rfl, rfl, .inl (.inl hr2), at1, _, rfl, pr1, fun H3 s3 => ⟨rfl, Same.trans (Same.trans s1 s2) s3, s3 _ _ hr2⟩⟩
      · rw [decide_eq_false (fun z => c (by have := V.int.inj z; omega)), if_neg c]
        exact iteF ⟨rfl, Same.trans s1 s2, hr2⟩
    · rintro σ' H3 ⟨rfl, s3, hr3⟩
      have hB : l.length ≠ 2 → dueB l = some 1 := fun c => if_neg c
      revert lb q1 q2 hB
      generalize dueB l = B
      intro q1 q2 lb hB
      refine ⟨_, rfl, rfl, _, rfl, ?_⟩
      cases A with
      | none =>
        rw [decide_eq_true (show vInt none = V.non from rfl)]
        exact iteT (iteT (q1 rfl _ s3))
      | some a =>
        rw [decide_eq_false (show ¬ vInt (some a) = V.non from fun z => nomatch z)]
        refine iteF ?_
        refine ⟨_, rfl, rfl, _, rfl, ?_⟩
        cases B with
        | none =>
          rw [decide_eq_true (show vInt none = V.non from rfl)]
          exact iteT (iteT (q1 rfl _ s3))
        | some b =>
          rw [decide_eq_false (show ¬ vInt (some b) = V.non from fun z => nomatch z)]
          refine iteF ?_
          have lb' : b ≤ 1000000000 := of_decide_eq_true lb
          have q1' : (if l.length = 2 ∧ b < 2 then (none : Option (Int × Int)) else if (0 < p ∧ (1 < b ∨ ¬ (0 ≤ a ∧ a < p))) ∨ (p = 0 ∧ low a b ≠ (a, b)) then none else some (a, b)) = none → _ := q1
          have q2' : ∀ a' b', (if l.length = 2 ∧ b < 2 then (none : Option (Int × Int)) else if (0 < p ∧ (1 < b ∨ ¬ (0 ≤ a ∧ a < p))) ∨ (p = 0 ∧ low a b ≠ (a, b)) then none else some (a, b)) = some (a', b') → _ := q2
          refine ⟨_, rfl, r, _, rfl, .inl (.inl (.inl hr3)), rfl, _, rfl, ?_⟩
          rw [List.length_map]
          have hx3 := sqT_same s3 hx
          have xp : atI [V.int p, V.int d] 0 = some (.int p) := atI_nat (j := 0) rfl
          -- the world's part
          have rest : (l.length = 2 → ¬ b < 2) → 1 ≤ b → True := fun _ _ => trivial
          by_cases c : l.length = 2
          · rw [decide_eq_true (show V.int ((l.length : Nat) : Int) = V.int 2 by rw [c]; rfl)]
            refine iteT ⟨_, rfl, _, _, rfl, rfl, _, rfl, ?_⟩
            by_cases cb : b < 2
            · rw [if_pos ⟨c, cb⟩] at q1'
              rw [decide_eq_true cb]
              exact iteT (q1' rfl _ s3)
            · rw [if_neg (fun z => cb z.2)] at q1' q2'
              rw [decide_eq_false cb]
              refine iteF ?_
              have b1 : 1 ≤ b := by omega
              refine ⟨_, rfl, x, _, 0, .int p, rfl, rfl, hx3, xp, _, _, rfl, rfl, _, rfl, ?_⟩
              by_cases cp : 0 < p
              · rw [decide_eq_true cp]
                refine iteT ⟨_, rfl, _, _, rfl, rfl, _, rfl, ?_⟩
                have p0 : p ≠ 0 := by omega
                by_cases cb1 : 1 < b
                · rw [if_pos (.inl ⟨cp, .inl cb1⟩)] at q1'
                  rw [decide_eq_true (show b > 1 from cb1)]
                  exact iteT (iteT (iteT (q1' rfl _ s3)))
                · rw [decide_eq_false (show ¬ b > 1 from cb1)]
                  refine iteF ?_
                  refine ⟨_, rfl, 0, a, rfl, rfl, _, rfl, ?_⟩
                  by_cases ca : 0 ≤ a
                  · rw [decide_eq_true ca]
                    refine iteT ⟨_, rfl, x, _, 0, .int p, rfl, rfl, hx3, xp, _, _, rfl, rfl, _, rfl, ?_⟩
                    by_cases ca2 : a < p
                    · rw [decide_eq_true ca2]
                      rw [if_neg (fun z => z.elim (fun y => y.2.elim cb1 (fun u => u ⟨ca, ca2⟩)) (fun y => p0 y.1))] at q2'
                      refine iteF ?_
                      refine ⟨_, rfl, x, _, 0, .int p, rfl, rfl, hx3, xp, rfl, _, rfl, ?_⟩
                      rw [decide_eq_false (fun z => p0 (V.int.inj z))]
                      exact iteF (iteF ⟨_, rfl, _, rfl, (by show 2 ≤ sizeLine; decide), fun r5 n5 => q2' a b rfl r5 _ (Same.trans s3 (same_upd n5)) upd_same⟩)
                    · rw [decide_eq_false ca2]
                      rw [if_pos (.inl ⟨cp, .inr (fun z => ca2 z.2)⟩)] at q1'
                      exact iteT (iteT (q1' rfl _ s3))
                  · rw [decide_eq_false ca]
                    rw [if_pos (.inl ⟨cp, .inr (fun z => ca z.1)⟩)] at q1'
                    exact iteF ⟨_, rfl, iteT (iteT (q1' rfl _ s3))⟩
              · rw [decide_eq_false cp]
                refine iteF ?_
                have p0 : p = 0 := by omega
                refine iteF ?_
                refine ⟨_, rfl, x, _, 0, .int p, rfl, rfl, hx3, xp, rfl, _, rfl, ?_⟩
                rw [decide_eq_true (congrArg V.int p0)]
                refine iteT ⟨_, rfl, _, rfl, a, b, rfl, by omega, by omega, fun r5 n5 => ?_⟩
                refine ⟨_, rfl, _, rfl, (by show 2 ≤ sizeLine; decide), fun r6 n6 => ?_⟩
                have n56 : r5 ≠ r6 := ne_of_none upd_same n6
                have s36 : Same H (upd (upd H3 r5 (.tup [V.int (low a b).1, V.int (low a b).2])) r6 (.tup [vInt (some a), vInt (some b)])) := Same.trans s3 (Same.trans (same_upd n5) (same_upd n6))
                have h5 : upd (upd H3 r5 (.tup [V.int (low a b).1, V.int (low a b).2])) r6 (.tup [vInt (some a), vInt (some b)]) r5 = some (.tup [V.int (low a b).1, V.int (low a b).2]) := by rw [upd_ne n56, upd_same]
                have h6 : upd (upd H3 r5 (.tup [V.int (low a b).1, V.int (low a b).2])) r6 (.tup [vInt (some a), vInt (some b)]) r6 = some (.tup [V.int a, V.int b]) := upd_same
                revert s36 h5 h6
                generalize upd (upd H3 r5 (.tup [V.int (low a b).1, V.int (low a b).2])) r6 (.tup [vInt (some a), vInt (some b)]) = H6
                intro s36 h5 h6
                refine ⟨_, _, .tup (.inl (.inl h5)) (.cons (.int _) (.cons (.int _) .nil)), .tup (.inl (.inl h6)) (.cons (.int _) (.cons (.int _) .nil)), rfl, rfl, ?_⟩
                by_cases cl : low a b = (a, b)
                · rw [if_neg (fun z => z.elim (fun y => cp y.1) (fun y => y.2 cl))] at q2'
                  rw [cl, eqv_pair]
                  exact ⟨_, rfl, iteF ⟨_, rfl, _, rfl, (by show 2 ≤ sizeLine; decide), fun r7 n7 => q2' a b rfl r7 _ (Same.trans s36 (same_upd n7)) upd_same⟩⟩
                · rw [if_pos (.inr ⟨p0, cl⟩)] at q1'
                  rw [ne_low cl]
                  exact ⟨_, rfl, iteT (q1' rfl _ s36)⟩
          · rw [decide_eq_false (fun z => c (by have := V.int.inj z; omega))]
            rw [if_neg (fun z => c z.1)] at q1' q2'
            refine iteF (iteF ?_)
            have b1 : 1 ≤ b := by
              have := Option.some.inj (hB c)
              omega
            refine ⟨_, rfl, x, _, 0, .int p, rfl, rfl, hx3, xp, _, _, rfl, rfl, _, rfl, ?_⟩
            by_cases cp : 0 < p
            · rw [decide_eq_true cp]
              refine iteT ⟨_, rfl, _, _, rfl, rfl, _, rfl, ?_⟩
              have p0 : p ≠ 0 := by omega
              by_cases cb1 : 1 < b
              · rw [if_pos (.inl ⟨cp, .inl cb1⟩)] at q1'
                rw [decide_eq_true (show b > 1 from cb1)]
                exact iteT (iteT (iteT (q1' rfl _ s3)))
              · rw [decide_eq_false (show ¬ b > 1 from cb1)]
                refine iteF ?_
                refine ⟨_, rfl, 0, a, rfl, rfl, _, rfl, ?_⟩
                by_cases ca : 0 ≤ a
                · rw [decide_eq_true ca]
                  refine iteT ⟨_, rfl, x, _, 0, .int p, rfl, rfl, hx3, xp, _, _, rfl, rfl, _, rfl, ?_⟩
                  by_cases ca2 : a < p
                  · rw [decide_eq_true ca2]
                    rw [if_neg (fun z => z.elim (fun y => y.2.elim cb1 (fun u => u ⟨ca, ca2⟩)) (fun y => p0 y.1))] at q2'
                    refine iteF ?_
                    refine ⟨_, rfl, x, _, 0, .int p, rfl, rfl, hx3, xp, rfl, _, rfl, ?_⟩
                    rw [decide_eq_false (fun z => p0 (V.int.inj z))]
                    exact iteF (iteF ⟨_, rfl, _, rfl, (by show 2 ≤ sizeLine; decide), fun r5 n5 => q2' a b rfl r5 _ (Same.trans s3 (same_upd n5)) upd_same⟩)
                  · rw [decide_eq_false ca2]
                    rw [if_pos (.inl ⟨cp, .inr (fun z => ca2 z.2)⟩)] at q1'
                    exact iteT (iteT (q1' rfl _ s3))
                · rw [decide_eq_false ca]
                  rw [if_pos (.inl ⟨cp, .inr (fun z => ca z.1)⟩)] at q1'
                  exact iteF ⟨_, rfl, iteT (iteT (q1' rfl _ s3))⟩
            · rw [decide_eq_false cp]
              refine iteF ?_
              have p0 : p = 0 := by omega
              refine iteF ?_
              refine ⟨_, rfl, x, _, 0, .int p, rfl, rfl, hx3, xp, rfl, _, rfl, ?_⟩
              rw [decide_eq_true (congrArg V.int p0)]
              refine iteT ⟨_, rfl, _, rfl, a, b, rfl, by omega, by omega, fun r5 n5 => ?_⟩
              refine ⟨_, rfl, _, rfl, (by show 2 ≤ sizeLine; decide), fun r6 n6 => ?_⟩
              have n56 : r5 ≠ r6 := ne_of_none upd_same n6
              have s36 : Same H (upd (upd H3 r5 (.tup [V.int (low a b).1, V.int (low a b).2])) r6 (.tup [vInt (some a), vInt (some b)])) := Same.trans s3 (Same.trans (same_upd n5) (same_upd n6))
              have h5 : upd (upd H3 r5 (.tup [V.int (low a b).1, V.int (low a b).2])) r6 (.tup [vInt (some a), vInt (some b)]) r5 = some (.tup [V.int (low a b).1, V.int (low a b).2]) := by rw [upd_ne n56, upd_same]
              have h6 : upd (upd H3 r5 (.tup [V.int (low a b).1, V.int (low a b).2])) r6 (.tup [vInt (some a), vInt (some b)]) r6 = some (.tup [V.int a, V.int b]) := upd_same
              revert s36 h5 h6
              generalize upd (upd H3 r5 (.tup [V.int (low a b).1, V.int (low a b).2])) r6 (.tup [vInt (some a), vInt (some b)]) = H6
              intro s36 h5 h6
              refine ⟨_, _, .tup (.inl (.inl h5)) (.cons (.int _) (.cons (.int _) .nil)), .tup (.inl (.inl h6)) (.cons (.int _) (.cons (.int _) .nil)), rfl, rfl, ?_⟩
              by_cases cl : low a b = (a, b)
              · rw [if_neg (fun z => z.elim (fun y => cp y.1) (fun y => y.2 cl))] at q2'
                rw [cl, eqv_pair]
                exact ⟨_, rfl, iteF ⟨_, rfl, _, rfl, (by show 2 ≤ sizeLine; decide), fun r7 n7 => q2' a b rfl r7 _ (Same.trans s36 (same_upd n7)) upd_same⟩⟩
              · rw [if_pos (.inr ⟨p0, cl⟩)] at q1'
                rw [ne_low cl]
                exact ⟨_, rfl, iteT (q1' rfl _ s36)⟩
end

structure ErrM (K : PySem.W.Frag) (C : Addr) : Prop where
  bc : PySem.W.subIn K (.ref C) (.type "BaseException") = some true
  hd : PySem.W.hasDictIn K C = true
  ty : PySem.W.typeIn K (.ref C) = some (.type "type")
  sl : PySem.W.subIn K (.ref C) (.ref C) = some true
def vPair : Option (Int × Int) → V → Hp → Prop
  | none, v, _ => v = .str "!0"
  | some (a, b), v, H => ∃ r, v = .ref r ∧ H r = some (.tup [.int a, .int b])
section
variable {P : Program} {w : World} {K : PySem.W.Frag} {mg : Str → Option Value} {base : Heap}
/-! ### _law_told -/
def spTold3 (K : PySem.W.Frag) : Sp := fun vs H Q _ => ∃ (x : Addr) (p d : Int) (t : Str), vs = [.ref x, .str t] ∧ SqT K H x [.int p, .int d] ∧ isW p d = true ∧ t.length ≤ 500 ∧ rdPre t = true ∧ ∀ v H', Same H H' → vPair (readOk p t) v H' → Q v H'
theorem ok_told3 {f CW CM fI a_read_number : Addr} {fd fd_read_number : FuncData} (F : Fun K "_law_told" "_law_told" s_law_told f fd) (z_str : mg "str" = none) (OX_Malformed : MalC K mg CM fI) (XM : XfC K CM) (ZM : ErrM K CM)
    (G_read_number : FnOk P w K mg base (L2.CX P w) 7 a_read_number fd_read_number ["world", "text"] (spRead K CW CM)) (g_read_number : mg "read_number" = some (.ref a_read_number)) (k_read_number : PySem.W.keepIn K (.ref a_read_number) = true) (b_read_number : Binds K fd_read_number ["world", "text"] []) :
    FnOk P w K mg base CX0 8 f fd ["world", "text"] (spTold3 K) := by
  have gc_Malformed := OX_Malformed.gc
  have eM := PySem.W.exm_ref ZM.bc ZM.hd ZM.ty ZM.sl
  refine F.ok sc_law_told (fun vs H Q E h => ?_) (fun cdv A outer s H vs Q E hr1 h => ?_)
  · obtain ⟨x, p, d, t, rfl, _⟩ := h
    rfl
  · obtain ⟨x, p, d, t, rfl, hx, ew, lt, hpre, q⟩ := h
    refine ⟨_, (pss_one (ps_try_as (i := 2) (Wout := fun _ _ _ _ => False) rfl rfl sc_law_told.nd rfl rfl ⟨rfl, by decide, .inl gc_Malformed⟩ takes0 (fun W pn xe tk _ => by exact (pss_one (ps_ret (pe_callS G_read_number (hr1.mono (by decide)) rfl g_read_number k_read_number b_read_number (fun σ => passAt tk σ) (pa_cons (pv 0) (pa_cons (pv 1) pa_nil)))))) (fun ax oe cls dx pn hz hf => by exact (pss_one (ps_ret (pe_op op_add_str pe_str (pe_callTy call_str_int (by rfl) z_str boot_str (pa_cons (pe_xf XM OX_Malformed.na hz hf (pv 2)) pa_nil)))))))), ?_⟩
    have szl : 200 ≤ sizeLine := by decide
    refine ⟨_, rfl, _, rfl, x, p, d, t, rfl, hx, lt, hpre, fun z => (by rw [ew] at z; exact nomatch z), fun _ er dd H' s' nd hd => ?_, fun _ a b er r H' s' ht => ?_⟩
    · refine ⟨true, eM, fun _ ax nx => ?_, fun z => nomatch z⟩
      refine ⟨_, rfl, rfl, rfl, dd, _, .int 0, rfl, hd, rfl, 0, rfl, by decide, _, _, rfl, rfl, ?_, ?_⟩
      · have e1 : ("!" : Str).length = 1 := by decide +kernel
        have e2 : (Str.ofString (toString (0 : Int))).length = 1 := by decide +kernel
        rw [e1, e2]
        decide
      · refine q _ H' s' ?_
        rw [er]
        show V.str _ = V.str _
        congr 1
    · refine q (.ref r) H' s' ?_
      rw [er]
      exact ⟨r, rfl, ht⟩
/-! ### _law_refuses -/
def spRefuses : Sp := fun vs H Q _ => ∃ t : Str, vs = [.str t] ∧ t.length ≤ 500 ∧ rdPre t = true ∧ ∀ H', Q (.bl true) H'
theorem ok_law_refuses {f CW CM a_read_number : Addr} {fd fd_read_number : FuncData} (F : Fun K "_law_refuses" "_law_refuses" s_law_refuses f fd) (gc_NotWorld : mg "NotWorld" = some (.ref CW)) (ZW : ErrM K CW)
    (G_read_number : FnOk P w K mg base (L2.CX P w) 7 a_read_number fd_read_number ["world", "text"] (spRead K CW CM)) (g_read_number : mg "read_number" = some (.ref a_read_number)) (k_read_number : PySem.W.keepIn K (.ref a_read_number) = true) (b_read_number : Binds K fd_read_number ["world", "text"] []) :
    FnOk P w K mg base CX0 8 f fd ["text"] spRefuses := by
  have eW := PySem.W.exm_ref ZW.bc ZW.hd ZW.ty ZW.sl
  refine F.ok sc_law_refuses (fun vs H Q E h => ?_) (fun cdv A outer s H vs Q E hr1 h => ?_)
  · obtain ⟨t, rfl, _⟩ := h
    rfl
  · obtain ⟨t, rfl, lt, hpre, q⟩ := h
    refine ⟨_, (pss_cons (ps_try_only (Wout := fun _ _ _ _ => False) rfl rfl ⟨rfl, by decide, .inl gc_NotWorld⟩ takes0 (fun W pn xe tk _ => by exact (pss_one (ps_expr (pe_callS G_read_number (hr1.mono (by decide)) rfl g_read_number k_read_number b_read_number (fun σ => passAt tk σ) (pa_cons (pe_tup (pa_cons pe_int (pa_cons pe_int pa_nil))) (pa_cons (pv 0) pa_nil)))))) (fun ax oe cls dx pn hz hf => by exact (pss_one (ps_ret pe_bl))))
  (pss_one (ps_ret pe_bl))), ?_⟩
    refine ⟨(by show 2 ≤ sizeLine; decide), fun r nr => ?_⟩
    exact ⟨_, rfl, r, 4, 1, t, rfl, .inl (.inl upd_same), lt, hpre, fun _ => ⟨true, eW, fun _ ax nx => q _, fun z => (nomatch z)⟩, fun z => (nomatch (show false = true from z)), fun z => (nomatch (show false = true from z))⟩
end

def badT (t : Str) (ws : List Str) : Bool := !(ws.all shortW) || (!decide (numTx (rdPair ws).1 (rdPair ws).2 = t) || decide ((rdPair ws).2 < 1))
def goodT (t : Str) (ws : List Str) (a b : Int) : Bool := ws.all shortW && (decide (rdPair ws = (a, b)) && (decide (numTx a b = t) && decide (1 ≤ b)))
def chkE (t : Str) (ws : List Str) : Option Int → Option Int → Bool
  | none, _ => badT t ws
  | some _, none => badT t ws
  | some a, some b => if ws.length = 2 ∧ b < 2 then badT t ws else goodT t ws a b
def chkW (t : Str) : Bool := decide (2 < (Txt.split t "/").length) || chkE t (Txt.split t "/") (wholeF ((Txt.split t "/").getD 0 "")) (dueB (Txt.split t "/"))
def chkT (t : Str) : Bool := decide (t.length ≤ 500) && (rdPre t && (duePre t && (chkW t && (!((Txt.split t "/").all shortW) || decide ((rdPair (Txt.split t "/")).1.natAbs < 10 ^ 60 ∧ (rdPair (Txt.split t "/")).2.natAbs < 10 ^ 60)))))
def chars : List Nat := [48, 45, 47, 32, 49]
def putT (t : Str) (k : Int) (c : Nat) : Str := cutS t none (some k) ++ ⟨#[c]⟩ ++ cutS t (some k) none
def outT (t : Str) (k : Int) : Str := cutS t none (some k) ++ cutS t (some (k + 1)) none
def allT (t : Str) : Bool := chkT t && (List.range (t.length + 1)).all (fun k => chkT (outT t (k : Int)) && chars.all (fun c => chkT (putT t (k : Int) c)))
def someA : List Str := ["", "-", "-0", "00", "7", "+1", "1/1", "2/4", "3/-2", "1/2/3", "/2", "1/", " 1", "1 "]
def someT : List Str := someA ++ [Txt.mul "9" 60, Txt.mul "9" 61, "-3/7", "x"]
theorem some_ok : someT.all chkT = true := by decide +kernel

theorem nt0 : allT (numTx 0 1) = true := by decide +kernel
theorem nt1 : allT (numTx 1 1) = true := by decide +kernel
theorem nt2 : allT (numTx 2 1) = true := by decide +kernel
theorem nt3 : allT (numTx 3 1) = true := by decide +kernel
theorem nt4 : allT (numTx 4 1) = true := by decide +kernel
theorem nt5 : allT (numTx 5 1) = true := by decide +kernel
theorem nt6 : allT (numTx 6 1) = true := by decide +kernel
theorem nt7 : allT (numTx 7 1) = true := by decide +kernel
theorem nt8 : allT (numTx 8 1) = true := by decide +kernel
theorem nt9 : allT (numTx 9 1) = true := by decide +kernel
theorem nt10 : allT (numTx 10 1) = true := by decide +kernel
theorem nt11 : allT (numTx 11 1) = true := by decide +kernel
theorem nt12 : allT (numTx 12 1) = true := by decide +kernel
theorem nt13 : allT (numTx 13 1) = true := by decide +kernel
theorem nt14 : allT (numTx 14 1) = true := by decide +kernel
theorem nt15 : allT (numTx 15 1) = true := by decide +kernel
theorem nt16 : allT (numTx 16 1) = true := by decide +kernel
theorem nt17 : allT (numTx 17 1) = true := by decide +kernel
theorem nt18 : allT (numTx 18 1) = true := by decide +kernel
theorem nt19 : allT (numTx 19 1) = true := by decide +kernel
theorem nt20 : allT (numTx 20 1) = true := by decide +kernel
theorem nt21 : allT (numTx 21 1) = true := by decide +kernel
theorem nt22 : allT (numTx 22 1) = true := by decide +kernel
theorem nt23 : allT (numTx 23 1) = true := by decide +kernel
theorem nt24 : allT (numTx 24 1) = true := by decide +kernel
theorem nt25 : allT (numTx 25 1) = true := by decide +kernel
theorem nt26 : allT (numTx 26 1) = true := by decide +kernel
theorem nt27 : allT (numTx 27 1) = true := by decide +kernel
theorem nt28 : allT (numTx 28 1) = true := by decide +kernel
theorem nt29 : allT (numTx 29 1) = true := by decide +kernel
theorem nt30 : allT (numTx 30 1) = true := by decide +kernel
theorem nat_okN : ∀ n : Nat, n < 31 → allT (numTx (n : Int) 1) = true
  | 0, _ => nt0
  | 1, _ => nt1
  | 2, _ => nt2
  | 3, _ => nt3
  | 4, _ => nt4
  | 5, _ => nt5
  | 6, _ => nt6
  | 7, _ => nt7
  | 8, _ => nt8
  | 9, _ => nt9
  | 10, _ => nt10
  | 11, _ => nt11
  | 12, _ => nt12
  | 13, _ => nt13
  | 14, _ => nt14
  | 15, _ => nt15
  | 16, _ => nt16
  | 17, _ => nt17
  | 18, _ => nt18
  | 19, _ => nt19
  | 20, _ => nt20
  | 21, _ => nt21
  | 22, _ => nt22
  | 23, _ => nt23
  | 24, _ => nt24
  | 25, _ => nt25
  | 26, _ => nt26
  | 27, _ => nt27
  | 28, _ => nt28
  | 29, _ => nt29
  | 30, _ => nt30
  | n + 31, h => absurd h (by omega)
theorem nat_ok (n : Fin 31) : allT (numTx (n.val : Int) 1) = true := nat_okN n.val n.isLt
theorem ft0_1 : allT (numTx (-9) 1) = true := by decide +kernel
theorem ft0_2 : allT (numTx (-9) 2) = true := by decide +kernel
theorem ft0_3 : allT (numTx (-9) 3) = true := by decide +kernel
theorem ft0_4 : allT (numTx (-9) 4) = true := by decide +kernel
theorem ft1_1 : allT (numTx (-8) 1) = true := by decide +kernel
theorem ft1_2 : allT (numTx (-8) 2) = true := by decide +kernel
theorem ft1_3 : allT (numTx (-8) 3) = true := by decide +kernel
theorem ft1_4 : allT (numTx (-8) 4) = true := by decide +kernel
theorem ft2_1 : allT (numTx (-7) 1) = true := by decide +kernel
theorem ft2_2 : allT (numTx (-7) 2) = true := by decide +kernel
theorem ft2_3 : allT (numTx (-7) 3) = true := by decide +kernel
theorem ft2_4 : allT (numTx (-7) 4) = true := by decide +kernel
theorem ft3_1 : allT (numTx (-6) 1) = true := by decide +kernel
theorem ft3_2 : allT (numTx (-6) 2) = true := by decide +kernel
theorem ft3_3 : allT (numTx (-6) 3) = true := by decide +kernel
theorem ft3_4 : allT (numTx (-6) 4) = true := by decide +kernel
theorem ft4_1 : allT (numTx (-5) 1) = true := by decide +kernel
theorem ft4_2 : allT (numTx (-5) 2) = true := by decide +kernel
theorem ft4_3 : allT (numTx (-5) 3) = true := by decide +kernel
theorem ft4_4 : allT (numTx (-5) 4) = true := by decide +kernel
theorem ft5_1 : allT (numTx (-4) 1) = true := by decide +kernel
theorem ft5_2 : allT (numTx (-4) 2) = true := by decide +kernel
theorem ft5_3 : allT (numTx (-4) 3) = true := by decide +kernel
theorem ft5_4 : allT (numTx (-4) 4) = true := by decide +kernel
theorem ft6_1 : allT (numTx (-3) 1) = true := by decide +kernel
theorem ft6_2 : allT (numTx (-3) 2) = true := by decide +kernel
theorem ft6_3 : allT (numTx (-3) 3) = true := by decide +kernel
theorem ft6_4 : allT (numTx (-3) 4) = true := by decide +kernel
theorem ft7_1 : allT (numTx (-2) 1) = true := by decide +kernel
theorem ft7_2 : allT (numTx (-2) 2) = true := by decide +kernel
theorem ft7_3 : allT (numTx (-2) 3) = true := by decide +kernel
theorem ft7_4 : allT (numTx (-2) 4) = true := by decide +kernel
theorem ft8_1 : allT (numTx (-1) 1) = true := by decide +kernel
theorem ft8_2 : allT (numTx (-1) 2) = true := by decide +kernel
theorem ft8_3 : allT (numTx (-1) 3) = true := by decide +kernel
theorem ft8_4 : allT (numTx (-1) 4) = true := by decide +kernel
theorem ft9_2 : allT (numTx (0) 2) = true := by decide +kernel
theorem ft9_3 : allT (numTx (0) 3) = true := by decide +kernel
theorem ft9_4 : allT (numTx (0) 4) = true := by decide +kernel
theorem ft10_2 : allT (numTx (1) 2) = true := by decide +kernel
theorem ft10_3 : allT (numTx (1) 3) = true := by decide +kernel
theorem ft10_4 : allT (numTx (1) 4) = true := by decide +kernel
theorem ft11_2 : allT (numTx (2) 2) = true := by decide +kernel
theorem ft11_3 : allT (numTx (2) 3) = true := by decide +kernel
theorem ft11_4 : allT (numTx (2) 4) = true := by decide +kernel
theorem ft12_2 : allT (numTx (3) 2) = true := by decide +kernel
theorem ft12_3 : allT (numTx (3) 3) = true := by decide +kernel
theorem ft12_4 : allT (numTx (3) 4) = true := by decide +kernel
theorem ft13_2 : allT (numTx (4) 2) = true := by decide +kernel
theorem ft13_3 : allT (numTx (4) 3) = true := by decide +kernel
theorem ft13_4 : allT (numTx (4) 4) = true := by decide +kernel
theorem ft14_2 : allT (numTx (5) 2) = true := by decide +kernel
theorem ft14_3 : allT (numTx (5) 3) = true := by decide +kernel
theorem ft14_4 : allT (numTx (5) 4) = true := by decide +kernel
theorem ft15_2 : allT (numTx (6) 2) = true := by decide +kernel
theorem ft15_3 : allT (numTx (6) 3) = true := by decide +kernel
theorem ft15_4 : allT (numTx (6) 4) = true := by decide +kernel
theorem ft16_2 : allT (numTx (7) 2) = true := by decide +kernel
theorem ft16_3 : allT (numTx (7) 3) = true := by decide +kernel
theorem ft16_4 : allT (numTx (7) 4) = true := by decide +kernel
theorem ft17_2 : allT (numTx (8) 2) = true := by decide +kernel
theorem ft17_3 : allT (numTx (8) 3) = true := by decide +kernel
theorem ft17_4 : allT (numTx (8) 4) = true := by decide +kernel
theorem ft18_2 : allT (numTx (9) 2) = true := by decide +kernel
theorem ft18_3 : allT (numTx (9) 3) = true := by decide +kernel
theorem ft18_4 : allT (numTx (9) 4) = true := by decide +kernel
theorem frac_okN : ∀ n m : Nat, n < 19 → m < 4 → allT (numTx ((n : Int) - 9) ((m : Int) + 1)) = true
  | 0, 0, _, _ => ft0_1
  | 0, 1, _, _ => ft0_2
  | 0, 2, _, _ => ft0_3
  | 0, 3, _, _ => ft0_4
  | 1, 0, _, _ => ft1_1
  | 1, 1, _, _ => ft1_2
  | 1, 2, _, _ => ft1_3
  | 1, 3, _, _ => ft1_4
  | 2, 0, _, _ => ft2_1
  | 2, 1, _, _ => ft2_2
  | 2, 2, _, _ => ft2_3
  | 2, 3, _, _ => ft2_4
  | 3, 0, _, _ => ft3_1
  | 3, 1, _, _ => ft3_2
  | 3, 2, _, _ => ft3_3
  | 3, 3, _, _ => ft3_4
  | 4, 0, _, _ => ft4_1
  | 4, 1, _, _ => ft4_2
  | 4, 2, _, _ => ft4_3
  | 4, 3, _, _ => ft4_4
  | 5, 0, _, _ => ft5_1
  | 5, 1, _, _ => ft5_2
  | 5, 2, _, _ => ft5_3
  | 5, 3, _, _ => ft5_4
  | 6, 0, _, _ => ft6_1
  | 6, 1, _, _ => ft6_2
  | 6, 2, _, _ => ft6_3
  | 6, 3, _, _ => ft6_4
  | 7, 0, _, _ => ft7_1
  | 7, 1, _, _ => ft7_2
  | 7, 2, _, _ => ft7_3
  | 7, 3, _, _ => ft7_4
  | 8, 0, _, _ => ft8_1
  | 8, 1, _, _ => ft8_2
  | 8, 2, _, _ => ft8_3
  | 8, 3, _, _ => ft8_4
  | 9, 0, _, _ => nt0
  | 9, 1, _, _ => ft9_2
  | 9, 2, _, _ => ft9_3
  | 9, 3, _, _ => ft9_4
  | 10, 0, _, _ => nt1
  | 10, 1, _, _ => ft10_2
  | 10, 2, _, _ => ft10_3
  | 10, 3, _, _ => ft10_4
  | 11, 0, _, _ => nt2
  | 11, 1, _, _ => ft11_2
  | 11, 2, _, _ => ft11_3
  | 11, 3, _, _ => ft11_4
  | 12, 0, _, _ => nt3
  | 12, 1, _, _ => ft12_2
  | 12, 2, _, _ => ft12_3
  | 12, 3, _, _ => ft12_4
  | 13, 0, _, _ => nt4
  | 13, 1, _, _ => ft13_2
  | 13, 2, _, _ => ft13_3
  | 13, 3, _, _ => ft13_4
  | 14, 0, _, _ => nt5
  | 14, 1, _, _ => ft14_2
  | 14, 2, _, _ => ft14_3
  | 14, 3, _, _ => ft14_4
  | 15, 0, _, _ => nt6
  | 15, 1, _, _ => ft15_2
  | 15, 2, _, _ => ft15_3
  | 15, 3, _, _ => ft15_4
  | 16, 0, _, _ => nt7
  | 16, 1, _, _ => ft16_2
  | 16, 2, _, _ => ft16_3
  | 16, 3, _, _ => ft16_4
  | 17, 0, _, _ => nt8
  | 17, 1, _, _ => ft17_2
  | 17, 2, _, _ => ft17_3
  | 17, 3, _, _ => ft17_4
  | 18, 0, _, _ => nt9
  | 18, 1, _, _ => ft18_2
  | 18, 2, _, _ => ft18_3
  | 18, 3, _, _ => ft18_4
  | n + 19, _, h, _ => absurd h (by omega)
  | 0, m + 4, _, h => absurd h (by omega)
  | 1, m + 4, _, h => absurd h (by omega)
  | 2, m + 4, _, h => absurd h (by omega)
  | 3, m + 4, _, h => absurd h (by omega)
  | 4, m + 4, _, h => absurd h (by omega)
  | 5, m + 4, _, h => absurd h (by omega)
  | 6, m + 4, _, h => absurd h (by omega)
  | 7, m + 4, _, h => absurd h (by omega)
  | 8, m + 4, _, h => absurd h (by omega)
  | 9, m + 4, _, h => absurd h (by omega)
  | 10, m + 4, _, h => absurd h (by omega)
  | 11, m + 4, _, h => absurd h (by omega)
  | 12, m + 4, _, h => absurd h (by omega)
  | 13, m + 4, _, h => absurd h (by omega)
  | 14, m + 4, _, h => absurd h (by omega)
  | 15, m + 4, _, h => absurd h (by omega)
  | 16, m + 4, _, h => absurd h (by omega)
  | 17, m + 4, _, h => absurd h (by omega)
  | 18, m + 4, _, h => absurd h (by omega)
theorem frac_ok (n : Fin 19) (m : Fin 4) : allT (numTx ((n.val : Int) - 9) ((m.val : Int) + 1)) = true := frac_okN n.val m.val n.isLt m.isLt

theorem isN_lt {p a b : Int} (h : b < 1) : isN p a b = false := by
  unfold isN
  by_cases c : p = 0
  · rw [if_pos c, if_neg (by omega)]
  · rw [if_neg c, if_neg (by omega)]
theorem isN_iff {p a b : Int} (hp : p = 0 ∨ p ∈ primes) (hb : 1 ≤ b) : isN p a b = true ↔ ¬ ((0 < p ∧ (1 < b ∨ ¬ (0 ≤ a ∧ a < p))) ∨ (p = 0 ∧ low a b ≠ (a, b))) := by
  unfold isN
  by_cases c : p = 0
  · rw [if_pos c, if_pos hb, decide_eq_true_iff, ← low_self (by omega)]
    exact ⟨fun h z => z.elim (fun y => by omega) (fun y => y.2 h), fun h => Decidable.byContradiction fun n => h (.inr ⟨c, n⟩)⟩
  · have hp2 := prime_pos (hp.resolve_left c)
    rw [if_neg c]
    by_cases c1 : b = 1
    · rw [if_pos c1]
      by_cases c2 : 0 ≤ a
      · rw [if_pos c2, decide_eq_true_iff]
        exact ⟨fun h z => z.elim (fun y => y.2.elim (fun u => by omega) (fun u => u ⟨c2, h⟩)) (fun y => c y.1), fun h => Decidable.byContradiction fun n => h (.inl ⟨by omega, .inr (fun u => n u.2)⟩)⟩
      · rw [if_neg c2]
        exact ⟨fun z => (nomatch z), fun h => absurd (Or.inl ⟨by omega, Or.inr (fun u => c2 u.1)⟩) h⟩
    · rw [if_neg c1]
      exact ⟨fun z => (nomatch z), fun h => absurd (Or.inl ⟨by omega, Or.inl (by omega)⟩) h⟩
theorem chk_agree {t : Str} (h : chkW t = true) {p : Int} (hp : p = 0 ∨ p ∈ primes) : dueF p t = readOk p t := by
  unfold chkW at h
  unfold dueF readOk
  generalize Txt.split t "/" = ws at *
  by_cases c2 : 2 < ws.length
  · rw [if_pos c2, if_pos c2]
  rw [if_neg c2, if_neg c2]
  rw [decide_eq_false c2, Bool.false_or] at h
  generalize wholeF (ws.getD 0 "") = A at *
  generalize dueB ws = B at *
  have bad : badT t ws = true → (none : Option (Int × Int)) = (if ws.all shortW = false then none else if isN p (rdPair ws).1 (rdPair ws).2 = false then none else if numTx (rdPair ws).1 (rdPair ws).2 = t then some (rdPair ws) else none) := fun hb => by
    unfold badT at hb
    by_cases c : ws.all shortW = false
    · rw [if_pos c]
    rw [if_neg c]
    by_cases c1 : isN p (rdPair ws).1 (rdPair ws).2 = false
    · rw [if_pos c1]
    rw [if_neg c1]
    by_cases c3 : numTx (rdPair ws).1 (rdPair ws).2 = t
    · have c4 : ¬ (rdPair ws).2 < 1 := fun z => c1 (isN_lt z)
      have c5 : ws.all shortW = true := by
        cases e : ws.all shortW with
        | true => rfl
        | false => exact absurd e c
      rw [c5, decide_eq_true c3, decide_eq_false c4] at hb
      exact nomatch hb
    · rw [if_neg c3]
  cases A with
  | none => exact bad h
  | some a =>
    cases B with
    | none => exact bad h
    | some b =>
      have h : (if ws.length = 2 ∧ b < 2 then badT t ws else goodT t ws a b) = true := h
      show (if ws.length = 2 ∧ b < 2 then (none : Option (Int × Int)) else if (0 < p ∧ (1 < b ∨ ¬ (0 ≤ a ∧ a < p))) ∨ (p = 0 ∧ low a b ≠ (a, b)) then none else some (a, b)) = _
      by_cases c : ws.length = 2 ∧ b < 2
      · rw [if_pos c] at h
        rw [if_pos c]
        exact bad h
      · rw [if_neg c] at h
        rw [if_neg c]
        unfold goodT at h
        simp only [Bool.and_eq_true, decide_eq_true_eq] at h
        obtain ⟨h1, h2, h3, h4⟩ := h
        rw [h1, h2, if_neg (show ¬ (true = false) from fun z => (nomatch z))]
        show _ = (if isN p a b = false then none else if numTx a b = t then some (a, b) else none)
        by_cases cc : (0 < p ∧ (1 < b ∨ ¬ (0 ≤ a ∧ a < p))) ∨ (p = 0 ∧ low a b ≠ (a, b))
        · rw [if_pos cc]
          have : isN p a b = false := by
            cases e : isN p a b with
            | false => rfl
            | true => exact absurd cc ((isN_iff hp h4).mp e)
          rw [this, if_pos rfl]
        · rw [if_neg cc, (isN_iff hp h4).mpr cc, if_neg (show ¬ (true = false) from fun z => (nomatch z)), if_pos h3]

structure SmL (n k : Nat) (D : PyData) : Prop where
  lay : D.canLay0 = true
  dep : D.depth ≤ n
  sho : D.showable = true
  wgt : wt D ≤ k
theorem smL_all {n k : Nat} : ∀ {ds : List PyData}, (∀ D ∈ ds, SmL n k D) → PyData.canLayAll0 ds = true ∧ PyData.depthAll ds ≤ n ∧ PyData.showableAll ds = true ∧ wtAll ds ≤ (k + 2) * ds.length
  | [], _ => ⟨by simp [PyData.canLayAll0], by simp [PyData.depthAll], by simp [PyData.showableAll], by simp [wtAll]⟩
  | D :: ds, h => by
    obtain ⟨h1, h2, h3, h4⟩ := smL_all (ds := ds) fun E hE => h E (List.mem_cons_of_mem _ hE)
    have g := h D List.mem_cons_self
    refine ⟨by simp [PyData.canLayAll0, g.lay, h1], ?_, by simp [PyData.showableAll, g.sho, h3], ?_⟩
    · simp only [PyData.depthAll]
      have := g.dep
      omega
    · simp only [wtAll, List.length_cons, Nat.mul_add]
      have := g.wgt
      omega
theorem smL_list {n k : Nat} {ds : List PyData} (h : ∀ D ∈ ds, SmL n k D) : SmL (n + 1) ((k + 2) * ds.length + 3) (.list ds) := by
  obtain ⟨h1, h2, h3, h4⟩ := smL_all h
  exact ⟨by simp [PyData.canLay0, h1], by simp only [PyData.depth]; omega, by simp [PyData.showable, h3], by simp only [wt]; omega⟩
theorem smL_tuple {n k : Nat} {ds : List PyData} (h : ∀ D ∈ ds, SmL n k D) : SmL (n + 1) ((k + 2) * ds.length + 3) (.tuple ds) := by
  obtain ⟨h1, h2, h3, h4⟩ := smL_all h
  exact ⟨by simp [PyData.canLay0, h1], by simp only [PyData.depth]; omega, by simp [PyData.showable, h3], by simp only [wt]; omega⟩
theorem SmL.shaped {n k : Nat} {D : PyData} (h : SmL n k D) (hn : n ≤ 64) : SeqAt.shaped D = true := by
  show (PyData.canLay0 D && decide (PyData.depth D ≤ 64)) = true
  rw [h.lay, decide_eq_true (Nat.le_trans h.dep hn)]
  rfl
theorem SmL.wide {n k : Nat} {D : PyData} (h : SmL n k D) (hk : k ≤ 16777216) : wt D ≤ sizeLine := by
  rw [sizeLine_eq]
  exact Nat.le_trans h.wgt hk
theorem small_log {i : Int} (h : i.natAbs < 2 ^ 200) : i.natAbs.log2 < 1920 := by
  by_cases e : i.natAbs = 0
  · rw [e]
    decide
  · exact (Nat.log2_lt e).mpr (Nat.lt_of_lt_of_le h (Nat.pow_le_pow_right (by decide) (by decide)))
theorem smL_int {i : Int} (h : i.natAbs < 2 ^ 200) : SmL 0 1921 (.int i) := ⟨by simp [PyData.canLay0], by simp [PyData.depth], by simp [PyData.showable, small_log h], by simp only [wt]; omega⟩
theorem smL_pair {u v : Int} (hu : u.natAbs < 2 ^ 200) (hv : v.natAbs < 2 ^ 200) : SmL 1 4000 (.tuple [.int u, .int v]) := by
  have h := smL_tuple (ds := [.int u, .int v]) (n := 0) (k := 1921) fun D hD => by
    rcases List.mem_cons.mp hD with rfl | hD
    · exact smL_int hu
    · rcases List.mem_cons.mp hD with rfl | hD
      · exact smL_int hv
      · cases hD
  exact ⟨h.lay, h.dep, h.sho, Nat.le_trans h.wgt (by show (1921 + 2) * 2 + 3 ≤ 4000; decide)⟩
theorem ok_n : PyData.strOk ("!n" : Str) = true := by decide +kernel
theorem ok_b : PyData.strOk ("!b" : Str) = true := by decide +kernel
theorem ok_w : PyData.strOk ("!w" : Str) = true := by decide +kernel
theorem rl_n : (reprText ("!n" : Str)).length = 4 := by decide +kernel
theorem rl_b : (reprText ("!b" : Str)).length = 4 := by decide +kernel
theorem rl_w : (reprText ("!w" : Str)).length = 4 := by decide +kernel
theorem smL_n : SmL 1 4000 (.str "!n") := ⟨by simp [PyData.canLay0, ok_n], by simp [PyData.depth], by simp [PyData.showable], by simp only [wt, rl_n]; omega⟩
theorem smL_b : SmL 1 4000 (.str "!b") := ⟨by simp [PyData.canLay0, ok_b], by simp [PyData.depth], by simp [PyData.showable], by simp only [wt, rl_b]; omega⟩
theorem smL_w : SmL 1 4000 (.str "!w") := ⟨by simp [PyData.canLay0, ok_w], by simp [PyData.depth], by simp [PyData.showable], by simp only [wt, rl_w]; omega⟩
theorem smL_non : SmL 1 4000 .none := ⟨by simp [PyData.canLay0], by simp [PyData.depth], by simp [PyData.showable], by simp only [wt]; omega⟩
theorem smL_bool (b : Bool) : SmL 1 4000 (.bool b) := ⟨by simp [PyData.canLay0], by simp [PyData.depth], by simp [PyData.showable], by simp only [wt]; omega⟩

theorem isN_pos {p a b : Int} (h : isN p a b = true) (hp : p = 0 ∨ p ∈ primes) : (p = 0 → 0 < b) ∧ (p ≠ 0 → b = 1 ∧ 0 ≤ a ∧ a < p) := by
  unfold isN at h
  constructor
  · intro c
    rw [if_pos c] at h
    by_cases e : 1 ≤ b
    · omega
    · rw [if_neg e] at h
      cases h
  · intro c
    rw [if_neg c] at h
    by_cases e : b = 1
    · rw [if_pos e] at h
      by_cases e2 : 0 ≤ a
      · rw [if_pos e2] at h
        exact ⟨e, e2, of_decide_eq_true h⟩
      · rw [if_neg e2] at h
        cases h
    · rw [if_neg e] at h
      cases h

theorem op_mul_str {X : Cx} : OpR X (binaryOp .Mult) (fun x y H Q => ∃ (i : Str) (n : Int), x = .str i ∧ y = .int n ∧ MulOk i n ∧ Q (.str (Txt.mul i n)) H) := by
  intro pins s σ H x y v u Q I rx ry h
  obtain ⟨i, n, rfl, rfl, hc, q⟩ := h
  obtain ⟨t, rfl⟩ := rx
  obtain ⟨t', rfl⟩ := ry
  exact PySem.SB.mul hc (fun t2 k => ⟨.str _, H, I.tok k, ⟨_, rfl⟩, q⟩)
def pD : Option (Int × Int) → PyData
  | none => .str "!0"
  | some (a, b) => .tuple [.int a, .int b]
theorem vPair_dp {K : PySem.W.Frag} {o : Option (Int × Int)} {v : V} {H : Hp} (h : vPair o v H) : Dp K H v (pD o) := by
  cases o with
  | none =>
    obtain rfl : v = .str "!0" := h
    exact .str _
  | some ab =>
    obtain ⟨a, b⟩ := ab
    obtain ⟨r, rfl, hr⟩ := h
    exact .tup (.inl (.inl hr)) (.cons (.int _) (.cons (.int _) .nil))
theorem vPair_same {o : Option (Int × Int)} {v : V} {H H' : Hp} (s : Same H H') (h : vPair o v H) : vPair o v H' := by
  cases o with
  | none => exact h
  | some ab =>
    obtain ⟨a, b⟩ := ab
    obtain ⟨r, rfl, hr⟩ := h
    exact ⟨r, rfl, s _ _ hr⟩
theorem ok_0 : PyData.strOk ("!0" : Str) = true := by decide +kernel
theorem rl_0 : (reprText ("!0" : Str)).length = 4 := by decide +kernel
theorem smL_0 : SmL 1 4000 (.str "!0") := ⟨by simp [PyData.canLay0, ok_0], by simp [PyData.depth], by simp [PyData.showable], by simp only [wt, rl_0]; omega⟩
theorem pD_small {o : Option (Int × Int)} (h : ∀ a b, o = some (a, b) → a.natAbs < 10 ^ 60 ∧ b.natAbs < 10 ^ 60) : SmL 1 4000 (pD o) := by
  cases o with
  | none => exact smL_0
  | some ab =>
    obtain ⟨a, b⟩ := ab
    obtain ⟨h1, h2⟩ := h a b rfl
    have : (10 : Nat) ^ 60 < 2 ^ 200 := by decide
    exact smL_pair (by omega) (by omega)
/-- what is known of a text that has been looked at -/
structure TOk (t : Str) : Prop where
  len : t.length ≤ 500
  rd : rdPre t = true
  du : duePre t = true
  ag : ∀ p, p = 0 ∨ p ∈ primes → dueF p t = readOk p t
  sm : ∀ p a b, readOk p t = some (a, b) → a.natAbs < 10 ^ 60 ∧ b.natAbs < 10 ^ 60
theorem readOk_pair {p : Int} {t : Str} {a b : Int} (h : readOk p t = some (a, b)) : (Txt.split t "/").all shortW = true ∧ rdPair (Txt.split t "/") = (a, b) := by
  unfold readOk at h
  by_cases c : 2 < (Txt.split t "/").length
  · rw [if_pos c] at h
    exact nomatch h
  rw [if_neg c] at h
  by_cases c1 : (Txt.split t "/").all shortW = false
  · rw [if_pos c1] at h
    exact nomatch h
  rw [if_neg c1] at h
  by_cases c2 : isN p (rdPair (Txt.split t "/")).1 (rdPair (Txt.split t "/")).2 = false
  · rw [if_pos c2] at h
    exact nomatch h
  rw [if_neg c2] at h
  by_cases c3 : numTx (rdPair (Txt.split t "/")).1 (rdPair (Txt.split t "/")).2 = t
  · rw [if_pos c3] at h
    refine ⟨?_, Option.some.inj h⟩
    cases e : (Txt.split t "/").all shortW with
    | true => rfl
    | false => exact absurd e c1
  · rw [if_neg c3] at h
    exact nomatch h
theorem tOk_of {t : Str} (h : chkT t = true) : TOk t := by
  unfold chkT at h
  rw [Bool.and_eq_true, Bool.and_eq_true, Bool.and_eq_true, Bool.and_eq_true, decide_eq_true_eq] at h
  obtain ⟨h1, h2, h3, h4, h5⟩ := h
  refine ⟨h1, h2, h3, fun p hp => chk_agree h4 hp, fun p a b hr => ?_⟩
  obtain ⟨e1, e2⟩ := readOk_pair hr
  rw [e1, e2] at h5
  exact of_decide_eq_true h5
structure AllOk (t : Str) : Prop where
  one : TOk t
  put : ∀ (k : Nat) (c : Nat), k ≤ t.length → c ∈ chars → TOk (putT t (k : Int) c)
  out : ∀ (k : Nat), k ≤ t.length → TOk (outT t (k : Int))
theorem allOk_of {t : Str} (h : allT t = true) : AllOk t := by
  unfold allT at h
  rw [Bool.and_eq_true, List.all_eq_true] at h
  obtain ⟨h1, h2⟩ := h
  have at_ : ∀ k, k ≤ t.length → _ := fun k hk => h2 k (List.mem_range.mpr (by omega))
  refine ⟨tOk_of h1, fun k c hk hc => ?_, fun k hk => ?_⟩
  · have := at_ k hk
    rw [Bool.and_eq_true, List.all_eq_true] at this
    exact tOk_of (this.2 c hc)
  · have := at_ k hk
    rw [Bool.and_eq_true] at this
    exact tOk_of this.1
theorem text_ok {p a b : Int} (hp : p = 0 ∨ p ∈ primes) (en : isN p a b = true) (h9 : p = 0 → a.natAbs ≤ 9) (h4 : b.natAbs ≤ 4) : AllOk (numTx a b) := by
  obtain ⟨pz, pn⟩ := isN_pos en hp
  by_cases c : p = 0
  · have := pz c
    have := h9 c
    have e := frac_ok ⟨(a + 9).toNat, by omega⟩ ⟨(b - 1).toNat, by omega⟩
    rw [show ((((⟨(a + 9).toNat, by omega⟩ : Fin 19).val : Nat) : Int) - 9) = a by show (((a + 9).toNat : Nat) : Int) - 9 = a; omega, show ((((⟨(b - 1).toNat, by omega⟩ : Fin 4).val : Nat) : Int) + 1) = b by show (((b - 1).toNat : Nat) : Int) + 1 = b; omega] at e
    exact allOk_of e
  · obtain ⟨rfl, h0, h1⟩ := pn c
    have hp2 := prime_pos (hp.resolve_left c)
    have e := nat_ok ⟨a.toNat, by omega⟩
    rw [show (((⟨a.toNat, by omega⟩ : Fin 31).val : Nat) : Int) = a by show ((a.toNat : Nat) : Int) = a; omega] at e
    exact allOk_of e
section
variable {P : Program} {w : World} {K : PySem.W.Frag} {mg : Str → Option Value} {base : Heap}
def spLaw (K : PySem.W.Frag) : Sp := fun vs H Q _ => ∃ (a : Addr) (ns : List Int), vs = [.ref a] ∧ SqL K H a (ns.map V.int) ∧ ns.length ≤ 63 ∧ ∀ H', Q (.bl true) H'
theorem ok_law {f CW CN a_law_draws a_law_next a_law_world a_law_number a_number_text a_law_due a_law_told a_law_refuses : Addr} {fd fd_law_draws fd_law_next fd_law_world fd_law_number fd_number_text fd_law_due fd_law_told fd_law_refuses : FuncData} (F : Fun K "law" "law" s_law f fd)
    (z_int : mg "int" = none) (z_len : mg "len" = none) (z_repr : mg "repr" = none)
    (G_law_draws : FnOk P w K mg base CX0 2 a_law_draws fd_law_draws ["script"] (spDraws K)) (g_law_draws : mg "_law_draws" = some (.ref a_law_draws)) (k_law_draws : PySem.W.keepIn K (.ref a_law_draws) = true) (b_law_draws : Binds K fd_law_draws ["script"] [])
    (G_law_next : FnOk P w K mg base CX0 1 a_law_next fd_law_next ["draws"] spNext) (g_law_next : mg "_law_next" = some (.ref a_law_next)) (k_law_next : PySem.W.keepIn K (.ref a_law_next) = true) (b_law_next : Binds K fd_law_next ["draws"] [])
    (G_law_world : FnOk P w K mg base CX0 2 a_law_world fd_law_world ["draws"] spLawWorld) (g_law_world : mg "_law_world" = some (.ref a_law_world)) (k_law_world : PySem.W.keepIn K (.ref a_law_world) = true) (b_law_world : Binds K fd_law_world ["draws"] [])
    (G_law_number : FnOk P w K mg base CX0 2 a_law_number fd_law_number ["draws", "world"] (spLawNumber K)) (g_law_number : mg "_law_number" = some (.ref a_law_number)) (k_law_number : PySem.W.keepIn K (.ref a_law_number) = true) (b_law_number : Binds K fd_law_number ["draws", "world"] [])
    (G_number_text : FnOk P w K mg base (L2.CX P w) 5 a_number_text fd_number_text ["world", "x"] (spNumText K CW CN)) (g_number_text : mg "number_text" = some (.ref a_number_text)) (k_number_text : PySem.W.keepIn K (.ref a_number_text) = true) (b_number_text : Binds K fd_number_text ["world", "x"] [])
    (G_law_due : FnOk P w K mg base CX0 2 a_law_due fd_law_due ["world", "text"] (spDue K)) (g_law_due : mg "_law_due" = some (.ref a_law_due)) (k_law_due : PySem.W.keepIn K (.ref a_law_due) = true) (b_law_due : Binds K fd_law_due ["world", "text"] [])
    (G_law_told : FnOk P w K mg base CX0 8 a_law_told fd_law_told ["world", "text"] (spTold3 K)) (g_law_told : mg "_law_told" = some (.ref a_law_told)) (k_law_told : PySem.W.keepIn K (.ref a_law_told) = true) (b_law_told : Binds K fd_law_told ["world", "text"] [])
    (G_law_refuses : FnOk P w K mg base CX0 8 a_law_refuses fd_law_refuses ["text"] spRefuses) (g_law_refuses : mg "_law_refuses" = some (.ref a_law_refuses)) (k_law_refuses : PySem.W.keepIn K (.ref a_law_refuses) = true) (b_law_refuses : Binds K fd_law_refuses ["text"] []) :
    FnG P w K mg base 9 f fd ["script"] (spLaw K) := by
  refine F.okG sc_law (fun vs H Q E h => ?_) (fun cdv A outer s H vs Q E hgu hr h => ?_)
  · obtain ⟨a, ns, rfl, _⟩ := h
    rfl
  · obtain ⟨sc, ns, rfl, hS, hlen, q⟩ := h
    refine ⟨_, (pss_cons (ps_set (i := 1) sc_law.nd rfl (.inl rfl) (pe_call G_law_draws (hr.mono (by decide)) rfl g_law_draws k_law_draws b_law_draws .nil pass0 (pa_cons (pv 0) pa_nil)))
  (pss_cons (ps_expr (pe_bm0 PySem.F.plainAttrs_list PySem.F.slot_list_reverse PySem.F.type_list_reverse mt_reverse (pv 1)))
  (pss_cons (ps_set (i := 2) sc_law.nd rfl (.inl rfl) (pe_call G_law_world (hr.mono (by decide)) rfl g_law_world k_law_world b_law_world .nil pass0 (pa_cons (pv 1) pa_nil)))
  (pss_cons (ps_set (i := 3) sc_law.nd rfl (.inl rfl) (pe_call G_number_text (hr.mono (by decide)) rfl g_number_text k_number_text b_number_text .nil passL (pa_cons (pv 2) (pa_cons (pe_call G_law_number (hr.mono (by decide)) rfl g_law_number k_law_number b_law_number .nil pass0 (pa_cons (pv 1) (pa_cons (pv 2) pa_nil))) pa_nil))))
  (pss_cons (ps_set (i := 4) sc_law.nd rfl (.inl rfl) (pe_lst (pa_cons pe_str (pa_cons pe_str (pa_cons pe_str (pa_cons pe_str (pa_cons pe_str (pa_cons pe_str (pa_cons pe_str (pa_cons pe_str (pa_cons pe_str (pa_cons pe_str (pa_cons pe_str (pa_cons pe_str (pa_cons pe_str (pa_cons pe_str pa_nil))))))))))))))))
  (pss_cons (ps_set (i := 4) sc_law.nd rfl (.inl rfl) (pe_op op_cat (pv 4) (pe_lst (pa_cons (pe_op op_mul_str pe_str pe_int) (pa_cons (pe_op op_mul_str pe_str pe_int) (pa_cons pe_str (pa_cons pe_str pa_nil)))))))
  (pss_cons (ps_set (i := 5) sc_law.nd rfl (.inl rfl) (pe_op op_mod (pe_callTy call_int1 (by rfl) z_int boot_int (pa_cons (pe_call G_law_next (hr.mono (by decide)) rfl g_law_next k_law_next b_law_next .nil pass0 (pa_cons (pv 1) pa_nil)) pa_nil)) (pe_op op_add (pe_callB call_len_str (by rfl) z_len boot_len (pa_cons (pv 3) pa_nil)) pe_int)))
  (pss_cons (ps_set (i := 6) sc_law.nd rfl (.inl rfl) (pe_op op_add_str (pe_op op_add_str (pe_slice sl_str (pv 3) po_none (po_some (pv 5))) (pe_ix ix_str pe_str (pe_op op_mod (pe_callTy call_int1 (by rfl) z_int boot_int (pa_cons (pe_call G_law_next (hr.mono (by decide)) rfl g_law_next k_law_next b_law_next .nil pass0 (pa_cons (pv 1) pa_nil)) pa_nil)) pe_int) (fun _ _ => rfl))) (pe_slice sl_str (pv 3) (po_some (pv 5)) po_none)))
  (pss_cons (ps_for PassesOwn.never rfl (pi_list (pe_lst (pa_cons (pv 3) (pa_cons (pv 6) (pa_cons (pe_op op_add_str (pe_slice sl_str (pv 3) po_none (po_some (pv 5))) (pe_slice sl_str (pv 3) (po_some (pe_op op_add (pv 5) pe_int)) po_none)) (pa_cons (pe_ix ix_list (pv 4) (pe_op op_mod (pe_callTy call_int1 (by rfl) z_int boot_int (pa_cons (pe_call G_law_next (hr.mono (by decide)) rfl g_law_next k_law_next b_law_next .nil pass0 (pa_cons (pv 1) pa_nil)) pa_nil)) (pe_callB call_len_seq (by rfl) z_len boot_len (pa_cons (pv 4) pa_nil))) (fun _ _ => rfl)) pa_nil)))))) (pg_name (i := 7) sc_law.nd rfl (.inl rfl)) (pss_cons (ps_set (i := 8) sc_law.nd rfl (.inl rfl) (pe_call G_law_due (hr.mono (by decide)) rfl g_law_due k_law_due b_law_due .nil pass0 (pa_cons (pv 2) (pa_cons (pv 7) pa_nil))))
  (Evl.pss_cut (ps_if (pt_cmpR op_isN (pv 8) pe_non (nomark _)) (pss_one (ps_set (i := 8) sc_law.nd rfl (.inl rfl) pe_str)) pss_nil)
  (pss_one (ps_if (pt_cmpR op_ne (pe_callB (cr_reprD hgu (room65 hr)) (by rfl) z_repr boot_repr (pa_cons (pe_call G_law_told (hr.mono (by decide)) rfl g_law_told k_law_told b_law_told .nil pass0 (pa_cons (pv 2) (pa_cons (pv 7) pa_nil))) pa_nil)) (pe_callB (cr_reprD hgu (room65 hr)) (by rfl) z_repr boot_repr (pa_cons (pv 8) pa_nil)) (nomark _)) (pss_one (ps_ret pe_bl)) pss_nil)))))
  (pss_one (ps_ret (pe_call G_law_refuses (hr.mono (by decide)) rfl g_law_refuses k_law_refuses b_law_refuses .nil pass0 (pa_cons (pv 3) pa_nil))))))))))))), ?_⟩
    have szl : 3000 ≤ sizeLine := by decide
    refine ⟨_, rfl, sc, ns, rfl, hS, hlen, fun H1 r ds s1 nr hL => ?_⟩
    refine ⟨_, rfl, .inl ⟨rfl, _, .inl (.inl hL)⟩, r, _, rfl, rfl, hL, ?_⟩
    rw [← List.map_reverse]
    generalize ds.reverse = ds1
    refine ⟨_, rfl, r, ds1, rfl, upd_same, fun p d ds2 xw H2 _ hL2 _ hw2 ew => ?_⟩
    obtain ⟨hp, hd⟩ := isW_cases ew
    have p0 : 0 ≤ p := by
      by_cases c : p = 0
      · omega
      · have := prime_pos (hp.resolve_left c)
        omega
    have hrw : r ≠ xw := ne_of hL2 hw2 (fun z => nomatch z)
    refine ⟨_, rfl, _, rfl, _, rfl, r, xw, ds2, p, d, rfl, hL2, .inl (.inl hw2), hrw, ew, fun a b ds3 xx H3 sb3 hL3 _ hx3 en ha9 ha hb hb1 hb0 => ?_⟩
    have hw3 := sb3 _ _ (Ne.symm hrw) hw2
    have nw : ∀ {C : Prop}, isW p d = false → C := fun {C} z => by rw [ew] at z; exact nomatch z
    have nn : ∀ {C : Prop}, isN p a b = false → C := fun {C} z => by rw [en] at z; exact nomatch z
    refine ⟨xw, xx, p, d, a, b, rfl, .inl (.inl hw3), .inl (.inl hx3), nw, fun _ => nn, fun _ _ => ⟨by omega, by omega, fun H4 s4 => ?_⟩⟩
    have hL4 := s4 _ _ hL3
    have hw4 := s4 _ _ hw3
    obtain ⟨tone, tput, tout⟩ := text_ok hp en ha9 hb
    generalize numTx a b = tx at tone tput tout
    have ltx := tone.len
    -- some
    have mk : ∀ n : Int, n = 60 ∨ n = 61 → MulOk ("9" : Str) n := fun n hn => by
      have e1 : ("9" : Str).length = 1 := by decide +kernel
      rcases hn with rfl | rfl
      · exact ⟨by decide, fun _ _ => by rw [e1]; decide, fun _ _ => by rw [e1]; decide⟩
      · exact ⟨by decide, fun _ _ => by rw [e1]; decide, fun _ _ => by rw [e1]; decide⟩
    refine ⟨(by show 14 ≤ sizeLine; decide), fun l nl => ?_⟩
    refine ⟨_, rfl, _, _, rfl, rfl, mk 60 (.inl rfl), _, _, rfl, rfl, mk 61 (.inr rfl), (by show 4 ≤ sizeLine; decide), fun l2 nl2 => ?_⟩
    have n12 : l ≠ l2 := ne_of_none upd_same nl2
    refine ⟨l, l2, someA.map V.str, [Txt.mul "9" 60, Txt.mul "9" 61, "-3/7", "x"].map V.str, rfl, rfl, by rw [upd_ne n12, upd_same]; rfl, upd_same, (by show 18 ≤ sizeLine; decide), fun l3 nl3 => ?_⟩
    rw [show someA.map V.str ++ [Txt.mul "9" 60, Txt.mul "9" 61, "-3/7", "x"].map V.str = someT.map V.str from List.map_append.symm]
    have s7 : Same H4 (upd (upd (upd H4 l (.lst [.str "", .str "-", .str "-0", .str "00", .str "7", .str "+1", .str "1/1", .str "2/4", .str "3/-2", .str "1/2/3", .str "/2", .str "1/", .str " 1", .str "1 "])) l2 (.lst [.str (Txt.mul "9" 60), .str (Txt.mul "9" 61), .str "-3/7", .str "x"])) l3 (.lst (someT.map V.str))) :=
      Same.trans (Same.trans (same_upd nl) (same_upd nl2)) (same_upd nl3)
    have h7 : (upd (upd (upd H4 l (.lst [.str "", .str "-", .str "-0", .str "00", .str "7", .str "+1", .str "1/1", .str "2/4", .str "3/-2", .str "1/2/3", .str "/2", .str "1/", .str " 1", .str "1 "])) l2 (.lst [.str (Txt.mul "9" 60), .str (Txt.mul "9" 61), .str "-3/7", .str "x"])) l3 (.lst (someT.map V.str))) l3 = some (.lst (someT.map V.str)) := upd_same
    have hr3 : r ≠ l3 := ne_of_none (Same.trans (same_upd nl) (same_upd nl2) _ _ hL4) nl3
    revert s7 h7
    generalize (upd (upd (upd H4 l (.lst [.str "", .str "-", .str "-0", .str "00", .str "7", .str "+1", .str "1/1", .str "2/4", .str "3/-2", .str "1/2/3", .str "/2", .str "1/", .str " 1", .str "1 "])) l2 (.lst [.str (Txt.mul "9" 60), .str (Txt.mul "9" 61), .str "-3/7", .str "x"])) l3 (.lst (someT.map V.str))) = H7
    intro s7 h7
    have hL7 := s7 _ _ hL4
    have hw7 := s7 _ _ hw4
    -- at
    refine ⟨_, rfl, r, ds3, rfl, hL7, fun n5 ds5 => .inl ⟨n5, rfl, _, rfl, tx, rfl, by omega, _, _, rfl, rfl, n5, _, rfl, rfl, by omega, ?_⟩⟩
    obtain ⟨k, hk, ek⟩ : ∃ k : Nat, k ≤ tx.length ∧ n5 % ((tx.length : Int) + 1) = (k : Int) := by
      have m := mod_lt8 n5 (show (0 : Int) < (tx.length : Int) + 1 by omega)
      exact ⟨(n5 % ((tx.length : Int) + 1)).toNat, by omega, by omega⟩
    dsimp only
    rw [ek]
    -- changed
    have c1 := cutS_length tx none (some (k : Int))
    have c2 := cutS_length tx (some (k : Int)) none
    have c3 := cutS_length tx (some ((k : Int) + 1)) none
    refine ⟨_, rfl, _, rfl, _, rfl, tx, rfl, by omega, ?_⟩
    refine ⟨_, rfl, r, ds5, rfl, upd_same, fun n6 ds6 => .inl ⟨n6, rfl, n6, 5, rfl, rfl, (show (0 : Int) < 5 by decide), ?_⟩⟩
    have m6 := mod_lt8 n6 (show (0 : Int) < 5 by decide)
    obtain ⟨c, hc, ec⟩ : ∃ c, c ∈ chars ∧ atI ("0-/ 1" : Str).cps.toList (n6 % 5) = some c := by
      have e0 : ("0-/ 1" : Str).cps.toList = chars := by decide +kernel
      rw [e0]
      obtain ⟨j, hj, ej⟩ : ∃ j : Nat, j < 5 ∧ n6 % 5 = (j : Int) := ⟨(n6 % 5).toNat, by omega, by omega⟩
      rw [ej]
      exact ⟨chars[j]'hj, List.getElem_mem hj, atI_nat (List.getElem?_eq_getElem hj)⟩
    refine ⟨("0-/ 1" : Str), _, c, rfl, rfl, (by decide +kernel), ec, _, _, rfl, rfl, ?_, ?_⟩
    · show _ + 1 ≤ sizeLine
      omega
    refine ⟨_, rfl, _, rfl, _, rfl, tx, rfl, by omega, _, _, rfl, rfl, ?_, ?_⟩
    · rw [len_cat]
      show _ + 1 + _ ≤ sizeLine
      omega
    -- the four texts
    have h73 : upd (upd H7 r (.lst (ds5.map V.int))) r (.lst (ds6.map V.int)) l3 = some (.lst (someT.map V.str)) := by rw [upd_ne (Ne.symm hr3), upd_ne (Ne.symm hr3)]; exact h7
    refine ⟨_, rfl, _, rfl, _, rfl, _, rfl, _, rfl, tx, rfl, by omega, ?_⟩
    refine ⟨_, rfl, _, rfl, _, _, rfl, rfl, _, rfl, tx, rfl, by omega, _, _, rfl, rfl, by omega, ?_⟩
    refine ⟨_, rfl, _, rfl, r, ds6, rfl, upd_same, fun n7 ds7 => .inl ⟨n7, rfl, ?_⟩⟩
    have h74 : upd (upd (upd H7 r (.lst (ds5.map V.int))) r (.lst (ds6.map V.int))) r (.lst (ds7.map V.int)) l3 = some (.lst (someT.map V.str)) := by rw [upd_ne (Ne.symm hr3)]; exact h73
    have hw74 : upd (upd (upd H7 r (.lst (ds5.map V.int))) r (.lst (ds6.map V.int))) r (.lst (ds7.map V.int)) xw = some (.tup [.int p, .int d]) := by rw [upd_ne (Ne.symm hrw), upd_ne (Ne.symm hrw), upd_ne (Ne.symm hrw)]; exact hw7
    revert h74 hw74
    generalize upd (upd (upd H7 r (.lst (ds5.map V.int))) r (.lst (ds6.map V.int))) r (.lst (ds7.map V.int)) = H8
    intro h8 hw8
    have m7 := mod_lt8 n7 (show (0 : Int) < 18 by decide)
    obtain ⟨g, hg, eg⟩ : ∃ g, TOk g ∧ atI (someT.map V.str) (n7 % 18) = some (.str g) := by
      obtain ⟨j, hj, ej⟩ : ∃ j : Nat, j < someT.length ∧ n7 % 18 = (j : Int) := ⟨(n7 % 18).toNat, by show _ < 18; omega, by omega⟩
      rw [ej]
      exact ⟨someT[j]'hj, tOk_of (List.all_eq_true.mp some_ok _ (List.getElem_mem hj)), atI_nat (by rw [List.getElem?_map, List.getElem?_eq_getElem hj]; rfl)⟩
    refine ⟨_, rfl, l3, _, rfl, .inl (.inl (.inl h8)), n7, _, rfl, rfl, (by show (0 : Int) < 18; decide), l3, _, n7 % 18, .str g, rfl, rfl, .inl (.inl h8), eg, (by show 4 ≤ sizeLine; decide), fun l4 nl4 => ?_⟩
    have all4 : ∀ z ∈ [tx, putT tx (k : Int) c, outT tx (k : Int), g], TOk z := fun z hz => by
      rcases List.mem_cons.mp hz with rfl | hz
      · exact tone
      rcases List.mem_cons.mp hz with rfl | hz
      · exact tput k c hk hc
      rcases List.mem_cons.mp hz with rfl | hz
      · exact tout k hk
      rw [List.mem_singleton.mp hz]
      exact hg
    have s9 : Same H8 (upd H8 l4 (.lst ([tx, putT tx (k : Int) c, outT tx (k : Int), g].map V.str))) := same_upd nl4
    have h9 : upd H8 l4 (.lst ([tx, putT tx (k : Int) c, outT tx (k : Int), g].map V.str)) l4 = some (.lst ([tx, putT tx (k : Int) c, outT tx (k : Int), g].map V.str)) := upd_same
    refine ⟨l4, rfl, ⟨_, .inl (.inl h9)⟩, for_list (K := K) (a := l4) (xs := [tx, putT tx (k : Int) c, outT tx (k : Int), g].map V.str)
      (fun i σ H' => ∃ v7 v8, σ = [some (.ref sc), some (.ref r), some (.ref xw), some (.str tx), some (.ref l3), some (.int k), some (.str (putT tx (k : Int) c)), v7, v8] ∧ Same (upd H8 l4 (.lst ([tx, putT tx (k : Int) c, outT tx (k : Int), g].map V.str))) H')
      ⟨none, none, rfl, Same.refl _⟩ (fun i σ H' _ ⟨_, _, _, s'⟩ => .inl (.inl (s' _ _ h9))) ?_ ?_⟩
    · rintro i y σ H' hi ⟨v7, v8, rfl, s'⟩
      rw [List.getElem?_map] at hi
      cases ez : [tx, putT tx (k : Int) c, outT tx (k : Int), g][i]? with
      | none =>
        rw [ez] at hi
        exact nomatch hi
      | some z =>
        rw [ez] at hi
        obtain rfl : V.str z = y := Option.some.inj hi
        obtain ⟨hlt, hget⟩ := List.getElem?_eq_some_iff.mp ez
        have tz := all4 z (hget ▸ List.getElem_mem hlt)
        have hw' := s' _ _ (s9 _ _ hw8)
        refine ⟨_, rfl, _, rfl, xw, p, d, z, rfl, .inl (.inl hw'), p0, tz.len, tz.du, fun v H5 s5 hv => ?_⟩
        rw [tz.ag p hp] at hv
        have hw5 := s5 _ _ hw'
        refine ⟨fun σ' H6 => H6 = H5 ∧ ∃ v2, σ' = [some (.ref sc), some (.ref r), some (.ref xw), some (.str tx), some (.ref l3), some (.int k), some (.str (putT tx (k : Int) c)), some (.str z), some v2] ∧ vPair (readOk p z) v2 H5, ?_, ?_⟩
        · refine ⟨_, rfl, rfl, _, rfl, ?_⟩
          cases er : readOk p z with
          | none =>
            rw [er] at hv
            obtain rfl : v = .non := hv
            rw [decide_eq_true rfl]
            exact iteT ⟨rfl, _, rfl, rfl⟩
          | some ab =>
            obtain ⟨a', b'⟩ := ab
            rw [er] at hv
            obtain ⟨rr, rfl, hrr⟩ := hv
            rw [decide_eq_false (fun z => nomatch z)]
            exact iteF ⟨rfl, _, rfl, rr, rfl, hrr⟩
        · rintro σ' H6 ⟨rfl, v2, rfl, hv2⟩
          have sml := pD_small (tz.sm p)
          have shp := sml.shaped (by decide)
          have wd := sml.wide (by decide)
          refine ⟨_, rfl, _, rfl, xw, p, d, z, rfl, .inl (.inl hw5), ew, tz.len, tz.rd, fun v3 H7' s7' hv3 => ?_⟩
          refine ⟨v3, _, rfl, vPair_dp hv3, shp, sml.sho, wd, ?_⟩
          refine ⟨_, rfl, v2, _, rfl, vPair_dp (vPair_same s7' hv2), shp, sml.sho, wd, rfl, _, rfl, ?_⟩
          rw [decide_eq_true rfl]
          exact iteF ⟨_, _, rfl, Same.trans s' (Same.trans s5 s7')⟩
    · rintro σ H' ⟨v7, v8, rfl, s'⟩
      exact ⟨_, rfl, tx, rfl, tone.len, tone.rd, fun H'' => q H''⟩
end

theorem all_mk {P : Program} {w : World} {K : PySem.W.Frag} {h : Heap} {mg : Str → Option Value} {fa : Addr} (X : K.In h) (G : h.Ns mainGlobals mg) (hfa : mg "law" = some (.ref fa))
    {f_is_world : Addr} {od_is_world an_is_world : Option Addr} {sl_is_world : Array (Option Value)} {oc_is_world kV_is_world dc_is_world pm_is_world cd_is_world ct_is_world : Value}
    {f_law_plain : Addr} {od_law_plain an_law_plain : Option Addr} {sl_law_plain : Array (Option Value)} {oc_law_plain kV_law_plain dc_law_plain pm_law_plain cd_law_plain ct_law_plain : Value}
    {f_law_next : Addr} {od_law_next an_law_next : Option Addr} {sl_law_next : Array (Option Value)} {oc_law_next kV_law_next dc_law_next pm_law_next cd_law_next ct_law_next : Value}
    {f_law_draws : Addr} {od_law_draws an_law_draws : Option Addr} {sl_law_draws : Array (Option Value)} {oc_law_draws kV_law_draws dc_law_draws pm_law_draws cd_law_draws ct_law_draws : Value}
    {f_check_world : Addr} {od_check_world an_check_world : Option Addr} {sl_check_world : Array (Option Value)} {oc_check_world kV_check_world dc_check_world pm_check_world cd_check_world ct_check_world : Value}
    {f_is_number : Addr} {od_is_number an_is_number : Option Addr} {sl_is_number : Array (Option Value)} {oc_is_number kV_is_number dc_is_number pm_is_number cd_is_number ct_is_number : Value}
    {f_check_number : Addr} {od_check_number an_check_number : Option Addr} {sl_check_number : Array (Option Value)} {oc_check_number kV_check_number dc_check_number pm_check_number cd_check_number ct_check_number : Value}
    {f_law_lowest : Addr} {od_law_lowest an_law_lowest : Option Addr} {sl_law_lowest : Array (Option Value)} {oc_law_lowest kV_law_lowest dc_law_lowest pm_law_lowest cd_law_lowest ct_law_lowest : Value}
    {f_law_world : Addr} {od_law_world an_law_world : Option Addr} {sl_law_world : Array (Option Value)} {oc_law_world kV_law_world dc_law_world pm_law_world cd_law_world ct_law_world : Value}
    {f_law_number : Addr} {od_law_number an_law_number : Option Addr} {sl_law_number : Array (Option Value)} {oc_law_number kV_law_number dc_law_number pm_law_number cd_law_number ct_law_number : Value}
    {f_integer_text_ : Addr} {od_integer_text_ an_integer_text_ : Option Addr} {sl_integer_text_ : Array (Option Value)} {oc_integer_text_ kV_integer_text_ dc_integer_text_ pm_integer_text_ cd_integer_text_ ct_integer_text_ : Value}
    {f_number_text : Addr} {od_number_text an_number_text : Option Addr} {sl_number_text : Array (Option Value)} {oc_number_text kV_number_text dc_number_text pm_number_text cd_number_text ct_number_text : Value}
    {f_Malformed_init : Addr} {od_Malformed_init an_Malformed_init : Option Addr} {sl_Malformed_init : Array (Option Value)} {oc_Malformed_init kV_Malformed_init dc_Malformed_init pm_Malformed_init cd_Malformed_init ct_Malformed_init : Value}
    {f_figure_count_ : Addr} {od_figure_count_ an_figure_count_ : Option Addr} {sl_figure_count_ : Array (Option Value)} {oc_figure_count_ kV_figure_count_ dc_figure_count_ pm_figure_count_ cd_figure_count_ ct_figure_count_ : Value}
    {f_is_integer_ : Addr} {od_is_integer_ an_is_integer_ : Option Addr} {sl_is_integer_ : Array (Option Value)} {oc_is_integer_ kV_is_integer_ dc_is_integer_ pm_is_integer_ cd_is_integer_ ct_is_integer_ : Value}
    {f_integer_of_ : Addr} {od_integer_of_ an_integer_of_ : Option Addr} {sl_integer_of_ : Array (Option Value)} {oc_integer_of_ kV_integer_of_ dc_integer_of_ pm_integer_of_ cd_integer_of_ ct_integer_of_ : Value}
    {f_read_any_number : Addr} {od_read_any_number an_read_any_number : Option Addr} {sl_read_any_number : Array (Option Value)} {oc_read_any_number kV_read_any_number dc_read_any_number pm_read_any_number cd_read_any_number ct_read_any_number : Value}
    {f_read_number : Addr} {od_read_number an_read_number : Option Addr} {sl_read_number : Array (Option Value)} {oc_read_number kV_read_number dc_read_number pm_read_number cd_read_number ct_read_number : Value}
    {f_law_whole : Addr} {od_law_whole an_law_whole : Option Addr} {sl_law_whole : Array (Option Value)} {oc_law_whole kV_law_whole dc_law_whole pm_law_whole cd_law_whole ct_law_whole : Value}
    {f_law_due : Addr} {od_law_due an_law_due : Option Addr} {sl_law_due : Array (Option Value)} {oc_law_due kV_law_due dc_law_due pm_law_due cd_law_due ct_law_due : Value}
    {f_law_told : Addr} {od_law_told an_law_told : Option Addr} {sl_law_told : Array (Option Value)} {oc_law_told kV_law_told dc_law_told pm_law_told cd_law_told ct_law_told : Value}
    {f_law_refuses : Addr} {od_law_refuses an_law_refuses : Option Addr} {sl_law_refuses : Array (Option Value)} {oc_law_refuses kV_law_refuses dc_law_refuses pm_law_refuses cd_law_refuses ct_law_refuses : Value}
    {f_law : Addr} {od_law an_law : Option Addr} {sl_law : Array (Option Value)} {oc_law kV_law dc_law pm_law cd_law ct_law : Value}
    {aP : Addr} {ddP : Option Addr} {nP : Nat} {slP : Array (Option Value)} {u2 u3 u5 u7 u11 u13 u17 u19 u23 u29 u31 : Tok}
    {CW : Addr}
    {CN : Addr}
    {tm_MOST_FIGURES : Tok}
    {tm_CHUNK_FIGURES : Tok}
    {tm_CHUNK : Tok}
    {CM N_Malformed : Addr} {nm_Malformed q_Malformed : Str} {bs_Malformed bm_Malformed sub_Malformed : List Value} {sn_Malformed : List Str} {ab_Malformed : Bool} {col_Malformed : Option Bool} {dd_Malformed : Option Addr} {m0_Malformed m1_Malformed m2_Malformed m3_Malformed m5_Malformed : Option Value}
    (a_is_world : PySem.W.nsIn K mainGlobals "is_world" = some (some (.ref f_is_world))) (l_is_world : K.lookup f_is_world = some ⟨oc_is_world, od_is_world, .func (PySem.W.fnOf "is_world" "is_world" (defArgs s_is_world) (defBody s_is_world) (defScope s_is_world) .none kV_is_world dc_is_world pm_is_world an_is_world cd_is_world ct_is_world), sl_is_world⟩) (c_is_world : PySem.W.codeIn K cd_is_world "is_world" = true) (k_is_world : PySem.W.keepIn K (.ref f_is_world) = true)
    (a_law_plain : PySem.W.nsIn K mainGlobals "_law_plain" = some (some (.ref f_law_plain))) (l_law_plain : K.lookup f_law_plain = some ⟨oc_law_plain, od_law_plain, .func (PySem.W.fnOf "_law_plain" "_law_plain" (defArgs s_law_plain) (defBody s_law_plain) (defScope s_law_plain) .none kV_law_plain dc_law_plain pm_law_plain an_law_plain cd_law_plain ct_law_plain), sl_law_plain⟩) (c_law_plain : PySem.W.codeIn K cd_law_plain "_law_plain" = true) (k_law_plain : PySem.W.keepIn K (.ref f_law_plain) = true)
    (a_law_next : PySem.W.nsIn K mainGlobals "_law_next" = some (some (.ref f_law_next))) (l_law_next : K.lookup f_law_next = some ⟨oc_law_next, od_law_next, .func (PySem.W.fnOf "_law_next" "_law_next" (defArgs s_law_next) (defBody s_law_next) (defScope s_law_next) .none kV_law_next dc_law_next pm_law_next an_law_next cd_law_next ct_law_next), sl_law_next⟩) (c_law_next : PySem.W.codeIn K cd_law_next "_law_next" = true) (k_law_next : PySem.W.keepIn K (.ref f_law_next) = true)
    (a_law_draws : PySem.W.nsIn K mainGlobals "_law_draws" = some (some (.ref f_law_draws))) (l_law_draws : K.lookup f_law_draws = some ⟨oc_law_draws, od_law_draws, .func (PySem.W.fnOf "_law_draws" "_law_draws" (defArgs s_law_draws) (defBody s_law_draws) (defScope s_law_draws) .none kV_law_draws dc_law_draws pm_law_draws an_law_draws cd_law_draws ct_law_draws), sl_law_draws⟩) (c_law_draws : PySem.W.codeIn K cd_law_draws "_law_draws" = true) (k_law_draws : PySem.W.keepIn K (.ref f_law_draws) = true)
    (a_check_world : PySem.W.nsIn K mainGlobals "check_world" = some (some (.ref f_check_world))) (l_check_world : K.lookup f_check_world = some ⟨oc_check_world, od_check_world, .func (PySem.W.fnOf "check_world" "check_world" (defArgs s_check_world) (defBody s_check_world) (defScope s_check_world) .none kV_check_world dc_check_world pm_check_world an_check_world cd_check_world ct_check_world), sl_check_world⟩) (c_check_world : PySem.W.codeIn K cd_check_world "check_world" = true) (k_check_world : PySem.W.keepIn K (.ref f_check_world) = true)
    (a_is_number : PySem.W.nsIn K mainGlobals "is_number" = some (some (.ref f_is_number))) (l_is_number : K.lookup f_is_number = some ⟨oc_is_number, od_is_number, .func (PySem.W.fnOf "is_number" "is_number" (defArgs s_is_number) (defBody s_is_number) (defScope s_is_number) .none kV_is_number dc_is_number pm_is_number an_is_number cd_is_number ct_is_number), sl_is_number⟩) (c_is_number : PySem.W.codeIn K cd_is_number "is_number" = true) (k_is_number : PySem.W.keepIn K (.ref f_is_number) = true)
    (a_check_number : PySem.W.nsIn K mainGlobals "check_number" = some (some (.ref f_check_number))) (l_check_number : K.lookup f_check_number = some ⟨oc_check_number, od_check_number, .func (PySem.W.fnOf "check_number" "check_number" (defArgs s_check_number) (defBody s_check_number) (defScope s_check_number) .none kV_check_number dc_check_number pm_check_number an_check_number cd_check_number ct_check_number), sl_check_number⟩) (c_check_number : PySem.W.codeIn K cd_check_number "check_number" = true) (k_check_number : PySem.W.keepIn K (.ref f_check_number) = true)
    (a_law_lowest : PySem.W.nsIn K mainGlobals "_law_lowest" = some (some (.ref f_law_lowest))) (l_law_lowest : K.lookup f_law_lowest = some ⟨oc_law_lowest, od_law_lowest, .func (PySem.W.fnOf "_law_lowest" "_law_lowest" (defArgs s_law_lowest) (defBody s_law_lowest) (defScope s_law_lowest) .none kV_law_lowest dc_law_lowest pm_law_lowest an_law_lowest cd_law_lowest ct_law_lowest), sl_law_lowest⟩) (c_law_lowest : PySem.W.codeIn K cd_law_lowest "_law_lowest" = true) (k_law_lowest : PySem.W.keepIn K (.ref f_law_lowest) = true)
    (a_law_world : PySem.W.nsIn K mainGlobals "_law_world" = some (some (.ref f_law_world))) (l_law_world : K.lookup f_law_world = some ⟨oc_law_world, od_law_world, .func (PySem.W.fnOf "_law_world" "_law_world" (defArgs s_law_world) (defBody s_law_world) (defScope s_law_world) .none kV_law_world dc_law_world pm_law_world an_law_world cd_law_world ct_law_world), sl_law_world⟩) (c_law_world : PySem.W.codeIn K cd_law_world "_law_world" = true) (k_law_world : PySem.W.keepIn K (.ref f_law_world) = true)
    (a_law_number : PySem.W.nsIn K mainGlobals "_law_number" = some (some (.ref f_law_number))) (l_law_number : K.lookup f_law_number = some ⟨oc_law_number, od_law_number, .func (PySem.W.fnOf "_law_number" "_law_number" (defArgs s_law_number) (defBody s_law_number) (defScope s_law_number) .none kV_law_number dc_law_number pm_law_number an_law_number cd_law_number ct_law_number), sl_law_number⟩) (c_law_number : PySem.W.codeIn K cd_law_number "_law_number" = true) (k_law_number : PySem.W.keepIn K (.ref f_law_number) = true)
    (a_integer_text_ : PySem.W.nsIn K mainGlobals "_integer_text" = some (some (.ref f_integer_text_))) (l_integer_text_ : K.lookup f_integer_text_ = some ⟨oc_integer_text_, od_integer_text_, .func (PySem.W.fnOf "_integer_text" "_integer_text" (defArgs s_integer_text_) (defBody s_integer_text_) (defScope s_integer_text_) .none kV_integer_text_ dc_integer_text_ pm_integer_text_ an_integer_text_ cd_integer_text_ ct_integer_text_), sl_integer_text_⟩) (c_integer_text_ : PySem.W.codeIn K cd_integer_text_ "_integer_text" = true) (k_integer_text_ : PySem.W.keepIn K (.ref f_integer_text_) = true)
    (a_number_text : PySem.W.nsIn K mainGlobals "number_text" = some (some (.ref f_number_text))) (l_number_text : K.lookup f_number_text = some ⟨oc_number_text, od_number_text, .func (PySem.W.fnOf "number_text" "number_text" (defArgs s_number_text) (defBody s_number_text) (defScope s_number_text) .none kV_number_text dc_number_text pm_number_text an_number_text cd_number_text ct_number_text), sl_number_text⟩) (c_number_text : PySem.W.codeIn K cd_number_text "number_text" = true) (k_number_text : PySem.W.keepIn K (.ref f_number_text) = true)
    (l_Malformed_init : K.lookup f_Malformed_init = some ⟨oc_Malformed_init, od_Malformed_init, .func (PySem.W.fnOf "__init__" "Malformed.__init__" (defArgs s_Malformed_init) (defBody s_Malformed_init) (defScope s_Malformed_init) .none kV_Malformed_init dc_Malformed_init pm_Malformed_init an_Malformed_init cd_Malformed_init ct_Malformed_init), sl_Malformed_init⟩) (c_Malformed_init : PySem.W.codeIn K cd_Malformed_init "Malformed.__init__" = true) (k_Malformed_init : PySem.W.keepIn K (.ref f_Malformed_init) = true)
    (a_figure_count_ : PySem.W.nsIn K mainGlobals "_figure_count" = some (some (.ref f_figure_count_))) (l_figure_count_ : K.lookup f_figure_count_ = some ⟨oc_figure_count_, od_figure_count_, .func (PySem.W.fnOf "_figure_count" "_figure_count" (defArgs s_figure_count_) (defBody s_figure_count_) (defScope s_figure_count_) .none kV_figure_count_ dc_figure_count_ pm_figure_count_ an_figure_count_ cd_figure_count_ ct_figure_count_), sl_figure_count_⟩) (c_figure_count_ : PySem.W.codeIn K cd_figure_count_ "_figure_count" = true) (k_figure_count_ : PySem.W.keepIn K (.ref f_figure_count_) = true)
    (a_is_integer_ : PySem.W.nsIn K mainGlobals "_is_integer" = some (some (.ref f_is_integer_))) (l_is_integer_ : K.lookup f_is_integer_ = some ⟨oc_is_integer_, od_is_integer_, .func (PySem.W.fnOf "_is_integer" "_is_integer" (defArgs s_is_integer_) (defBody s_is_integer_) (defScope s_is_integer_) .none kV_is_integer_ dc_is_integer_ pm_is_integer_ an_is_integer_ cd_is_integer_ ct_is_integer_), sl_is_integer_⟩) (c_is_integer_ : PySem.W.codeIn K cd_is_integer_ "_is_integer" = true) (k_is_integer_ : PySem.W.keepIn K (.ref f_is_integer_) = true)
    (a_integer_of_ : PySem.W.nsIn K mainGlobals "_integer_of" = some (some (.ref f_integer_of_))) (l_integer_of_ : K.lookup f_integer_of_ = some ⟨oc_integer_of_, od_integer_of_, .func (PySem.W.fnOf "_integer_of" "_integer_of" (defArgs s_integer_of_) (defBody s_integer_of_) (defScope s_integer_of_) .none kV_integer_of_ dc_integer_of_ pm_integer_of_ an_integer_of_ cd_integer_of_ ct_integer_of_), sl_integer_of_⟩) (c_integer_of_ : PySem.W.codeIn K cd_integer_of_ "_integer_of" = true) (k_integer_of_ : PySem.W.keepIn K (.ref f_integer_of_) = true)
    (a_read_any_number : PySem.W.nsIn K mainGlobals "read_any_number" = some (some (.ref f_read_any_number))) (l_read_any_number : K.lookup f_read_any_number = some ⟨oc_read_any_number, od_read_any_number, .func (PySem.W.fnOf "read_any_number" "read_any_number" (defArgs s_read_any_number) (defBody s_read_any_number) (defScope s_read_any_number) .none kV_read_any_number dc_read_any_number pm_read_any_number an_read_any_number cd_read_any_number ct_read_any_number), sl_read_any_number⟩) (c_read_any_number : PySem.W.codeIn K cd_read_any_number "read_any_number" = true) (k_read_any_number : PySem.W.keepIn K (.ref f_read_any_number) = true)
    (a_read_number : PySem.W.nsIn K mainGlobals "read_number" = some (some (.ref f_read_number))) (l_read_number : K.lookup f_read_number = some ⟨oc_read_number, od_read_number, .func (PySem.W.fnOf "read_number" "read_number" (defArgs s_read_number) (defBody s_read_number) (defScope s_read_number) .none kV_read_number dc_read_number pm_read_number an_read_number cd_read_number ct_read_number), sl_read_number⟩) (c_read_number : PySem.W.codeIn K cd_read_number "read_number" = true) (k_read_number : PySem.W.keepIn K (.ref f_read_number) = true)
    (a_law_whole : PySem.W.nsIn K mainGlobals "_law_whole" = some (some (.ref f_law_whole))) (l_law_whole : K.lookup f_law_whole = some ⟨oc_law_whole, od_law_whole, .func (PySem.W.fnOf "_law_whole" "_law_whole" (defArgs s_law_whole) (defBody s_law_whole) (defScope s_law_whole) .none kV_law_whole dc_law_whole pm_law_whole an_law_whole cd_law_whole ct_law_whole), sl_law_whole⟩) (c_law_whole : PySem.W.codeIn K cd_law_whole "_law_whole" = true) (k_law_whole : PySem.W.keepIn K (.ref f_law_whole) = true)
    (a_law_due : PySem.W.nsIn K mainGlobals "_law_due" = some (some (.ref f_law_due))) (l_law_due : K.lookup f_law_due = some ⟨oc_law_due, od_law_due, .func (PySem.W.fnOf "_law_due" "_law_due" (defArgs s_law_due) (defBody s_law_due) (defScope s_law_due) .none kV_law_due dc_law_due pm_law_due an_law_due cd_law_due ct_law_due), sl_law_due⟩) (c_law_due : PySem.W.codeIn K cd_law_due "_law_due" = true) (k_law_due : PySem.W.keepIn K (.ref f_law_due) = true)
    (a_law_told : PySem.W.nsIn K mainGlobals "_law_told" = some (some (.ref f_law_told))) (l_law_told : K.lookup f_law_told = some ⟨oc_law_told, od_law_told, .func (PySem.W.fnOf "_law_told" "_law_told" (defArgs s_law_told) (defBody s_law_told) (defScope s_law_told) .none kV_law_told dc_law_told pm_law_told an_law_told cd_law_told ct_law_told), sl_law_told⟩) (c_law_told : PySem.W.codeIn K cd_law_told "_law_told" = true) (k_law_told : PySem.W.keepIn K (.ref f_law_told) = true)
    (a_law_refuses : PySem.W.nsIn K mainGlobals "_law_refuses" = some (some (.ref f_law_refuses))) (l_law_refuses : K.lookup f_law_refuses = some ⟨oc_law_refuses, od_law_refuses, .func (PySem.W.fnOf "_law_refuses" "_law_refuses" (defArgs s_law_refuses) (defBody s_law_refuses) (defScope s_law_refuses) .none kV_law_refuses dc_law_refuses pm_law_refuses an_law_refuses cd_law_refuses ct_law_refuses), sl_law_refuses⟩) (c_law_refuses : PySem.W.codeIn K cd_law_refuses "_law_refuses" = true) (k_law_refuses : PySem.W.keepIn K (.ref f_law_refuses) = true)
    (a_law : PySem.W.nsIn K mainGlobals "law" = some (some (.ref f_law))) (l_law : K.lookup f_law = some ⟨oc_law, od_law, .func (PySem.W.fnOf "law" "law" (defArgs s_law) (defBody s_law) (defScope s_law) .none kV_law dc_law pm_law an_law cd_law ct_law), sl_law⟩) (c_law : PySem.W.codeIn K cd_law "law" = true) (k_law : PySem.W.keepIn K (.ref f_law) = true)
    (zn_int : PySem.W.nsIn K mainGlobals "int" = some none)
    (zn_range : PySem.W.nsIn K mainGlobals "range" = some none)
    (zn_abs : PySem.W.nsIn K mainGlobals "abs" = some none)
    (zn_str : PySem.W.nsIn K mainGlobals "str" = some none)
    (zn_divmod : PySem.W.nsIn K mainGlobals "divmod" = some none)
    (zn_len : PySem.W.nsIn K mainGlobals "len" = some none)
    (zn_all : PySem.W.nsIn K mainGlobals "all" = some none)
    (zn_repr : PySem.W.nsIn K mainGlobals "repr" = some none)
    (n_gcd : PySem.W.nsIn K mainGlobals "gcd" = some (some (.builtin "math.gcd")))
    (n_PRIMES : PySem.W.nsIn K mainGlobals "PRIMES" = some (some (.ref aP)))
    (l_PRIMES : K.lookup aP = some ⟨.type "tuple", ddP, .seq #[.int 2 u2, .int 3 u3, .int 5 u5, .int 7 u7, .int 11 u11, .int 13 u13, .int 17 u17, .int 19 u19, .int 23 u23, .int 29 u29, .int 31 u31] nP, slP⟩)
    (n_NotWorld : PySem.W.nsIn K mainGlobals "NotWorld" = some (some (.ref CW)))
    (x_NotWorld : PySem.W.excIn K CW [.type "ValueError", .type "Exception", .type "BaseException", .type "object"] "ValueError.__new__" = true)
    (kc_NotWorld : PySem.W.keepIn K (.ref CW) = true)
    (bc_NotWorld : PySem.W.subIn K (.ref CW) (.type "BaseException") = some true)
    (tc_NotWorld : PySem.W.typeIn K (.ref CW) = some (.type "type"))
    (n_NotNumber : PySem.W.nsIn K mainGlobals "NotNumber" = some (some (.ref CN)))
    (x_NotNumber : PySem.W.excIn K CN [.type "ValueError", .type "Exception", .type "BaseException", .type "object"] "ValueError.__new__" = true)
    (kc_NotNumber : PySem.W.keepIn K (.ref CN) = true)
    (bc_NotNumber : PySem.W.subIn K (.ref CN) (.type "BaseException") = some true)
    (tc_NotNumber : PySem.W.typeIn K (.ref CN) = some (.type "type"))
    (n_MOST_FIGURES : PySem.W.nsIn K mainGlobals "MOST_FIGURES" = some (some (.int 60 tm_MOST_FIGURES)))
    (n_CHUNK_FIGURES : PySem.W.nsIn K mainGlobals "CHUNK_FIGURES" = some (some (.int 60 tm_CHUNK_FIGURES)))
    (n_CHUNK : PySem.W.nsIn K mainGlobals "CHUNK" = some (some (.int 1000000000000000000000000000000000000000000000000000000000000 tm_CHUNK)))
    (n_Malformed : PySem.W.nsIn K mainGlobals "Malformed" = some (some (.ref CM)))
    (x_Malformed : K.lookup CM = some (excClassObj nm_Malformed q_Malformed CM N_Malformed bs_Malformed bm_Malformed true sn_Malformed sub_Malformed ab_Malformed col_Malformed dd_Malformed m0_Malformed m1_Malformed m2_Malformed m3_Malformed m5_Malformed "ValueError.__new__"))
    (r_Malformed : PySem.HandSPX.refsVE bm_Malformed = true)
    (sa_Malformed : PySem.W.findIn K (.ref CM) "__setattr__" = some (some (.builtin "object.__setattr__")))
    (ga_Malformed : PySem.W.findIn K (.ref CM) "__getattribute__" = some (some (.builtin "BaseException.__getattribute__")))
    (gg_Malformed : PySem.W.findIn K (.ref CM) "__getattr__" = some none)
    (na_Malformed : PySem.W.findIn K (.ref CM) "at" = some none)
    (ii_Malformed : PySem.W.findIn K (.ref CM) "__init__" = some (some (.ref f_Malformed_init)))
    (kc_Malformed : PySem.W.keepIn K (.ref CM) = true)
    (ec_Malformed : PySem.W.subIn K (.ref CM) (.type "BaseException") = some true)
    (tc_Malformed : PySem.W.typeIn K (.ref CM) = some (.type "type"))
    (hd_Malformed : PySem.W.hasDictIn K CM = true)
    (ti_Malformed : PySem.W.typeIn K (.ref f_Malformed_init) = some (.type "function"))
    (ss_Malformed : PySem.W.subIn K (.ref CM) (.ref CM) = some true)
    (hd_NotWorld : PySem.W.hasDictIn K CW = true)
    (ss_NotWorld : PySem.W.subIn K (.ref CW) (.ref CW) = some true)
    : ∃ fd : FuncData, (∀ (s : Shared) (v : Value), BindsTo s fd ⟨[v], []⟩ [("script", v)]) ∧ ∀ base : Heap, K.In base → base.Ns mainGlobals mg → FnG P w K mg base 9 fa fd ["script"] (spLaw K) := by
  have e := hfa.symm.trans (PySem.W.mg_of X G a_law)
  cases e
  have F_is_world := fun_mk (st := s_is_world) l_is_world c_is_world k_is_world
  have g_is_world := PySem.W.mg_of X G a_is_world
  have b_is_world := F_is_world.binds (ps := ["world"]) fun _ _ _ _ _ _ us hl => match us, hl with | [_], _ => rfl
  have F_law_plain := fun_mk (st := s_law_plain) l_law_plain c_law_plain k_law_plain
  have g_law_plain := PySem.W.mg_of X G a_law_plain
  have b_law_plain := F_law_plain.binds (ps := ["cell"]) fun _ _ _ _ _ _ us hl => match us, hl with | [_], _ => rfl
  have F_law_next := fun_mk (st := s_law_next) l_law_next c_law_next k_law_next
  have g_law_next := PySem.W.mg_of X G a_law_next
  have b_law_next := F_law_next.binds (ps := ["draws"]) fun _ _ _ _ _ _ us hl => match us, hl with | [_], _ => rfl
  have F_law_draws := fun_mk (st := s_law_draws) l_law_draws c_law_draws k_law_draws
  have g_law_draws := PySem.W.mg_of X G a_law_draws
  have b_law_draws := F_law_draws.binds (ps := ["script"]) fun _ _ _ _ _ _ us hl => match us, hl with | [_], _ => rfl
  have F_check_world := fun_mk (st := s_check_world) l_check_world c_check_world k_check_world
  have g_check_world := PySem.W.mg_of X G a_check_world
  have b_check_world := F_check_world.binds (ps := ["world"]) fun _ _ _ _ _ _ us hl => match us, hl with | [_], _ => rfl
  have F_is_number := fun_mk (st := s_is_number) l_is_number c_is_number k_is_number
  have g_is_number := PySem.W.mg_of X G a_is_number
  have b_is_number := F_is_number.binds (ps := ["world", "x"]) fun _ _ _ _ _ _ us hl => match us, hl with | [_, _], _ => rfl
  have F_check_number := fun_mk (st := s_check_number) l_check_number c_check_number k_check_number
  have g_check_number := PySem.W.mg_of X G a_check_number
  have b_check_number := F_check_number.binds (ps := ["world", "x"]) fun _ _ _ _ _ _ us hl => match us, hl with | [_, _], _ => rfl
  have F_law_lowest := fun_mk (st := s_law_lowest) l_law_lowest c_law_lowest k_law_lowest
  have g_law_lowest := PySem.W.mg_of X G a_law_lowest
  have b_law_lowest := F_law_lowest.binds (ps := ["a", "b"]) fun _ _ _ _ _ _ us hl => match us, hl with | [_, _], _ => rfl
  have F_law_world := fun_mk (st := s_law_world) l_law_world c_law_world k_law_world
  have g_law_world := PySem.W.mg_of X G a_law_world
  have b_law_world := F_law_world.binds (ps := ["draws"]) fun _ _ _ _ _ _ us hl => match us, hl with | [_], _ => rfl
  have F_law_number := fun_mk (st := s_law_number) l_law_number c_law_number k_law_number
  have g_law_number := PySem.W.mg_of X G a_law_number
  have b_law_number := F_law_number.binds (ps := ["draws", "world"]) fun _ _ _ _ _ _ us hl => match us, hl with | [_, _], _ => rfl
  have F_integer_text_ := fun_mk (st := s_integer_text_) l_integer_text_ c_integer_text_ k_integer_text_
  have g_integer_text_ := PySem.W.mg_of X G a_integer_text_
  have b_integer_text_ := F_integer_text_.binds (ps := ["k"]) fun _ _ _ _ _ _ us hl => match us, hl with | [_], _ => rfl
  have F_number_text := fun_mk (st := s_number_text) l_number_text c_number_text k_number_text
  have g_number_text := PySem.W.mg_of X G a_number_text
  have b_number_text := F_number_text.binds (ps := ["world", "x"]) fun _ _ _ _ _ _ us hl => match us, hl with | [_, _], _ => rfl
  have F_Malformed_init := fun_mk (st := s_Malformed_init) l_Malformed_init c_Malformed_init k_Malformed_init
  have b_Malformed_init := F_Malformed_init.binds (ps := ["self", "at"]) fun _ _ _ _ _ _ us hl => match us, hl with | [_, _], _ => rfl
  have F_figure_count_ := fun_mk (st := s_figure_count_) l_figure_count_ c_figure_count_ k_figure_count_
  have g_figure_count_ := PySem.W.mg_of X G a_figure_count_
  have b_figure_count_ := F_figure_count_.binds (ps := ["word"]) fun _ _ _ _ _ _ us hl => match us, hl with | [_], _ => rfl
  have F_is_integer_ := fun_mk (st := s_is_integer_) l_is_integer_ c_is_integer_ k_is_integer_
  have g_is_integer_ := PySem.W.mg_of X G a_is_integer_
  have b_is_integer_ := F_is_integer_.binds (ps := ["word"]) fun _ _ _ _ _ _ us hl => match us, hl with | [_], _ => rfl
  have F_integer_of_ := fun_mk (st := s_integer_of_) l_integer_of_ c_integer_of_ k_integer_of_
  have g_integer_of_ := PySem.W.mg_of X G a_integer_of_
  have b_integer_of_ := F_integer_of_.binds (ps := ["word"]) fun _ _ _ _ _ _ us hl => match us, hl with | [_], _ => rfl
  have F_read_any_number := fun_mk (st := s_read_any_number) l_read_any_number c_read_any_number k_read_any_number
  have g_read_any_number := PySem.W.mg_of X G a_read_any_number
  have b_read_any_number := F_read_any_number.binds (ps := ["world", "text"]) fun _ _ _ _ _ _ us hl => match us, hl with | [_, _], _ => rfl
  have F_read_number := fun_mk (st := s_read_number) l_read_number c_read_number k_read_number
  have g_read_number := PySem.W.mg_of X G a_read_number
  have b_read_number := F_read_number.binds (ps := ["world", "text"]) fun _ _ _ _ _ _ us hl => match us, hl with | [_, _], _ => rfl
  have F_law_whole := fun_mk (st := s_law_whole) l_law_whole c_law_whole k_law_whole
  have g_law_whole := PySem.W.mg_of X G a_law_whole
  have b_law_whole := F_law_whole.binds (ps := ["text"]) fun _ _ _ _ _ _ us hl => match us, hl with | [_], _ => rfl
  have F_law_due := fun_mk (st := s_law_due) l_law_due c_law_due k_law_due
  have g_law_due := PySem.W.mg_of X G a_law_due
  have b_law_due := F_law_due.binds (ps := ["world", "text"]) fun _ _ _ _ _ _ us hl => match us, hl with | [_, _], _ => rfl
  have F_law_told := fun_mk (st := s_law_told) l_law_told c_law_told k_law_told
  have g_law_told := PySem.W.mg_of X G a_law_told
  have b_law_told := F_law_told.binds (ps := ["world", "text"]) fun _ _ _ _ _ _ us hl => match us, hl with | [_, _], _ => rfl
  have F_law_refuses := fun_mk (st := s_law_refuses) l_law_refuses c_law_refuses k_law_refuses
  have g_law_refuses := PySem.W.mg_of X G a_law_refuses
  have b_law_refuses := F_law_refuses.binds (ps := ["text"]) fun _ _ _ _ _ _ us hl => match us, hl with | [_], _ => rfl
  have F_law := fun_mk (st := s_law) l_law c_law k_law
  have g_law := PySem.W.mg_of X G a_law
  have b_law := F_law.binds (ps := ["script"]) fun _ _ _ _ _ _ us hl => match us, hl with | [_], _ => rfl
  have z_int := PySem.W.mg_none_of X G zn_int
  have z_range := PySem.W.mg_none_of X G zn_range
  have z_abs := PySem.W.mg_none_of X G zn_abs
  have z_str := PySem.W.mg_none_of X G zn_str
  have z_divmod := PySem.W.mg_none_of X G zn_divmod
  have z_len := PySem.W.mg_none_of X G zn_len
  have z_all := PySem.W.mg_none_of X G zn_all
  have z_repr := PySem.W.mg_none_of X G zn_repr
  have m_gcd := PySem.W.mg_of X G n_gcd
  have m_PRIMES := PySem.W.mg_of X G n_PRIMES
  have tP : ∀ H, SqT K H aP (primes.map V.int) := fun H => .inr ⟨_, _, _, l_PRIMES, rfl, rfl, (by show 11 ≤ sizeLine; decide), .cons ⟨_, rfl⟩ (.cons ⟨_, rfl⟩ (.cons ⟨_, rfl⟩ (.cons ⟨_, rfl⟩ (.cons ⟨_, rfl⟩ (.cons ⟨_, rfl⟩ (.cons ⟨_, rfl⟩ (.cons ⟨_, rfl⟩ (.cons ⟨_, rfl⟩ (.cons ⟨_, rfl⟩ (.cons ⟨_, rfl⟩ (.nil)))))))))))⟩
  have E_NotWorld : ErrC K mg "NotWorld" CW := ⟨PySem.W.mg_of X G n_NotWorld, x_NotWorld, kc_NotWorld, bc_NotWorld, tc_NotWorld⟩
  have E_NotNumber : ErrC K mg "NotNumber" CN := ⟨PySem.W.mg_of X G n_NotNumber, x_NotNumber, kc_NotNumber, bc_NotNumber, tc_NotNumber⟩
  have m_MOST_FIGURES := PySem.W.mg_of X G n_MOST_FIGURES
  have m_CHUNK_FIGURES := PySem.W.mg_of X G n_CHUNK_FIGURES
  have m_CHUNK := PySem.W.mg_of X G n_CHUNK
  have OX_Malformed : MalC K mg CM f_Malformed_init := ⟨PySem.W.mg_of X G n_Malformed, ⟨⟨_, _, _, _, _, _, _, _, _, _, _, _, _, _, _, x_Malformed, r_Malformed⟩, sa_Malformed, ec_Malformed, tc_Malformed, kc_Malformed⟩, na_Malformed, ii_Malformed, ti_Malformed⟩
  have XM : XfC K CM := ⟨ga_Malformed, gg_Malformed, ec_Malformed, hd_Malformed⟩
  have ZM : ErrM K CM := ⟨ec_Malformed, hd_Malformed, tc_Malformed, ss_Malformed⟩
  have ZW : ErrM K CW := ⟨bc_NotWorld, hd_NotWorld, tc_NotWorld, ss_NotWorld⟩
  have gc_NotWorld := PySem.W.mg_of X G n_NotWorld
  refine ⟨PySem.W.fnOf "law" "law" (defArgs s_law) (defBody s_law) (defScope s_law) .none kV_law dc_law pm_law an_law cd_law ct_law, fun s v => .of_eq rfl, fun base _ _ => ?_⟩
  have G_is_world := ok_is_world (P := P) (w := w) (mg := mg) (base := base) (F := F_is_world) (m_PRIMES := m_PRIMES) (tP := tP)
  have G_law_plain := ok_plain (P := P) (w := w) (mg := mg) (base := base) (F := F_law_plain)
  have G_law_next := ok_next (P := P) (w := w) (mg := mg) (base := base) (F := F_law_next)
  have G_law_draws := ok_draws (P := P) (w := w) (mg := mg) (base := base) (F := F_law_draws) (z_range := z_range) (z_int := z_int) (G_law_plain := G_law_plain) (g_law_plain := g_law_plain) (k_law_plain := k_law_plain) (b_law_plain := b_law_plain)
  have G_check_world := ok_check_world (P := P) (w := w) (mg := mg) (base := base) (F := F_check_world) (T := E_NotWorld) (G_is_world := G_is_world) (g_is_world := g_is_world) (k_is_world := k_is_world) (b_is_world := b_is_world)
  have G_is_number := ok_is_number (P := P) (w := w) (mg := mg) (base := base) (F := F_is_number) (m_gcd := m_gcd) (G_check_world := G_check_world) (g_check_world := g_check_world) (k_check_world := k_check_world) (b_check_world := b_check_world)
  have G_check_number := ok_check_number (P := P) (w := w) (mg := mg) (base := base) (F := F_check_number) (T := E_NotNumber) (G_is_number := G_is_number) (g_is_number := g_is_number) (k_is_number := k_is_number) (b_is_number := b_is_number)
  have G_law_lowest := ok_law_lowest (P := P) (w := w) (mg := mg) (base := base) (F := F_law_lowest) (z_range := z_range) (z_int := z_int) (z_abs := z_abs)
  have G_law_world := ok_law_world (P := P) (w := w) (mg := mg) (base := base) (F := F_law_world) (z_int := z_int) (G_law_next := G_law_next) (g_law_next := g_law_next) (k_law_next := k_law_next) (b_law_next := b_law_next)
  have G_law_number := ok_law_number (P := P) (w := w) (mg := mg) (base := base) (F := F_law_number) (z_int := z_int) (G_law_next := G_law_next) (g_law_next := g_law_next) (k_law_next := k_law_next) (b_law_next := b_law_next) (G_law_lowest := G_law_lowest) (g_law_lowest := g_law_lowest) (k_law_lowest := k_law_lowest) (b_law_lowest := b_law_lowest)
  have G_integer_text_ := ok_integer_text_ (P := P) (w := w) (mg := mg) (base := base) (F := F_integer_text_) (z_abs := z_abs) (z_str := z_str) (z_divmod := z_divmod) (m_CHUNK := m_CHUNK) (m_CHUNK_FIGURES := m_CHUNK_FIGURES)
  have G_number_text := ok_number_text (P := P) (w := w) (mg := mg) (base := base) (F := F_number_text) (G_check_number := G_check_number) (g_check_number := g_check_number) (k_check_number := k_check_number) (b_check_number := b_check_number) (G_integer_text_ := G_integer_text_) (g_integer_text_ := g_integer_text_) (k_integer_text_ := k_integer_text_) (b_integer_text_ := b_integer_text_)
  have G_Malformed_init := ok_Malformed_init (P := P) (w := w) (mg := mg) (base := base) (F := F_Malformed_init)
  have G_figure_count_ := ok_figure_count_ (P := P) (w := w) (mg := mg) (base := base) (F := F_figure_count_) (z_len := z_len)
  have G_is_integer_ := ok_is_integer_ (P := P) (w := w) (mg := mg) (base := base) (F := F_is_integer_)
  have G_integer_of_ := ok_integer_of_ (P := P) (w := w) (mg := mg) (base := base) (F := F_integer_of_) (z_len := z_len) (z_int := z_int) (z_range := z_range) (m_CHUNK_FIGURES := m_CHUNK_FIGURES) (m_CHUNK := m_CHUNK)
  have G_read_any_number := ok_read_any_number (P := P) (w := w) (mg := mg) (base := base) (F := F_read_any_number) (z_len := z_len) (z_all := z_all) (OX_Malformed := OX_Malformed) (G_Malformed_init := G_Malformed_init) (b_Malformed_init := b_Malformed_init) (G_is_number := G_is_number) (g_is_number := g_is_number) (k_is_number := k_is_number) (b_is_number := b_is_number) (G_number_text := G_number_text) (g_number_text := g_number_text) (k_number_text := k_number_text) (b_number_text := b_number_text) (G_is_integer_ := G_is_integer_) (g_is_integer_ := g_is_integer_) (k_is_integer_ := k_is_integer_) (b_is_integer_ := b_is_integer_) (G_integer_of_ := G_integer_of_) (g_integer_of_ := g_integer_of_) (k_integer_of_ := k_integer_of_) (b_integer_of_ := b_integer_of_)
  have G_read_number := ok_read_number (P := P) (w := w) (mg := mg) (base := base) (F := F_read_number) (z_all := z_all) (m_MOST_FIGURES := m_MOST_FIGURES) (OX_Malformed := OX_Malformed) (G_Malformed_init := G_Malformed_init) (b_Malformed_init := b_Malformed_init) (G_check_world := G_check_world) (g_check_world := g_check_world) (k_check_world := k_check_world) (b_check_world := b_check_world) (G_figure_count_ := G_figure_count_) (g_figure_count_ := g_figure_count_) (k_figure_count_ := k_figure_count_) (b_figure_count_ := b_figure_count_) (G_read_any_number := G_read_any_number) (g_read_any_number := g_read_any_number) (k_read_any_number := k_read_any_number) (b_read_any_number := b_read_any_number)
  have G_law_whole := ok_law_whole (P := P) (w := w) (mg := mg) (base := base) (F := F_law_whole) (z_len := z_len) (z_all := z_all) (z_int := z_int)
  have G_law_due := ok_law_due (P := P) (w := w) (mg := mg) (base := base) (F := F_law_due) (z_len := z_len) (G_law_whole := G_law_whole) (g_law_whole := g_law_whole) (k_law_whole := k_law_whole) (b_law_whole := b_law_whole) (G_law_lowest := G_law_lowest) (g_law_lowest := g_law_lowest) (k_law_lowest := k_law_lowest) (b_law_lowest := b_law_lowest)
  have G_law_told := ok_told3 (P := P) (w := w) (mg := mg) (base := base) (F := F_law_told) (z_str := z_str) (OX_Malformed := OX_Malformed) (XM := XM) (ZM := ZM) (G_read_number := G_read_number) (g_read_number := g_read_number) (k_read_number := k_read_number) (b_read_number := b_read_number)
  have G_law_refuses := ok_law_refuses (P := P) (w := w) (mg := mg) (base := base) (F := F_law_refuses) (gc_NotWorld := gc_NotWorld) (ZW := ZW) (G_read_number := G_read_number) (g_read_number := g_read_number) (k_read_number := k_read_number) (b_read_number := b_read_number)
  exact ok_law (P := P) (w := w) (mg := mg) (base := base) (F := F_law) (z_int := z_int) (z_len := z_len) (z_repr := z_repr) (G_law_draws := G_law_draws) (g_law_draws := g_law_draws) (k_law_draws := k_law_draws) (b_law_draws := b_law_draws) (G_law_next := G_law_next) (g_law_next := g_law_next) (k_law_next := k_law_next) (b_law_next := b_law_next) (G_law_world := G_law_world) (g_law_world := g_law_world) (k_law_world := k_law_world) (b_law_world := b_law_world) (G_law_number := G_law_number) (g_law_number := g_law_number) (k_law_number := k_law_number) (b_law_number := b_law_number) (G_number_text := G_number_text) (g_number_text := g_number_text) (k_number_text := k_number_text) (b_number_text := b_number_text) (G_law_due := G_law_due) (g_law_due := g_law_due) (k_law_due := k_law_due) (b_law_due := b_law_due) (G_law_told := G_law_told) (g_law_told := g_law_told) (k_law_told := k_law_told) (b_law_told := b_law_told) (G_law_refuses := G_law_refuses) (g_law_refuses := g_law_refuses) (k_law_refuses := k_law_refuses) (b_law_refuses := b_law_refuses)
end T
open PySem PySem.W PyProof.Rows
set_option maxHeartbeats 0 in
theorem PySem.Challenge.cw_threadworth_k03_texts_of_numbers_holds : PySem.Challenge.rw_threadworth_k03_texts_of_numbers.Holds := by
  w_on; o_law; k_head; (case hw => w_witness2)
  k_fill
  refine L2.walk_ofG (l := PySem.Challenge.rw_threadworth_k03_texts_of_numbers) (n := 63) (k := 9) (x := "script") (sp := fun w => T.spLaw _) rfl (by decide) rfl ⟨rfl, by decide, by decide⟩ (fun w h Y => PySem.W.kIn_of Y) ?F (fun _ _ a ns hl hS => ⟨a, ns, rfl, hS, hl, fun _ => rfl⟩)
  case F =>
    intro w mg fa h KX G hmg
    refine' T.all_mk KX G hmg ?a_is_world ?l_is_world ?c_is_world ?k_is_world ?a_law_plain ?l_law_plain ?c_law_plain ?k_law_plain ?a_law_next ?l_law_next ?c_law_next ?k_law_next ?a_law_draws ?l_law_draws ?c_law_draws ?k_law_draws ?a_check_world ?l_check_world ?c_check_world ?k_check_world ?a_is_number ?l_is_number ?c_is_number ?k_is_number ?a_check_number ?l_check_number ?c_check_number ?k_check_number ?a_law_lowest ?l_law_lowest ?c_law_lowest ?k_law_lowest ?a_law_world ?l_law_world ?c_law_world ?k_law_world ?a_law_number ?l_law_number ?c_law_number ?k_law_number ?a_integer_text_ ?l_integer_text_ ?c_integer_text_ ?k_integer_text_ ?a_number_text ?l_number_text ?c_number_text ?k_number_text ?l_Malformed_init ?c_Malformed_init ?k_Malformed_init ?a_figure_count_ ?l_figure_count_ ?c_figure_count_ ?k_figure_count_ ?a_is_integer_ ?l_is_integer_ ?c_is_integer_ ?k_is_integer_ ?a_integer_of_ ?l_integer_of_ ?c_integer_of_ ?k_integer_of_ ?a_read_any_number ?l_read_any_number ?c_read_any_number ?k_read_any_number ?a_read_number ?l_read_number ?c_read_number ?k_read_number ?a_law_whole ?l_law_whole ?c_law_whole ?k_law_whole ?a_law_due ?l_law_due ?c_law_due ?k_law_due ?a_law_told ?l_law_told ?c_law_told ?k_law_told ?a_law_refuses ?l_law_refuses ?c_law_refuses ?k_law_refuses ?a_law ?l_law ?c_law ?k_law ?zn_int ?zn_range ?zn_abs ?zn_str ?zn_divmod ?zn_len ?zn_all ?zn_repr ?n_gcd ?n_PRIMES ?l_PRIMES ?n_NotWorld ?x_NotWorld ?kc_NotWorld ?bc_NotWorld ?tc_NotWorld ?n_NotNumber ?x_NotNumber ?kc_NotNumber ?bc_NotNumber ?tc_NotNumber ?n_MOST_FIGURES ?n_CHUNK_FIGURES ?n_CHUNK ?n_Malformed ?x_Malformed ?r_Malformed ?sa_Malformed ?ga_Malformed ?gg_Malformed ?na_Malformed ?ii_Malformed ?kc_Malformed ?ec_Malformed ?tc_Malformed ?hd_Malformed ?ti_Malformed ?ss_Malformed ?hd_NotWorld ?ss_NotWorld
    (case a_is_world => k_is); (case l_is_world => k_is); (case c_is_world => k_is); (case k_is_world => k_is); (case a_law_plain => k_is); (case l_law_plain => k_is); (case c_law_plain => k_is); (case k_law_plain => k_is)
    (case a_law_next => k_is); (case l_law_next => k_is); (case c_law_next => k_is); (case k_law_next => k_is); (case a_law_draws => k_is); (case l_law_draws => k_is); (case c_law_draws => k_is); (case k_law_draws => k_is)
    (case a_check_world => k_is); (case l_check_world => k_is); (case c_check_world => k_is); (case k_check_world => k_is); (case a_is_number => k_is); (case l_is_number => k_is); (case c_is_number => k_is); (case k_is_number => k_is)
    (case a_check_number => k_is); (case l_check_number => k_is); (case c_check_number => k_is); (case k_check_number => k_is); (case a_law_lowest => k_is); (case l_law_lowest => k_is); (case c_law_lowest => k_is); (case k_law_lowest => k_is)
    (case a_law_world => k_is); (case l_law_world => k_is); (case c_law_world => k_is); (case k_law_world => k_is); (case a_law_number => k_is); (case l_law_number => k_is); (case c_law_number => k_is); (case k_law_number => k_is)
    (case a_integer_text_ => k_is); (case l_integer_text_ => k_is); (case c_integer_text_ => k_is); (case k_integer_text_ => k_is); (case a_number_text => k_is); (case l_number_text => k_is); (case c_number_text => k_is); (case k_number_text => k_is)
    (case a_figure_count_ => k_is); (case l_figure_count_ => k_is); (case c_figure_count_ => k_is); (case k_figure_count_ => k_is); (case a_is_integer_ => k_is); (case l_is_integer_ => k_is); (case c_is_integer_ => k_is); (case k_is_integer_ => k_is)
    (case a_integer_of_ => k_is); (case l_integer_of_ => k_is); (case c_integer_of_ => k_is); (case k_integer_of_ => k_is); (case a_read_any_number => k_is); (case l_read_any_number => k_is); (case c_read_any_number => k_is); (case k_read_any_number => k_is)
    (case a_read_number => k_is); (case l_read_number => k_is); (case c_read_number => k_is); (case k_read_number => k_is); (case a_law_whole => k_is); (case l_law_whole => k_is); (case c_law_whole => k_is); (case k_law_whole => k_is)
    (case a_law_due => k_is); (case l_law_due => k_is); (case c_law_due => k_is); (case k_law_due => k_is); (case a_law_told => k_is); (case l_law_told => k_is); (case c_law_told => k_is); (case k_law_told => k_is)
    (case a_law_refuses => k_is); (case l_law_refuses => k_is); (case c_law_refuses => k_is); (case k_law_refuses => k_is); (case a_law => k_is); (case l_law => k_is); (case c_law => k_is); (case k_law => k_is)
    (case zn_int => k_is); (case zn_range => k_is); (case zn_abs => k_is); (case zn_str => k_is); (case zn_divmod => k_is); (case zn_len => k_is); (case zn_all => k_is); (case zn_repr => k_is)
    (case n_gcd => k_is); (case n_PRIMES => k_is); (case l_PRIMES => k_is); (case n_NotWorld => k_is); (case x_NotWorld => k_exc); (case kc_NotWorld => k_is); (case bc_NotWorld => k_is); (case tc_NotWorld => k_is)
    (case n_NotNumber => k_is); (case x_NotNumber => k_exc); (case kc_NotNumber => k_is); (case bc_NotNumber => k_is); (case tc_NotNumber => k_is); (case n_MOST_FIGURES => k_is); (case n_CHUNK_FIGURES => k_is); (case n_CHUNK => k_is)
    (case n_Malformed => k_is); (case x_Malformed => k_is); (case r_Malformed => rfl); (case sa_Malformed => k_is); (case ga_Malformed => k_is); (case gg_Malformed => k_is); (case na_Malformed => k_is); (case ii_Malformed => k_is)
    (case kc_Malformed => k_is); (case ec_Malformed => k_is); (case tc_Malformed => k_is); (case hd_Malformed => k_is); (case ti_Malformed => k_is); (case ss_Malformed => first | rfl | k_is); (case hd_NotWorld => k_is); (case ss_NotWorld => first | rfl | k_is)
    (case l_Malformed_init => k_is); (case c_Malformed_init => k_is); (case k_Malformed_init => k_is)
