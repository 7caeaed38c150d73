import PyProof.Rows.All
import Wide.All
import OpenK.AllK
import Wide.FinOn
import PyProof.EqAt
import PyProof.EqKinds
import PyProof.TupleCall
import HandS.ForExc
import HandS.Comp
import HandS.Iter
import HandS.Gcd
import HandS.Wide
import HandS.Evl
import HandS.Defaults
import HandS.ExcIs
import HandS.TupAny
import HandS.TupMul
import PyProof.ReprRoads
import PyProof.ReprLen
import PyProof.CallFns
import PyProof.Rows.RegStrFacts
import PySem.Challenge.RW_threadworth_k01_sums_and_products
set_option Elab.async false
set_option linter.all false
set_option maxRecDepth 100000
set_option maxHeartbeats 4000000
namespace T
open PySem PySem.Spec PyProof.Rows L2
/-! ### the mathematics of worlds and numbers -/
def primes : List Int := [2, 3, 5, 7, 11, 13, 17, 19, 23, 29, 31]
def isW (p d : Int) : Bool := if p = 0 then (if -20 ≤ d then decide (d ≤ 20) else false) else (if inV (.int p) (primes.map V.int) = true then (if 0 ≤ d then decide (d < p) else false) else false)
theorem inV_ints {p : Int} : ∀ {l : List Int}, inV (.int p) (l.map V.int) = true → p ∈ l
  | [], h => by cases h
  | x :: l, h => by
    have h1 : ((eqV (.int x) (.int p)) || inV (.int p) (l.map V.int)) = true := h
    rcases (Bool.or_eq_true _ _).mp h1 with h | h
    · have : x = p := of_decide_eq_true (show decide (x = p) = true by simpa [eqV] using h)
      rw [this]
      exact List.mem_cons_self
    · exact List.mem_cons_of_mem _ (inV_ints h)
theorem isW_prime {p d : Int} (h : isW p d = true) (hp : p ≠ 0) : p ∈ primes ∧ 0 ≤ d ∧ d < p := by
  unfold isW at h
  rw [if_neg hp] at h
  by_cases e : inV (.int p) (primes.map V.int) = true
  · rw [if_pos e] at h
    by_cases e2 : 0 ≤ d
    · rw [if_pos e2] at h
      exact ⟨inV_ints e, e2, of_decide_eq_true h⟩
    · rw [if_neg e2] at h
      cases h
  · rw [if_neg e] at h
    cases h
theorem prime_pos {p : Int} (h : p ∈ primes) : 2 ≤ p ∧ p ≤ 31 := by
  simp only [primes, List.mem_cons, List.not_mem_nil, or_false] at h
  omega
theorem inv_exN : ∀ p ∈ [2, 3, 5, 7, 11, 13, 17, 19, 23, 29, 31], ∀ r, r < p → r ≠ 0 → ∃ k, k < p ∧ (k * r) % p = 1 := by decide +kernel
theorem inv_ex {p : Int} (hp : p ∈ primes) {r : Int} (h0 : 0 ≤ r) (h1 : r < p) (hr : r ≠ 0) : ∃ k : Int, 1 ≤ k ∧ k < p ∧ k * r % p = 1 := by
  obtain ⟨n, rfl⟩ := Int.eq_ofNat_of_zero_le (show 0 ≤ p by have := prime_pos hp; omega)
  obtain ⟨m, rfl⟩ := Int.eq_ofNat_of_zero_le h0
  have hn : n ∈ [2, 3, 5, 7, 11, 13, 17, 19, 23, 29, 31] := by
    simp only [primes, List.mem_cons, List.not_mem_nil, or_false] at hp ⊢
    omega
  obtain ⟨k, hk, e⟩ := inv_exN n hn m (by omega) (by omega)
  refine ⟨(k : Int), ?_, by omega, ?_⟩
  · rcases Nat.eq_zero_or_pos k with z | z
    · subst z
      rw [Nat.zero_mul, Nat.zero_mod] at e
      cases e
    · omega
  · have : ((k * m % n : Nat) : Int) = ((1 : Nat) : Int) := by rw [e]
    rw [← Int.natCast_mul, ← Int.natCast_emod, e]
    rfl
/-- lowest terms -/
def gI (a b : Int) : Int := ((Nat.gcd a.natAbs b.natAbs : Nat) : Int)
def low (a b : Int) : Int × Int := if b < 0 then ((-a) / gI a b, (-b) / gI a b) else (a / gI a b, b / gI a b)
theorem gI_pos {a b : Int} (hb : b ≠ 0) : 0 < gI a b := by
  have : 0 < Nat.gcd a.natAbs b.natAbs := Nat.gcd_pos_of_pos_right _ (by omega)
  unfold gI
  omega
theorem gI_le {a b : Int} (hb : b ≠ 0) : gI a b ≤ b.natAbs := by
  have := Nat.gcd_le_right (m := a.natAbs) (n := b.natAbs) (by omega)
  unfold gI
  omega
theorem fdiv_negg (a g : Int) (hg : 0 ≤ g) : a.fdiv (-g) = (-a) / g := by
  rw [← Int.fdiv_eq_ediv_of_nonneg _ hg, ← Int.neg_fdiv_neg (-a) g, Int.neg_neg]
/-- the number a / b -/
def bad (p b : Int) : Prop := b = 0 ∨ (0 < p ∧ b % p = 0)
def IsNum (p a b x y : Int) : Prop := (0 < p ∧ y = 1 ∧ 0 ≤ x ∧ x < p ∧ (x * b - a) % p = 0) ∨ (¬ 0 < p ∧ (x, y) = low a b)
theorem inv_solves {p a b k : Int} (hp : 0 < p) (e : k * (b % p) % p = 1) (h1 : 1 < p) : ((a * k % p) * b - a) % p = 0 := by
  have e1 : (k * b) % p = 1 := by
    rw [Int.mul_emod, Int.emod_emod_of_dvd _ (Int.dvd_refl p), ← Int.mul_emod] at e
    exact e
  have d1 : p ∣ k * b - 1 := by
    apply Int.dvd_of_emod_eq_zero
    rw [Int.sub_emod, e1, Int.emod_eq_of_lt (by omega) h1]
    simp
  have d2 : p ∣ a * k - a * k % p := Int.dvd_self_sub_emod
  apply Int.emod_eq_zero_of_dvd
  have : (a * k % p) * b - a = a * (k * b - 1) - (a * k - a * k % p) * b := by
    rw [Int.mul_sub, Int.sub_mul, Int.mul_assoc]
    omega
  rw [this]
  exact Int.dvd_sub (Int.dvd_mul_of_dvd_right d1) (Int.dvd_mul_of_dvd_left d2)
theorem num_unique {p a b x y x' y' : Int} (hp : p = 0 ∨ p ∈ primes) (hb : ¬ bad p b) (h : IsNum p a b x y) (h' : IsNum p a b x' y') : x = x' ∧ y = y' := by
  rcases h with ⟨h0, e1, l1, u1, m1⟩ | ⟨h0, e1⟩
  · rcases h' with ⟨_, e2, l2, u2, m2⟩ | ⟨h0', _⟩
    · refine ⟨?_, e1.trans e2.symm⟩
      rcases hp with rfl | hp
      · omega
      · have hp2 := prime_pos hp
        have hbp : b % p ≠ 0 := fun z => hb (.inr ⟨h0, z⟩)
        obtain ⟨k, k1, k2, ek⟩ := inv_ex hp (Int.emod_nonneg b (by omega)) (Int.emod_lt_of_pos b h0) hbp
        have e1 : (k * b) % p = 1 := by
          rw [Int.mul_emod, Int.emod_emod_of_dvd _ (Int.dvd_refl p), ← Int.mul_emod] at ek
          exact ek
        have d1 : p ∣ k * b - 1 := by
          apply Int.dvd_of_emod_eq_zero
          rw [Int.sub_emod, e1, Int.emod_eq_of_lt (show (0:Int) ≤ 1 by omega) (show (1:Int) < p by omega)]
          simp
        have d2 : p ∣ (x * b - a) - (x' * b - a) := Int.dvd_sub (Int.dvd_of_emod_eq_zero m1) (Int.dvd_of_emod_eq_zero m2)
        have d3 : p ∣ x - x' := by
          have e : x - x' = k * ((x * b - a) - (x' * b - a)) - (x - x') * (k * b - 1) := by
            have e3 : (x * b - a) - (x' * b - a) = (x - x') * b := by
              rw [Int.sub_mul]
              omega
            rw [e3, Int.mul_sub, Int.mul_one, ← Int.mul_assoc, Int.mul_comm k (x - x'), Int.mul_assoc]
            omega
          rw [e]
          exact Int.dvd_sub (Int.dvd_mul_of_dvd_right d2) (Int.dvd_mul_of_dvd_right d1)
        obtain ⟨c, ec⟩ := d3
        have hc : c = 0 := by
          rcases Int.lt_trichotomy c 0 with z | z | z
          · have : p * c ≤ p * (-1) := Int.mul_le_mul_of_nonneg_left (by omega) (by omega)
            omega
          · exact z
          · have : p * 1 ≤ p * c := Int.mul_le_mul_of_nonneg_left (by omega) (by omega)
            omega
        rw [hc, Int.mul_zero] at ec
        omega
    · exact absurd h0 h0'
  · rcases h' with ⟨h0', _⟩ | ⟨_, e2⟩
    · exact absurd h0' h0
    · have := e1.trans e2.symm
      exact ⟨congrArg Prod.fst this, congrArg Prod.snd this⟩
end T

/-! ### defs that are called where nothing is being shown (no repr is under way): what the law's own def may know -/
namespace L2
open PySem PySem.Spec PyProof.Rows
structure FnG (P : Program) (w : World) (K : PySem.W.Frag) (mg : Str → Option Value) (base : Heap) (k : Nat) (f : Addr) (fd : FuncData) (ps : List Str) (sp : Sp) : Prop where
  len : ∀ vs H Q E, sp vs H Q E → vs.length = ps.length
  run : ∀ (A : Around) (outer : List Env) (s : Shared) (H : Hp) (args : Args) (us : List Value) (vs : List V) (Q : VK) (E : XK), A.guards = some [] → Room k A → Env0 P w K mg base A outer s H →
    BindsTo s fd args (ps.zip us) → Vals vs us → sp vs H Q E → codeAny (model P w) A (.call (.ref f) args) (CR CX0 outer P w H s Q E) s
theorem CE_of {P : Program} {w : World} {K : PySem.W.Frag} {mg : Str → Option Value} {base : Heap} {N : List Str} {qual : Str} {scope : Scope} {f : Addr} {cdv : Value} {A : Around} {outer : List Env} {s s' : Shared} {H H' : Hp} {E : XK} {Q : VK} {σ' : St} {v : V} {u : Value}
    (J : Inv (cxOf CX0 P w K mg base N qual scope f cdv A outer s H E) [] σ' H' s') (rv : RelV v u) (q : Q v H') : CE outer P w H s Q u s' := ⟨v, H', J.os, J.bare, J.base, J.hok, rv, q⟩
theorem Fun.okG {P : Program} {w : World} {K : PySem.W.Frag} {mg : Str → Option Value} {base : Heap} {x qual : Str} {st : Stmt} {f : Addr} {fd : FuncData} {N ps : List Str} {k : Nat} {sp : Sp} (F : Fun K x qual st f fd) (S : FnScope N ps (defScope st))
    (len : ∀ vs H Q E, sp vs H Q E → vs.length = ps.length)
    (hbody : ∀ (cdv : Value) (A : Around) (outer : List Env) (s : Shared) (H : Hp) (vs : List V) (Q : VK) (E : XK), (A.deeper (envOfC qual (defScope st) s.heap.objs.size f cdv)).guards = some [] →
      Room k (A.deeper (envOfC qual (defScope st) s.heap.objs.size f cdv)) → sp vs H Q E →
      ∃ t, PSs (cxOf CX0 P w K mg base N qual (defScope st) f cdv A outer s H E).nox (defBody st) t ∧ t { nx := fun _ H' => Q .non H', rt := Q } (start N vs) H) : FnG P w K mg base (k + 1) f fd ps sp := by
  obtain ⟨oc, od, kV, doc, pm, an, cdv, ct, osl, rfl, lk, hcd⟩ := F.ex
  refine ⟨len, fun A outer s H args us vs Q E hgu hr e0 hb r hsp => ?_⟩
  have keep := fun b o (e : base.get? b = some o) => (e0.bs b o e).1
  have inK : K.In s.heap := e0.mod.kin.keeps keep
  refine codeAny_call_function hr.depth (inK _ _ lk) rfl S.co S.gen rfl (PySem.W.codeRec_of inK hcd) (hb _ _ _ _ ?_)
  refine wpAny_newFunctionEnv_cells S.kind (fun ⟨n, v⟩ hy => ?_) fun env he s1 xx => ?_
  · exact (S.par n (List.of_mem_zip hy).1).elim .inl fun q => .inr ⟨q, PySem.W.cellsFrom_some _ _ _ (.inl q)⟩
  · subst he
    refine ⟨(e0.mod.nolimit.keeps keep).keeps xx.toInCall.keep, codeAny_func ?_⟩
    obtain ⟨t, ht, hq⟩ := hbody cdv A outer s H vs Q E hgu (hr.deeper _) hsp
    have I := inv_start (CX := CX0) (E := E) S hr.hd e0 (len _ _ _ _ hsp) r xx
    refine wpAny_mono (ht.nox.run [] s1 _ H _ I hq) (fun fl s' hs => ?_) fun e s' hs => hs
    rcases fl with _ | _ | _ | u
    · obtain ⟨σ', H', J, q⟩ := hs
      exact CE_of (v := V.non) (u := Value.none) J rfl q
    · exact hs.elim fun _ z => z.elim fun _ z => z.2.elim
    · exact hs.elim fun _ z => z.elim fun _ z => z.2.elim
    · obtain ⟨v, σ', H', J, rv, q⟩ := hs
      exact CE_of J rv q
end L2

namespace L2
open PySem PySem.Spec PyProof.Rows
/-- the law's def, called by the claim's caller: nothing is being shown there -/
theorem goes_at {P : Program} {w : World} {K : PySem.W.Frag} {mg mb : Str → Option Value} {k : Nat} {fa a : Addr} {fd : FuncData} {x : Str} {sp : Sp} {t : Shared} {vs : List Value} {xs : List V} {H : Hp}
    (KX : K.In t.heap) (hns : t.heap.Ns mainGlobals mg) (hb : t.heap.Ns builtinsNs mb) (hbb : ∀ y : Str, y ≠ "__name__" → mb y = bootBuiltins y) (hlim : t.heap.NoLimit) (hg : t.gens = #[])
    (ha : t.heap.get? a = some { cls := .type "list", data := .seq vs.toArray }) (hr : Room k callerA)
    (F : ∀ base : Heap, K.In base → base.Ns mainGlobals mg → FnG P w K mg base k fa fd [x] sp) (hbind : ∀ (s : Shared) (u : Value), BindsTo s fd ⟨[u], []⟩ [(x, u)])
    (hO : Only H) (hsp : sp [.ref a] H (fun v _ => v = .bl true) fun _ _ _ => False) (hok : HOk P w H t.heap) (hA : ∀ b, H b ≠ none → b = a) (hK : H a ≠ none → K.lookup a = none) :
    codeAny (model P w) callerA (.call (.ref fa) ⟨[.ref a], []⟩) (fun r s' => r = .ok (.ret (.bool true)) ∧ OldK t.heap s'.heap ∧ s'.os = t.os ∧ AllBare s'.gens) t := by
  have free : ∀ {b : Addr}, (H b ≠ none → False) → H b = none := fun {b} z => by
    rcases e : H b with _ | u
    · rfl
    · exact (z (by rw [e]; exact fun q => nomatch q)).elim
  have ns : ∀ {b : Addr} {m : Str → Option Value}, t.heap.Ns b m → (hidT t.heap H).Ns b m := fun {b m} z => by
    obtain ⟨o, es, ep, e, d, r⟩ := z
    refine ⟨o, es, ep, hidT_get e (free fun z => ?_), d, r⟩
    rw [hA b z, ha] at e
    cases e
    cases d
  have inB : K.In (hidT t.heap H) := fun b o e => hidT_get (KX b o e) (free fun z => by
    have eb := hA b z
    rw [eb] at z e
    rw [hK z] at e
    cases e)
  obtain ⟨mc, l1, l2⟩ := hlim
  have env : Env0 P w K mg (hidT t.heap H) callerA [] t H := ⟨rfl, ⟨inB, ns hns, ⟨mb, ns hb, hbb⟩, ⟨mc, ns l1, l2⟩⟩, fun b o e => of_hidT e, Nat.le_of_eq (hidT_size _ _), trivial, fun b hb => (nomatch hb), hok, .of_eq hg⟩
  refine codeAny_mono ((F _ inB (ns hns)).run callerA [] t H _ [.ref a] [.ref a] _ _ rfl hr env (hbind t (.ref a)) (.cons rfl .nil) hsp) fun r s' h => ?_
  rcases r with e | fl
  · exact (show False from h).elim
  · rcases fl with _ | _ | _ | u
    · exact (show False from h).elim
    · exact (show False from h).elim
    · exact (show False from h).elim
    · obtain ⟨v, H', os, bare, un, hok', rv, q⟩ := h
      obtain rfl : v = .bl true := q
      obtain rfl : u = Value.bool true := rv
      refine ⟨rfl, OldK.of_keep fun b o e => ?_, os, bare⟩
      rcases hO b with z | ⟨ob, ys, z⟩
      · exact un.keep b o e z (fun z => nomatch z) (fun z => nomatch z)
      · have e1 := (hok b _ z).1
        rw [e] at e1
        rw [Option.some.inj e1]
        exact (hok' b _ (un.frzs b ob _ z)).1
theorem walk_ofG {l : PySem.W.OpenLaw} {n k : Nat} {q : Program} {loose : List Str} {XP : (Str → Option Value) → Heap → Prop} {YP : World → Heap → Prop} {d : DefRec} {K : Params → PySem.W.Frag} {sp : World → Sp} {x : Str}
    (hn : l.most = some n) (hn2 : n ≤ sizeLine) (hdf : d.params.defaults = []) (hr : Room k callerA) (hY : ∀ (w : World) (h : Heap), YP w h → (K w.params).In h)
    (F : ∀ (w : World) (mg : Str → Option Value) (fa : Addr) (h : Heap), (K w.params).In h → h.Ns mainGlobals mg → mg d.name = some (.ref fa) →
      ∃ fd : FuncData, (∀ (s : Shared) (u : Value), BindsTo s fd ⟨[u], []⟩ [(x, u)]) ∧ ∀ base : Heap, (K w.params).In base → base.Ns mainGlobals mg → FnG l.prog w (K w.params) mg base k fa fd [x] (sp w))
    (hsp : ∀ (w : World) (H : Hp) (a : Addr) (ns : List Int), ns.length ≤ n → SqL (K w.params) H a (ns.map V.int) → sp w [.ref a] H (fun v _ => v = .bl true) fun _ _ _ => False) :
    PySem.W.WalkO q loose XP YP l.row.toRowW d [] (fun f vs => PySem.call f vs) := by
  refine Att.attach_call hn hdf fun w s₀ t mg mb fa o pm cd doc a vs ns G Y ho hd hcd hmg hobj hints hlen hg => ?_
  have KX := hY w _ Y
  obtain ⟨fd, hb, hF⟩ := F w mg fa _ KX G.T.g hmg
  have rv : Vals (ns.map V.int) vs := vals_ints hints
  have lv := hints.length
  rcases hk : (K w.params).lookup a with _ | oa
  · refine goes_at (xs := ns.map V.int) (H := fun b => if b = a then some (.frz { cls := .type "list", data := .seq vs.toArray } (.lst (ns.map V.int))) else none) KX G.T.g G.T.b G.T.builtins G.T.nolimit hg hobj hr hF hb
      (fun b => ?_) (hsp w _ a ns hlen (.inl (.inr ⟨_, if_pos rfl⟩))) (fun b u z => ?_) (fun b z => Decidable.byContradiction fun c => z (if_neg c)) fun _ => hk
    · by_cases c : b = a
      · exact .inr ⟨_, _, if_pos c⟩
      · exact .inl (if_neg c)
    · by_cases c : b = a
      · have z' := (if_pos c).symm.trans z
        cases z'
        subst c
        exact ⟨hobj, by rw [List.length_map]; omega, vs, _, rv, hobj⟩
      · have z' := (if_neg c).symm.trans z
        cases z'
  · have e := (KX a oa hk).symm.trans hobj
    cases e
    exact goes_at (xs := ns.map V.int) (H := fun _ => none) KX G.T.g G.T.b G.T.builtins G.T.nolimit hg hobj hr hF hb (fun _ => .inl rfl)
      (hsp w _ a ns hlen (.inr ⟨_, vs.toArray, _, hk, rfl, rfl, rfl, by rw [List.size_toArray]; omega, rv⟩)) (fun b u z => nomatch z) (fun b z => (z rfl).elim) fun z => (z rfl).elim
end L2

namespace L2
open PySem PySem.Spec PyProof.Rows
/-! ### repr(data), where nothing is being shown -/
mutual
def wt : PyData → Nat
  | .none => 4
  | .bool _ => 5
  | .int _ => 1921
  | .str x => (reprText x).length
  | .list xs => wtAll xs + 3
  | .tuple xs => wtAll xs + 3
  | .dict _ => 0
def wtAll : List PyData → Nat
  | [] => 0
  | x :: xs => wt x + 2 + wtAll xs
end
mutual
theorem shown_wt : ∀ d : PyData, d.showable = true → d.hasDict = false → d.shown.length ≤ wt d
  | .none, _, _ => by simp only [PyData.shown, wt]; decide +kernel
  | .bool b, _, _ => by cases b <;> simp only [PyData.shown, wt] <;> decide +kernel
  | .int i, h, _ => by
    simp only [PyData.shown, wt]
    exact int_text_len_1921 (by simpa [PyData.showable] using h)
  | .str x, _, _ => by simp only [PyData.shown, wt]; exact Nat.le_refl _
  | .list xs, h, h2 => by
    simp only [PyData.showable] at h
    simp only [PyData.hasDict] at h2
    simp only [PyData.shown, wt]
    have h3 := shown_wtAll xs h h2
    have h4 := listText_len_le (PyData.shownAll xs)
    omega
  | .tuple xs, h, h2 => by
    simp only [PyData.showable] at h
    simp only [PyData.hasDict] at h2
    simp only [PyData.shown, wt]
    have h3 := shown_wtAll xs h h2
    have h4 := tupleText_len_le (PyData.shownAll xs)
    omega
  | .dict _, _, h2 => by simp [PyData.hasDict] at h2
theorem shown_wtAll : ∀ xs : List PyData, PyData.showableAll xs = true → PyData.hasDictAll xs = false → ((PyData.shownAll xs).map (·.length)).sum + 2 * (PyData.shownAll xs).length ≤ wtAll xs
  | [], _, _ => by simp [PyData.shownAll, wtAll]
  | x :: xs, h, h2 => by
    simp only [PyData.showableAll, Bool.and_eq_true] at h
    simp only [PyData.hasDictAll, Bool.or_eq_false_iff] at h2
    have h3 := shown_wt x h.1 h2.1
    have h4 := shown_wtAll xs h.2 h2.2
    simp only [PyData.shownAll, wtAll, List.map_cons, List.sum_cons, List.length_cons]
    omega
end
def rReprD (K : PySem.W.Frag) : List V → Hp → VK → Prop := fun xs H Q => ∃ x d, xs = [x] ∧ Dp K H x d ∧ SeqAt.shaped d = true ∧ d.showable = true ∧ wt d ≤ sizeLine ∧ Q (.str d.shown) H
theorem cr_reprD {X : Cx} (hg : X.A.guards = some []) (hu : X.A.units + 65 < cLine) : CallR X (.builtin "repr") (rReprD X.K) := by
  intro pins s σ H vs us Q I r h
  obtain ⟨x, d, rfl, hd, hs, hw, hz, q⟩ := h
  cases r with
  | cons rv rn =>
    rename_i v us'
    cases rn
    have hs' : (d.canLay0 && decide (d.depth ≤ 64)) = true := hs
    rw [Bool.and_eq_true] at hs'
    have nd := PyData.hasDict_of_canLay d hs'.1
    have dep : d.depth ≤ 64 := of_decide_eq_true hs'.2
    have sz := Nat.le_trans (shown_wt d hw nd) hz
    obtain ⟨as, rd⟩ := Dp.reads I d x v hd rv
    have ref : ∀ a : Addr, v = .ref a → wpAny (model X.prog X.w) X.A (call (.builtin "repr") [v]) (EP X pins σ Q) X.xe s := fun a e => by
      subst e
      exact repr_of_reads' rd hw (PyData.noDict_hsm nd) hg (by omega) (fun _ _ e => e) (fun h' u tk hk => ⟨.str _, H, I.kept (t' := tk) hk, ⟨u, rfl⟩, q⟩) sz
    cases hd with
    | non =>
      cases rv
      exact PySem.P.repr_of_none ⟨.str _, H, I.tok _, ⟨_, rfl⟩, by simpa only [PyData.shown] using q⟩
    | bl b =>
      cases rv
      exact PySem.P.repr_of_bool ⟨.str _, H, I.tok _, ⟨_, rfl⟩, by simpa only [PyData.shown] using q⟩
    | int i =>
      obtain ⟨t, rfl⟩ := rv
      exact PySem.P.repr_of_int (by simpa [PyData.showable] using hw) ⟨.str _, H, I.tok _, ⟨_, rfl⟩, by simpa only [PyData.shown] using q⟩
    | str y =>
      obtain ⟨t, rfl⟩ := rv
      exact PySem.P.repr_of_str ⟨.str _, H, I.tok _, ⟨_, rfl⟩, by simpa only [PyData.shown] using q⟩ (by simpa only [PyData.shown] using sz)
    | lst _ _ => exact ref _ rv
    | tup _ _ => exact ref _ rv
end L2

namespace T
/-! ### fractions -/
theorem low_pos {a : Int} {n : Nat} (hn : n ≠ 0) : low a (n : Int) = ((Rat.divInt a (n : Int)).num, ((Rat.divInt a (n : Int)).den : Int)) := by
  have e : Rat.divInt a (n : Int) = Rat.normalize a n hn := by
    show mkRat a n = _
    rw [Rat.mkRat_def, dif_neg hn]
  rw [e, Rat.normalize_eq]
  unfold low gI
  rw [if_neg (by omega), Int.natAbs_natCast]
  show (_, _) = (_, (((n / a.natAbs.gcd n : Nat)) : Int))
  rw [Int.natCast_ediv]
theorem low_rat {a b : Int} (hb : b ≠ 0) : low a b = ((Rat.divInt a b).num, ((Rat.divInt a b).den : Int)) := by
  by_cases c : 0 < b
  · obtain ⟨n, rfl⟩ := Int.eq_ofNat_of_zero_le (Int.le_of_lt c)
    exact low_pos (by omega)
  · obtain ⟨n, hn⟩ := Int.eq_ofNat_of_zero_le (show 0 ≤ -b by omega)
    have e : Rat.divInt a b = Rat.divInt (-a) (n : Int) := (Rat.divInt_eq_divInt_iff hb (by omega)).mpr (by rw [← hn, Int.mul_neg, Int.neg_mul])
    rw [e, ← low_pos (by omega), ← hn]
    unfold low gI
    rw [if_pos (by omega), if_neg (by omega), Int.natAbs_neg, Int.natAbs_neg]
theorem low_congr {a b a' b' : Int} (hb : b ≠ 0) (hb' : b' ≠ 0) (h : a * b' = a' * b) : low a b = low a' b' := by
  rw [low_rat hb, low_rat hb', (Rat.divInt_eq_divInt_iff hb hb').mpr h]
theorem low_q {a b u v : Int} (hb : b ≠ 0) (h : (u, v) = low a b) : Rat.divInt u v = Rat.divInt a b ∧ 0 < v := by
  rw [low_rat hb] at h
  have e1 : u = (Rat.divInt a b).num := congrArg Prod.fst h
  have e2 : v = ((Rat.divInt a b).den : Int) := congrArg Prod.snd h
  rw [e1, e2]
  exact ⟨Rat.num_divInt_den _, by have := (Rat.divInt a b).den_pos; omega⟩
theorem low_cross {a b u v : Int} (hb : b ≠ 0) (h : (u, v) = low a b) : u * b = a * v ∧ 0 < v := by
  obtain ⟨h1, h2⟩ := low_q hb h
  exact ⟨(Rat.divInt_eq_divInt_iff (by omega) hb).mp h1, h2⟩
/-- a number times a number: the parts may be reduced ahead or behind -/
theorem num_step {p A B u v a b u' v' : Int} (hp : p = 0 ∨ p ∈ primes) (hB : p = 0 → B ≠ 0) (hb0 : p = 0 → b ≠ 0) (hb1 : p ≠ 0 → b = 1) (hB1 : p ≠ 0 → B = 1) (h : IsNum p A B u v) (h' : IsNum p (u * a) (v * b) u' v') : IsNum p (A * a) (B * b) u' v' := by
  by_cases c : p = 0
  · obtain ⟨_, e⟩ := h.resolve_left (fun z => by omega)
    obtain ⟨_, e'⟩ := h'.resolve_left (fun z => by omega)
    obtain ⟨x1, x2⟩ := low_cross (hB c) e
    refine .inr ⟨by omega, e'.trans (low_congr (Int.mul_ne_zero (by omega) (hb0 c)) (Int.mul_ne_zero (hB c) (hb0 c)) ?_)⟩
    calc u * a * (B * b) = u * B * (a * b) := by rw [Int.mul_assoc, Int.mul_assoc]; congr 1; rw [← Int.mul_assoc, ← Int.mul_assoc, Int.mul_comm a B]
      _ = A * v * (a * b) := by rw [x1]
      _ = A * a * (v * b) := by rw [Int.mul_assoc, Int.mul_assoc]; congr 1; rw [← Int.mul_assoc, ← Int.mul_assoc, Int.mul_comm v a]
  · have hp2 := prime_pos (hp.resolve_left c)
    obtain ⟨h0, e1, l1, u1, m1⟩ := h.resolve_right (fun z => by omega)
    obtain ⟨_, e2, l2, u2, m2⟩ := h'.resolve_right (fun z => by omega)
    refine .inl ⟨h0, e2, l2, u2, ?_⟩
    rw [hB1 c, hb1 c]
    rw [hB1 c, Int.mul_one] at m1
    rw [hb1 c, e1] at m2
    have d1 := Int.dvd_of_emod_eq_zero m1
    have d2 := Int.dvd_of_emod_eq_zero m2
    apply Int.emod_eq_zero_of_dvd
    have e : u' * (1 * 1) - A * a = (u' * (1 * 1) - u * a) + (u - A) * a := by
      rw [Int.sub_mul]
      omega
    rw [e]
    exact Int.dvd_add d2 (Int.dvd_mul_of_dvd_left d1)
theorem low_small {a b u v : Int} (h : (u, v) = low a b) : u.natAbs ≤ a.natAbs ∧ v.natAbs ≤ b.natAbs := by
  have e1 := congrArg Prod.fst h
  have e2 := congrArg Prod.snd h
  unfold low at e1 e2
  by_cases c : b < 0
  · rw [if_pos c] at e1 e2
    have f1 : u = (-a) / gI a b := e1
    have f2 : v = (-b) / gI a b := e2
    have g1 := Int.natAbs_ediv_le_natAbs (-a) (gI a b)
    have g2 := Int.natAbs_ediv_le_natAbs (-b) (gI a b)
    rw [f1, f2]
    omega
  · rw [if_neg c] at e1 e2
    have f1 : u = a / gI a b := e1
    have f2 : v = b / gI a b := e2
    have g1 := Int.natAbs_ediv_le_natAbs a (gI a b)
    have g2 := Int.natAbs_ediv_le_natAbs b (gI a b)
    rw [f1, f2]
    omega
theorem num_small {p a b u v : Int} (hp : p = 0 ∨ p ∈ primes) (h : IsNum p a b u v) (ha : a.natAbs < 2 ^ 199) (hb : b.natAbs < 2 ^ 199) : u.natAbs < 2 ^ 200 ∧ v.natAbs < 2 ^ 200 := by
  rcases h with ⟨h0, rfl, h1, h2, _⟩ | ⟨_, h⟩
  · have := prime_pos (hp.resolve_left (by omega))
    omega
  · have := low_small h
    omega
theorem isW_cases {p d : Int} (hw : isW p d = true) : (p = 0 ∨ p ∈ primes) ∧ d.natAbs ≤ 31 := by
  by_cases c : p = 0
  · refine ⟨.inl c, ?_⟩
    unfold isW at hw
    rw [if_pos c] at hw
    by_cases h1 : -20 ≤ d
    · rw [if_pos h1] at hw
      have := of_decide_eq_true hw
      omega
    · rw [if_neg h1] at hw
      cases hw
  · obtain ⟨h1, h2, h3⟩ := isW_prime hw c
    have := prime_pos h1
    exact ⟨.inr h1, by omega⟩
end T

namespace T
open PySem PySem.Spec PyProof.Rows L2
def SameBut (a : Addr) (H H' : Hp) : Prop := ∀ b o, b ≠ a → H b = some o → H' b = some o
theorem SameBut.refl (a : Addr) (H : Hp) : SameBut a H H := fun _ _ _ h => h
theorem SameBut.trans {a : Addr} {H H1 H2 : Hp} (x : SameBut a H H1) (y : SameBut a H1 H2) : SameBut a H H2 := fun b o n h => y b o n (x b o n h)
theorem SameBut.upd {a : Addr} {H : Hp} {o : HO} : SameBut a H (upd H a o) := fun b u n h => by rw [upd_ne n]; exact h
theorem SameBut.new {a p : Addr} {H : Hp} {o : HO} (h : H p = none) : SameBut a H (L2.upd H p o) := fun b u n e => by rw [upd_ne (ne_of_none e h)]; exact e
theorem Same.but {a : Addr} {H H' : Hp} (h : Same H H') : SameBut a H H' := fun b o _ e => h b o e
theorem same_upd {H : Hp} {p : Addr} {o : HO} (h : H p = none) : Same H (upd H p o) := fun b x e => by
  rw [upd_ne (ne_of_none e h)]
  exact e
theorem upd_self {H : Hp} {a : Addr} {o : HO} (h : H a = some o) : upd H a o = H := by
  funext b
  unfold upd
  by_cases e : b = a
  · rw [if_pos e, e, h]
  · rw [if_neg e]
theorem Same.mut {H H' : Hp} {p : Addr} {o : HO} (e : Same H H') (h : H p = none) : Same H (upd H' p o) := fun a u ha => by
  rw [upd_ne (ne_of_none ha h)]
  exact e a u ha
theorem map_int_get {ns : List Int} {i : Nat} {y : V} (hi : (ns.map V.int)[i]? = some y) : ∃ z, ns[i]? = some z ∧ y = V.int z := by
  rw [List.getElem?_map] at hi
  cases e : ns[i]? with
  | none =>
    rw [e] at hi
    cases hi
  | some z =>
    rw [e] at hi
    exact ⟨z, rfl, (Option.some.inj hi).symm⟩
theorem small_of {n : Nat} (h : n ≤ 100000) : n < sizeLine := Nat.lt_of_le_of_lt h (by decide)
structure ErrC (K : PySem.W.Frag) (mg : Str → Option Value) (x : Str) (C : Addr) : Prop where
  gc : mg x = some (.ref C)
  xC : PySem.W.excIn K C [.type "ValueError", .type "Exception", .type "BaseException", .type "object"] "ValueError.__new__" = true
  kc : PySem.W.keepIn K (.ref C) = true
  bc : PySem.W.subIn K (.ref C) (.type "BaseException") = some true
  tc : PySem.W.typeIn K (.ref C) = some (.type "type")
/-- a def whose defaults stand somewhere (called with all its arguments) -/
structure FunA (K : PySem.W.Frag) (x qual : Str) (st : Stmt) (f : Addr) (fd : FuncData) : Prop where
  ex : ∃ (oc : Value) (od : Option Addr) (dV kV doc pm : Value) (an : Option Addr) (cdv ct : Value) (osl : Array (Option Value)),
    fd = PySem.W.fnOf x qual (defArgs st) (defBody st) (defScope st) dV kV doc pm an cdv ct ∧ K.lookup f = some ⟨oc, od, .func fd, osl⟩ ∧ PySem.W.codeIn K cdv qual = true
  kp : PySem.W.keepIn K (.ref f) = true
section
variable {P : Program} {w : World} {K : PySem.W.Frag} {mg : Str → Option Value} {base : Heap}
theorem FunA.okX {x qual : Str} {st : Stmt} {f : Addr} {fd : FuncData} {N ps : List Str} {k : Nat} {sp : Sp} (F : FunA K x qual st f fd) (S : FnScope N ps (defScope st)) (len : ∀ vs H Q E, sp vs H Q E → vs.length = ps.length)
    (hbody : ∀ (cdv : Value) (A : Around) (outer : List Env) (s : Shared) (H : Hp) (vs : List V) (Q : VK) (E : XK), Room k (A.deeper (envOfC qual (defScope st) s.heap.objs.size f cdv)) → sp vs H Q E →
      ∃ t, PSs (cxOf (L2.CX P w) P w K mg base N qual (defScope st) f cdv A outer s H E) (defBody st) t ∧ t { nx := fun _ H' => Q .non H', rt := Q } (start N vs) H) : FnOk P w K mg base (L2.CX P w) (k + 1) f fd ps sp := by
  obtain ⟨oc, od, dV, kV, doc, pm, an, cdv, ct, osl, rfl, lk, hcd⟩ := F.ex
  exact fn_of lk hcd S len fun A outer s H vs Q E hr hsp => hbody cdv A outer s H vs Q E hr hsp
end
theorem if_pos_of {b : Bool} {A B : Prop} (h : b = true) (x : A) : if b = true then A else B := by
  rw [if_pos h]
  exact x
theorem if_neg_of {b : Bool} {A B : Prop} (h : ¬ b = true) (x : B) : if b = true then A else B := by
  rw [if_neg h]
  exact x
theorem sqT_same {K : PySem.W.Frag} {H H' : Hp} {a : Addr} {xs : List V} (e : Same H H') (h : SqT K H a xs) : SqT K H' a xs := by
  rcases h with (h | ⟨o, h⟩) | h
  · exact .inl (.inl (e _ _ h))
  · exact .inl (.inr ⟨o, e _ _ h⟩)
  · exact .inr h
section
variable {P : Program} {w : World} {K : PySem.W.Frag} {mg : Str → Option Value} {base : Heap}
theorem room64 {k : Nat} {A : Around} (hr : Room k A) : A.units + 64 < cLine := by have := hr.un; omega
theorem room65 {k : Nat} {A : Around} (hr : Room k A) : A.units + 65 < cLine := by have := hr.un; omega
theorem inV_primes {p : Int} : inV (.int p) [.int 2, .int 3, .int 5, .int 7, .int 11, .int 13, .int 17, .int 19, .int 23, .int 29, .int 31] = inV (.int p) (primes.map V.int) := rfl
end
theorem sqT_but {K : PySem.W.Frag} {H H' : Hp} {r a : Addr} {xs : List V} (e : SameBut r H H') (n : a ≠ r) (h : SqT K H a xs) : SqT K H' a xs := by
  rcases h with (h | ⟨o, h⟩) | h
  · exact .inl (.inl (e _ _ n h))
  · exact .inl (.inr ⟨o, e _ _ n h⟩)
  · exact .inr h
theorem at_tab {xs : List Int} {i : Int} (h0 : 0 ≤ i) (h1 : i < xs.length) : atI (xs.map V.int) i = some (.int (xs.getD i.toNat 0)) := by
  obtain ⟨n, rfl⟩ := Int.eq_ofNat_of_zero_le h0
  have hn : n < xs.length := by omega
  refine atI_nat ?_
  rw [List.getElem?_map, List.getElem?_eq_getElem hn, List.getD_eq_getElem?_getD, show ((n : Nat) : Int).toNat = n from rfl, List.getElem?_eq_getElem hn]
  rfl
theorem mod_lt8 (n : Int) {m : Int} (h : 0 < m) : 0 ≤ n % m ∧ n % m < m := ⟨Int.emod_nonneg _ (by omega), Int.emod_lt_of_pos _ h⟩
def wtab : List Int := [0, 0, 0, 2, 3, 5, 7, 31]
theorem wtab_in : ∀ k : Nat, k < 8 → wtab.getD k 0 = 0 ∨ (wtab.getD k 0 ≠ 0 ∧ inV (.int (wtab.getD k 0)) (primes.map V.int) = true ∧ 2 ≤ wtab.getD k 0) := by decide
/-! ### isinstance of the error that an except suite holds -/
def rIsE' (K : PySem.W.Frag) (cls : Value) (d : Option Addr) (a : Addr) : List V → Hp → VK → Prop := fun xs H Q => ∃ D : Addr, cls = .ref D ∧ d = none ∧ ExcC K D ∧ rIsE K D a xs H Q
theorem call_isE' {X : Cx} {a : Addr} {oe : Obj} {pn : List (Addr × Obj)} {cls : Value} {d : Option Addr} (hz : Zc cls d oe) (hf : ∃ vs, oe.data = .fields vs) : CallR (X.suite a ((a, oe) :: pn)) (.builtin "isinstance") (rIsE' X.K cls d a) := by
  intro pins s σ H xs us Q I r h
  obtain ⟨D, rfl, rfl, C, h⟩ := h
  exact call_isE C hz hf pins s σ H xs us Q I r h
theorem pe_indexK {X : Cx} {K : PySem.W.Frag} {o e : Expr} {to : TE} {t : TA} {apos cpos : Pos} (hK : X.K = K) (ho : PE X o to) (ha : PA X [e] t)
    (hb : attributeBase o "index" X.env (eval o X.env) = eval o X.env := by rfl)
    (hf : ((backTo cpos (starEach [e] X.env)).all (fun x => !x.1) && (backToKw cpos (keywordEach [] X.env)).all (fun x => x.1.isSome) && decide ([e].length + ([] : List Keyword).length + (if ([] : List Keyword).isEmpty then 0 else 1) < 30)) = true := by rfl)
    (hl : (apos.endLine == cpos.line) = true := by rfl) (hs : starEach [e] X.env = (false, eval e X.env) :: starEach [] X.env := by rfl) (hp : (backTo cpos (starEach [] X.env)).any (·.1) = false := by rfl) :
    PE X (.Call (.Attribute o "index" apos) [e] [] cpos) (tBM K "list" (rIndex K) to t) := by
  subst hK
  exact pe_bm PySem.F.plainAttrs_list PySem.F.slot_list_index PySem.F.type_list_index mt_index ho ha hb hf hl hs hp
/-! ### values without depth -/
inductive Val1 (H : Hp) : V → PyData → Prop
  | non : Val1 H .non .none
  | bl (b : Bool) : Val1 H (.bl b) (.bool b)
  | str (x : Str) : Val1 H (.str x) (.str x)
  | pair {t : Addr} {u v : Int} : H t = some (.tup [.int u, .int v]) → Val1 H (.ref t) (.tuple [.int u, .int v])
theorem Val1.dp {K : PySem.W.Frag} {H : Hp} {x : V} {d : PyData} (h : Val1 H x d) : Dp K H x d := by
  cases h with
  | non => exact .non
  | bl b => exact .bl b
  | str x => exact .str x
  | pair h => exact .tup (.inl (.inl h)) (.cons (.int _) (.cons (.int _) .nil))
theorem Val1.but {H H' : Hp} {D : Addr} {ys : List V} {x : V} {d : PyData} (s : SameBut D H H') (hD : H D = some (.lst ys)) (h : Val1 H x d) : Val1 H' x d := by
  cases h with
  | non => exact .non
  | bl b => exact .bl b
  | str x => exact .str x
  | pair h => exact .pair (s _ _ (ne_of h hD (fun z => nomatch z)) h)
theorem Val1.same {H H' : Hp} {x : V} {d : PyData} (s : Same H H') (h : Val1 H x d) : Val1 H' x d := by
  cases h with
  | non => exact .non
  | bl b => exact .bl b
  | str x => exact .str x
  | pair h => exact .pair (s _ _ h)
theorem vals1_dp {K : PySem.W.Frag} {H : Hp} : ∀ {xs : List V} {ds : List PyData}, Paired (Val1 H) xs ds → DpAll K H xs ds
  | _, _, .nil => .nil
  | _, _, .cons a b => .cons a.dp (vals1_dp b)
theorem paired_snoc {α β : Type} {F : α → β → Prop} {a : α} {b : β} (h : F a b) : ∀ {l : List α} {m : List β}, Paired F l m → Paired F (l ++ [a]) (m ++ [b])
  | _, _, .nil => .cons h .nil
  | _, _, .cons x y => .cons x (paired_snoc h y)

/-- the first def of a class -/
def inCls : Stmt → Stmt
  | .ClassDef _ _ _ body _ _ _ _ _ _ _ => body.getD 0 (.Pass ⟨0, 0, 0, 0⟩)
  | s => s
theorem pt_truthK {X : Cx} {K : PySem.W.Frag} {a : Expr} {ta : TE} (hK : X.K = K) (ha : PE X a ta) (he : ∀ whole, isTrue a X.env whole = (do let v ← whole; standAt a.pos; holding [v] (truthy v))) :
    PT X a (fun σ H Q => ta σ H fun x H' => ∃ k, TruV K x H' k ∧ Q k H') := by
  subst hK
  exact pt_truth ha he
theorem op_in_seqK {X : Cx} {K : PySem.W.Frag} (hK : X.K = K) : OpR X (compareOp .In) (rIn K false) := by
  subst hK
  exact op_in_seq
theorem op_notIn_seqK {X : Cx} {K : PySem.W.Frag} (hK : X.K = K) : OpR X (compareOp .NotIn) (rIn K true) := by
  subst hK
  exact op_notIn_seq
theorem pi_listK {X : Cx} {K : PySem.W.Frag} {tg e : Expr} {te : TE} (hK : X.K = K) (he : PE X e te) : PI X tg e (iList K te) := by
  subst hK
  exact pi_list he

def topS (i : Nat) : Stmt := PySem.Challenge.pw_threadworth_k01_sums_and_products.main.body.getD i (.Pass ⟨0, 0, 0, 0⟩)
abbrev s_is_world : Stmt := topS 10
theorem sc_is_world : FnScope ["world", "p", "d"] ["world"] (defScope s_is_world) := ⟨rfl, rfl, rfl, by decide +kernel, rfl, by decide +kernel, by decide +kernel⟩
abbrev s_check_world : Stmt := topS 11
theorem sc_check_world : FnScope ["world"] ["world"] (defScope s_check_world) := ⟨rfl, rfl, rfl, by decide +kernel, rfl, by decide +kernel, by decide +kernel⟩
abbrev s_is_number : Stmt := topS 12
theorem sc_is_number : FnScope ["world", "x", "p", "_", "a", "b"] ["world", "x"] (defScope s_is_number) := ⟨rfl, rfl, rfl, by decide +kernel, rfl, by decide +kernel, by decide +kernel⟩
abbrev s_check_number : Stmt := topS 13
theorem sc_check_number : FnScope ["world", "x"] ["world", "x"] (defScope s_check_number) := ⟨rfl, rfl, rfl, by decide +kernel, rfl, by decide +kernel, by decide +kernel⟩
abbrev s_number : Stmt := topS 14
theorem sc_number : FnScope ["world", "a", "b", "p", "_"] ["world", "a", "b"] (defScope s_number) := ⟨rfl, rfl, rfl, by decide +kernel, rfl, by decide +kernel, by decide +kernel⟩
abbrev s_lowest_ : Stmt := topS 15
theorem sc_lowest_ : FnScope ["a", "b", "shared"] ["a", "b"] (defScope s_lowest_) := ⟨rfl, rfl, rfl, by decide +kernel, rfl, by decide +kernel, by decide +kernel⟩
abbrev s_inverse_ : Stmt := topS 16
theorem sc_inverse_ : FnScope ["p", "b", "rest", "found"] ["p", "b"] (defScope s_inverse_) := ⟨rfl, rfl, rfl, by decide +kernel, rfl, by decide +kernel, by decide +kernel⟩
abbrev s_check_two_ : Stmt := topS 17
theorem sc_check_two_ : FnScope ["world", "x", "y"] ["world", "x", "y"] (defScope s_check_two_) := ⟨rfl, rfl, rfl, by decide +kernel, rfl, by decide +kernel, by decide +kernel⟩
abbrev s_plus : Stmt := topS 18
theorem sc_plus : FnScope ["world", "x", "y"] ["world", "x", "y"] (defScope s_plus) := ⟨rfl, rfl, rfl, by decide +kernel, rfl, by decide +kernel, by decide +kernel⟩
abbrev s_minus : Stmt := topS 19
theorem sc_minus : FnScope ["world", "x", "y"] ["world", "x", "y"] (defScope s_minus) := ⟨rfl, rfl, rfl, by decide +kernel, rfl, by decide +kernel, by decide +kernel⟩
abbrev s_times : Stmt := topS 20
theorem sc_times : FnScope ["world", "x", "y"] ["world", "x", "y"] (defScope s_times) := ⟨rfl, rfl, rfl, by decide +kernel, rfl, by decide +kernel, by decide +kernel⟩
abbrev s_over : Stmt := topS 21
theorem sc_over : FnScope ["world", "x", "y"] ["world", "x", "y"] (defScope s_over) := ⟨rfl, rfl, rfl, by decide +kernel, rfl, by decide +kernel, by decide +kernel⟩
abbrev s_power : Stmt := topS 22
theorem sc_power : FnScope ["world", "x", "count", "found", "_"] ["world", "x", "count"] (defScope s_power) := ⟨rfl, rfl, rfl, by decide +kernel, rfl, by decide +kernel, by decide +kernel⟩
abbrev s_law_plain : Stmt := topS 24
theorem sc_law_plain : FnScope ["cell"] ["cell"] (defScope s_law_plain) := ⟨rfl, rfl, rfl, by decide +kernel, rfl, by decide +kernel, by decide +kernel⟩
abbrev s_law_draws : Stmt := topS 25
theorem sc_law_draws : FnScope ["script", "draws", "cell", "rest", "k", "once", "twice"] ["script"] (defScope s_law_draws) := ⟨rfl, rfl, rfl, by decide +kernel, rfl, by decide +kernel, by decide +kernel⟩
abbrev s_law_next : Stmt := topS 26
theorem sc_law_next : FnScope ["draws"] ["draws"] (defScope s_law_next) := ⟨rfl, rfl, rfl, by decide +kernel, rfl, by decide +kernel, by decide +kernel⟩
abbrev s_law_world : Stmt := topS 27
theorem sc_law_world : FnScope ["draws", "p"] ["draws"] (defScope s_law_world) := ⟨rfl, rfl, rfl, by decide +kernel, rfl, by decide +kernel, by decide +kernel⟩
abbrev s_law_lowest : Stmt := topS 28
theorem sc_law_lowest : FnScope ["a", "b", "one", "other", "j"] ["a", "b"] (defScope s_law_lowest) := ⟨rfl, rfl, rfl, by decide +kernel, rfl, by decide +kernel, by decide +kernel⟩
abbrev s_law_made : Stmt := topS 29
theorem sc_law_made : FnScope ["p", "a", "b", "x"] ["p", "a", "b"] (defScope s_law_made) := ⟨rfl, rfl, rfl, by decide +kernel, rfl, by decide +kernel, by decide +kernel⟩
abbrev s_law_number : Stmt := topS 30
theorem sc_law_number : FnScope ["draws", "world"] ["draws", "world"] (defScope s_law_number) := ⟨rfl, rfl, rfl, by decide +kernel, rfl, by decide +kernel, by decide +kernel⟩
abbrev s_law_told : Stmt := topS 31
theorem sc_law_told : FnScope ["way", "world", "x", "y", "error", "kinds"] ["way", "world", "x", "y"] (defScope s_law_told) := ⟨rfl, rfl, rfl, by decide +kernel, rfl, by decide +kernel, by decide +kernel⟩
abbrev s_law : Stmt := topS 32
theorem sc_law : FnScope ["script", "draws", "world", "p", "x", "y", "count", "due", "way", "raised", "j", "bad"] ["script"] (defScope s_law) := ⟨rfl, rfl, rfl, by decide +kernel, rfl, by decide +kernel, by decide +kernel⟩
structure SmL (n k : Nat) (D : PyData) : Prop where
  lay : D.canLay0 = true
  dep : D.depth ≤ n
  sho : D.showable = true
  wgt : wt D ≤ k
theorem smL_all {n k : Nat} : ∀ {ds : List PyData}, (∀ D ∈ ds, SmL n k D) → PyData.canLayAll0 ds = true ∧ PyData.depthAll ds ≤ n ∧ PyData.showableAll ds = true ∧ wtAll ds ≤ (k + 2) * ds.length
  | [], _ => ⟨by simp [PyData.canLayAll0], by simp [PyData.depthAll], by simp [PyData.showableAll], by simp [wtAll]⟩
  | D :: ds, h => by
    obtain ⟨h1, h2, h3, h4⟩ := smL_all (ds := ds) fun E hE => h E (List.mem_cons_of_mem _ hE)
    have g := h D List.mem_cons_self
    refine ⟨by simp [PyData.canLayAll0, g.lay, h1], ?_, by simp [PyData.showableAll, g.sho, h3], ?_⟩
    · simp only [PyData.depthAll]
      have := g.dep
      omega
    · simp only [wtAll, List.length_cons, Nat.mul_add]
      have := g.wgt
      omega
theorem smL_list {n k : Nat} {ds : List PyData} (h : ∀ D ∈ ds, SmL n k D) : SmL (n + 1) ((k + 2) * ds.length + 3) (.list ds) := by
  obtain ⟨h1, h2, h3, h4⟩ := smL_all h
  exact ⟨by simp [PyData.canLay0, h1], by simp only [PyData.depth]; omega, by simp [PyData.showable, h3], by simp only [wt]; omega⟩
theorem smL_tuple {n k : Nat} {ds : List PyData} (h : ∀ D ∈ ds, SmL n k D) : SmL (n + 1) ((k + 2) * ds.length + 3) (.tuple ds) := by
  obtain ⟨h1, h2, h3, h4⟩ := smL_all h
  exact ⟨by simp [PyData.canLay0, h1], by simp only [PyData.depth]; omega, by simp [PyData.showable, h3], by simp only [wt]; omega⟩
theorem SmL.shaped {n k : Nat} {D : PyData} (h : SmL n k D) (hn : n ≤ 64) : SeqAt.shaped D = true := by
  show (PyData.canLay0 D && decide (PyData.depth D ≤ 64)) = true
  rw [h.lay, decide_eq_true (Nat.le_trans h.dep hn)]
  rfl
theorem SmL.wide {n k : Nat} {D : PyData} (h : SmL n k D) (hk : k ≤ 16777216) : wt D ≤ sizeLine := by
  rw [sizeLine_eq]
  exact Nat.le_trans h.wgt hk
theorem small_log {i : Int} (h : i.natAbs < 2 ^ 200) : i.natAbs.log2 < 1920 := by
  by_cases e : i.natAbs = 0
  · rw [e]
    decide
  · exact (Nat.log2_lt e).mpr (Nat.lt_of_lt_of_le h (Nat.pow_le_pow_right (by decide) (by decide)))
theorem smL_int {i : Int} (h : i.natAbs < 2 ^ 200) : SmL 0 1921 (.int i) := ⟨by simp [PyData.canLay0], by simp [PyData.depth], by simp [PyData.showable, small_log h], by simp only [wt]; omega⟩
theorem smL_pair {u v : Int} (hu : u.natAbs < 2 ^ 200) (hv : v.natAbs < 2 ^ 200) : SmL 1 4000 (.tuple [.int u, .int v]) := by
  have h := smL_tuple (ds := [.int u, .int v]) (n := 0) (k := 1921) fun D hD => by
    rcases List.mem_cons.mp hD with rfl | hD
    · exact smL_int hu
    · rcases List.mem_cons.mp hD with rfl | hD
      · exact smL_int hv
      · cases hD
  exact ⟨h.lay, h.dep, h.sho, Nat.le_trans h.wgt (by show (1921 + 2) * 2 + 3 ≤ 4000; decide)⟩
theorem ok_n : PyData.strOk ("!n" : Str) = true := by decide +kernel
theorem ok_b : PyData.strOk ("!b" : Str) = true := by decide +kernel
theorem ok_w : PyData.strOk ("!w" : Str) = true := by decide +kernel
theorem rl_n : (reprText ("!n" : Str)).length = 4 := by decide +kernel
theorem rl_b : (reprText ("!b" : Str)).length = 4 := by decide +kernel
theorem rl_w : (reprText ("!w" : Str)).length = 4 := by decide +kernel
theorem smL_n : SmL 1 4000 (.str "!n") := ⟨by simp [PyData.canLay0, ok_n], by simp [PyData.depth], by simp [PyData.showable], by simp only [wt, rl_n]; omega⟩
theorem smL_b : SmL 1 4000 (.str "!b") := ⟨by simp [PyData.canLay0, ok_b], by simp [PyData.depth], by simp [PyData.showable], by simp only [wt, rl_b]; omega⟩
theorem smL_w : SmL 1 4000 (.str "!w") := ⟨by simp [PyData.canLay0, ok_w], by simp [PyData.depth], by simp [PyData.showable], by simp only [wt, rl_w]; omega⟩
theorem smL_non : SmL 1 4000 .none := ⟨by simp [PyData.canLay0], by simp [PyData.depth], by simp [PyData.showable], by simp only [wt]; omega⟩
theorem smL_bool (b : Bool) : SmL 1 4000 (.bool b) := ⟨by simp [PyData.canLay0], by simp [PyData.depth], by simp [PyData.showable], by simp only [wt]; omega⟩

section
variable {P : Program} {w : World} {K : PySem.W.Frag} {mg : Str → Option Value} {base : Heap}
/-! ### is_world -/
def spIsWorld (K : PySem.W.Frag) : Sp := fun vs H Q _ => ∃ (a : Addr) (p d : Int), vs = [.ref a] ∧ SqT K H a [.int p, .int d] ∧ Q (.bl (isW p d)) H
theorem ok_is_world {f : Addr} {fd : FuncData} {aP : Addr} (F : Fun K "is_world" "is_world" s_is_world f fd) (m_PRIMES : mg "PRIMES" = some (.ref aP)) (tP : ∀ H, SqT K H aP (primes.map V.int)) :
    FnOk P w K mg base CX0 1 f fd ["world"] (spIsWorld K) := by
  have r_PRIMES : RelV (.ref aP) (.ref aP) := rfl
  refine F.ok sc_is_world (fun vs H Q E h => ?_) (fun cdv A outer s H vs Q E hr h => ?_)
  · obtain ⟨a, p, d, rfl, _⟩ := h
    rfl
  · obtain ⟨a, p, d, rfl, hS, q⟩ := h
    refine ⟨_, (pss_cons (ps_asg (pv 0) (pg_tup rfl (pgs_cons (pg_name (i := 1) sc_is_world.nd rfl (.inl rfl)) (pgs_cons (pg_name (i := 2) sc_is_world.nd rfl (.inl rfl)) pgs_nil))))
  (pss_cons (ps_if (pt_cmpR op_eq (pv 1) pe_int (nomark _)) (pss_one (ps_ret (pe_chain op_le op_le (pe_un un_neg pe_int) (pv 2) pe_int))) pss_nil)
  (pss_one (ps_ret (pe_and (pe_cmpR op_in_seq (pv 1) (pe_glob rfl m_PRIMES r_PRIMES) (by with_unfolding_all rfl)) (pe_one (pe_chain op_le op_lt pe_int (pv 2) (pv 1)))))))), ?_⟩
    refine ⟨_, rfl, a, _, rfl, hS, rfl, _, _, rfl, _, _, rfl, rfl, ?_⟩
    refine ⟨_, rfl, rfl, _, rfl, ite2 (fun e => ?_) (fun e => ?_)⟩
    · have e0 : p = 0 := V.int.inj (of_decide_eq_true e)
      have ew : isW p d = if -20 ≤ d then decide (d ≤ 20) else false := if_pos e0
      rw [ew] at q
      refine ⟨_, rfl, _, rfl, _, _, rfl, rfl, _, rfl, ite2 (fun e1 => ?_) (fun e1 => ?_)⟩
      · rw [if_pos (of_decide_eq_true e1)] at q
        exact ⟨_, _, rfl, rfl, q⟩
      · rw [if_neg (fun z => e1 (decide_eq_true z))] at q
        exact q
    · have e0 : p ≠ 0 := fun z => e (decide_eq_true (congrArg V.int z))
      have ew : isW p d = (if inV (.int p) (primes.map V.int) = true then (if 0 ≤ d then decide (d < p) else false) else false) := if_neg e0
      rw [ew] at q
      refine ⟨_, rfl, aP, _, rfl, .inr (tP _), rfl, by decide, _, rfl, ite2 (fun e1 => ?_) (fun e1 => ?_)⟩
      · have e1' : inV (.int p) (primes.map V.int) = true := e1
        rw [if_pos e1'] at q
        refine ⟨_, rfl, _, _, rfl, rfl, _, rfl, ite2 (fun e2 => ?_) (fun e2 => ?_)⟩
        · rw [if_pos (of_decide_eq_true e2)] at q
          exact ⟨_, rfl, _, _, rfl, rfl, q⟩
        · rw [if_neg (fun z => e2 (decide_eq_true z))] at q
          exact q
      · have e1' : ¬ inV (.int p) (primes.map V.int) = true := e1
        rw [if_neg e1'] at q
        have e2 : inV (.int p) (primes.map V.int) = false := Bool.eq_false_iff.mpr e1'
        exact q
end

section
variable {P : Program} {w : World} {K : PySem.W.Frag} {mg : Str → Option Value} {base : Heap}
/-! ### _law_plain -/
def spPlain : Sp := fun vs H Q _ => ∃ n : Int, vs = [.int n] ∧ Q (.int (if n < 0 then -n else n)) H
theorem ok_plain {f : Addr} {fd : FuncData} (F : Fun K "_law_plain" "_law_plain" s_law_plain f fd) : FnOk P w K mg base CX0 1 f fd ["cell"] spPlain := by
  refine F.ok sc_law_plain (fun vs H Q E h => ?_) (fun cdv A outer s H vs Q E hr h => ?_)
  · obtain ⟨n, rfl, _⟩ := h
    rfl
  · obtain ⟨n, rfl, q⟩ := h
    refine ⟨_, (pss_cons (ps_if (pt_cmpR op_lt (pv 0) pe_int (nomark _)) (pss_one (ps_ret (pe_op op_sub pe_int (pv 0)))) pss_nil)
  (pss_one (ps_ret (pv 0))))
    , ?_⟩
    refine ⟨_, rfl, _, _, rfl, rfl, _, rfl, ite2 (fun e => ?_) (fun e => ?_)⟩
    · rw [if_pos (of_decide_eq_true e)] at q
      have q' : Q (.int (0 - n)) H := by
        rw [show (0 : Int) - n = -n by omega]
        exact q
      exact ⟨_, rfl, _, _, rfl, rfl, q'⟩
    · rw [if_neg (fun z => e (decide_eq_true z))] at q
      exact ⟨_, rfl, q⟩
end

section
variable {P : Program} {w : World} {K : PySem.W.Frag} {mg : Str → Option Value} {base : Heap}
/-! ### _law_next -/
def spNext : Sp := fun vs H Q _ => ∃ (a : Addr) (ds : List Int), vs = [.ref a] ∧ H a = some (.lst (ds.map V.int)) ∧ ∀ (n : Int) (ds' : List Int), Q (.int n) (upd H a (.lst (ds'.map V.int)))
theorem ok_next {f : Addr} {fd : FuncData} (F : Fun K "_law_next" "_law_next" s_law_next f fd) : FnOk P w K mg base CX0 1 f fd ["draws"] spNext := by
  refine F.ok sc_law_next (fun vs H Q E h => ?_) (fun cdv A outer s H vs Q E hr h => ?_)
  · obtain ⟨a, ds, rfl, _⟩ := h
    rfl
  · obtain ⟨a, ds, rfl, hL, q⟩ := h
    refine ⟨_, (pss_cons (ps_if (pt_truth (pv 0) (by intro _; rfl)) (pss_one (ps_ret (pe_bm0 PySem.F.plainAttrs_list PySem.F.slot_list_pop PySem.F.type_list_pop mt_pop (pv 0)))) pss_nil)
  (pss_one (ps_ret pe_int)))
    , ?_⟩
    refine ⟨_, rfl, _, .inl ⟨_, .inl (.inl hL), rfl⟩, ite2 (fun e => ?_) (fun e => ?_)⟩
    · have hn : ds ≠ [] := fun z => by subst z; cases e
      have hm : ds.map V.int = ds.dropLast.map V.int ++ [V.int (ds.getLast hn)] := by
        rw [← List.map_singleton, ← List.map_append, List.dropLast_concat_getLast]
      refine ⟨_, rfl, .inl ⟨rfl, _, .inl (.inl hL)⟩, a, _, .int (ds.getLast hn), rfl, rfl, hL, ?_, ?_⟩
      · rw [hm]; simp
      · rw [hm, List.dropLast_concat]
        exact q _ _
    · have := q 0 ds
      rw [upd_self hL] at this
      exact this
end

section
variable {P : Program} {w : World} {K : PySem.W.Frag} {mg : Str → Option Value} {base : Heap}
/-! ### _law_draws -/
def spDraws (K : PySem.W.Frag) : Sp := fun vs H Q _ => ∃ (a : Addr) (ns : List Int), vs = [.ref a] ∧ SqL K H a (ns.map V.int) ∧ ns.length ≤ 63 ∧
  ∀ H' r (ds : List Int), Same H H' → H r = none → H' r = some (.lst (ds.map V.int)) → Q (.ref r) H'
theorem ok_draws {f : Addr} {fd : FuncData} {a_law_plain : Addr} {fd_law_plain : FuncData} (F : Fun K "_law_draws" "_law_draws" s_law_draws f fd) (z_range : mg "range" = none) (z_int : mg "int" = none)
    (G_law_plain : FnOk P w K mg base CX0 1 a_law_plain fd_law_plain ["cell"] spPlain) (g_law_plain : mg "_law_plain" = some (.ref a_law_plain)) (k_law_plain : PySem.W.keepIn K (.ref a_law_plain) = true) (b_law_plain : Binds K fd_law_plain ["cell"] []) :
    FnOk P w K mg base CX0 2 f fd ["script"] (spDraws K) := by
  refine F.ok sc_law_draws (fun vs H Q E h => ?_) (fun cdv A outer s H vs Q E hr h => ?_)
  · obtain ⟨n, _, rfl, _⟩ := h
    rfl
  · obtain ⟨a, ns, rfl, hS, hlen, q⟩ := h
    refine ⟨_, (pss_cons (ps_set (i := 1) sc_law_draws.nd rfl (.inl rfl) (pe_lst pa_nil))
  (pss_cons (ps_for PassesOwn.never rfl (pi_list (pv 0)) (pg_name (i := 2) sc_law_draws.nd rfl (.inl rfl)) (pss_cons (ps_set (i := 3) sc_law_draws.nd rfl (.inl rfl) (pe_call G_law_plain (hr.mono (by decide)) rfl g_law_plain k_law_plain b_law_plain .nil pass0 (pa_cons (pv 2) pa_nil)))
  (pss_one (ps_if (pt_cmpR op_ge (pv 3) pe_int (nomark _)) (pss_one (ps_for PassesOwn.never rfl (pi_range1 rfl z_range (pa_cons pe_int pa_nil)) (pg_name (i := 4) sc_law_draws.nd rfl (.inl rfl)) (pss_cons (ps_if (pt_cmpR op_eq (pv 3) pe_int (nomark _)) (pss_one ps_break) pss_nil)
  (pss_cons (ps_expr (pe_bm PySem.F.plainAttrs_list PySem.F.slot_list_append PySem.F.type_list_append mt_append (pv 1) (pa_cons (pe_op op_mod (pe_callTy call_int1 (by rfl) z_int boot_int (pa_cons (pv 3) pa_nil)) pe_int) pa_nil)))
  (pss_one (ps_set (i := 3) sc_law_draws.nd rfl (.inl rfl) (pe_op op_fdiv (pv 3) pe_int))))))) (pss_cons (ps_set (i := 5) sc_law_draws.nd rfl (.inl rfl) (pe_op op_mod (pe_callTy call_int1 (by rfl) z_int boot_int (pa_cons (pe_op op_add (pe_op op_mul (pv 3) pe_int) pe_int) pa_nil)) pe_int))
  (pss_cons (ps_set (i := 6) sc_law_draws.nd rfl (.inl rfl) (pe_op op_mod (pe_callTy call_int1 (by rfl) z_int boot_int (pa_cons (pe_op op_add (pe_op op_mul (pv 5) pe_int) (pv 3)) pa_nil)) pe_int))
  (pss_one (ps_expr (pe_bm PySem.F.plainAttrs_list PySem.F.slot_list_extend PySem.F.type_list_extend mt_extend (pv 1) (pa_cons (pe_lst (pa_cons (pe_op op_mod (pe_callTy call_int1 (by rfl) z_int boot_int (pa_cons (pv 3) pa_nil)) pe_int) (pa_cons (pe_op op_mod (pe_callTy call_int1 (by rfl) z_int boot_int (pa_cons (pv 5) pa_nil)) pe_int) (pa_cons (pe_op op_mod (pe_callTy call_int1 (by rfl) z_int boot_int (pa_cons (pv 6) pa_nil)) pe_int) pa_nil)))) pa_nil))))))))))
  (pss_one (ps_ret (pv 1)))))
    , ?_⟩
    refine ⟨Nat.zero_le _, fun o no => ?_⟩
    have s1 : Same H (upd H o (.lst [])) := same_upd no
    refine ⟨.ref a, rfl, a, rfl, ⟨_, s1.seq hS⟩, for_list (K := K) (a := a) (xs := ns.map V.int) (fun i σ H' => ∃ v2 v3 v4 v5 v6 ds, σ = [some (.ref a), some (.ref o), v2, v3, v4, v5, v6] ∧ Same H H' ∧ H' o = some (.lst (ds.map V.int)) ∧ ds.length ≤ 60 * i)
      ⟨none, none, none, none, none, [], rfl, s1, upd_same, Nat.le_refl _⟩ (fun i σ H' _ ⟨_, _, _, _, _, _, _, sm, _⟩ => sm.seq hS) ?_ ?_⟩
    · rintro i y σ H1 hi ⟨v2, v3, v4, v5, v6, ds, rfl, sm, hL, hl⟩
      have hi63 : i < 63 := by
        have := (List.getElem?_eq_some_iff.mp hi).1
        rw [List.length_map] at this
        omega
      obtain ⟨z, hz, rfl⟩ := map_int_get hi
      refine ⟨_, rfl, z, rfl, ?_⟩
      generalize hr0 : (if z < 0 then -z else z) = r0
      have h0 : 0 ≤ r0 := by
        subst hr0
        split <;> omega
      refine ⟨_, rfl, _, _, rfl, rfl, _, rfl, ite2 (fun e => ?_) (fun e => ?_)⟩
      · refine ⟨60, rfl, by decide, by decide, for_range (lo := 0) (n := 60) (fun j σ H' => ∃ r v4 ds', σ = [some (.ref a), some (.ref o), some (.int z), some (.int r), v4, v5, v6] ∧ 0 ≤ r ∧ Same H H' ∧ H' o = some (.lst (ds'.map V.int)) ∧ ds'.length ≤ 60 * i + j)
          ⟨r0, v4, ds, rfl, h0, sm, hL, hl⟩ ?_ ?_⟩
        · rintro j σ H2 hj ⟨r, v4', ds', rfl, hr0', sm2, hL2, hl2⟩
          refine ⟨_, rfl, rfl, _, rfl, ite2 (fun e1 => ?_) (fun e1 => ?_)⟩
          · exact ⟨_, _, _, _, _, ds', rfl, sm2, hL2, by omega⟩
          · refine ⟨.ref o, rfl, .inl ⟨rfl, _, .inl (.inl hL2)⟩, .int r, rfl, .inl ⟨r, rfl, r, 1000, rfl, rfl, (show (0:Int) < 1000 by decide), o, _, _, rfl, rfl, hL2, ?_, ?_⟩⟩
            · rw [List.length_map]
              exact small_of (by omega)
            · refine ⟨_, rfl, r, 1000, rfl, rfl, ⟨by decide, by decide⟩, ?_⟩
              refine ⟨r / 1000, _, ds' ++ [r % 1000], rfl, by omega, Same.mut sm2 no, ?_, ?_⟩
              · rw [upd_same, List.map_append]
                rfl
              · rw [List.length_append]
                show ds'.length + 1 ≤ _
                omega
        · rintro σ H2 ⟨r, v4', ds', rfl, hr0', sm2, hL2, hl2⟩
          exact ⟨_, _, _, _, _, ds', rfl, sm2, hL2, by omega⟩
      · have c1 : CMul r0 48271 := .inr ⟨by decide, by decide⟩
        refine ⟨.int r0, rfl, r0, 48271, rfl, rfl, c1, _, 11, rfl, rfl, .inl ⟨_, rfl, _, 2147483647, rfl, rfl, (show (0:Int) < 2147483647 by decide), ?_⟩⟩
        have c2 : ∀ x : Int, CMul x 69621 := fun _ => .inr ⟨by decide, by decide⟩
        refine ⟨_, rfl, _, 69621, rfl, rfl, c2 _, .int r0, rfl, _, r0, rfl, rfl, .inl ⟨_, rfl, _, 2147483629, rfl, rfl, (show (0:Int) < 2147483629 by decide), ?_⟩⟩
        have p1000 : (0:Int) < 1000 := by decide
        refine ⟨.ref o, rfl, .inl ⟨rfl, _, .inl (.inl hL)⟩, ?_⟩
        refine ⟨.int r0, rfl, .inl ⟨r0, rfl, r0, 1000, rfl, rfl, p1000, _, rfl, .inl ⟨_, rfl, _, 1000, rfl, rfl, p1000, _, rfl, .inl ⟨_, rfl, _, 1000, rfl, rfl, p1000, ?_⟩⟩⟩⟩
        refine ⟨(by show 3 ≤ sizeLine; decide), fun c nc => ?_⟩
        have hoc : o ≠ c := ne_of_none hL nc
        refine ⟨o, c, ds.map V.int, _, rfl, rfl, ?_, upd_same, ?_, ?_⟩
        · rw [upd_ne hoc]
          exact hL
        · rw [List.length_map]
          exact Nat.le_of_lt (small_of (show ds.length + 3 ≤ 100000 by omega))
        · refine ⟨_, _, _, _, _, ds ++ [r0 % 1000, (r0 * 48271 + 11) % 2147483647 % 1000, ((r0 * 48271 + 11) % 2147483647 * 69621 + r0) % 2147483629 % 1000], rfl, Same.mut (Same.trans sm (same_upd nc)) no, ?_, ?_⟩
          · rw [upd_same, List.map_append]
            rfl
          · rw [List.length_append]
            show ds.length + 3 ≤ _
            omega
    · rintro σ H1 ⟨v2, v3, v4, v5, v6, ds, rfl, sm, hL, hl⟩
      exact ⟨_, rfl, q H1 o ds sm no hL⟩
end

section
variable {P : Program} {w : World} {K : PySem.W.Frag} {mg : Str → Option Value} {base : Heap}
/-! ### check_world -/
def spCheckWorld (K : PySem.W.Frag) (CW : Addr) : Sp := fun vs H Q E => ∃ (a : Addr) (p d : Int), vs = [.ref a] ∧ SqT K H a [.int p, .int d] ∧ (isW p d = true → Q .non H) ∧ (isW p d = false → E (.ref CW) none H)
theorem ok_check_world {f CW a_is_world : Addr} {fd fd_is_world : FuncData} (F : Fun K "check_world" "check_world" s_check_world f fd) (T : ErrC K mg "NotWorld" CW)
    (G_is_world : FnOk P w K mg base CX0 1 a_is_world fd_is_world ["world"] (spIsWorld K)) (g_is_world : mg "is_world" = some (.ref a_is_world)) (k_is_world : PySem.W.keepIn K (.ref a_is_world) = true) (b_is_world : Binds K fd_is_world ["world"] []) :
    FnOk P w K mg base (L2.CX P w) 2 f fd ["world"] (spCheckWorld K CW) := by
  obtain ⟨gc_NotWorld, x_NotWorld, kc_NotWorld, bc_NotWorld, tc_NotWorld⟩ := T
  refine F.okX sc_check_world (fun vs H Q E h => ?_) (fun cdv A outer s H vs Q E hr h => ?_)
  · obtain ⟨a, p, d, rfl, _⟩ := h
    rfl
  · obtain ⟨a, p, d, rfl, hS, q1, q2⟩ := h
    refine ⟨_, (pss_one (ps_if (pt_not (pt_val (pe_call G_is_world (hr.mono (by decide)) rfl g_is_world k_is_world b_is_world .nil pass0 (pa_cons (pv 0) pa_nil)))) (pss_one (ps_raise rfl (takes_of rfl rfl rfl rfl) (pmk_own PySem.F.excBase_ValueError x_NotWorld gc_NotWorld kc_NotWorld (raises_own bc_NotWorld tc_NotWorld) rfl))) pss_nil))
    , ?_⟩
    refine ⟨_, rfl, a, p, d, rfl, hS, _, rfl, ?_⟩
    cases e : isW p d with
    | true => exact iteF (q1 e)
    | false => exact iteT (q2 e)
end

section
variable {P : Program} {w : World} {K : PySem.W.Frag} {mg : Str → Option Value} {base : Heap}
/-! ### is_number -/
def isN (p u v : Int) : Bool := if p = 0 then (if 1 ≤ v then decide (gI u v = 1) else false) else (if v = 1 then (if 0 ≤ u then decide (u < p) else false) else false)
def spIsNumber (K : PySem.W.Frag) (CW : Addr) : Sp := fun vs H Q E => ∃ (a x : Addr) (p d u v : Int), vs = [.ref a, .ref x] ∧ SqT K H a [.int p, .int d] ∧ SqT K H x [.int u, .int v] ∧ (isW p d = true → Q (.bl (isN p u v)) H) ∧ (isW p d = false → E (.ref CW) none H)
theorem ok_is_number {f CW a_check_world : Addr} {fd fd_check_world : FuncData} (F : Fun K "is_number" "is_number" s_is_number f fd) (m_gcd : mg "gcd" = some (.builtin "math.gcd"))
    (G_check_world : FnOk P w K mg base (L2.CX P w) 2 a_check_world fd_check_world ["world"] (spCheckWorld K CW)) (g_check_world : mg "check_world" = some (.ref a_check_world)) (k_check_world : PySem.W.keepIn K (.ref a_check_world) = true) (b_check_world : Binds K fd_check_world ["world"] []) :
    FnOk P w K mg base (L2.CX P w) 3 f fd ["world", "x"] (spIsNumber K CW) := by
  refine F.okX sc_is_number (fun vs H Q E h => ?_) (fun cdv A outer s H vs Q E hr h => ?_)
  · obtain ⟨a, x, p, d, u, v, rfl, _⟩ := h
    rfl
  · obtain ⟨a, x, p, d, u, v, rfl, hS, hX, q1, q2⟩ := h
    refine ⟨_, (pss_cons (ps_expr (pe_call G_check_world (hr.mono (by decide)) rfl g_check_world k_check_world b_check_world .nil (passes_call (takes_of rfl rfl rfl rfl) (fun _ _ _ _ h => h)) (pa_cons (pv 0) pa_nil)))
  (pss_cons (ps_asg (pv 0) (pg_tup rfl (pgs_cons (pg_name (i := 2) sc_is_number.nd rfl (.inl rfl)) (pgs_cons (pg_name (i := 3) sc_is_number.nd rfl (.inl rfl)) pgs_nil))))
  (pss_cons (ps_asg (pv 1) (pg_tup rfl (pgs_cons (pg_name (i := 4) sc_is_number.nd rfl (.inl rfl)) (pgs_cons (pg_name (i := 5) sc_is_number.nd rfl (.inl rfl)) pgs_nil))))
  (pss_cons (ps_if (pt_cmpR op_eq (pv 2) pe_int (nomark _)) (pss_one (ps_ret (pe_and (pe_cmpR op_ge (pv 5) pe_int (nomark _)) (pe_one (pe_cmpR op_eq (pe_callBfun cr_gcd rfl m_gcd (pa_cons (pv 4) (pa_cons (pv 5) pa_nil))) pe_int (nomark _)))))) pss_nil)
  (pss_one (ps_ret (pe_and (pe_cmpR op_eq (pv 5) pe_int (nomark _)) (pe_one (pe_chain op_le op_lt pe_int (pv 4) (pv 2))))))))))
    , ?_⟩
    refine ⟨_, rfl, a, p, d, rfl, hS, fun ew => ?_, q2⟩
    have q := q1 ew
    refine ⟨_, rfl, a, _, rfl, hS, rfl, _, _, rfl, _, _, rfl, rfl, ?_⟩
    refine ⟨_, rfl, x, _, rfl, hX, rfl, _, _, rfl, _, _, rfl, rfl, ?_⟩
    refine ⟨_, rfl, rfl, _, rfl, ite2 (fun e => ?_) (fun e => ?_)⟩
    · have e0 : p = 0 := V.int.inj (of_decide_eq_true e)
      have ew : isN p u v = if 1 ≤ v then decide (gI u v = 1) else false := if_pos e0
      rw [ew] at q
      refine ⟨_, rfl, _, _, rfl, rfl, _, rfl, ite2 (fun e1 => ?_) (fun e1 => ?_)⟩
      · rw [if_pos (of_decide_eq_true e1)] at q
        have q' : Q (.bl (decide (V.int (gI u v) = V.int 1))) H := by
          rw [show decide (V.int (gI u v) = V.int 1) = decide (gI u v = 1) from decide_eq_decide.mpr ⟨V.int.inj, congrArg V.int⟩]
          exact q
        exact ⟨_, rfl, _, rfl, u, v, rfl, rfl, q'⟩
      · rw [if_neg (fun z => e1 (decide_eq_true z))] at q
        exact q
    · have e0 : p ≠ 0 := fun z => e (decide_eq_true (congrArg V.int z))
      have ew : isN p u v = (if v = 1 then (if 0 ≤ u then decide (u < p) else false) else false) := if_neg e0
      rw [ew] at q
      refine ⟨_, rfl, rfl, _, rfl, ite2 (fun e1 => ?_) (fun e1 => ?_)⟩
      · rw [if_pos (V.int.inj (of_decide_eq_true e1))] at q
        refine ⟨_, rfl, _, _, rfl, rfl, _, rfl, ite2 (fun e2 => ?_) (fun e2 => ?_)⟩
        · rw [if_pos (of_decide_eq_true e2)] at q
          exact ⟨_, rfl, _, _, rfl, rfl, q⟩
        · rw [if_neg (fun z => e2 (decide_eq_true z))] at q
          exact q
      · rw [if_neg (fun z => e1 (decide_eq_true (congrArg V.int z)))] at q
        exact q
end

section
variable {P : Program} {w : World} {K : PySem.W.Frag} {mg : Str → Option Value} {base : Heap}
/-! ### check_number -/
def spCheckNumber (K : PySem.W.Frag) (CW CN : Addr) : Sp := fun vs H Q E => ∃ (a x : Addr) (p d u v : Int), vs = [.ref a, .ref x] ∧ SqT K H a [.int p, .int d] ∧ SqT K H x [.int u, .int v] ∧
  (isW p d = true → isN p u v = true → Q .non H) ∧ (isW p d = true → isN p u v = false → E (.ref CN) none H) ∧ (isW p d = false → E (.ref CW) none H)
theorem ok_check_number {f CW CN a_is_number : Addr} {fd fd_is_number : FuncData} (F : Fun K "check_number" "check_number" s_check_number f fd) (T : ErrC K mg "NotNumber" CN)
    (G_is_number : FnOk P w K mg base (L2.CX P w) 3 a_is_number fd_is_number ["world", "x"] (spIsNumber K CW)) (g_is_number : mg "is_number" = some (.ref a_is_number)) (k_is_number : PySem.W.keepIn K (.ref a_is_number) = true) (b_is_number : Binds K fd_is_number ["world", "x"] []) :
    FnOk P w K mg base (L2.CX P w) 4 f fd ["world", "x"] (spCheckNumber K CW CN) := by
  obtain ⟨gc_NotNumber, x_NotNumber, kc_NotNumber, bc_NotNumber, tc_NotNumber⟩ := T
  refine F.okX sc_check_number (fun vs H Q E h => ?_) (fun cdv A outer s H vs Q E hr h => ?_)
  · obtain ⟨a, x, p, d, u, v, rfl, _⟩ := h
    rfl
  · obtain ⟨a, x, p, d, u, v, rfl, hS, hX, q1, q2, q3⟩ := h
    refine ⟨_, (pss_one (ps_if (pt_not (pt_val (pe_call G_is_number (hr.mono (by decide)) rfl g_is_number k_is_number b_is_number .nil (passes_call (takes_of rfl rfl rfl rfl) (fun _ _ _ _ h => h)) (pa_cons (pv 0) (pa_cons (pv 1) pa_nil))))) (pss_one (ps_raise rfl (takes_of rfl rfl rfl rfl) (pmk_own PySem.F.excBase_ValueError x_NotNumber gc_NotNumber kc_NotNumber (raises_own bc_NotNumber tc_NotNumber) rfl))) pss_nil))
    , ?_⟩
    refine ⟨_, rfl, _, rfl, a, x, p, d, u, v, rfl, hS, hX, fun ew => ?_, q3⟩
    refine ⟨_, rfl, ?_⟩
    cases e : isN p u v with
    | true => exact iteF (q1 ew e)
    | false => exact iteT (q2 ew e)
end

section
variable {P : Program} {w : World} {K : PySem.W.Frag} {mg : Str → Option Value} {base : Heap}
/-! ### _lowest -/
def spLowest : Sp := fun vs H Q _ => ∃ a b : Int, vs = [.int a, .int b] ∧ b ≠ 0 ∧ b.natAbs < 1073741824 ∧ ∀ r, H r = none → Q (.ref r) (upd H r (.tup [.int (low a b).1, .int (low a b).2]))
theorem ok_lowest {f : Addr} {fd : FuncData} (F : Fun K "_lowest" "_lowest" s_lowest_ f fd) (m_gcd : mg "gcd" = some (.builtin "math.gcd")) : FnOk P w K mg base CX0 1 f fd ["a", "b"] spLowest := by
  refine F.ok sc_lowest_ (fun vs H Q E h => ?_) (fun cdv A outer s H vs Q E hr h => ?_)
  · obtain ⟨a, b, rfl, _⟩ := h
    rfl
  · obtain ⟨a, b, rfl, hb, hl, q⟩ := h
    have hg := gI_pos (a := a) hb
    have hg2 := gI_le (a := a) hb
    refine ⟨_, (pss_cons (ps_set (i := 2) sc_lowest_.nd rfl (.inl rfl) (pe_callBfun cr_gcd rfl m_gcd (pa_cons (pv 0) (pa_cons (pv 1) pa_nil))))
  (pss_cons (ps_if (pt_cmpR op_lt (pv 1) pe_int (nomark _)) (pss_one (ps_set (i := 2) sc_lowest_.nd rfl (.inl rfl) (pe_un un_neg (pv 2)))) pss_nil)
  (pss_one (ps_ret (pe_tup (pa_cons (pe_op op_fdivN (pv 0) (pv 2)) (pa_cons (pe_op op_fdivN (pv 1) (pv 2)) pa_nil)))))))
    , ?_⟩
    refine ⟨_, rfl, _, rfl, a, b, rfl, ?_⟩
    refine ⟨_, rfl, _, _, rfl, rfl, _, rfl, ite2 (fun e => ?_) (fun e => ?_)⟩
    · have e0 : b < 0 := of_decide_eq_true e
      have c : CDivN a (-gI a b) := ⟨by omega, by omega⟩
      refine ⟨_, rfl, _, rfl, ?_⟩
      refine ⟨_, rfl, _, rfl, a, -gI a b, rfl, rfl, c, _, rfl, _, rfl, b, -gI a b, rfl, rfl, c, (by show 2 ≤ sizeLine; decide), fun r nr => ?_⟩
      have h1 := q r nr
      unfold low at h1
      rw [if_pos e0] at h1
      rw [← fdiv_negg a _ (Int.le_of_lt hg), ← fdiv_negg b _ (Int.le_of_lt hg)] at h1
      exact h1
    · have e0 : ¬ b < 0 := fun z => e (decide_eq_true z)
      have c : CDivN a (gI a b) := ⟨by omega, by omega⟩
      refine ⟨_, rfl, _, rfl, a, gI a b, rfl, rfl, c, _, rfl, _, rfl, b, gI a b, rfl, rfl, c, (by show 2 ≤ sizeLine; decide), fun r nr => ?_⟩
      have h1 := q r nr
      unfold low at h1
      rw [if_neg e0] at h1
      rw [← Int.fdiv_eq_ediv_of_nonneg a (Int.le_of_lt hg), ← Int.fdiv_eq_ediv_of_nonneg b (Int.le_of_lt hg)] at h1
      exact h1
end

section
variable {P : Program} {w : World} {K : PySem.W.Frag} {mg : Str → Option Value} {base : Heap}
/-! ### _inverse -/
def spInverse : Sp := fun vs H Q _ => ∃ p b : Int, vs = [.int p, .int b] ∧ p ∈ primes ∧ b % p ≠ 0 ∧ ∀ k, 1 ≤ k → k < p → k * (b % p) % p = 1 → Q (.int k) H
theorem ok_inverse {f : Addr} {fd : FuncData} (F : Fun K "_inverse" "_inverse" s_inverse_ f fd) : FnOk P w K mg base CX0 1 f fd ["p", "b"] spInverse := by
  refine F.ok sc_inverse_ (fun vs H Q E h => ?_) (fun cdv A outer s H vs Q E hr h => ?_)
  · obtain ⟨p, b, rfl, _⟩ := h
    rfl
  · obtain ⟨p, b, rfl, hp, hb, q⟩ := h
    have hp2 := prime_pos hp
    have hpos : 0 < p := by omega
    obtain ⟨i0, i1, i2, ei⟩ := inv_ex hp (Int.emod_nonneg b (by omega)) (Int.emod_lt_of_pos b hpos) hb
    refine ⟨_, (pss_cons (ps_set (i := 2) sc_inverse_.nd rfl (.inl rfl) (pe_op op_mod (pv 1) (pv 0)))
  (pss_cons (ps_set (i := 3) sc_inverse_.nd rfl (.inl rfl) pe_int)
  (pss_cons (ps_while PassesOwn.never (pt_cmpR op_ne (pe_op op_mod (pe_op op_mul (pv 3) (pv 2)) (pv 0)) pe_int (nomark _)) (pss_one (ps_aug (i := 3) sc_inverse_.nd rfl (.inl rfl) pe_int ip_add)))
  (pss_one (ps_ret (pv 3))))))
    , ?_⟩
    refine ⟨_, rfl, _, rfl, b, p, rfl, rfl, hpos, ?_⟩
    refine ⟨fun m σ H' => ∃ k : Int, σ = [some (.int p), some (.int b), some (.int (b % p)), some (.int k)] ∧ H' = H ∧ 1 ≤ k ∧ k ≤ i0 ∧ m = (i0 - k).toNat, ⟨_, 1, rfl, rfl, by omega, i1, rfl⟩, ?_⟩
    rintro m σ H' ⟨k, rfl, rfl, k1, k2, rfl⟩
    have c1 : CMul k (b % p) := .inl ⟨by omega, by omega⟩
    refine ⟨_, rfl, _, rfl, k, b % p, rfl, rfl, c1, _, rfl, _, p, rfl, rfl, hpos, rfl, _, rfl, ?_⟩
    by_cases e : k * (b % p) % p = 1
    · rw [decide_eq_true (congrArg V.int e)]
      exact iteF ⟨_, rfl, q k k1 (by omega) e⟩
    · rw [decide_eq_false (fun z => e (V.int.inj z))]
      have hk : k ≠ i0 := fun z => e (by rw [z]; exact ei)
      exact iteT ⟨_, fun _ _ n => n, _, rfl, _, _, rfl, rfl, _, by omega, k + 1, rfl, rfl, by omega, by omega, rfl⟩
end

section
variable {P : Program} {w : World} {K : PySem.W.Frag} {mg : Str → Option Value} {base : Heap}
/-! ### number -/
def spNumber (K : PySem.W.Frag) (CW CB : Addr) : Sp := fun vs H Q E => ∃ (x : Addr) (p d a b : Int), vs = [.ref x, .int a, .int b] ∧ SqT K H x [.int p, .int d] ∧ b.natAbs < 1073741824 ∧ (isW p d = false → E (.ref CW) none H) ∧
  (isW p d = true → bad p b → E (.ref CB) none H) ∧ (isW p d = true → ¬ bad p b → ∀ r u v, IsNum p a b u v → H r = none → Q (.ref r) (upd H r (.tup [.int u, .int v])))
theorem ok_number {f CW CB a_check_world a_inverse_ a_lowest_ : Addr} {fd fd_check_world fd_inverse_ fd_lowest_ : FuncData} (F : FunA K "number" "number" s_number f fd) (T : ErrC K mg "BadNumber" CB)
    (G_check_world : FnOk P w K mg base (L2.CX P w) 2 a_check_world fd_check_world ["world"] (spCheckWorld K CW)) (g_check_world : mg "check_world" = some (.ref a_check_world)) (k_check_world : PySem.W.keepIn K (.ref a_check_world) = true) (b_check_world : Binds K fd_check_world ["world"] [])
    (G_inverse_ : FnOk P w K mg base CX0 1 a_inverse_ fd_inverse_ ["p", "b"] spInverse) (g_inverse_ : mg "_inverse" = some (.ref a_inverse_)) (k_inverse_ : PySem.W.keepIn K (.ref a_inverse_) = true) (b_inverse_ : Binds K fd_inverse_ ["p", "b"] [])
    (G_lowest_ : FnOk P w K mg base CX0 1 a_lowest_ fd_lowest_ ["a", "b"] spLowest) (g_lowest_ : mg "_lowest" = some (.ref a_lowest_)) (k_lowest_ : PySem.W.keepIn K (.ref a_lowest_) = true) (b_lowest_ : Binds K fd_lowest_ ["a", "b"] []) :
    FnOk P w K mg base (L2.CX P w) 3 f fd ["world", "a", "b"] (spNumber K CW CB) := by
  obtain ⟨gc_BadNumber, x_BadNumber, kc_BadNumber, bc_BadNumber, tc_BadNumber⟩ := T
  refine F.okX sc_number (fun vs H Q E h => ?_) (fun cdv A outer s H vs Q E hr h => ?_)
  · obtain ⟨x, p, d, a, b, rfl, _⟩ := h
    rfl
  · obtain ⟨x, p, d, a, b, rfl, hS, hl, q1, q2, q3⟩ := h
    refine ⟨_, (pss_cons (ps_expr (pe_call G_check_world (hr.mono (by decide)) rfl g_check_world k_check_world b_check_world .nil (passes_call (takes_of rfl rfl rfl rfl) (fun _ _ _ _ h => h)) (pa_cons (pv 0) pa_nil)))
  (pss_cons (ps_asg (pv 0) (pg_tup rfl (pgs_cons (pg_name (i := 3) sc_number.nd rfl (.inl rfl)) (pgs_cons (pg_name (i := 4) sc_number.nd rfl (.inl rfl)) pgs_nil))))
  (pss_cons (ps_if (pw_or (pt_cmpR op_eq (pv 2) pe_int (nomark _)) (pw_or1 (pw_and (pt_cmpR op_gt (pv 3) pe_int (nomark _)) (pw_and1 (pt_cmpR op_eq (pe_op op_mod (pv 2) (pv 3)) pe_int (nomark _)))).pt)).pt (pss_one (ps_raise rfl (takes_of rfl rfl rfl rfl) (pmk_own PySem.F.excBase_ValueError x_BadNumber gc_BadNumber kc_BadNumber (raises_own bc_BadNumber tc_BadNumber) rfl))) pss_nil)
  (pss_cons (ps_if (pt_cmpR op_gt (pv 3) pe_int (nomark _)) (pss_one (ps_ret (pe_tup (pa_cons (pe_op op_mod (pe_op op_mul (pv 1) (pe_call G_inverse_ (hr.mono (by decide)) rfl g_inverse_ k_inverse_ b_inverse_ .nil pass0 (pa_cons (pv 3) (pa_cons (pv 2) pa_nil)))) (pv 3)) (pa_cons pe_int pa_nil))))) pss_nil)
  (pss_one (ps_ret (pe_call G_lowest_ (hr.mono (by decide)) rfl g_lowest_ k_lowest_ b_lowest_ .nil pass0 (pa_cons (pv 1) (pa_cons (pv 2) pa_nil)))))))))
    , ?_⟩
    refine ⟨_, rfl, x, p, d, rfl, hS, fun ew => ?_, q1⟩
    have r2 := q2 ew
    have r3 := q3 ew
    refine ⟨_, rfl, x, _, rfl, hS, rfl, _, _, rfl, _, _, rfl, rfl, ?_⟩
    by_cases hb0 : b = 0
    · refine ⟨_, rfl, rfl, _, rfl, ?_⟩
      rw [decide_eq_true (congrArg V.int hb0)]
      exact iteT (iteT (r2 (.inl hb0)))
    · refine ⟨_, rfl, rfl, _, rfl, ?_⟩
      rw [decide_eq_false (fun z => hb0 (V.int.inj z))]
      refine iteF ?_
      refine ⟨_, rfl, _, _, rfl, rfl, _, rfl, ?_⟩
      by_cases hp : 0 < p
      · have hpp := (isW_prime ew (by omega)).1
        have hp2 := prime_pos hpp
        rw [decide_eq_true hp]
        refine iteT ⟨_, rfl, _, rfl, b, p, rfl, rfl, hp, rfl, _, rfl, ?_⟩
        by_cases hm : b % p = 0
        · rw [decide_eq_true (congrArg V.int hm)]
          exact iteT (r2 (.inr ⟨hp, hm⟩))
        · rw [decide_eq_false (fun z => hm (V.int.inj z))]
          refine iteF ?_
          refine ⟨_, rfl, _, _, rfl, rfl, _, rfl, ?_⟩
          rw [decide_eq_true hp]
          refine iteT ?_
          refine ⟨_, rfl, _, rfl, _, rfl, p, b, rfl, hpp, hm, fun k k1 k2 ek => ?_⟩
          refine ⟨a, k, rfl, rfl, .inr ⟨by omega, by omega⟩, _, rfl, _, p, rfl, rfl, hp, (by show 2 ≤ sizeLine; decide), fun r nr => ?_⟩
          refine r3 (fun z => ?_) r _ 1 (.inl ⟨hp, rfl, Int.emod_nonneg _ (by omega), Int.emod_lt_of_pos _ hp, inv_solves hp ek (by omega)⟩) nr
          rcases z with z | z
          · exact hb0 z
          · exact hm z.2
      · rw [decide_eq_false hp]
        refine iteF (iteF ?_)
        refine ⟨_, rfl, _, _, rfl, rfl, _, rfl, ?_⟩
        rw [decide_eq_false hp]
        refine iteF ?_
        refine ⟨_, rfl, _, rfl, a, b, rfl, hb0, hl, fun r nr => ?_⟩
        refine r3 (fun z => ?_) r _ _ (.inr ⟨hp, rfl⟩) nr
        rcases z with z | z
        · exact hb0 z
        · exact hp z.1
end

section
variable {P : Program} {w : World} {K : PySem.W.Frag} {mg : Str → Option Value} {base : Heap}
/-! ### _law_lowest -/
def spLawLowest : Sp := fun vs H Q _ => ∃ a b : Int, vs = [.int a, .int b] ∧ b ≠ 0 ∧ b.natAbs ≤ 1000000000 ∧ ∀ r, H r = none → Q (.ref r) (upd H r (.tup [.int (low a b).1, .int (low a b).2]))
theorem ok_law_lowest {f : Addr} {fd : FuncData} (F : Fun K "_law_lowest" "_law_lowest" s_law_lowest f fd) (z_range : mg "range" = none) (z_int : mg "int" = none) (z_abs : mg "abs" = none) : FnOk P w K mg base CX0 1 f fd ["a", "b"] spLawLowest := by
  refine F.ok sc_law_lowest (fun vs H Q E h => ?_) (fun cdv A outer s H vs Q E hr h => ?_)
  · obtain ⟨a, b, rfl, _⟩ := h
    rfl
  · obtain ⟨a, b, rfl, hb, hl, q⟩ := h
    have hg := gI_pos (a := a) hb
    have hg2 := gI_le (a := a) hb
    refine ⟨_, (Evl.pss_cut (ps_if (pt_cmpR op_lt (pv 1) pe_int (nomark _)) (pss_cons (ps_set (i := 0) sc_law_lowest.nd rfl (.inl rfl) (pe_op op_sub pe_int (pv 0)))
  (pss_one (ps_set (i := 1) sc_law_lowest.nd rfl (.inl rfl) (pe_op op_sub pe_int (pv 1))))) pss_nil)
  (pss_cons (ps_set (i := 2) sc_law_lowest.nd rfl (.inl rfl) (pe_callB call_abs (by rfl) z_abs boot_abs (pa_cons (pv 0) pa_nil)))
  (pss_cons (ps_set (i := 3) sc_law_lowest.nd rfl (.inl rfl) (pv 1))
  (pss_cons (ps_for PassesOwn.never rfl (pi_range1 rfl z_range (pa_cons (pe_op op_pow pe_int pe_int) pa_nil)) (pg_name (i := 4) sc_law_lowest.nd rfl (.inl rfl)) (pss_cons (ps_if (pt_cmpR op_eq (pv 3) pe_int (nomark _)) (pss_one ps_break) pss_nil)
  (pss_one (ps_par (i := 2) (j := 3) rfl sc_law_lowest.nd rfl rfl (by decide) rfl rfl (pa_cons (pv 3) (pa_cons (pe_op op_mod (pe_callTy call_int1 (by rfl) z_int boot_int (pa_cons (pv 2) pa_nil)) (pv 3)) pa_nil)) (by rfl)))))
  (pss_one (ps_ret (pe_tup (pa_cons (pe_op op_fdiv (pv 0) (pv 2)) (pa_cons (pe_op op_fdiv (pv 1) (pv 2)) pa_nil)))))))))
    , ?_⟩
    refine ⟨fun σ' H' => ∃ a' b' : Int, σ' = [some (.int a'), some (.int b'), none, none, none] ∧ H' = H ∧ 0 < b' ∧ b' ≤ 1000000000 ∧ gI a' b' = gI a b ∧ low a b = (a' / gI a b, b' / gI a b), ?_, ?_⟩
    · refine ⟨_, rfl, _, _, rfl, rfl, _, rfl, ite2 (fun e => ?_) (fun e => ?_)⟩
      · have e0 : b < 0 := of_decide_eq_true e
        refine ⟨_, rfl, _, _, rfl, rfl, _, rfl, _, _, rfl, rfl, 0 - a, 0 - b, rfl, rfl, by omega, by omega, ?_, ?_⟩
        · unfold gI
          rw [show (0 - a).natAbs = a.natAbs by omega, show (0 - b).natAbs = b.natAbs by omega]
        · unfold low
          rw [if_pos e0, show 0 - a = -a by omega, show 0 - b = -b by omega]
      · have e0 : ¬ b < 0 := fun z => e (decide_eq_true z)
        exact ⟨a, b, rfl, rfl, by omega, by omega, rfl, if_neg e0⟩
    · rintro σ' H' ⟨a', b', rfl, rfl, b1, b2, eg, el⟩
      refine ⟨_, rfl, a', rfl, ?_⟩
      refine ⟨_, rfl, ?_⟩
      refine ⟨10, 9, rfl, rfl, ⟨by decide, by decide, by decide⟩, _, rfl, by decide, by decide, for_range (lo := 0) (n := 1000000000) (fun j σ H'' => ∃ (m n : Nat) (v4 : Option V), σ = [some (.int a'), some (.int b'), some (.int (m : Int)), some (.int (n : Int)), v4] ∧ H'' = H' ∧ ((Nat.gcd m n : Nat) : Int) = gI a b ∧ n + j ≤ b'.toNat)
        ⟨a'.natAbs, b'.natAbs, none, ?_, rfl, eg, by omega⟩ ?_ ?_⟩
      · have e1 : (if a' < 0 then -a' else a') = (a'.natAbs : Int) := by split <;> omega
        have e2 : b' = (b'.natAbs : Int) := by omega
        rw [← e1, ← e2]
        rfl
      · rintro j σ H2 hj ⟨m, n, v4, rfl, rfl, e1, e2⟩
        refine ⟨_, rfl, rfl, _, rfl, ite2 (fun e => ?_) (fun e => ?_)⟩
        · have n0 : (n : Int) = 0 := V.int.inj (of_decide_eq_true e)
          have n0' : n = 0 := by omega
          subst n0'
          rw [Nat.gcd_zero_right] at e1
          have c : CDiv a' (m : Int) := ⟨by omega, by omega⟩
          refine ⟨_, rfl, _, rfl, a', m, rfl, rfl, c, _, rfl, _, rfl, b', m, rfl, rfl, c, (by show 2 ≤ sizeLine; decide), fun r nr => ?_⟩
          have h1 := q r nr
          rw [el, ← e1] at h1
          exact h1
        · have n0 : n ≠ 0 := fun z => e (decide_eq_true (congrArg V.int (by rw [z]; rfl)))
          refine ⟨_, rfl, _, rfl, .inl ⟨_, rfl, _, rfl, m, n, rfl, rfl, (show (0 : Int) < n by omega), _, _, rfl, n, m % n, some (.int (0 + (j : Int))), ?_, rfl, ?_, ?_⟩⟩
          · rw [Int.natCast_emod]
            rfl
          · rw [Nat.gcd_comm n (m % n), ← Nat.gcd_rec, Nat.gcd_comm]
            exact e1
          · have := Nat.mod_lt m (show n > 0 by omega)
            omega
      · rintro σ H2 ⟨m, n, v4, rfl, rfl, e1, e2⟩
        have n0' : n = 0 := by omega
        subst n0'
        rw [Nat.gcd_zero_right] at e1
        have c : CDiv a' (m : Int) := ⟨by omega, by omega⟩
        refine ⟨_, rfl, _, rfl, a', m, rfl, rfl, c, _, rfl, _, rfl, b', m, rfl, rfl, c, (by show 2 ≤ sizeLine; decide), fun r nr => ?_⟩
        have h1 := q r nr
        rw [el, ← e1] at h1
        exact h1
end

section
variable {P : Program} {w : World} {K : PySem.W.Frag} {mg : Str → Option Value} {base : Heap}
/-! ### _law_made -/
def spLawMade : Sp := fun vs H Q _ => ∃ p a b : Int, vs = [.int p, .int a, .int b] ∧ (p = 0 ∨ p ∈ primes) ∧ ¬ bad p b ∧ b.natAbs ≤ 1000000000 ∧ ∀ r u v, IsNum p a b u v → H r = none → Q (.ref r) (upd H r (.tup [.int u, .int v]))
theorem ok_law_made {f a_law_lowest : Addr} {fd fd_law_lowest : FuncData} (F : Fun K "_law_made" "_law_made" s_law_made f fd) (z_range : mg "range" = none) (z_int : mg "int" = none)
    (G_law_lowest : FnOk P w K mg base CX0 1 a_law_lowest fd_law_lowest ["a", "b"] spLawLowest) (g_law_lowest : mg "_law_lowest" = some (.ref a_law_lowest)) (k_law_lowest : PySem.W.keepIn K (.ref a_law_lowest) = true) (b_law_lowest : Binds K fd_law_lowest ["a", "b"] []) :
    FnOk P w K mg base CX0 2 f fd ["p", "a", "b"] spLawMade := by
  refine F.ok sc_law_made (fun vs H Q E h => ?_) (fun cdv A outer s H vs Q E hr h => ?_)
  · obtain ⟨p, a, b, rfl, _⟩ := h
    rfl
  · obtain ⟨p, a, b, rfl, hp, hb, hl, q⟩ := h
    refine ⟨_, (pss_cons (ps_if (pt_cmpR op_eq (pv 0) pe_int (nomark _)) (pss_one (ps_ret (pe_call G_law_lowest (hr.mono (by decide)) rfl g_law_lowest k_law_lowest b_law_lowest .nil pass0 (pa_cons (pv 1) (pa_cons (pv 2) pa_nil))))) pss_nil)
  (pss_cons (ps_for PassesOwn.never rfl (pi_range1 rfl z_range (pa_cons (pv 0) pa_nil)) (pg_name (i := 3) sc_law_made.nd rfl (.inl rfl)) (pss_one (ps_if (pt_cmpR op_eq (pe_op op_mod (pe_callTy call_int1 (by rfl) z_int boot_int (pa_cons (pe_op op_sub (pe_op op_mul (pv 3) (pv 2)) (pv 1)) pa_nil)) (pv 0)) pe_int (nomark _)) (pss_one (ps_ret (pe_tup (pa_cons (pv 3) (pa_cons pe_int pa_nil))))) pss_nil)))
  (pss_one (ps_ret pe_non))))
    , ?_⟩
    refine ⟨_, rfl, rfl, _, rfl, ite2 (fun e => ?_) (fun e => ?_)⟩
    · have e0 : p = 0 := V.int.inj (of_decide_eq_true e)
      exact ⟨_, rfl, _, rfl, a, b, rfl, fun z => hb (.inl z), hl, fun r nr => q r _ _ (.inr ⟨by omega, rfl⟩) nr⟩
    · have e0 : p ≠ 0 := fun z => e (decide_eq_true (congrArg V.int z))
      have hpp : p ∈ primes := hp.resolve_left e0
      have hp2 := prime_pos hpp
      have hpos : 0 < p := by omega
      have hbp : b % p ≠ 0 := fun z => hb (.inr ⟨hpos, z⟩)
      obtain ⟨k, k1, k2, ek⟩ := inv_ex hpp (Int.emod_nonneg b (by omega)) (Int.emod_lt_of_pos b hpos) hbp
      have hsol := inv_solves (a := a) hpos ek (by omega)
      refine ⟨_, rfl, p, rfl, by omega, by omega, for_range (lo := 0) (n := p.toNat) (fun j σ H' => ∃ v3, σ = [some (.int p), some (.int a), some (.int b), v3] ∧ H' = H ∧ ∀ i : Int, 0 ≤ i → i < j → (i * b - a) % p ≠ 0) ⟨none, rfl, rfl, fun i h1 h2 => by omega⟩ ?_ ?_⟩
      · rintro j σ H1 hj ⟨v3, rfl, rfl, hn⟩
        have c1 : CMul (0 + (j : Int)) b := .inl ⟨by omega, by omega⟩
        refine ⟨_, rfl, _, rfl, _, _, rfl, rfl, c1, _, rfl, _, _, rfl, rfl, .inl ⟨_, rfl, _, rfl, _, p, rfl, rfl, hpos, rfl, _, rfl, ite2 (fun e => ?_) (fun e => ?_)⟩⟩
        · have e1 : ((0 + (j : Int)) * b - a) % p = 0 := V.int.inj (of_decide_eq_true e)
          exact ⟨_, rfl, (by show 2 ≤ sizeLine; decide), fun r nr => q r _ _ (.inl ⟨hpos, rfl, by omega, by omega, e1⟩) nr⟩
        · have e1 : ((0 + (j : Int)) * b - a) % p ≠ 0 := fun z => e (decide_eq_true (congrArg V.int z))
          refine ⟨_, rfl, rfl, fun i h1 h2 => ?_⟩
          by_cases z : i = j
          · rw [z, show (j : Int) = 0 + (j : Int) by omega]
            exact e1
          · exact hn i h1 (by omega)
      · rintro σ H1 ⟨v3, rfl, rfl, hn⟩
        exact absurd hsol (hn _ (Int.emod_nonneg _ (by omega)) (by have := Int.emod_lt_of_pos (a * k) hpos; omega))
end

theorem low_self {u v : Int} (hv : 0 < v) : (low u v = (u, v)) ↔ gI u v = 1 := by
  have hg := gI_pos (a := u) (b := v) (by omega)
  unfold low
  rw [if_neg (by omega)]
  constructor
  · intro h
    have h2 := congrArg Prod.snd h
    have h3 : v / gI u v = v := h2
    by_cases c : gI u v = 1
    · exact c
    · have : v / gI u v < v := Int.ediv_lt_of_lt_mul (by omega) (by
        have : v * 2 ≤ v * gI u v := Int.mul_le_mul_of_nonneg_left (by omega) (by omega)
        omega)
      omega
  · intro h
    rw [h, Int.ediv_one, Int.ediv_one]

section
variable {P : Program} {w : World} {K : PySem.W.Frag} {mg : Str → Option Value} {base : Heap}
/-! ### _law_world -/
def spLawWorld : Sp := fun vs H Q _ => ∃ (a : Addr) (ds : List Int), vs = [.ref a] ∧ H a = some (.lst (ds.map V.int)) ∧
  ∀ (p d : Int) (ds' : List Int) (x : Addr) (H' : Hp), SameBut a H H' → H' a = some (.lst (ds'.map V.int)) → H x = none → H' x = some (.tup [.int p, .int d]) → isW p d = true → Q (.ref x) H'
theorem ok_law_world {f a_law_next : Addr} {fd fd_law_next : FuncData} (F : Fun K "_law_world" "_law_world" s_law_world f fd) (z_int : mg "int" = none)
    (G_law_next : FnOk P w K mg base CX0 1 a_law_next fd_law_next ["draws"] spNext) (g_law_next : mg "_law_next" = some (.ref a_law_next)) (k_law_next : PySem.W.keepIn K (.ref a_law_next) = true) (b_law_next : Binds K fd_law_next ["draws"] []) :
    FnOk P w K mg base CX0 2 f fd ["draws"] spLawWorld := by
  refine F.ok sc_law_world (fun vs H Q E h => ?_) (fun cdv A outer s H vs Q E hr h => ?_)
  · obtain ⟨a, ds, rfl, _⟩ := h
    rfl
  · obtain ⟨a, ds, rfl, hL, q⟩ := h
    refine ⟨_, (pss_cons (ps_set (i := 1) sc_law_world.nd rfl (.inl rfl) (pe_ix ix_list (pe_lst (pa_cons pe_int (pa_cons pe_int (pa_cons pe_int (pa_cons pe_int (pa_cons pe_int (pa_cons pe_int (pa_cons pe_int (pa_cons pe_int pa_nil))))))))) (pe_op op_mod (pe_callTy call_int1 (by rfl) z_int boot_int (pa_cons (pe_call G_law_next (hr.mono (by decide)) rfl g_law_next k_law_next b_law_next .nil pass0 (pa_cons (pv 0) pa_nil)) pa_nil)) pe_int) (fun _ _ => rfl)))
  (pss_cons (ps_if (pt_cmpR op_eq (pv 1) pe_int (nomark _)) (pss_one (ps_ret (pe_tup (pa_cons pe_int (pa_cons (pe_op op_sub (pe_op op_mod (pe_callTy call_int1 (by rfl) z_int boot_int (pa_cons (pe_call G_law_next (hr.mono (by decide)) rfl g_law_next k_law_next b_law_next .nil pass0 (pa_cons (pv 0) pa_nil)) pa_nil)) pe_int) pe_int) pa_nil))))) pss_nil)
  (pss_one (ps_ret (pe_tup (pa_cons (pv 1) (pa_cons (pe_op op_mod (pe_callTy call_int1 (by rfl) z_int boot_int (pa_cons (pe_call G_law_next (hr.mono (by decide)) rfl g_law_next k_law_next b_law_next .nil pass0 (pa_cons (pv 0) pa_nil)) pa_nil)) (pv 1)) pa_nil)))))))
    , ?_⟩
    refine ⟨(by show 8 ≤ sizeLine; decide), fun l nl => ?_⟩
    have hal : a ≠ l := ne_of_none hL nl
    refine ⟨_, rfl, a, ds, rfl, (by rw [upd_ne hal]; exact hL), fun n ds1 => ?_⟩
    have m8 := mod_lt8 n (show (0 : Int) < 8 by decide)
    refine .inl ⟨n, rfl, n, 8, rfl, rfl, (show (0 : Int) < 8 by decide), l, wtab.map V.int, n % 8, .int (wtab.getD (n % 8).toNat 0), rfl, rfl, .inl (.inl (by rw [upd_ne (Ne.symm hal), upd_same]; rfl)), at_tab m8.1 m8.2, ?_⟩
    have hw := wtab_in (n % 8).toNat (by omega)
    generalize wtab.getD (n % 8).toNat 0 = p at hw
    have s1 : SameBut a H (upd (upd H l (.lst [.int 0, .int 0, .int 0, .int 2, .int 3, .int 5, .int 7, .int 31])) a (.lst (ds1.map V.int))) := (SameBut.new nl).trans SameBut.upd
    refine ⟨_, rfl, rfl, _, rfl, ite2 (fun e => ?_) (fun e => ?_)⟩
    · have e0 : p = 0 := V.int.inj (of_decide_eq_true e)
      refine ⟨_, rfl, a, ds1, rfl, upd_same, fun n2 ds2 => ?_⟩
      have m12 := mod_lt8 n2 (show (0 : Int) < 12 by decide)
      refine .inl ⟨n2, rfl, n2, 12, rfl, rfl, (show (0 : Int) < 12 by decide), _, 5, rfl, rfl, (by show 2 ≤ sizeLine; decide), fun r nr => ?_⟩
      have hra : a ≠ r := ne_of_none upd_same nr
      have nr' : H r = none := by
        rw [upd_ne (Ne.symm hra), upd_ne (Ne.symm hra)] at nr
        by_cases c : r = l
        · rw [c, upd_same] at nr
          cases nr
        · rwa [upd_ne c] at nr
      refine q 0 (n2 % 12 - 5) ds2 r _ ((s1.trans SameBut.upd).trans (SameBut.new nr)) (by rw [upd_ne hra, upd_same]) nr' upd_same ?_
      unfold isW
      rw [if_pos rfl, if_pos (by omega)]
      exact decide_eq_true (by omega)
    · have e0 : p ≠ 0 := fun z => e (decide_eq_true (congrArg V.int z))
      obtain ⟨_, hin, h2⟩ := hw.resolve_left e0
      have hpos : 0 < p := by omega
      refine ⟨_, rfl, _, rfl, a, ds1, rfl, upd_same, fun n2 ds2 => ?_⟩
      have mp := mod_lt8 n2 hpos
      refine .inl ⟨n2, rfl, _, rfl, n2, p, rfl, rfl, hpos, (by show 2 ≤ sizeLine; decide), fun r nr => ?_⟩
      have hra : a ≠ r := ne_of_none upd_same nr
      have nr' : H r = none := by
        rw [upd_ne (Ne.symm hra), upd_ne (Ne.symm hra)] at nr
        by_cases c : r = l
        · rw [c, upd_same] at nr
          cases nr
        · rwa [upd_ne c] at nr
      refine q p (n2 % p) ds2 r _ ((s1.trans SameBut.upd).trans (SameBut.new nr)) (by rw [upd_ne hra, upd_same]) nr' upd_same ?_
      unfold isW
      rw [if_neg e0, if_pos hin, if_pos mp.1]
      exact decide_eq_true mp.2
end

theorem low_isN {a b : Int} (hb : b ≠ 0) : isN 0 (low a b).1 (low a b).2 = true := by
  obtain ⟨h1, h2⟩ := low_q (u := (low a b).1) (v := (low a b).2) hb rfl
  have e : low (low a b).1 (low a b).2 = low a b := by
    rw [low_rat (show (low a b).2 ≠ 0 by omega), h1, ← low_rat hb]
  unfold isN
  rw [if_pos rfl, if_pos (by omega)]
  exact decide_eq_true ((low_self h2).mp e)
section
variable {P : Program} {w : World} {K : PySem.W.Frag} {mg : Str → Option Value} {base : Heap}
/-! ### _law_number -/
def spLawNumber (K : PySem.W.Frag) : Sp := fun vs H Q _ => ∃ (r x : Addr) (ds : List Int) (p d : Int), vs = [.ref r, .ref x] ∧ H r = some (.lst (ds.map V.int)) ∧ SqT K H x [.int p, .int d] ∧ r ≠ x ∧ isW p d = true ∧
  ∀ (a b : Int) (ds' : List Int) (y : Addr) (H' : Hp), SameBut r H H' → H' r = some (.lst (ds'.map V.int)) → H y = none → H' y = some (.tup [.int a, .int b]) → isN p a b = true → a.natAbs ≤ 31 → b.natAbs ≤ 4 → (p ≠ 0 → b = 1) → b ≠ 0 → Q (.ref y) H'
theorem ok_law_number {f a_law_next a_law_lowest : Addr} {fd fd_law_next fd_law_lowest : FuncData} (F : Fun K "_law_number" "_law_number" s_law_number f fd) (z_int : mg "int" = none)
    (G_law_next : FnOk P w K mg base CX0 1 a_law_next fd_law_next ["draws"] spNext) (g_law_next : mg "_law_next" = some (.ref a_law_next)) (k_law_next : PySem.W.keepIn K (.ref a_law_next) = true) (b_law_next : Binds K fd_law_next ["draws"] [])
    (G_law_lowest : FnOk P w K mg base CX0 1 a_law_lowest fd_law_lowest ["a", "b"] spLawLowest) (g_law_lowest : mg "_law_lowest" = some (.ref a_law_lowest)) (k_law_lowest : PySem.W.keepIn K (.ref a_law_lowest) = true) (b_law_lowest : Binds K fd_law_lowest ["a", "b"] []) :
    FnOk P w K mg base CX0 2 f fd ["draws", "world"] (spLawNumber K) := by
  refine F.ok sc_law_number (fun vs H Q E h => ?_) (fun cdv A outer s H vs Q E hr h => ?_)
  · obtain ⟨r, x, ds, p, d, rfl, _⟩ := h
    rfl
  · obtain ⟨r, x, ds, p, d, rfl, hL, hx, hrx, ew, q⟩ := h
    refine ⟨_, (pss_cons (ps_if (pt_cmpR op_gt (pe_ix ix_tup (pv 1) pe_int (fun _ _ => rfl)) pe_int (nomark _)) (pss_one (ps_ret (pe_tup (pa_cons (pe_op op_mod (pe_callTy call_int1 (by rfl) z_int boot_int (pa_cons (pe_call G_law_next (hr.mono (by decide)) rfl g_law_next k_law_next b_law_next .nil pass0 (pa_cons (pv 0) pa_nil)) pa_nil)) (pe_ix ix_tup (pv 1) pe_int (fun _ _ => rfl))) (pa_cons pe_int pa_nil))))) pss_nil)
  (pss_one (ps_ret (pe_call G_law_lowest (hr.mono (by decide)) rfl g_law_lowest k_law_lowest b_law_lowest .nil pass0 (pa_cons (pe_op op_sub (pe_op op_mod (pe_callTy call_int1 (by rfl) z_int boot_int (pa_cons (pe_call G_law_next (hr.mono (by decide)) rfl g_law_next k_law_next b_law_next .nil pass0 (pa_cons (pv 0) pa_nil)) pa_nil)) pe_int) pe_int) (pa_cons (pe_op op_add pe_int (pe_op op_mod (pe_callTy call_int1 (by rfl) z_int boot_int (pa_cons (pe_call G_law_next (hr.mono (by decide)) rfl g_law_next k_law_next b_law_next .nil pass0 (pa_cons (pv 0) pa_nil)) pa_nil)) pe_int)) pa_nil)))))), ?_⟩
    refine ⟨_, rfl, x, _, 0, .int p, rfl, rfl, hx, atI_nat (j := 0) rfl, _, _, rfl, rfl, _, rfl, ite2 (fun e => ?_) (fun e => ?_)⟩
    · have hpos : 0 < p := of_decide_eq_true e
      obtain ⟨hpr, _, _⟩ := isW_prime ew (by omega)
      have hp2 := prime_pos hpr
      refine ⟨_, rfl, r, ds, rfl, hL, fun n ds1 => ?_⟩
      have hx1 : SqT K (upd H r (.lst (ds1.map V.int))) x [.int p, .int d] := sqT_but SameBut.upd (Ne.symm hrx) hx
      have m := mod_lt8 n hpos
      refine .inl ⟨n, rfl, _, rfl, x, _, 0, .int p, rfl, rfl, hx1, atI_nat (j := 0) rfl, n, p, rfl, rfl, hpos, (by show 2 ≤ sizeLine; decide), fun y ny => ?_⟩
      have hry : r ≠ y := ne_of_none upd_same ny
      have ny' : H y = none := by rwa [upd_ne (Ne.symm hry)] at ny
      refine q (n % p) 1 ds1 y _ (SameBut.upd.trans (SameBut.new ny)) (by rw [upd_ne hry, upd_same]) ny' upd_same ?_ (by omega) (by decide) (fun _ => rfl) (by decide)
      unfold isN
      rw [if_neg (by omega), if_pos rfl, if_pos m.1]
      exact decide_eq_true m.2
    · have hpz : p = 0 := by
        have h0 : ¬ 0 < p := fun z => e (decide_eq_true z)
        by_cases c : p = 0
        · exact c
        · have := prime_pos (isW_prime ew c).1
          omega
      refine ⟨_, rfl, r, ds, rfl, hL, fun n ds1 => ?_⟩
      refine .inl ⟨n, rfl, n, 19, rfl, rfl, (show (0 : Int) < 19 by decide), _, 9, rfl, rfl, ?_⟩
      refine ⟨_, rfl, r, ds1, rfl, upd_same, fun n2 ds2 => ?_⟩
      have m1 := mod_lt8 n (show (0 : Int) < 19 by decide)
      have m2 := mod_lt8 n2 (show (0 : Int) < 4 by decide)
      refine .inl ⟨n2, rfl, n2, 4, rfl, rfl, (show (0 : Int) < 4 by decide), 1, _, rfl, rfl, _, _, rfl, (show 1 + n2 % 4 ≠ 0 by omega), (show (1 + n2 % 4).natAbs ≤ 1000000000 by omega), fun y ny => ?_⟩
      have hry : r ≠ y := ne_of_none upd_same ny
      have ny' : H y = none := by rwa [upd_ne (Ne.symm hry), upd_ne (Ne.symm hry)] at ny
      have sm := low_small (u := (low (n % 19 - 9) (1 + n2 % 4)).1) (v := (low (n % 19 - 9) (1 + n2 % 4)).2) rfl
      have cr := low_cross (u := (low (n % 19 - 9) (1 + n2 % 4)).1) (v := (low (n % 19 - 9) (1 + n2 % 4)).2) (show 1 + n2 % 4 ≠ 0 by omega) rfl
      refine q _ _ ds2 y _ ((SameBut.upd.trans SameBut.upd).trans (SameBut.new ny)) (by rw [upd_ne hry, upd_same]) ny' upd_same ?_ (by omega) (by omega) (fun z => absurd hpz z) (by omega)
      rw [hpz]
      exact low_isN (by omega)
end

section
variable {P : Program} {w : World} {K : PySem.W.Frag} {mg : Str → Option Value} {base : Heap}
/-! ### _check_two -/
def spCheckTwo (K : PySem.W.Frag) (CW CN : Addr) : Sp := fun vs H Q E => ∃ (x y z : Addr) (p d a b a' b' : Int), vs = [.ref x, .ref y, .ref z] ∧ SqT K H x [.int p, .int d] ∧ SqT K H y [.int a, .int b] ∧ SqT K H z [.int a', .int b'] ∧
  (isW p d = false → E (.ref CW) none H) ∧ (isW p d = true → (isN p a b = false ∨ isN p a' b' = false) → E (.ref CN) none H) ∧ (isW p d = true → isN p a b = true → isN p a' b' = true → Q .non H)
theorem ok_check_two {f CW CN a_check_number : Addr} {fd fd_check_number : FuncData} (F : Fun K "_check_two" "_check_two" s_check_two_ f fd)
    (G_check_number : FnOk P w K mg base (L2.CX P w) 4 a_check_number fd_check_number ["world", "x"] (spCheckNumber K CW CN)) (g_check_number : mg "check_number" = some (.ref a_check_number)) (k_check_number : PySem.W.keepIn K (.ref a_check_number) = true) (b_check_number : Binds K fd_check_number ["world", "x"] []) :
    FnOk P w K mg base (L2.CX P w) 5 f fd ["world", "x", "y"] (spCheckTwo K CW CN) := by
  refine F.okX sc_check_two_ (fun vs H Q E h => ?_) (fun cdv A outer s H vs Q E hr h => ?_)
  · obtain ⟨x, y, z, p, d, a, b, a', b', rfl, _⟩ := h
    rfl
  · obtain ⟨x, y, z, p, d, a, b, a', b', rfl, hx, hy, hz, q1, q2, q3⟩ := h
    refine ⟨_, (pss_cons (ps_expr (pe_call G_check_number (hr.mono (by decide)) rfl g_check_number k_check_number b_check_number .nil (passes_call (takes_of rfl rfl rfl rfl) (fun _ _ _ _ h => h)) (pa_cons (pv 0) (pa_cons (pv 1) pa_nil))))
  (pss_one (ps_expr (pe_call G_check_number (hr.mono (by decide)) rfl g_check_number k_check_number b_check_number .nil (passes_call (takes_of rfl rfl rfl rfl) (fun _ _ _ _ h => h)) (pa_cons (pv 0) (pa_cons (pv 2) pa_nil)))))), ?_⟩
    refine ⟨_, rfl, _, rfl, x, y, p, d, a, b, rfl, hx, hy, fun ew en => ?_, fun ew en => q2 ew (.inl en), q1⟩
    exact ⟨_, rfl, _, rfl, x, z, p, d, a', b', rfl, hx, hz, fun ew en' => q3 ew en en', fun ew en' => q2 ew (.inr en'), q1⟩
end

def spOp (K : PySem.W.Frag) (CW CN CB : Addr) (fA fB : Int → Int → Int → Int → Int) : Sp := fun vs H Q E => ∃ (x y z : Addr) (p d a b a' b' : Int), vs = [.ref x, .ref y, .ref z] ∧ SqT K H x [.int p, .int d] ∧ SqT K H y [.int a, .int b] ∧ SqT K H z [.int a', .int b'] ∧
  (isW p d = false → E (.ref CW) none H) ∧ (isW p d = true → (isN p a b = false ∨ isN p a' b' = false) → E (.ref CN) none H) ∧
  (isW p d = true → isN p a b = true → isN p a' b' = true → (a.natAbs < 2 ^ 62 ∧ b.natAbs < 2 ^ 62 ∧ a'.natAbs < 2 ^ 62 ∧ b'.natAbs < 2 ^ 62 ∧ (fB a b a' b').natAbs < 1073741824) ∧
    (bad p (fB a b a' b') → E (.ref CB) none H) ∧ (¬ bad p (fB a b a' b') → ∀ r u v, IsNum p (fA a b a' b') (fB a b a' b') u v → H r = none → Q (.ref r) (upd H r (.tup [.int u, .int v]))))
def fPlusA : Int → Int → Int → Int → Int := fun a b a' b' => a * b' + a' * b
def fMinusA : Int → Int → Int → Int → Int := fun a b a' b' => a * b' - a' * b
def fTimesA : Int → Int → Int → Int → Int := fun a _ a' _ => a * a'
def fTimesB : Int → Int → Int → Int → Int := fun _ b _ b' => b * b'
def fOverA : Int → Int → Int → Int → Int := fun a _ _ b' => a * b'
def fOverB : Int → Int → Int → Int → Int := fun _ b a' _ => b * a'
theorem cm62 {a b : Int} (h : a.natAbs < 2 ^ 62) : CMul a b := .inl ⟨by omega, by omega⟩

section
variable {P : Program} {w : World} {K : PySem.W.Frag} {mg : Str → Option Value} {base : Heap}
/-! ### plus -/
theorem ok_plus {f CW CN CB a_check_two_ a_number : Addr} {fd fd_check_two_ fd_number : FuncData} (F : Fun K "plus" "plus" s_plus f fd)
    (G_check_two_ : FnOk P w K mg base (L2.CX P w) 5 a_check_two_ fd_check_two_ ["world", "x", "y"] (spCheckTwo K CW CN)) (g_check_two_ : mg "_check_two" = some (.ref a_check_two_)) (k_check_two_ : PySem.W.keepIn K (.ref a_check_two_) = true) (b_check_two_ : Binds K fd_check_two_ ["world", "x", "y"] [])
    (G_number : FnOk P w K mg base (L2.CX P w) 3 a_number fd_number ["world", "a", "b"] (spNumber K CW CB)) (g_number : mg "number" = some (.ref a_number)) (k_number : PySem.W.keepIn K (.ref a_number) = true) (b_number : Binds K fd_number ["world", "a", "b"] []) :
    FnOk P w K mg base (L2.CX P w) 6 f fd ["world", "x", "y"] (spOp K CW CN CB fPlusA fTimesB) := by
  refine F.okX sc_plus (fun vs H Q E h => ?_) (fun cdv A outer s H vs Q E hr h => ?_)
  · obtain ⟨x, y, z, p, d, a, b, a', b', rfl, _⟩ := h
    rfl
  · obtain ⟨x, y, z, p, d, a, b, a', b', rfl, hx, hy, hz, q1, q2, q3⟩ := h
    have ya : atI [V.int a, V.int b] 0 = some (.int a) := atI_nat (j := 0) rfl
    have yb : atI [V.int a, V.int b] 1 = some (.int b) := atI_nat (j := 1) rfl
    have za : atI [V.int a', V.int b'] 0 = some (.int a') := atI_nat (j := 0) rfl
    have zb : atI [V.int a', V.int b'] 1 = some (.int b') := atI_nat (j := 1) rfl
    refine ⟨_, (pss_cons (ps_expr (pe_call G_check_two_ (hr.mono (by decide)) rfl g_check_two_ k_check_two_ b_check_two_ .nil (passes_call (takes_of rfl rfl rfl rfl) (fun _ _ _ _ h => h)) (pa_cons (pv 0) (pa_cons (pv 1) (pa_cons (pv 2) pa_nil)))))
  (pss_one (ps_ret (pe_call G_number (hr.mono (by decide)) rfl g_number k_number b_number .nil (passes_call (takes_of rfl rfl rfl rfl) (fun _ _ _ _ h => h)) (pa_cons (pv 0) (pa_cons (pe_op op_add (pe_op op_mul (pe_ix ix_tup (pv 1) pe_int (fun _ _ => rfl)) (pe_ix ix_tup (pv 2) pe_int (fun _ _ => rfl))) (pe_op op_mul (pe_ix ix_tup (pv 2) pe_int (fun _ _ => rfl)) (pe_ix ix_tup (pv 1) pe_int (fun _ _ => rfl)))) (pa_cons (pe_op op_mul (pe_ix ix_tup (pv 1) pe_int (fun _ _ => rfl)) (pe_ix ix_tup (pv 2) pe_int (fun _ _ => rfl))) pa_nil))))))), ?_⟩
    refine ⟨_, rfl, _, rfl, _, rfl, x, y, z, p, d, a, b, a', b', rfl, hx, hy, hz, q1, q2, fun ew en en' => ?_⟩
    obtain ⟨⟨b1, b2, b3, b4, b5⟩, qb, qn⟩ := q3 ew en en'
    exact ⟨_, rfl, _, rfl, y, _, 0, .int a, rfl, rfl, hy, ya, _, rfl, z, _, 1, .int b', rfl, rfl, hz, zb, a, b', rfl, rfl, cm62 b1, _, rfl, z, _, 0, .int a', rfl, rfl, hz, za, _, rfl, y, _, 1, .int b, rfl, rfl, hy, yb, a', b, rfl, rfl, cm62 b3, _, _, rfl, rfl, _, rfl, y, _, 1, .int b, rfl, rfl, hy, yb, _, rfl, z, _, 1, .int b', rfl, rfl, hz, zb, b, b', rfl, rfl, cm62 b2, x, p, d, _, _, rfl, hx, b5, q1, fun _ => qb, fun _ => qn⟩
end

section
variable {P : Program} {w : World} {K : PySem.W.Frag} {mg : Str → Option Value} {base : Heap}
/-! ### minus -/
theorem ok_minus {f CW CN CB a_check_two_ a_number : Addr} {fd fd_check_two_ fd_number : FuncData} (F : Fun K "minus" "minus" s_minus f fd)
    (G_check_two_ : FnOk P w K mg base (L2.CX P w) 5 a_check_two_ fd_check_two_ ["world", "x", "y"] (spCheckTwo K CW CN)) (g_check_two_ : mg "_check_two" = some (.ref a_check_two_)) (k_check_two_ : PySem.W.keepIn K (.ref a_check_two_) = true) (b_check_two_ : Binds K fd_check_two_ ["world", "x", "y"] [])
    (G_number : FnOk P w K mg base (L2.CX P w) 3 a_number fd_number ["world", "a", "b"] (spNumber K CW CB)) (g_number : mg "number" = some (.ref a_number)) (k_number : PySem.W.keepIn K (.ref a_number) = true) (b_number : Binds K fd_number ["world", "a", "b"] []) :
    FnOk P w K mg base (L2.CX P w) 6 f fd ["world", "x", "y"] (spOp K CW CN CB fMinusA fTimesB) := by
  refine F.okX sc_minus (fun vs H Q E h => ?_) (fun cdv A outer s H vs Q E hr h => ?_)
  · obtain ⟨x, y, z, p, d, a, b, a', b', rfl, _⟩ := h
    rfl
  · obtain ⟨x, y, z, p, d, a, b, a', b', rfl, hx, hy, hz, q1, q2, q3⟩ := h
    have ya : atI [V.int a, V.int b] 0 = some (.int a) := atI_nat (j := 0) rfl
    have yb : atI [V.int a, V.int b] 1 = some (.int b) := atI_nat (j := 1) rfl
    have za : atI [V.int a', V.int b'] 0 = some (.int a') := atI_nat (j := 0) rfl
    have zb : atI [V.int a', V.int b'] 1 = some (.int b') := atI_nat (j := 1) rfl
    refine ⟨_, (pss_cons (ps_expr (pe_call G_check_two_ (hr.mono (by decide)) rfl g_check_two_ k_check_two_ b_check_two_ .nil (passes_call (takes_of rfl rfl rfl rfl) (fun _ _ _ _ h => h)) (pa_cons (pv 0) (pa_cons (pv 1) (pa_cons (pv 2) pa_nil)))))
  (pss_one (ps_ret (pe_call G_number (hr.mono (by decide)) rfl g_number k_number b_number .nil (passes_call (takes_of rfl rfl rfl rfl) (fun _ _ _ _ h => h)) (pa_cons (pv 0) (pa_cons (pe_op op_sub (pe_op op_mul (pe_ix ix_tup (pv 1) pe_int (fun _ _ => rfl)) (pe_ix ix_tup (pv 2) pe_int (fun _ _ => rfl))) (pe_op op_mul (pe_ix ix_tup (pv 2) pe_int (fun _ _ => rfl)) (pe_ix ix_tup (pv 1) pe_int (fun _ _ => rfl)))) (pa_cons (pe_op op_mul (pe_ix ix_tup (pv 1) pe_int (fun _ _ => rfl)) (pe_ix ix_tup (pv 2) pe_int (fun _ _ => rfl))) pa_nil))))))), ?_⟩
    refine ⟨_, rfl, _, rfl, _, rfl, x, y, z, p, d, a, b, a', b', rfl, hx, hy, hz, q1, q2, fun ew en en' => ?_⟩
    obtain ⟨⟨b1, b2, b3, b4, b5⟩, qb, qn⟩ := q3 ew en en'
    exact ⟨_, rfl, _, rfl, y, _, 0, .int a, rfl, rfl, hy, ya, _, rfl, z, _, 1, .int b', rfl, rfl, hz, zb, a, b', rfl, rfl, cm62 b1, _, rfl, z, _, 0, .int a', rfl, rfl, hz, za, _, rfl, y, _, 1, .int b, rfl, rfl, hy, yb, a', b, rfl, rfl, cm62 b3, _, _, rfl, rfl, _, rfl, y, _, 1, .int b, rfl, rfl, hy, yb, _, rfl, z, _, 1, .int b', rfl, rfl, hz, zb, b, b', rfl, rfl, cm62 b2, x, p, d, _, _, rfl, hx, b5, q1, fun _ => qb, fun _ => qn⟩
end

section
variable {P : Program} {w : World} {K : PySem.W.Frag} {mg : Str → Option Value} {base : Heap}
/-! ### times -/
theorem ok_times {f CW CN CB a_check_two_ a_number : Addr} {fd fd_check_two_ fd_number : FuncData} (F : Fun K "times" "times" s_times f fd)
    (G_check_two_ : FnOk P w K mg base (L2.CX P w) 5 a_check_two_ fd_check_two_ ["world", "x", "y"] (spCheckTwo K CW CN)) (g_check_two_ : mg "_check_two" = some (.ref a_check_two_)) (k_check_two_ : PySem.W.keepIn K (.ref a_check_two_) = true) (b_check_two_ : Binds K fd_check_two_ ["world", "x", "y"] [])
    (G_number : FnOk P w K mg base (L2.CX P w) 3 a_number fd_number ["world", "a", "b"] (spNumber K CW CB)) (g_number : mg "number" = some (.ref a_number)) (k_number : PySem.W.keepIn K (.ref a_number) = true) (b_number : Binds K fd_number ["world", "a", "b"] []) :
    FnOk P w K mg base (L2.CX P w) 6 f fd ["world", "x", "y"] (spOp K CW CN CB fTimesA fTimesB) := by
  refine F.okX sc_times (fun vs H Q E h => ?_) (fun cdv A outer s H vs Q E hr h => ?_)
  · obtain ⟨x, y, z, p, d, a, b, a', b', rfl, _⟩ := h
    rfl
  · obtain ⟨x, y, z, p, d, a, b, a', b', rfl, hx, hy, hz, q1, q2, q3⟩ := h
    have ya : atI [V.int a, V.int b] 0 = some (.int a) := atI_nat (j := 0) rfl
    have yb : atI [V.int a, V.int b] 1 = some (.int b) := atI_nat (j := 1) rfl
    have za : atI [V.int a', V.int b'] 0 = some (.int a') := atI_nat (j := 0) rfl
    have zb : atI [V.int a', V.int b'] 1 = some (.int b') := atI_nat (j := 1) rfl
    refine ⟨_, (pss_cons (ps_expr (pe_call G_check_two_ (hr.mono (by decide)) rfl g_check_two_ k_check_two_ b_check_two_ .nil (passes_call (takes_of rfl rfl rfl rfl) (fun _ _ _ _ h => h)) (pa_cons (pv 0) (pa_cons (pv 1) (pa_cons (pv 2) pa_nil)))))
  (pss_one (ps_ret (pe_call G_number (hr.mono (by decide)) rfl g_number k_number b_number .nil (passes_call (takes_of rfl rfl rfl rfl) (fun _ _ _ _ h => h)) (pa_cons (pv 0) (pa_cons (pe_op op_mul (pe_ix ix_tup (pv 1) pe_int (fun _ _ => rfl)) (pe_ix ix_tup (pv 2) pe_int (fun _ _ => rfl))) (pa_cons (pe_op op_mul (pe_ix ix_tup (pv 1) pe_int (fun _ _ => rfl)) (pe_ix ix_tup (pv 2) pe_int (fun _ _ => rfl))) pa_nil))))))), ?_⟩
    refine ⟨_, rfl, _, rfl, _, rfl, x, y, z, p, d, a, b, a', b', rfl, hx, hy, hz, q1, q2, fun ew en en' => ?_⟩
    obtain ⟨⟨b1, b2, b3, b4, b5⟩, qb, qn⟩ := q3 ew en en'
    exact ⟨_, rfl, _, rfl, y, _, 0, .int a, rfl, rfl, hy, ya, _, rfl, z, _, 0, .int a', rfl, rfl, hz, za, a, a', rfl, rfl, cm62 b1, _, rfl, y, _, 1, .int b, rfl, rfl, hy, yb, _, rfl, z, _, 1, .int b', rfl, rfl, hz, zb, b, b', rfl, rfl, cm62 b2, x, p, d, _, _, rfl, hx, b5, q1, fun _ => qb, fun _ => qn⟩
end

section
variable {P : Program} {w : World} {K : PySem.W.Frag} {mg : Str → Option Value} {base : Heap}
/-! ### over -/
theorem ok_over {f CW CN CB a_check_two_ a_number : Addr} {fd fd_check_two_ fd_number : FuncData} (F : Fun K "over" "over" s_over f fd)
    (G_check_two_ : FnOk P w K mg base (L2.CX P w) 5 a_check_two_ fd_check_two_ ["world", "x", "y"] (spCheckTwo K CW CN)) (g_check_two_ : mg "_check_two" = some (.ref a_check_two_)) (k_check_two_ : PySem.W.keepIn K (.ref a_check_two_) = true) (b_check_two_ : Binds K fd_check_two_ ["world", "x", "y"] [])
    (G_number : FnOk P w K mg base (L2.CX P w) 3 a_number fd_number ["world", "a", "b"] (spNumber K CW CB)) (g_number : mg "number" = some (.ref a_number)) (k_number : PySem.W.keepIn K (.ref a_number) = true) (b_number : Binds K fd_number ["world", "a", "b"] []) :
    FnOk P w K mg base (L2.CX P w) 6 f fd ["world", "x", "y"] (spOp K CW CN CB fOverA fOverB) := by
  refine F.okX sc_over (fun vs H Q E h => ?_) (fun cdv A outer s H vs Q E hr h => ?_)
  · obtain ⟨x, y, z, p, d, a, b, a', b', rfl, _⟩ := h
    rfl
  · obtain ⟨x, y, z, p, d, a, b, a', b', rfl, hx, hy, hz, q1, q2, q3⟩ := h
    have ya : atI [V.int a, V.int b] 0 = some (.int a) := atI_nat (j := 0) rfl
    have yb : atI [V.int a, V.int b] 1 = some (.int b) := atI_nat (j := 1) rfl
    have za : atI [V.int a', V.int b'] 0 = some (.int a') := atI_nat (j := 0) rfl
    have zb : atI [V.int a', V.int b'] 1 = some (.int b') := atI_nat (j := 1) rfl
    refine ⟨_, (pss_cons (ps_expr (pe_call G_check_two_ (hr.mono (by decide)) rfl g_check_two_ k_check_two_ b_check_two_ .nil (passes_call (takes_of rfl rfl rfl rfl) (fun _ _ _ _ h => h)) (pa_cons (pv 0) (pa_cons (pv 1) (pa_cons (pv 2) pa_nil)))))
  (pss_one (ps_ret (pe_call G_number (hr.mono (by decide)) rfl g_number k_number b_number .nil (passes_call (takes_of rfl rfl rfl rfl) (fun _ _ _ _ h => h)) (pa_cons (pv 0) (pa_cons (pe_op op_mul (pe_ix ix_tup (pv 1) pe_int (fun _ _ => rfl)) (pe_ix ix_tup (pv 2) pe_int (fun _ _ => rfl))) (pa_cons (pe_op op_mul (pe_ix ix_tup (pv 1) pe_int (fun _ _ => rfl)) (pe_ix ix_tup (pv 2) pe_int (fun _ _ => rfl))) pa_nil))))))), ?_⟩
    refine ⟨_, rfl, _, rfl, _, rfl, x, y, z, p, d, a, b, a', b', rfl, hx, hy, hz, q1, q2, fun ew en en' => ?_⟩
    obtain ⟨⟨b1, b2, b3, b4, b5⟩, qb, qn⟩ := q3 ew en en'
    exact ⟨_, rfl, _, rfl, y, _, 0, .int a, rfl, rfl, hy, ya, _, rfl, z, _, 1, .int b', rfl, rfl, hz, zb, a, b', rfl, rfl, cm62 b1, _, rfl, y, _, 1, .int b, rfl, rfl, hy, yb, _, rfl, z, _, 0, .int a', rfl, rfl, hz, za, b, a', rfl, rfl, cm62 b2, x, p, d, _, _, rfl, hx, b5, q1, fun _ => qb, fun _ => qn⟩
end

section
variable {P : Program} {w : World} {K : PySem.W.Frag} {mg : Str → Option Value} {base : Heap}
/-! ### power -/
def spPower (K : PySem.W.Frag) (CW CN CB : Addr) : Sp := fun vs H Q E => ∃ (x y : Addr) (p d a b n : Int), vs = [.ref x, .ref y, .int n] ∧ SqT K H x [.int p, .int d] ∧ SqT K H y [.int a, .int b] ∧
  (isW p d = false → E (.ref CW) none H) ∧ (isW p d = true → isN p a b = false → E (.ref CN) none H) ∧ (isW p d = true → isN p a b = true → ¬ (0 ≤ n ∧ n ≤ 200) → E (.ref CB) none H) ∧
  (isW p d = true → isN p a b = true → 0 ≤ n → n ≤ 200 → n ≤ 12 ∧ a.natAbs ≤ 31 ∧ b.natAbs ≤ 4 ∧ (∀ r u v H', IsNum p (a ^ n.toNat) (b ^ n.toNat) u v → Same H H' → SqT K H' r [.int u, .int v] → Q (.ref r) H'))
theorem isN_pos {p a b : Int} (h : isN p a b = true) (hp : p = 0 ∨ p ∈ primes) : (p = 0 → 0 < b) ∧ (p ≠ 0 → b = 1 ∧ 0 ≤ a ∧ a < p) := by
  unfold isN at h
  constructor
  · intro c
    rw [if_pos c] at h
    by_cases e : 1 ≤ b
    · omega
    · rw [if_neg e] at h
      cases h
  · intro c
    rw [if_neg c] at h
    by_cases e : b = 1
    · rw [if_pos e] at h
      by_cases e2 : 0 ≤ a
      · rw [if_pos e2] at h
        exact ⟨e, e2, of_decide_eq_true h⟩
      · rw [if_neg e2] at h
        cases h
    · rw [if_neg e] at h
      cases h
theorem num_isN {p A B u v : Int} (hp : p = 0 ∨ p ∈ primes) (hB : p = 0 → B ≠ 0) (h : IsNum p A B u v) : isN p u v = true := by
  by_cases c : p = 0
  · obtain ⟨_, e⟩ := h.resolve_left (fun z => by omega)
    have := low_isN (a := A) (hB c)
    rw [← e] at this
    rw [c]
    exact this
  · have hp2 := prime_pos (hp.resolve_left c)
    obtain ⟨h0, e1, l1, u1, m1⟩ := h.resolve_right (fun z => by omega)
    unfold isN
    rw [if_neg c, if_pos e1, if_pos l1]
    exact decide_eq_true u1
theorem pow_small {a : Int} {k : Nat} (ha : a.natAbs ≤ 31) (hk : k ≤ 12) : (a ^ k).natAbs ≤ 31 ^ 12 := by
  rw [Int.natAbs_pow]
  exact Nat.le_trans (Nat.pow_le_pow_left ha k) (Nat.pow_le_pow_right (by decide) hk)
theorem pow_small4 {b : Int} {k : Nat} (hb : b.natAbs ≤ 4) (hk : k ≤ 12) : (b ^ k).natAbs ≤ 4 ^ 12 := by
  rw [Int.natAbs_pow]
  exact Nat.le_trans (Nat.pow_le_pow_left hb k) (Nat.pow_le_pow_right (by decide) hk)
theorem ok_power {f CW CN CB aO a_check_number a_times : Addr} {fd fd_check_number fd_times : FuncData} {tm : Tok} (F : Fun K "power" "power" s_power f fd) (T : ErrC K mg "BadNumber" CB) (z_range : mg "range" = none) (m_MOST_POWER : mg "MOST_POWER" = some (.int 200 tm)) (m_ONE : mg "ONE" = some (.ref aO)) (tO : ∀ H, SqT K H aO [.int 1, .int 1])
    (G_check_number : FnOk P w K mg base (L2.CX P w) 4 a_check_number fd_check_number ["world", "x"] (spCheckNumber K CW CN)) (g_check_number : mg "check_number" = some (.ref a_check_number)) (k_check_number : PySem.W.keepIn K (.ref a_check_number) = true) (b_check_number : Binds K fd_check_number ["world", "x"] [])
    (G_times : FnOk P w K mg base (L2.CX P w) 6 a_times fd_times ["world", "x", "y"] (spOp K CW CN CB fTimesA fTimesB)) (g_times : mg "times" = some (.ref a_times)) (k_times : PySem.W.keepIn K (.ref a_times) = true) (b_times : Binds K fd_times ["world", "x", "y"] []) :
    FnOk P w K mg base (L2.CX P w) 7 f fd ["world", "x", "count"] (spPower K CW CN CB) := by
  obtain ⟨gc_BadNumber, x_BadNumber, kc_BadNumber, bc_BadNumber, tc_BadNumber⟩ := T
  have r_MOST_POWER : RelV (.int 200) (.int 200 tm) := ⟨_, rfl⟩
  have r_ONE : RelV (.ref aO) (.ref aO) := rfl
  refine F.okX sc_power (fun vs H Q E h => ?_) (fun cdv A outer s H vs Q E hr h => ?_)
  · obtain ⟨x, y, p, d, a, b, n, rfl, _⟩ := h
    rfl
  · obtain ⟨x, y, p, d, a, b, n, rfl, hx, hy, q1, q2, q3, q4⟩ := h
    refine ⟨_, (pss_cons (ps_expr (pe_call G_check_number (hr.mono (by decide)) rfl g_check_number k_check_number b_check_number .nil (passes_call (takes_of rfl rfl rfl rfl) (fun _ _ _ _ h => h)) (pa_cons (pv 0) (pa_cons (pv 1) pa_nil))))
  (pss_cons (ps_if (pt_not (pt_chain op_le op_le pe_int (pv 2) (pe_glob rfl m_MOST_POWER r_MOST_POWER))) (pss_one (ps_raise rfl (takes_of rfl rfl rfl rfl) (pmk_own PySem.F.excBase_ValueError x_BadNumber gc_BadNumber kc_BadNumber (raises_own bc_BadNumber tc_BadNumber) rfl))) pss_nil)
  (pss_cons (ps_set (i := 3) sc_power.nd rfl (.inl rfl) (pe_glob rfl m_ONE r_ONE))
  (pss_cons (ps_for (passes_of rfl) rfl (pi_range1 rfl z_range (pa_cons (pv 2) pa_nil)) (pg_name (i := 4) sc_power.nd rfl (.inl rfl)) (pss_one (ps_set (i := 3) sc_power.nd rfl (.inl rfl) (pe_call G_times (hr.mono (by decide)) rfl g_times k_times b_times .nil (passes_call (takes_of rfl rfl rfl rfl) (fun _ _ _ _ h => h)) (pa_cons (pv 0) (pa_cons (pv 3) (pa_cons (pv 1) pa_nil)))))))
  (pss_one (ps_ret (pv 3))))))), ?_⟩
    refine ⟨_, rfl, _, rfl, x, y, p, d, a, b, rfl, hx, hy, fun ew en => ?_, q2, q1⟩
    refine ⟨_, rfl, 0, n, rfl, rfl, _, rfl, ite2 (fun e => ?_) (fun e => ?_)⟩
    · have n0 : 0 ≤ n := of_decide_eq_true e
      refine ⟨n, 200, rfl, rfl, _, rfl, ?_⟩
      by_cases n1 : n ≤ 200
      · rw [decide_eq_true n1]
        refine iteF ?_
        obtain ⟨n12, sa, sb, q⟩ := q4 ew en n0 n1
        obtain ⟨hp, _⟩ := isW_cases ew
        obtain ⟨pz, pn⟩ := isN_pos en hp
        refine ⟨_, rfl, n, rfl, by omega, by omega, for_range (lo := 0) (n := n.toNat) (fun i σ H' => ∃ (r : Addr) (u v : Int) (v4 : Option V), σ = [some (.ref x), some (.ref y), some (.int n), some (.ref r), v4] ∧ Same H H' ∧ SqT K H' r [.int u, .int v] ∧ IsNum p (a ^ i) (b ^ i) u v)
          ⟨aO, 1, 1, none, rfl, Same.refl _, tO _, ?_⟩ ?_ ?_⟩
        · by_cases c : p = 0
          · exact .inr ⟨by omega, by rw [Int.pow_zero, Int.pow_zero]; rfl⟩
          · have := prime_pos (hp.resolve_left c)
            exact .inl ⟨by omega, rfl, by decide, by omega, by rw [Int.pow_zero, Int.pow_zero, show (1 : Int) * 1 - 1 = 0 by decide]; exact Int.zero_emod p⟩
        · rintro i σ H' hi ⟨r, u, v, v4, rfl, sm, hr', hn⟩
          have hB : p = 0 → b ^ i ≠ 0 := fun c => Int.pow_ne_zero (by have := pz c; omega)
          have s1 := pow_small (k := i) sa (by omega)
          have s2 := pow_small4 (k := i) sb (by omega)
          obtain ⟨su, sv⟩ : u.natAbs ≤ 31 ^ 12 ∧ v.natAbs ≤ 4 ^ 12 := by
            rcases hn with ⟨h0, e1, l1, l2, _⟩ | ⟨_, e1⟩
            · have := prime_pos (hp.resolve_left (by omega))
              omega
            · have := low_small e1
              omega
          have hbn : ¬ bad p (fTimesB u v a b) := fun z => by
            rcases z with z | ⟨z1, z2⟩
            · by_cases c : p = 0
              · have := pz c
                have e := (hn.resolve_left (fun z => by omega)).2
                have := (low_cross (hB c) e).2
                exact absurd z (Int.mul_ne_zero (by omega) (by omega))
              · have := (hn.resolve_right (fun z => by have := prime_pos (hp.resolve_left c); omega)).2.1
                rw [show fTimesB u v a b = v * b from rfl, this, (pn c).1] at z
                cases z
            · have c : p ≠ 0 := by omega
              have := (hn.resolve_right (fun z => by omega)).2.1
              rw [show fTimesB u v a b = v * b from rfl, this, (pn c).1, Int.emod_eq_of_lt (by decide) (by have := prime_pos (hp.resolve_left c); omega)] at z2
              cases z2
          have hvb : (fTimesB u v a b).natAbs < 1073741824 := by
            show (v * b).natAbs < _
            rw [Int.natAbs_mul]
            have := Nat.mul_le_mul sv sb
            omega
          refine ⟨_, rfl, _, rfl, _, rfl, x, r, y, p, d, u, v, a, b, rfl, sqT_same sm hx, hr', sqT_same sm hy, fun z => ?_, fun _ z => ?_, fun _ _ _ => ⟨⟨by omega, by omega, by omega, by omega, hvb⟩, fun z => absurd z hbn, fun _ r' u' v' hn' nr' => ?_⟩⟩
          · rw [ew] at z
            exact nomatch z
          · rcases z with z | z
            · rw [num_isN hp hB hn] at z
              exact nomatch z
            · rw [en] at z
              exact nomatch z
          · refine ⟨r', u', v', some (.int (0 + (i : Int))), rfl, Same.trans sm (same_upd nr'), .inl (.inl upd_same), ?_⟩
            rw [Int.pow_succ, Int.pow_succ]
            exact num_step hp hB (fun c => by have := pz c; omega) (fun c => (pn c).1) (fun c => by rw [(pn c).1, Int.one_pow]) hn hn'
        · rintro σ H' ⟨r, u, v, v4, rfl, sm, hr', hn⟩
          exact ⟨_, rfl, q r u v H' hn sm hr'⟩
      · rw [decide_eq_false n1]
        exact iteT (q3 ew en (fun z => n1 z.2))
    · exact ⟨_, rfl, iteT (q3 ew en (fun z => e (decide_eq_true z.1)))⟩
end

/-- the classes that _law_told's suite asks about, and what they say of one another -/
structure ErrT (K : PySem.W.Frag) (mg : Str → Option Value) (CE CW CN CB : Addr) : Prop where
  ge : mg "WorthError" = some (.ref CE)
  ebc : PySem.W.subIn K (.ref CE) (.type "BaseException") = some true
  ehd : PySem.W.hasDictIn K CE = true
  ety : PySem.W.typeIn K (.ref CE) = some (.type "type")
  gw : mg "NotWorld" = some (.ref CW)
  gn : mg "NotNumber" = some (.ref CN)
  gb : mg "BadNumber" = some (.ref CB)
  w : ExcC K CW
  n : ExcC K CN
  b : ExcC K CB
  we : PySem.W.subIn K (.ref CW) (.ref CE) = some true
  ne : PySem.W.subIn K (.ref CN) (.ref CE) = some true
  be : PySem.W.subIn K (.ref CB) (.ref CE) = some true
  ww : PySem.W.kitOne K (.ref CW) (.ref CW) = some true
  wn : PySem.W.kitOne K (.ref CW) (.ref CN) = some false
  wb : PySem.W.kitOne K (.ref CW) (.ref CB) = some false
  nw : PySem.W.kitOne K (.ref CN) (.ref CW) = some false
  nn : PySem.W.kitOne K (.ref CN) (.ref CN) = some true
  nb : PySem.W.kitOne K (.ref CN) (.ref CB) = some false
  bw : PySem.W.kitOne K (.ref CB) (.ref CW) = some false
  bn : PySem.W.kitOne K (.ref CB) (.ref CN) = some false
  bb : PySem.W.kitOne K (.ref CB) (.ref CB) = some true
def rAddStr : R2 := fun x y H Q => ∃ i j, x = .str i ∧ y = .str j ∧ i.length + j.length ≤ sizeLine ∧ Q (.str (i ++ j)) H
def t_suite (K : PySem.W.Frag) (CW CN CB ax : Addr) (cls : Value) (dx : Option Addr) : TS :=
  tSeq (tAsg (tLst (tCons (tCB (rIsE' K cls dx ax) (tCons (tVar 4) (tCons (tC (.ref CW)) tNil))) (tCons (tCB (rIsE' K cls dx ax) (tCons (tVar 4) (tCons (tC (.ref CN)) tNil)))
    (tCons (tCB (rIsE' K cls dx ax) (tCons (tVar 4) (tCons (tC (.ref CB)) tNil))) tNil)))) (gName 5))
  (tRet (tOp rAddStr (tC (.str "!")) (tOp rIxS (tC (.str "wnb")) (tBM K "list" (rIndex K) (tVar 5) (tCons (tC (.bl true)) tNil)))))
theorem suite_told {K : PySem.W.Frag} {CW CN CB C ax : Addr} {b1 b2 b3 : Bool} {v0 v1 v2 v3 : V} {H : Hp} {D : Ends} {j c : Nat} (hC : ExcC K C) (h1 : PySem.W.kitOne K (.ref C) (.ref CW) = some b1) (h2 : PySem.W.kitOne K (.ref C) (.ref CN) = some b2) (h3 : PySem.W.kitOne K (.ref C) (.ref CB) = some b3)
    (hj : [V.bl b1, V.bl b2, V.bl b3][j]? = some (.bl true)) (hno : ∀ (m : Nat) (z' : V), m < j → [V.bl b1, V.bl b2, V.bl b3][m]? = some z' → eqV z' (.bl true) = false) (hc : atI ("wnb" : Str).cps.toList (j : Int) = some c)
    (q : ∀ H', Same H H' → D.rt (.str (("!" : Str) ++ ⟨#[c]⟩)) H') : t_suite K CW CN CB ax (.ref C) none D [some v0, some v1, some v2, some v3, some (.ref ax), none] H := by
  refine ⟨_, rfl, C, rfl, rfl, hC, _, _, b1, rfl, fun _ r => r, h1, _, rfl, C, rfl, rfl, hC, _, _, b2, rfl, fun _ r => r, h2, _, rfl, C, rfl, rfl, hC, _, _, b3, rfl, fun _ r => r, h3, (by show 3 ≤ sizeLine; decide), fun l nl => ?_⟩
  refine ⟨.ref l, rfl, .inl ⟨rfl, _, .inl (.inl upd_same)⟩, l, _, .bl true, j, .bl true, rfl, rfl, .inl (.inl upd_same), rfl, rfl, hj, rfl, hno, ?_⟩
  exact ⟨_, _, c, rfl, rfl, (by show 3 ≤ sizeLine; decide), hc, _, _, rfl, rfl, (by show 2 ≤ sizeLine; decide), q _ (same_upd nl)⟩

def opA (way : Int) : Int → Int → Int → Int → Int := if way = 0 then fPlusA else if way = 1 then fMinusA else if way = 2 then fTimesA else fOverA
def opB (way : Int) : Int → Int → Int → Int → Int := if way = 3 then fOverB else fTimesB
/-- what _law_told tells of two numbers -/
def Told2 (way p d a b a' b' : Int) (D : PyData) : Prop := (isW p d = false ∧ D = .str "!w") ∨ (isW p d = true ∧ (isN p a b = false ∨ isN p a' b' = false) ∧ D = .str "!n") ∨
  (isW p d = true ∧ isN p a b = true ∧ isN p a' b' = true ∧ bad p (opB way a b a' b') ∧ D = .str "!b") ∨
  (isW p d = true ∧ isN p a b = true ∧ isN p a' b' = true ∧ ¬ bad p (opB way a b a' b') ∧ ∃ u v, IsNum p (opA way a b a' b') (opB way a b a' b') u v ∧ D = .tuple [.int u, .int v])
section
variable {P : Program} {w : World} {K : PySem.W.Frag} {mg : Str → Option Value} {base : Heap}
def spTold2 (K : PySem.W.Frag) : Sp := fun vs H Q _ =>
  (∃ (x y z : Addr) (way p d a b a' b' : Int), vs = [.int way, .ref x, .ref y, .ref z] ∧ 0 ≤ way ∧ way ≤ 3 ∧ SqT K H x [.int p, .int d] ∧ SqT K H y [.int a, .int b] ∧ SqT K H z [.int a', .int b'] ∧
    (isN p a b = true → isN p a' b' = true → a.natAbs < 2 ^ 62 ∧ b.natAbs < 2 ^ 62 ∧ a'.natAbs < 2 ^ 62 ∧ b'.natAbs < 2 ^ 62 ∧ (opB way a b a' b').natAbs < 1073741824) ∧
    ∀ D v H', Told2 way p d a b a' b' D → Same H H' → Val1 H' v D → Q v H') ∨
  (∃ (x y : Addr) (p d a b n : Int), vs = [.int 4, .ref x, .ref y, .int n] ∧ ¬ (0 ≤ n ∧ n ≤ 200) ∧ SqT K H x [.int p, .int d] ∧ SqT K H y [.int a, .int b] ∧
    (isW p d = false → ∀ H', Same H H' → Q (.str "!w") H') ∧ (isW p d = true → isN p a b = false → ∀ H', Same H H' → Q (.str "!n") H') ∧ (isW p d = true → isN p a b = true → ∀ H', Same H H' → Q (.str "!b") H'))
theorem ok_told2 {f CE CW CN CB a_plus a_minus a_times a_over a_power : Addr} {fd fd_plus fd_minus fd_times fd_over fd_power : FuncData} (F : Fun K "_law_told" "_law_told" s_law_told f fd) (T : ErrT K mg CE CW CN CB) (z_isinstance : mg "isinstance" = none)
    (G_plus : FnOk P w K mg base (L2.CX P w) 6 a_plus fd_plus ["world", "x", "y"] (spOp K CW CN CB fPlusA fTimesB)) (g_plus : mg "plus" = some (.ref a_plus)) (k_plus : PySem.W.keepIn K (.ref a_plus) = true) (b_plus : Binds K fd_plus ["world", "x", "y"] [])
    (G_minus : FnOk P w K mg base (L2.CX P w) 6 a_minus fd_minus ["world", "x", "y"] (spOp K CW CN CB fMinusA fTimesB)) (g_minus : mg "minus" = some (.ref a_minus)) (k_minus : PySem.W.keepIn K (.ref a_minus) = true) (b_minus : Binds K fd_minus ["world", "x", "y"] [])
    (G_times : FnOk P w K mg base (L2.CX P w) 6 a_times fd_times ["world", "x", "y"] (spOp K CW CN CB fTimesA fTimesB)) (g_times : mg "times" = some (.ref a_times)) (k_times : PySem.W.keepIn K (.ref a_times) = true) (b_times : Binds K fd_times ["world", "x", "y"] [])
    (G_over : FnOk P w K mg base (L2.CX P w) 6 a_over fd_over ["world", "x", "y"] (spOp K CW CN CB fOverA fOverB)) (g_over : mg "over" = some (.ref a_over)) (k_over : PySem.W.keepIn K (.ref a_over) = true) (b_over : Binds K fd_over ["world", "x", "y"] [])
    (G_power : FnOk P w K mg base (L2.CX P w) 7 a_power fd_power ["world", "x", "count"] (spPower K CW CN CB)) (g_power : mg "power" = some (.ref a_power)) (k_power : PySem.W.keepIn K (.ref a_power) = true) (b_power : Binds K fd_power ["world", "x", "count"] []) :
    FnOk P w K mg base CX0 8 f fd ["way", "world", "x", "y"] (spTold2 K) := by
  have gc_WorthError := T.ge
  have m_NotWorld := T.gw
  have m_NotNumber := T.gn
  have m_BadNumber := T.gb
  have r_NotWorld : RelV (.ref CW) (.ref CW) := rfl
  have r_NotNumber : RelV (.ref CN) (.ref CN) := rfl
  have r_BadNumber : RelV (.ref CB) (.ref CB) := rfl
  have eW := PySem.W.exm_ref T.ebc T.ehd T.ety T.we
  have eN := PySem.W.exm_ref T.ebc T.ehd T.ety T.ne
  have eB := PySem.W.exm_ref T.ebc T.ehd T.ety T.be
  refine F.ok sc_law_told (fun vs H Q E h => ?_) (fun cdv A outer s H vs Q E hr1 h => ?_)
  · rcases h with ⟨x, y, z, way, p, d, a, b, a', b', rfl, _⟩ | ⟨x, y, p, d, a, b, n, rfl, _⟩ <;> rfl
  · refine ⟨_, (pss_one (ps_try_as (i := 4) (Wout := fun _ _ _ _ => False) rfl rfl sc_law_told.nd rfl rfl ⟨rfl, by decide, .inl gc_WorthError⟩ takes0 (fun W pn xe tk _ => by exact (pss_cons (ps_if (pt_cmpR op_eq (pv 0) pe_int (nomark _)) (pss_one (ps_ret (pe_callS G_plus (hr1.mono (by decide)) rfl g_plus k_plus b_plus (fun σ => passAt tk σ) (pa_cons (pv 1) (pa_cons (pv 2) (pa_cons (pv 3) pa_nil)))))) pss_nil)
  (pss_cons (ps_if (pt_cmpR op_eq (pv 0) pe_int (nomark _)) (pss_one (ps_ret (pe_callS G_minus (hr1.mono (by decide)) rfl g_minus k_minus b_minus (fun σ => passAt tk σ) (pa_cons (pv 1) (pa_cons (pv 2) (pa_cons (pv 3) pa_nil)))))) pss_nil)
  (pss_cons (ps_if (pt_cmpR op_eq (pv 0) pe_int (nomark _)) (pss_one (ps_ret (pe_callS G_times (hr1.mono (by decide)) rfl g_times k_times b_times (fun σ => passAt tk σ) (pa_cons (pv 1) (pa_cons (pv 2) (pa_cons (pv 3) pa_nil)))))) pss_nil)
  (pss_cons (ps_if (pt_cmpR op_eq (pv 0) pe_int (nomark _)) (pss_one (ps_ret (pe_callS G_over (hr1.mono (by decide)) rfl g_over k_over b_over (fun σ => passAt tk σ) (pa_cons (pv 1) (pa_cons (pv 2) (pa_cons (pv 3) pa_nil)))))) pss_nil)
  (pss_one (ps_ret (pe_callS G_power (hr1.mono (by decide)) rfl g_power k_power b_power (fun σ => passAt tk σ) (pa_cons (pv 1) (pa_cons (pv 2) (pa_cons (pv 3) pa_nil))))))))))) (fun ax oe cls dx pn hz hf => by exact (pss_cons (ps_set (i := 5) sc_law_told.nd rfl (.inl rfl) (pe_lst (pa_cons (pe_callB (call_isE' hz hf) (by rfl) z_isinstance boot_isinstance (pa_cons (pv 4) (pa_cons (pe_glob rfl m_NotWorld r_NotWorld) pa_nil))) (pa_cons (pe_callB (call_isE' hz hf) (by rfl) z_isinstance boot_isinstance (pa_cons (pv 4) (pa_cons (pe_glob rfl m_NotNumber r_NotNumber) pa_nil))) (pa_cons (pe_callB (call_isE' hz hf) (by rfl) z_isinstance boot_isinstance (pa_cons (pv 4) (pa_cons (pe_glob rfl m_BadNumber r_BadNumber) pa_nil))) pa_nil)))))
  (pss_one (ps_ret (pe_op op_add_str pe_str (pe_ix ix_str pe_str (pe_indexK (K := K) rfl (pv 5) (pa_cons pe_bl pa_nil)) (fun _ _ => rfl))))))))), ?_⟩
    have no0 : ∀ (b1 b2 b3 : Bool) (m : Nat) (z' : V), m < 0 → [V.bl b1, V.bl b2, V.bl b3][m]? = some z' → eqV z' (.bl true) = false := fun _ _ _ _ _ h => absurd h (Nat.not_lt_zero _)
    have sW : ∀ {H' : Hp} {ax : Addr} {v0 v1 v2 v3 : V} {D : Ends}, (∀ H2, Same H' H2 → Q (.str "!w") H2) → D.rt = Q → t_suite K CW CN CB ax (.ref CW) none D [some v0, some v1, some v2, some v3, some (.ref ax), none] H' := fun q eD =>
      suite_told (j := 0) (c := 119) T.w T.ww T.wn T.wb rfl (no0 _ _ _) rfl fun H2 s2 => by
        rw [eD]
        exact q _ s2
    have sN : ∀ {H' : Hp} {ax : Addr} {v0 v1 v2 v3 : V} {D : Ends}, (∀ H2, Same H' H2 → Q (.str "!n") H2) → D.rt = Q → t_suite K CW CN CB ax (.ref CN) none D [some v0, some v1, some v2, some v3, some (.ref ax), none] H' := fun q eD =>
      suite_told (j := 1) (c := 110) T.n T.nw T.nn T.nb rfl (fun m z' hm hz => by
        obtain rfl : m = 0 := by omega
        cases hz
        rfl) rfl fun H2 s2 => by
        rw [eD]
        exact q _ s2
    have sB : ∀ {H' : Hp} {ax : Addr} {v0 v1 v2 v3 : V} {D : Ends}, (∀ H2, Same H' H2 → Q (.str "!b") H2) → D.rt = Q → t_suite K CW CN CB ax (.ref CB) none D [some v0, some v1, some v2, some v3, some (.ref ax), none] H' := fun q eD =>
      suite_told (j := 2) (c := 98) T.b T.bw T.bn T.bb rfl (fun m z' hm hz => by
        have : m = 0 ∨ m = 1 := by omega
        rcases this with rfl | rfl
        · cases hz
          rfl
        · cases hz
          rfl) rfl fun H2 s2 => by
        rw [eD]
        exact q _ s2
    rcases h with ⟨x, y, z, way, p, d, a, b, a', b', rfl, w0, w3, hx, hy, hz, hs, q⟩ | ⟨x, y, p, d, a, b, n, rfl, hn, hx, hy, qw, qn, qb⟩
    · refine ⟨_, rfl, rfl, _, rfl, ite2 (fun e => ?_) (fun e => ?_)⟩
      · obtain rfl : way = 0 := V.int.inj (of_decide_eq_true e)
        refine ⟨_, rfl, _, rfl, _, rfl, x, y, z, p, d, a, b, a', b', rfl, hx, hy, hz, fun ew => ?_, fun ew en => ?_, fun ew e1 e2 => ⟨hs e1 e2, fun hb => ?_, fun hb r u v hn nr => ?_⟩⟩
        · exact ⟨true, eW, fun _ ax _ => sW (fun H2 s2 => q (.str "!w") _ _ (.inl ⟨ew, rfl⟩) s2 (.str _)) rfl, fun z => nomatch z⟩
        · exact ⟨true, eN, fun _ ax _ => sN (fun H2 s2 => q (.str "!n") _ _ (.inr (.inl ⟨ew, en, rfl⟩)) s2 (.str _)) rfl, fun z => nomatch z⟩
        · exact ⟨true, eB, fun _ ax _ => sB (fun H2 s2 => q (.str "!b") _ _ (.inr (.inr (.inl ⟨ew, e1, e2, hb, rfl⟩))) s2 (.str _)) rfl, fun z => nomatch z⟩
        · exact q _ _ _ (.inr (.inr (.inr ⟨ew, e1, e2, hb, u, v, hn, rfl⟩))) (same_upd nr) (.pair upd_same)
      · have n0 : way ≠ 0 := fun z => e (decide_eq_true (congrArg V.int z))
        refine ⟨_, rfl, rfl, _, rfl, ite2 (fun e => ?_) (fun e => ?_)⟩
        · obtain rfl : way = 1 := V.int.inj (of_decide_eq_true e)
          refine ⟨_, rfl, _, rfl, _, rfl, x, y, z, p, d, a, b, a', b', rfl, hx, hy, hz, fun ew => ?_, fun ew en => ?_, fun ew e1 e2 => ⟨hs e1 e2, fun hb => ?_, fun hb r u v hn nr => ?_⟩⟩
          · exact ⟨true, eW, fun _ ax _ => sW (fun H2 s2 => q (.str "!w") _ _ (.inl ⟨ew, rfl⟩) s2 (.str _)) rfl, fun z => nomatch z⟩
          · exact ⟨true, eN, fun _ ax _ => sN (fun H2 s2 => q (.str "!n") _ _ (.inr (.inl ⟨ew, en, rfl⟩)) s2 (.str _)) rfl, fun z => nomatch z⟩
          · exact ⟨true, eB, fun _ ax _ => sB (fun H2 s2 => q (.str "!b") _ _ (.inr (.inr (.inl ⟨ew, e1, e2, hb, rfl⟩))) s2 (.str _)) rfl, fun z => nomatch z⟩
          · exact q _ _ _ (.inr (.inr (.inr ⟨ew, e1, e2, hb, u, v, hn, rfl⟩))) (same_upd nr) (.pair upd_same)
        · have n1 : way ≠ 1 := fun z => e (decide_eq_true (congrArg V.int z))
          refine ⟨_, rfl, rfl, _, rfl, ite2 (fun e => ?_) (fun e => ?_)⟩
          · obtain rfl : way = 2 := V.int.inj (of_decide_eq_true e)
            refine ⟨_, rfl, _, rfl, _, rfl, x, y, z, p, d, a, b, a', b', rfl, hx, hy, hz, fun ew => ?_, fun ew en => ?_, fun ew e1 e2 => ⟨hs e1 e2, fun hb => ?_, fun hb r u v hn nr => ?_⟩⟩
            · exact ⟨true, eW, fun _ ax _ => sW (fun H2 s2 => q (.str "!w") _ _ (.inl ⟨ew, rfl⟩) s2 (.str _)) rfl, fun z => nomatch z⟩
            · exact ⟨true, eN, fun _ ax _ => sN (fun H2 s2 => q (.str "!n") _ _ (.inr (.inl ⟨ew, en, rfl⟩)) s2 (.str _)) rfl, fun z => nomatch z⟩
            · exact ⟨true, eB, fun _ ax _ => sB (fun H2 s2 => q (.str "!b") _ _ (.inr (.inr (.inl ⟨ew, e1, e2, hb, rfl⟩))) s2 (.str _)) rfl, fun z => nomatch z⟩
            · exact q _ _ _ (.inr (.inr (.inr ⟨ew, e1, e2, hb, u, v, hn, rfl⟩))) (same_upd nr) (.pair upd_same)
          · have n2 : way ≠ 2 := fun z => e (decide_eq_true (congrArg V.int z))
            obtain rfl : way = 3 := by omega
            refine ⟨_, rfl, rfl, _, rfl, ?_⟩
            refine iteT ?_
            refine ⟨_, rfl, _, rfl, _, rfl, x, y, z, p, d, a, b, a', b', rfl, hx, hy, hz, fun ew => ?_, fun ew en => ?_, fun ew e1 e2 => ⟨hs e1 e2, fun hb => ?_, fun hb r u v hn nr => ?_⟩⟩
            · exact ⟨true, eW, fun _ ax _ => sW (fun H2 s2 => q (.str "!w") _ _ (.inl ⟨ew, rfl⟩) s2 (.str _)) rfl, fun z => nomatch z⟩
            · exact ⟨true, eN, fun _ ax _ => sN (fun H2 s2 => q (.str "!n") _ _ (.inr (.inl ⟨ew, en, rfl⟩)) s2 (.str _)) rfl, fun z => nomatch z⟩
            · exact ⟨true, eB, fun _ ax _ => sB (fun H2 s2 => q (.str "!b") _ _ (.inr (.inr (.inl ⟨ew, e1, e2, hb, rfl⟩))) s2 (.str _)) rfl, fun z => nomatch z⟩
            · exact q _ _ _ (.inr (.inr (.inr ⟨ew, e1, e2, hb, u, v, hn, rfl⟩))) (same_upd nr) (.pair upd_same)
    · refine ⟨_, rfl, rfl, _, rfl, iteF ?_⟩
      refine ⟨_, rfl, rfl, _, rfl, iteF ?_⟩
      refine ⟨_, rfl, rfl, _, rfl, iteF ?_⟩
      refine ⟨_, rfl, rfl, _, rfl, iteF ?_⟩
      refine ⟨_, rfl, _, rfl, _, rfl, x, y, p, d, a, b, n, rfl, hx, hy, fun ew => ?_, fun ew en => ?_, fun ew en _ => ?_, fun _ _ h0 h1 => absurd ⟨h0, h1⟩ hn⟩
      · exact ⟨true, eW, fun _ ax _ => sW (qw ew) rfl, fun z => nomatch z⟩
      · exact ⟨true, eN, fun _ ax _ => sN (qn ew en) rfl, fun z => nomatch z⟩
      · exact ⟨true, eB, fun _ ax _ => sB (qb ew en) rfl, fun z => nomatch z⟩
end

theorem told2_unique {way p d a b a' b' : Int} {D D' : PyData} (hw : isW p d = true) (e1 : isN p a b = true) (e2 : isN p a' b' = true) (h : Told2 way p d a b a' b' D) (h' : Told2 way p d a b a' b' D') : D = D' := by
  have hp := (isW_cases hw).1
  rcases h with ⟨z, _⟩ | ⟨_, z, _⟩ | ⟨_, _, _, hb, rfl⟩ | ⟨_, _, _, hb, u, v, hn, rfl⟩
  · rw [hw] at z
    exact nomatch z
  · rw [e1, e2] at z
    rcases z with z | z <;> exact nomatch z
  · rcases h' with ⟨z, _⟩ | ⟨_, z, _⟩ | ⟨_, _, _, hb', rfl⟩ | ⟨_, _, _, hb', u', v', hn', rfl⟩
    · rw [hw] at z
      exact nomatch z
    · rw [e1, e2] at z
      rcases z with z | z <;> exact nomatch z
    · rfl
    · exact absurd hb hb'
  · rcases h' with ⟨z, _⟩ | ⟨_, z, _⟩ | ⟨_, _, _, hb', rfl⟩ | ⟨_, _, _, hb', u', v', hn', rfl⟩
    · rw [hw] at z
      exact nomatch z
    · rw [e1, e2] at z
      rcases z with z | z <;> exact nomatch z
    · exact absurd hb' hb
    · obtain ⟨rfl, rfl⟩ := num_unique hp hb hn hn'
      rfl
theorem num_of {p A B u v : Int} (hp : p = 0 ∨ p ∈ primes) (h : IsNum p A B u v) (ha : A.natAbs < 2 ^ 199) (hb : B.natAbs < 2 ^ 199) : SmL 1 4000 (.tuple [.int u, .int v]) := by
  obtain ⟨h1, h2⟩ := num_small hp h ha hb
  exact smL_pair h1 h2
theorem isW99 {p : Int} (hp : p = 0 ∨ p ∈ primes) : isW p 99 = false := by
  rcases hp with rfl | hp
  · decide
  · have := prime_pos hp
    unfold isW
    rw [if_neg (by omega)]
    split
    · rw [if_pos (by decide)]
      exact decide_eq_false (by omega)
    · rfl
theorem notN {p u v : Int} (hp : p = 0 ∨ p ∈ primes) (h0 : isN 0 u v = false) (h1 : v ≠ 1) : isN p u v = false := by
  rcases hp with rfl | hp
  · exact h0
  · have := prime_pos hp
    unfold isN
    rw [if_neg (by omega), if_neg h1]
theorem list4 {α : Type} {P : Nat → α → Prop} : ∀ {ds : List α}, ds.length = 4 → (∀ (j : Nat) (D : α), ds[j]? = some D → P j D) → ∃ a b c d, ds = [a, b, c, d] ∧ P 0 a ∧ P 1 b ∧ P 2 c ∧ P 3 d
  | [a, b, c, d], _, h => ⟨a, b, c, d, rfl, h 0 a rfl, h 1 b rfl, h 2 c rfl, h 3 d rfl⟩
theorem snoc_get {α : Type} {P : Nat → α → Prop} {ds : List α} {D : α} {i : Nat} (hl : ds.length = i) (ht : ∀ (j : Nat) (E : α), ds[j]? = some E → P j E) (h : P i D) : ∀ (j : Nat) (E : α), (ds ++ [D])[j]? = some E → P j E := by
  intro j E hj
  rw [List.getElem?_append] at hj
  split at hj
  · exact ht j E hj
  · rename_i hlt
    have e : j - ds.length = 0 := by
      rcases Nat.eq_zero_or_pos (j - ds.length) with z | z
      · exact z
      · rw [List.getElem?_eq_none (by show 1 ≤ j - ds.length; omega)] at hj
        cases hj
    rw [e] at hj
    cases hj
    have : j = i := by omega
    rw [this]
    exact h
section
variable {P : Program} {w : World} {K : PySem.W.Frag} {mg : Str → Option Value} {base : Heap}
def spLaw (K : PySem.W.Frag) : Sp := fun vs H Q _ => ∃ (a : Addr) (ns : List Int), vs = [.ref a] ∧ SqL K H a (ns.map V.int) ∧ ns.length ≤ 63 ∧ ∀ H', Q (.bl true) H'
theorem ok_law {f CW CN CB a_law_draws a_law_next a_law_world a_law_number a_law_made a_law_told a_power : Addr} {fd fd_law_draws fd_law_next fd_law_world fd_law_number fd_law_made fd_law_told fd_power : FuncData} (F : Fun K "law" "law" s_law f fd)
    (z_int : mg "int" = none) (z_range : mg "range" = none) (z_repr : mg "repr" = none)
    (G_law_draws : FnOk P w K mg base CX0 2 a_law_draws fd_law_draws ["script"] (spDraws K)) (g_law_draws : mg "_law_draws" = some (.ref a_law_draws)) (k_law_draws : PySem.W.keepIn K (.ref a_law_draws) = true) (b_law_draws : Binds K fd_law_draws ["script"] [])
    (G_law_next : FnOk P w K mg base CX0 1 a_law_next fd_law_next ["draws"] spNext) (g_law_next : mg "_law_next" = some (.ref a_law_next)) (k_law_next : PySem.W.keepIn K (.ref a_law_next) = true) (b_law_next : Binds K fd_law_next ["draws"] [])
    (G_law_world : FnOk P w K mg base CX0 2 a_law_world fd_law_world ["draws"] spLawWorld) (g_law_world : mg "_law_world" = some (.ref a_law_world)) (k_law_world : PySem.W.keepIn K (.ref a_law_world) = true) (b_law_world : Binds K fd_law_world ["draws"] [])
    (G_law_number : FnOk P w K mg base CX0 2 a_law_number fd_law_number ["draws", "world"] (spLawNumber K)) (g_law_number : mg "_law_number" = some (.ref a_law_number)) (k_law_number : PySem.W.keepIn K (.ref a_law_number) = true) (b_law_number : Binds K fd_law_number ["draws", "world"] [])
    (G_law_made : FnOk P w K mg base CX0 2 a_law_made fd_law_made ["p", "a", "b"] spLawMade) (g_law_made : mg "_law_made" = some (.ref a_law_made)) (k_law_made : PySem.W.keepIn K (.ref a_law_made) = true) (b_law_made : Binds K fd_law_made ["p", "a", "b"] [])
    (G_law_told : FnOk P w K mg base CX0 8 a_law_told fd_law_told ["way", "world", "x", "y"] (spTold2 K)) (g_law_told : mg "_law_told" = some (.ref a_law_told)) (k_law_told : PySem.W.keepIn K (.ref a_law_told) = true) (b_law_told : Binds K fd_law_told ["way", "world", "x", "y"] [])
    (G_power : FnOk P w K mg base (L2.CX P w) 7 a_power fd_power ["world", "x", "count"] (spPower K CW CN CB)) (g_power : mg "power" = some (.ref a_power)) (k_power : PySem.W.keepIn K (.ref a_power) = true) (b_power : Binds K fd_power ["world", "x", "count"] []) :
    FnG P w K mg base 9 f fd ["script"] (spLaw K) := by
  refine F.okG sc_law (fun vs H Q E h => ?_) (fun cdv A outer s H vs Q E hgu hr h => ?_)
  · obtain ⟨a, ns, rfl, _⟩ := h
    rfl
  · obtain ⟨sc, ns, rfl, hS, hlen, q⟩ := h
    refine ⟨_, (pss_cons (ps_set (i := 1) sc_law.nd rfl (.inl rfl) (pe_call G_law_draws (hr.mono (by decide)) rfl g_law_draws k_law_draws b_law_draws .nil pass0 (pa_cons (pv 0) pa_nil)))
  (pss_cons (ps_expr (pe_bm0 PySem.F.plainAttrs_list PySem.F.slot_list_reverse PySem.F.type_list_reverse mt_reverse (pv 1)))
  (pss_cons (ps_set (i := 2) sc_law.nd rfl (.inr rfl) (pe_call G_law_world (hr.mono (by decide)) rfl g_law_world k_law_world b_law_world .nil pass0 (pa_cons (pv 1) pa_nil)))
  (pss_cons (ps_set (i := 3) sc_law.nd rfl (.inl rfl) (pe_ix ix_tup (pv 2) pe_int (fun _ _ => rfl)))
  (pss_cons (ps_set (i := 4) sc_law.nd rfl (.inr rfl) (pe_call G_law_number (hr.mono (by decide)) rfl g_law_number k_law_number b_law_number .nil pass0 (pa_cons (pv 1) (pa_cons (pv 2) pa_nil))))
  (pss_cons (ps_set (i := 5) sc_law.nd rfl (.inr rfl) (pe_call G_law_number (hr.mono (by decide)) rfl g_law_number k_law_number b_law_number .nil pass0 (pa_cons (pv 1) (pa_cons (pv 2) pa_nil))))
  (pss_cons (ps_set (i := 6) sc_law.nd rfl (.inl rfl) (pe_op op_mod (pe_callTy call_int1 (by rfl) z_int boot_int (pa_cons (pe_call G_law_next (hr.mono (by decide)) rfl g_law_next k_law_next b_law_next .nil pass0 (pa_cons (pv 1) pa_nil)) pa_nil)) pe_int))
  (pss_cons (ps_set (i := 7) sc_law.nd rfl (.inl rfl) (pe_lst (pa_cons (pe_call G_law_made (hr.mono (by decide)) rfl g_law_made k_law_made b_law_made .nil pass0 (pa_cons (pv 3) (pa_cons (pe_op op_add (pe_op op_mul (pe_ix ix_tup (pv 4) pe_int (fun _ _ => rfl)) (pe_ix ix_tup (pv 5) pe_int (fun _ _ => rfl))) (pe_op op_mul (pe_ix ix_tup (pv 5) pe_int (fun _ _ => rfl)) (pe_ix ix_tup (pv 4) pe_int (fun _ _ => rfl)))) (pa_cons (pe_op op_mul (pe_ix ix_tup (pv 4) pe_int (fun _ _ => rfl)) (pe_ix ix_tup (pv 5) pe_int (fun _ _ => rfl))) pa_nil)))) (pa_cons (pe_call G_law_made (hr.mono (by decide)) rfl g_law_made k_law_made b_law_made .nil pass0 (pa_cons (pv 3) (pa_cons (pe_op op_sub (pe_op op_mul (pe_ix ix_tup (pv 4) pe_int (fun _ _ => rfl)) (pe_ix ix_tup (pv 5) pe_int (fun _ _ => rfl))) (pe_op op_mul (pe_ix ix_tup (pv 5) pe_int (fun _ _ => rfl)) (pe_ix ix_tup (pv 4) pe_int (fun _ _ => rfl)))) (pa_cons (pe_op op_mul (pe_ix ix_tup (pv 4) pe_int (fun _ _ => rfl)) (pe_ix ix_tup (pv 5) pe_int (fun _ _ => rfl))) pa_nil)))) pa_nil))))
  (pss_cons (ps_expr (pe_bm PySem.F.plainAttrs_list PySem.F.slot_list_append PySem.F.type_list_append mt_append (pv 7) (pa_cons (pe_call G_law_made (hr.mono (by decide)) rfl g_law_made k_law_made b_law_made .nil pass0 (pa_cons (pv 3) (pa_cons (pe_op op_mul (pe_ix ix_tup (pv 4) pe_int (fun _ _ => rfl)) (pe_ix ix_tup (pv 5) pe_int (fun _ _ => rfl))) (pa_cons (pe_op op_mul (pe_ix ix_tup (pv 4) pe_int (fun _ _ => rfl)) (pe_ix ix_tup (pv 5) pe_int (fun _ _ => rfl))) pa_nil)))) pa_nil)))
  (pss_cons (ps_expr (pe_bm PySem.F.plainAttrs_list PySem.F.slot_list_append PySem.F.type_list_append mt_append (pv 7) (pa_cons pe_str pa_nil)))
  (Evl.pss_cut (ps_if (pt_cmpR op_ne (pe_ix ix_tup (pv 5) pe_int (fun _ _ => rfl)) pe_int (nomark _)) (pss_one (ps_asg (pe_call G_law_made (hr.mono (by decide)) rfl g_law_made k_law_made b_law_made .nil pass0 (pa_cons (pv 3) (pa_cons (pe_op op_mul (pe_ix ix_tup (pv 4) pe_int (fun _ _ => rfl)) (pe_ix ix_tup (pv 5) pe_int (fun _ _ => rfl))) (pa_cons (pe_op op_mul (pe_ix ix_tup (pv 4) pe_int (fun _ _ => rfl)) (pe_ix ix_tup (pv 5) pe_int (fun _ _ => rfl))) pa_nil)))) (pg_sub (pv 7) pe_int set_list))) pss_nil)
  (pss_cons (ps_if (pt_cmpR op_ne (pe_callB (cr_reprD hgu (room65 hr)) (by rfl) z_repr boot_repr (pa_cons (pe_lc (own := [("way", 8)]) rfl sc_law.nd (pi_range1 rfl z_range (pa_cons pe_int pa_nil)) (blkOk_by (N := ["script", "draws", "world", "p", "x", "y", "count", "due", "way", "raised", "j", "bad"]) (sc := defScope s_law) (by first | decide +kernel | rfl)) (fun _ _ _ _ _ => (pg_name (i := 8) sc_law.nd rfl (.inl rfl))) (fun _ _ _ _ _ => pts_nil) (fun _ _ _ _ _ => (pe_call G_law_told (hr.mono (by decide)) rfl g_law_told k_law_told b_law_told .nil pass0 (pa_cons (pv 8) (pa_cons (pv 2) (pa_cons (pv 4) (pa_cons (pv 5) pa_nil))))))) pa_nil)) (pe_callB (cr_reprD hgu (room65 hr)) (by rfl) z_repr boot_repr (pa_cons (pv 7) pa_nil)) (nomark _)) (pss_one (ps_ret pe_bl)) pss_nil)
  (pss_cons (ps_set (i := 9) sc_law.nd rfl (.inl rfl) (pe_lst (pa_cons pe_int (pa_cons pe_int pa_nil))))
  (pss_cons (ps_for PassesOwn.never rfl (pi_range1 rfl z_range (pa_cons (pv 6) pa_nil)) (pg_name (i := 10) sc_law.nd rfl (.inl rfl)) (pss_one (ps_set (i := 9) sc_law.nd rfl (.inl rfl) (pe_lst (pa_cons (pe_op op_mul (pe_ix ix_list (pv 9) pe_int (fun _ _ => rfl)) (pe_ix ix_tup (pv 4) pe_int (fun _ _ => rfl))) (pa_cons (pe_op op_mul (pe_ix ix_list (pv 9) pe_int (fun _ _ => rfl)) (pe_ix ix_tup (pv 4) pe_int (fun _ _ => rfl))) pa_nil))))))
  (pss_cons (ps_if (pt_cmpR op_ne (pe_callB (cr_reprD hgu (room65 hr)) (by rfl) z_repr boot_repr (pa_cons (pe_call G_power (hr.mono (by decide)) rfl g_power k_power b_power .nil passL (pa_cons (pv 2) (pa_cons (pv 4) (pa_cons (pv 6) pa_nil)))) pa_nil)) (pe_callB (cr_reprD hgu (room65 hr)) (by rfl) z_repr boot_repr (pa_cons (pe_call G_law_made (hr.mono (by decide)) rfl g_law_made k_law_made b_law_made .nil pass0 (pa_cons (pv 3) (pa_cons (pe_ix ix_list (pv 9) pe_int (fun _ _ => rfl)) (pa_cons (pe_ix ix_list (pv 9) pe_int (fun _ _ => rfl)) pa_nil)))) pa_nil)) (nomark _)) (pss_one (ps_ret pe_bl)) pss_nil)
  (pss_cons (ps_set (i := 11) sc_law.nd rfl (.inl rfl) (pe_ix ix_list (pe_lst (pa_cons (pe_tup (pa_cons pe_int (pa_cons pe_int pa_nil))) (pa_cons (pe_tup (pa_cons pe_int (pa_cons (pe_un un_neg pe_int) pa_nil))) (pa_cons (pe_tup (pa_cons pe_int (pa_cons pe_int pa_nil))) (pa_cons (pe_tup (pa_cons pe_int (pa_cons pe_int pa_nil))) pa_nil))))) (pe_op op_mod (pe_callTy call_int1 (by rfl) z_int boot_int (pa_cons (pe_call G_law_next (hr.mono (by decide)) rfl g_law_next k_law_next b_law_next .nil pass0 (pa_cons (pv 1) pa_nil)) pa_nil)) pe_int) (fun _ _ => rfl)))
  (pss_cons (ps_for PassesOwn.never rfl (pi_range1 rfl z_range (pa_cons pe_int pa_nil)) (pg_name (i := 8) sc_law.nd rfl (.inl rfl)) (pss_cons (ps_if (L2.PW.pt (pw_or (pt_cmpR op_ne (pe_call G_law_told (hr.mono (by decide)) rfl g_law_told k_law_told b_law_told .nil pass0 (pa_cons (pv 8) (pa_cons (pe_tup (pa_cons (pv 3) (pa_cons pe_int pa_nil))) (pa_cons (pv 11) (pa_cons (pv 11) pa_nil))))) pe_str (nomark _)) (pw_or1 (pt_cmpR op_ne (pe_call G_law_told (hr.mono (by decide)) rfl g_law_told k_law_told b_law_told .nil pass0 (pa_cons (pv 8) (pa_cons (pv 2) (pa_cons (pv 11) (pa_cons (pv 5) pa_nil))))) pe_str (nomark _))))) (pss_one (ps_ret pe_bl)) pss_nil)
  (pss_one (ps_if (pt_cmpR op_ne (pe_call G_law_told (hr.mono (by decide)) rfl g_law_told k_law_told b_law_told .nil pass0 (pa_cons (pv 8) (pa_cons (pv 2) (pa_cons (pv 4) (pa_cons (pv 11) pa_nil))))) pe_str (nomark _)) (pss_one (ps_ret pe_bl)) pss_nil))))
  (pss_cons (ps_if (L2.PW.pt (pw_or (pt_cmpR op_ne (pe_call G_law_told (hr.mono (by decide)) rfl g_law_told k_law_told b_law_told .nil pass0 (pa_cons pe_int (pa_cons (pe_tup (pa_cons (pv 3) (pa_cons pe_int pa_nil))) (pa_cons (pv 11) (pa_cons (pe_un un_neg pe_int) pa_nil))))) pe_str (nomark _)) (pw_or1 (pt_cmpR op_ne (pe_call G_law_told (hr.mono (by decide)) rfl g_law_told k_law_told b_law_told .nil pass0 (pa_cons pe_int (pa_cons (pv 2) (pa_cons (pv 11) (pa_cons (pe_un un_neg pe_int) pa_nil))))) pe_str (nomark _))))) (pss_one (ps_ret pe_bl)) pss_nil)
  (pss_one (ps_ret (pe_and (pe_cmpR op_eq (pe_call G_law_told (hr.mono (by decide)) rfl g_law_told k_law_told b_law_told .nil pass0 (pa_cons pe_int (pa_cons (pv 2) (pa_cons (pv 4) (pa_cons (pe_un un_neg pe_int) pa_nil))))) pe_str (nomark _)) (pe_one (pe_cmpR op_eq (pe_call G_law_told (hr.mono (by decide)) rfl g_law_told k_law_told b_law_told .nil pass0 (pa_cons pe_int (pa_cons (pv 2) (pa_cons (pv 4) (pa_cons pe_int pa_nil))))) pe_str (nomark _)))))))))))))))))))))))), ?_⟩
    refine ⟨_, rfl, sc, ns, rfl, hS, hlen, fun H1 r ds s1 nr hL => ?_⟩
    refine ⟨_, rfl, .inl ⟨rfl, _, .inl (.inl hL)⟩, r, _, rfl, rfl, hL, ?_⟩
    rw [← List.map_reverse]
    generalize ds.reverse = ds1
    -- world, p, x, y, count
    refine ⟨_, rfl, r, ds1, rfl, upd_same, fun p d ds2 xw H2 _ hL2 _ hw2 ew => ?_⟩
    obtain ⟨hp, hd⟩ := isW_cases ew
    have hrw : r ≠ xw := ne_of hL2 hw2 (fun z => nomatch z)
    refine ⟨_, rfl, xw, _, 0, .int p, rfl, rfl, .inl (.inl hw2), atI_nat (j := 0) rfl, ?_⟩
    refine ⟨_, rfl, _, rfl, r, xw, ds2, p, d, rfl, hL2, .inl (.inl hw2), hrw, ew, fun a b ds3 xx H3 sb3 hL3 _ hx3 en ha hb hb1 hb0 => ?_⟩
    have hw3 := sb3 _ _ (Ne.symm hrw) hw2
    have hrx : r ≠ xx := ne_of hL3 hx3 (fun z => nomatch z)
    refine ⟨_, rfl, _, rfl, r, xw, ds3, p, d, rfl, hL3, .inl (.inl hw3), hrw, ew, fun a' b' ds4 xy H4 sb4 hL4 _ hy4 en' ha' hb' hb1' hb0' => ?_⟩
    have hw4 := sb4 _ _ (Ne.symm hrw) hw3
    have hx4 := sb4 _ _ (Ne.symm hrx) hx3
    have hry : r ≠ xy := ne_of hL4 hy4 (fun z => nomatch z)
    refine ⟨_, rfl, r, ds4, rfl, hL4, fun n5 ds5 => .inl ⟨n5, rfl, n5, 13, rfl, rfl, (show (0 : Int) < 13 by decide), ?_⟩⟩
    have mc := mod_lt8 n5 (show (0 : Int) < 13 by decide)
    dsimp only
    generalize n5 % 13 = count at mc
    have hL5 : upd H4 r (.lst (ds5.map V.int)) r = some (.lst (ds5.map V.int)) := upd_same
    have hw5 : upd H4 r (.lst (ds5.map V.int)) xw = some (.tup [.int p, .int d]) := by rw [upd_ne (Ne.symm hrw)]; exact hw4
    have hx5 : upd H4 r (.lst (ds5.map V.int)) xx = some (.tup [.int a, .int b]) := by rw [upd_ne (Ne.symm hrx)]; exact hx4
    have hy5 : upd H4 r (.lst (ds5.map V.int)) xy = some (.tup [.int a', .int b']) := by rw [upd_ne (Ne.symm hry)]; exact hy4
    revert hL5 hw5 hx5 hy5
    generalize upd H4 r (.lst (ds5.map V.int)) = H5
    intro hL5 hw5 hx5 hy5
    have xa : atI [V.int a, V.int b] 0 = some (.int a) := atI_nat (j := 0) rfl
    have xb : atI [V.int a, V.int b] 1 = some (.int b) := atI_nat (j := 1) rfl
    have ya : atI [V.int a', V.int b'] 0 = some (.int a') := atI_nat (j := 0) rfl
    have yb : atI [V.int a', V.int b'] 1 = some (.int b') := atI_nat (j := 1) rfl
    have la : a.natAbs < 2 ^ 62 := by omega
    have lb : b.natAbs < 2 ^ 62 := by omega
    have la' : a'.natAbs < 2 ^ 62 := by omega
    have lb' : b'.natAbs < 2 ^ 62 := by omega
    have hbb : (b * b').natAbs ≤ 16 := by
      rw [Int.natAbs_mul]
      exact Nat.mul_le_mul hb hb'
    have hba : (b * a').natAbs ≤ 124 := by
      rw [Int.natAbs_mul]
      exact Nat.mul_le_mul hb ha'
    have hab : (a * b').natAbs ≤ 124 := by
      rw [Int.natAbs_mul]
      exact Nat.mul_le_mul ha hb'
    have haa : (a * a').natAbs ≤ 961 := by
      rw [Int.natAbs_mul]
      exact Nat.mul_le_mul ha ha'
    have hab2 : (a' * b).natAbs ≤ 124 := by
      rw [Int.natAbs_mul]
      exact Nat.mul_le_mul ha' hb
    have nb : ¬ bad p (b * b') := fun z => by
      rcases z with z | ⟨z1, z2⟩
      · exact Int.mul_ne_zero hb0 hb0' z
      · have := prime_pos (hp.resolve_left (by omega))
        rw [hb1 (by omega), hb1' (by omega), Int.mul_one, Int.emod_eq_of_lt (by decide) (by omega)] at z2
        cases z2
    have p199 : (2 : Nat) ^ 199 = 803469022129495137770981046170581301261101496891396417650688 := by decide
    -- due
    refine ⟨_, rfl, _, rfl, xx, _, 0, .int a, rfl, rfl, .inl (.inl hx5), xa, _, rfl, xy, _, 1, .int b', rfl, rfl, .inl (.inl hy5), yb, a, b', rfl, rfl, cm62 la, _, rfl, xy, _, 0, .int a', rfl, rfl, .inl (.inl hy5), ya, _, rfl, xx, _, 1, .int b, rfl, rfl, .inl (.inl hx5), xb, a', b, rfl, rfl, cm62 la', _, _, rfl, rfl,
      _, rfl, xx, _, 1, .int b, rfl, rfl, .inl (.inl hx5), xb, _, rfl, xy, _, 1, .int b', rfl, rfl, .inl (.inl hy5), yb, b, b', rfl, rfl, cm62 lb, p, a * b' + a' * b, b * b', rfl, hp, nb, by omega, fun m1 u1 v1 hn1 nm1 => ?_⟩
    have s1 : Same H5 (upd H5 m1 (.tup [.int u1, .int v1])) := same_upd nm1
    have hm1 : upd H5 m1 (.tup [.int u1, .int v1]) m1 = some (.tup [.int u1, .int v1]) := upd_same
    revert s1 hm1
    generalize upd H5 m1 (.tup [.int u1, .int v1]) = H6
    intro s1 hm1
    have hw6 := s1 _ _ hw5
    have hx6 := s1 _ _ hx5
    have hy6 := s1 _ _ hy5
    have hL6 := s1 _ _ hL5
    refine ⟨_, rfl, _, rfl, xx, _, 0, .int a, rfl, rfl, .inl (.inl hx6), xa, _, rfl, xy, _, 1, .int b', rfl, rfl, .inl (.inl hy6), yb, a, b', rfl, rfl, cm62 la, _, rfl, xy, _, 0, .int a', rfl, rfl, .inl (.inl hy6), ya, _, rfl, xx, _, 1, .int b, rfl, rfl, .inl (.inl hx6), xb, a', b, rfl, rfl, cm62 la', _, _, rfl, rfl,
      _, rfl, xx, _, 1, .int b, rfl, rfl, .inl (.inl hx6), xb, _, rfl, xy, _, 1, .int b', rfl, rfl, .inl (.inl hy6), yb, b, b', rfl, rfl, cm62 lb, p, a * b' - a' * b, b * b', rfl, hp, nb, by omega, fun m2 u2 v2 hn2 nm2 => ?_⟩
    have s2 : Same H6 (upd H6 m2 (.tup [.int u2, .int v2])) := same_upd nm2
    have hm2 : upd H6 m2 (.tup [.int u2, .int v2]) m2 = some (.tup [.int u2, .int v2]) := upd_same
    revert s2 hm2
    generalize upd H6 m2 (.tup [.int u2, .int v2]) = H7
    intro s2 hm2
    refine ⟨(by show 2 ≤ sizeLine; decide), fun g ng => ?_⟩
    have s3 : Same H7 (upd H7 g (.lst [.ref m1, .ref m2])) := same_upd ng
    have hg3 : upd H7 g (.lst [.ref m1, .ref m2]) g = some (.lst [.ref m1, .ref m2]) := upd_same
    revert s3 hg3
    generalize upd H7 g (.lst [.ref m1, .ref m2]) = H8
    intro s3 hg3
    have hw8 := s3 _ _ (s2 _ _ hw6)
    have hx8 := s3 _ _ (s2 _ _ hx6)
    have hy8 := s3 _ _ (s2 _ _ hy6)
    have hL8 := s3 _ _ (s2 _ _ hL6)
    have hm18 := s3 _ _ (s2 _ _ hm1)
    have hm28 := s3 _ _ hm2
    have hrg : r ≠ g := ne_of_none (s2 _ _ hL6) ng
    -- due.append(times)
    refine ⟨.ref g, rfl, .inl ⟨rfl, _, .inl (.inl hg3)⟩, ?_⟩
    refine ⟨_, rfl, _, rfl, xx, _, 0, .int a, rfl, rfl, .inl (.inl hx8), xa, _, rfl, xy, _, 0, .int a', rfl, rfl, .inl (.inl hy8), ya, a, a', rfl, rfl, cm62 la,
      _, rfl, xx, _, 1, .int b, rfl, rfl, .inl (.inl hx8), xb, _, rfl, xy, _, 1, .int b', rfl, rfl, .inl (.inl hy8), yb, b, b', rfl, rfl, cm62 lb, p, a * a', b * b', rfl, hp, nb, by omega, fun m3 u3 v3 hn3 nm3 => ?_⟩
    have s4 : Same H8 (upd H8 m3 (.tup [.int u3, .int v3])) := same_upd nm3
    have hm3 : upd H8 m3 (.tup [.int u3, .int v3]) m3 = some (.tup [.int u3, .int v3]) := upd_same
    revert s4 hm3
    generalize upd H8 m3 (.tup [.int u3, .int v3]) = H9
    intro s4 hm3
    refine ⟨g, [.ref m1, .ref m2], .ref m3, rfl, rfl, s4 _ _ hg3, (by show 2 < sizeLine; decide), ?_⟩
    refine ⟨.ref g, rfl, .inl ⟨rfl, _, .inl (.inl upd_same)⟩, g, [.ref m1, .ref m2, .ref m3], .str "!b", rfl, rfl, upd_same, (by show 3 < sizeLine; decide), ?_⟩
    have sg : SameBut g H9 (upd (upd H9 g (.lst ([.ref m1, .ref m2] ++ [.ref m3]))) g (.lst ([.ref m1, .ref m2, .ref m3] ++ [.str "!b"]))) := SameBut.upd.trans SameBut.upd
    have hg9 : upd (upd H9 g (.lst ([.ref m1, .ref m2] ++ [.ref m3]))) g (.lst ([.ref m1, .ref m2, .ref m3] ++ [.str "!b"])) g = some (.lst [.ref m1, .ref m2, .ref m3, .str "!b"]) := upd_same
    revert sg hg9
    generalize upd (upd H9 g (.lst ([.ref m1, .ref m2] ++ [.ref m3]))) g (.lst ([.ref m1, .ref m2, .ref m3] ++ [.str "!b"])) = H10
    intro sg hg9
    have tg : ∀ {t : Addr} {xs : List V}, H9 t = some (.tup xs) → H10 t = some (.tup xs) := fun h => sg _ _ (ne_of h (s4 _ _ hg3) (fun z => nomatch z)) h
    have hw10 := tg (s4 _ _ hw8)
    have hx10 := tg (s4 _ _ hx8)
    have hy10 := tg (s4 _ _ hy8)
    have hm1' := tg (s4 _ _ hm18)
    have hm2' := tg (s4 _ _ hm28)
    have hm3' := tg hm3
    have hL10 : H10 r = some (.lst (ds5.map V.int)) := sg _ _ hrg (s4 _ _ hL8)
    have t0 : Told2 0 p d a b a' b' (.tuple [.int u1, .int v1]) := .inr (.inr (.inr ⟨ew, en, en', nb, u1, v1, hn1, rfl⟩))
    have t1 : Told2 1 p d a b a' b' (.tuple [.int u2, .int v2]) := .inr (.inr (.inr ⟨ew, en, en', nb, u2, v2, hn2, rfl⟩))
    have t2 : Told2 2 p d a b a' b' (.tuple [.int u3, .int v3]) := .inr (.inr (.inr ⟨ew, en, en', nb, u3, v3, hn3, rfl⟩))
    -- if y[0] != 0: due[3] = over
    refine ⟨fun σ' H' => ∃ (o3 : V) (D3 : PyData), σ' = [some (.ref sc), some (.ref r), some (.ref xw), some (.int p), some (.ref xx), some (.ref xy), some (.int count), some (.ref g), none, none, none, none] ∧ H' g = some (.lst [.ref m1, .ref m2, .ref m3, o3]) ∧
      H' r = some (.lst (ds5.map V.int)) ∧ (∀ t xs, H10 t = some (.tup xs) → H' t = some (.tup xs)) ∧ Val1 H' o3 D3 ∧ Told2 3 p d a b a' b' D3 ∧ SmL 1 4000 D3, ?_, ?_⟩
    · refine ⟨_, rfl, xy, _, 0, .int a', rfl, rfl, .inl (.inl hy10), ya, rfl, _, rfl, ?_⟩
      by_cases c : a' = 0
      · rw [decide_eq_true (congrArg V.int c)]
        have hbd : bad p (b * a') := .inl (by rw [c, Int.mul_zero])
        exact iteF ⟨.str "!b", .str "!b", rfl, hg9, hL10, fun _ _ h => h, .str _, .inr (.inr (.inl ⟨ew, en, en', hbd, rfl⟩)), smL_b⟩
      · rw [decide_eq_false (fun z => c (V.int.inj z))]
        refine iteT ?_
        have nbo : ¬ bad p (b * a') := fun z => by
          rcases z with z | ⟨z1, z2⟩
          · exact Int.mul_ne_zero hb0 c z
          · obtain ⟨_, e2, e3⟩ := (isN_pos en' hp).2 (by omega)
            rw [hb1 (by omega), Int.one_mul, Int.emod_eq_of_lt e2 e3] at z2
            exact c z2
        refine ⟨_, rfl, _, rfl, xx, _, 0, .int a, rfl, rfl, .inl (.inl hx10), xa, _, rfl, xy, _, 1, .int b', rfl, rfl, .inl (.inl hy10), yb, a, b', rfl, rfl, cm62 la,
          _, rfl, xx, _, 1, .int b, rfl, rfl, .inl (.inl hx10), xb, _, rfl, xy, _, 0, .int a', rfl, rfl, .inl (.inl hy10), ya, b, a', rfl, rfl, cm62 lb, p, a * b', b * a', rfl, hp, nbo, by omega, fun m4 u4 v4 hn4 nm4 => ?_⟩
        have hg4 : g ≠ m4 := ne_of_none hg9 nm4
        refine ⟨_, rfl, g, [.ref m1, .ref m2, .ref m3, .str "!b"], 3, 3, rfl, rfl, (by rw [upd_ne hg4]; exact hg9), rfl, .ref m4, .tuple [.int u4, .int v4], rfl, upd_same, ?_, fun t xs h => ?_, .pair ?_, .inr (.inr (.inr ⟨ew, en, en', nbo, u4, v4, hn4, rfl⟩)), num_of hp hn4 (by omega) (by omega)⟩
        · rw [upd_ne hrg, upd_ne (ne_of_none hL10 nm4)]
          exact hL10
        · rw [upd_ne (ne_of h hg9 (fun z => nomatch z)), upd_ne (ne_of_none h nm4)]
          exact h
        · rw [upd_ne (Ne.symm hg4), upd_same]
    · rintro σ' H11 ⟨o3, D3, rfl, hg11, hL11, tt, v3', t3, sm3⟩
      have hw11 := tt _ _ hw10
      have hx11 := tt _ _ hx10
      have hy11 := tt _ _ hy10
      -- repr([..]) != repr(due)
      refine ⟨4, rfl, by decide, by decide, fun D nD => ?_⟩
      have hgD : g ≠ D := ne_of_none hg11 nD
      have tD : ∀ {t : Addr} {xs : List V} {H' : Hp}, SameBut D (upd H11 D (.lst [])) H' → H11 t = some (.tup xs) → H' t = some (.tup xs) := fun {t xs H'} sb h => by
        have n : t ≠ D := ne_of_none h nD
        exact sb _ _ n (by rw [upd_ne n]; exact h)
      refine lc_range (lo := 0) (n := 4) (fun i H' => SameBut D (upd H11 D (.lst [])) H' ∧ ∃ xs ds, H' D = some (.lst xs) ∧ Paired (Val1 H') xs ds ∧ ds.length = i ∧ ∀ (j : Nat) (D' : PyData), ds[j]? = some D' → Told2 j p d a b a' b' D')
        ⟨SameBut.refl _ _, [], [], upd_same, .nil, rfl, fun j D' h => nomatch h⟩ (fun i H' hi hP => ?_) (fun H' hP => ?_)
      · obtain ⟨sb, xs, ds, hD, pr, hl, ht⟩ := hP
        refine ⟨rfl, ?_⟩
        refine ⟨_, rfl, _, rfl, _, rfl, _, rfl, .inl ⟨xw, xx, xy, _, p, d, a, b, a', b', rfl, by omega, by omega, .inl (.inl (tD sb hw11)), .inl (.inl (tD sb hx11)), .inl (.inl (tD sb hy11)), fun _ _ => ⟨la, lb, la', lb', ?_⟩, fun D' y H'' told sm v => ?_⟩⟩
        · unfold opB
          split
          · show (b * a').natAbs < _
            omega
          · show (b * b').natAbs < _
            omega
        · rw [Int.zero_add] at told
          have hlx := pr.length
          exact ⟨xs, sm _ _ hD, small_of (by omega), (sb.trans (Same.but sm)).trans SameBut.upd, xs ++ [y], ds ++ [D'], upd_same,
            paired_snoc (v.but SameBut.upd (sm _ _ hD)) (Paired.mapP pr fun _ _ h => (h.same sm).but SameBut.upd (sm _ _ hD)), by rw [List.length_append, hl]; rfl, snoc_get hl ht told⟩
      · obtain ⟨sb, xs, ds, hD, pr, hl, ht⟩ := hP
        obtain ⟨E0, E1, E2, E3, rfl, k0, k1, k2, k3⟩ := list4 (P := fun j E => Told2 j p d a b a' b' E) hl ht
        obtain rfl := told2_unique ew en en' k0 t0
        obtain rfl := told2_unique ew en en' k1 t1
        obtain rfl := told2_unique ew en en' k2 t2
        obtain rfl := told2_unique ew en en' k3 t3
        have hab3 : (a * b' + a' * b).natAbs < 2 ^ 199 := by omega
        have hab4 : (a * b' - a' * b).natAbs < 2 ^ 199 := by omega
        have sml := smL_list (n := 1) (k := 4000) (ds := [.tuple [.int u1, .int v1], .tuple [.int u2, .int v2], .tuple [.int u3, .int v3], E3]) fun X hX => by
          rcases List.mem_cons.mp hX with rfl | hX
          · exact num_of hp hn1 hab3 (by omega)
          · rcases List.mem_cons.mp hX with rfl | hX
            · exact num_of hp hn2 hab4 (by omega)
            · rcases List.mem_cons.mp hX with rfl | hX
              · exact num_of hp hn3 (by omega) (by omega)
              · rcases List.mem_cons.mp hX with rfl | hX
                · exact sm3
                · cases hX
        have wd := sml.wide (by show (4000 + 2) * 4 + 3 ≤ 16777216; decide)
        have sh := sml.shaped (by decide)
        have hg' := sb _ _ hgD (by rw [upd_ne hgD]; exact hg11)
        have v3'' : Val1 H' o3 E3 := (v3'.same (same_upd nD)).but sb upd_same
        refine ⟨.ref D, _, rfl, .lst (.inl (.inl hD)) (vals1_dp pr), sh, sml.sho, wd, ?_⟩
        refine ⟨_, rfl, .ref g, _, rfl, .lst (.inl (.inl hg')) (.cons (Val1.pair (tD sb (tt _ _ hm1'))).dp (.cons (Val1.pair (tD sb (tt _ _ hm2'))).dp (.cons (Val1.pair (tD sb (tt _ _ hm3'))).dp (.cons v3''.dp .nil)))), sh, sml.sho, wd, rfl, _, rfl, ?_⟩
        rw [decide_eq_true rfl]
        refine iteF ?_
        have hrD : r ≠ D := ne_of_none hL11 nD
        have hL12 : H' r = some (.lst (ds5.map V.int)) := sb _ _ hrD (by rw [upd_ne hrD]; exact hL11)
        have hw12 := tD sb hw11
        have hx12 := tD sb hx11
        have hy12 := tD sb hy11
        -- raised
        refine ⟨(by show 2 ≤ sizeLine; decide), fun l0 nl0 => ?_⟩
        have z0 : Same H' (upd H' l0 (.lst [.int 1, .int 1])) := same_upd nl0
        refine ⟨_, rfl, count, rfl, by omega, by omega, for_range (lo := 0) (n := count.toNat) (fun i σ H'' => ∃ (l : Addr) (v10 : Option V), σ = [some (.ref sc), some (.ref r), some (.ref xw), some (.int p), some (.ref xx), some (.ref xy), some (.int count), some (.ref g), none, some (.ref l), v10, none] ∧ Same H' H'' ∧ H'' l = some (.lst [.int (a ^ i), .int (b ^ i)]))
          ⟨l0, none, rfl, z0, by rw [upd_same, Int.pow_zero, Int.pow_zero]⟩ ?_ ?_⟩
        · rintro i σ H2' hi ⟨l, v10, rfl, zz, hl2⟩
          have hx2 := zz _ _ hx12
          have c1 : CMul (a ^ i) a := .inr ⟨by omega, by omega⟩
          have c2 : CMul (b ^ i) b := .inr ⟨by omega, by omega⟩
          refine ⟨_, rfl, l, _, 0, .int (a ^ i), rfl, rfl, .inl (.inl hl2), atI_nat (j := 0) rfl, _, rfl, xx, _, 0, .int a, rfl, rfl, .inl (.inl hx2), xa, _, _, rfl, rfl, c1,
            _, rfl, l, _, 1, .int (b ^ i), rfl, rfl, .inl (.inl hl2), atI_nat (j := 1) rfl, _, rfl, xx, _, 1, .int b, rfl, rfl, .inl (.inl hx2), xb, _, _, rfl, rfl, c2, (by show 2 ≤ sizeLine; decide), fun l3 nl3 => ?_⟩
          refine ⟨l3, some (.int (0 + (i : Int))), rfl, Same.trans zz (same_upd nl3), ?_⟩
          rw [upd_same, Int.pow_succ, Int.pow_succ]
        · rintro σ H2' ⟨l, v10, rfl, zz, hl2⟩
          have hw13 := zz _ _ hw12
          have hx13 := zz _ _ hx12
          have hy13 := zz _ _ hy12
          have hL13 := zz _ _ hL12
          have hk : count.toNat ≤ 12 := by omega
          have hB : p = 0 → b ^ count.toNat ≠ 0 := fun c => Int.pow_ne_zero hb0
          have nbp : ¬ bad p (b ^ count.toNat) := fun z => by
            rcases z with z | ⟨z1, z2⟩
            · exact Int.pow_ne_zero hb0 z
            · have := prime_pos (hp.resolve_left (by omega))
              rw [hb1 (by omega), Int.one_pow, Int.emod_eq_of_lt (by decide) (by omega)] at z2
              cases z2
          have sa := pow_small ha hk
          have sb4 := pow_small4 hb hk
          -- power
          refine ⟨_, rfl, _, rfl, _, rfl, xw, xx, p, d, a, b, count, rfl, .inl (.inl hw13), .inl (.inl hx13), fun z => ?_, fun _ z => ?_, fun _ _ z => absurd ⟨by omega, by omega⟩ z, fun _ _ _ _ => ⟨by omega, ha, hb, fun rp u v H3' hn sm3' hrp => ?_⟩⟩
          · rw [ew] at z
            exact nomatch z
          · rw [en] at z
            exact nomatch z
          have smp := num_of hp hn (by omega) (by omega)
          have wdp := smp.wide (by decide)
          have shp := smp.shaped (by decide)
          have hl3 := sm3' _ _ hl2
          refine ⟨.ref rp, _, rfl, (Dp.tup hrp (.cons (.int _) (.cons (.int _) .nil))), shp, smp.sho, wdp, ?_⟩
          refine ⟨_, rfl, _, rfl, l, _, 0, .int (a ^ count.toNat), rfl, rfl, .inl (.inl hl3), atI_nat (j := 0) rfl, _, rfl, l, _, 1, .int (b ^ count.toNat), rfl, rfl, .inl (.inl hl3), atI_nat (j := 1) rfl, p, _, _, rfl, hp, nbp, by omega, fun mp u' v' hn' nmp => ?_⟩
          obtain ⟨rfl, rfl⟩ := num_unique hp nbp hn hn'
          refine ⟨.ref mp, _, rfl, (Val1.pair upd_same).dp, shp, smp.sho, wdp, rfl, _, rfl, ?_⟩
          rw [decide_eq_true rfl]
          refine iteF ?_
          have zq : Same H2' (upd H3' mp (.tup [.int u, .int v])) := Same.trans sm3' (same_upd nmp)
          revert zq
          generalize upd H3' mp (.tup [.int u, .int v]) = H4'
          intro zq
          have hw14 := zq _ _ hw13
          have hx14 := zq _ _ hx13
          have hy14 := zq _ _ hy13
          have hL14 := zq _ _ hL13
          -- bad
          refine ⟨(by show 2 ≤ sizeLine; decide), fun b1 nb1 => ⟨1, rfl, (by show 2 ≤ sizeLine; decide), fun b2 nb2 => ⟨(by show 2 ≤ sizeLine; decide), fun b3 nb3 => ⟨(by show 2 ≤ sizeLine; decide), fun b4 nb4 => ⟨(by show 4 ≤ sizeLine; decide), fun lb nlb => ?_⟩⟩⟩⟩⟩
          have y1 : Same H4' (upd H4' b1 (.tup [.int 2, .int 0])) := same_upd nb1
          have k1 : upd H4' b1 (.tup [.int 2, .int 0]) b1 = some (.tup [.int 2, .int 0]) := upd_same
          revert y1 k1 nb2 nb3 nb4 nlb
          generalize upd H4' b1 (.tup [.int 2, .int 0]) = G1
          intro nb2 nb3 nb4 nlb y1 k1
          have y2 : Same G1 (upd G1 b2 (.tup [.int 1, .int (-1)])) := same_upd nb2
          have k2 : upd G1 b2 (.tup [.int 1, .int (-1)]) b2 = some (.tup [.int 1, .int (-1)]) := upd_same
          revert y2 k2 nb3 nb4 nlb
          generalize upd G1 b2 (.tup [.int 1, .int (-1)]) = G2
          intro nb3 nb4 nlb y2 k2
          have y3 : Same G2 (upd G2 b3 (.tup [.int 4, .int 2])) := same_upd nb3
          have k3 : upd G2 b3 (.tup [.int 4, .int 2]) b3 = some (.tup [.int 4, .int 2]) := upd_same
          revert y3 k3 nb4 nlb
          generalize upd G2 b3 (.tup [.int 4, .int 2]) = G3
          intro nb4 nlb y3 k3
          have y4 : Same G3 (upd G3 b4 (.tup [.int 3, .int 6])) := same_upd nb4
          have k4 : upd G3 b4 (.tup [.int 3, .int 6]) b4 = some (.tup [.int 3, .int 6]) := upd_same
          revert y4 k4 nlb
          generalize upd G3 b4 (.tup [.int 3, .int 6]) = G4
          intro nlb y4 k4
          have y5 : Same G4 (upd G4 lb (.lst [.ref b1, .ref b2, .ref b3, .ref b4])) := same_upd nlb
          have k5 : upd G4 lb (.lst [.ref b1, .ref b2, .ref b3, .ref b4]) lb = some (.lst [.ref b1, .ref b2, .ref b3, .ref b4]) := upd_same
          revert y5 k5
          generalize upd G4 lb (.lst [.ref b1, .ref b2, .ref b3, .ref b4]) = G5
          intro y5 k5
          have yA : Same H4' G5 := Same.trans y1 (Same.trans y2 (Same.trans y3 (Same.trans y4 y5)))
          have hL15 := yA _ _ hL14
          have hlbr : lb ≠ r := fun z => by
            rw [← z] at hL15
            have e := (Option.some.inj (k5.symm.trans hL15))
            injection e with e
            cases ds5 with
            | nil => cases e
            | cons n l => cases e
          refine ⟨_, rfl, r, ds5, rfl, hL15, fun n6 ds6 => ?_⟩
          have m4 := mod_lt8 n6 (show (0 : Int) < 4 by decide)
          have gt : ∀ {t : Addr} {xs : List V}, G5 t = some (.tup xs) → upd G5 r (.lst (ds6.map V.int)) t = some (.tup xs) := fun h => by
            rw [upd_ne (ne_of h hL15 (fun z => nomatch z))]
            exact h
          obtain ⟨tb, bu, bv, hat, htb, hnot⟩ : ∃ (tb : Addr) (bu bv : Int), atI [V.ref b1, .ref b2, .ref b3, .ref b4] (n6 % 4) = some (.ref tb) ∧ upd G5 r (.lst (ds6.map V.int)) tb = some (.tup [.int bu, .int bv]) ∧ isN p bu bv = false := by
            have : n6 % 4 = 0 ∨ n6 % 4 = 1 ∨ n6 % 4 = 2 ∨ n6 % 4 = 3 := by omega
            rcases this with e | e | e | e
            · exact ⟨b1, 2, 0, by rw [e]; rfl, gt (y5 _ _ (y4 _ _ (y3 _ _ (y2 _ _ k1)))), notN hp (by decide +kernel) (by decide)⟩
            · exact ⟨b2, 1, -1, by rw [e]; rfl, gt (y5 _ _ (y4 _ _ (y3 _ _ k2))), notN hp (by decide +kernel) (by decide)⟩
            · exact ⟨b3, 4, 2, by rw [e]; rfl, gt (y5 _ _ (y4 _ _ k3)), notN hp (by decide +kernel) (by decide)⟩
            · exact ⟨b4, 3, 6, by rw [e]; rfl, gt (y5 _ _ k4), notN hp (by decide +kernel) (by decide)⟩
          refine .inl ⟨n6, rfl, n6, 4, rfl, rfl, (show (0 : Int) < 4 by decide), lb, _, _, _, rfl, rfl, .inl (.inl (by rw [upd_ne hlbr]; exact k5)), hat, ?_⟩
          have hw16 := gt (yA _ _ hw14)
          have hx16 := gt (yA _ _ hx14)
          have hy16 := gt (yA _ _ hy14)
          revert htb hw16 hx16 hy16
          generalize upd G5 r (.lst (ds6.map V.int)) = G6
          intro htb hw16 hx16 hy16
          have w99 := isW99 hp
          -- for way in range(4)
          refine ⟨4, rfl, by decide, by decide, for_range (lo := 0) (n := 4) (fun i σ H5' => ∃ v8 : Option V, σ = [some (.ref sc), some (.ref r), some (.ref xw), some (.int p), some (.ref xx), some (.ref xy), some (.int count), some (.ref g), v8, some (.ref l), v10, some (.ref tb)] ∧ Same G6 H5') ⟨none, rfl, Same.refl _⟩ ?_ ?_⟩
          · rintro i σ H5' hi ⟨v8, rfl, zi⟩
            have hwi := zi _ _ hw16
            have hxi := zi _ _ hx16
            have hyi := zi _ _ hy16
            have hti := zi _ _ htb
            refine ⟨_, rfl, _, rfl, (by show 2 ≤ sizeLine; decide), fun t5 nt5 => ?_⟩
            have st5 : Same H5' (upd H5' t5 (.tup [.int p, .int 99])) := same_upd nt5
            refine ⟨_, rfl, _, rfl, .inl ⟨t5, tb, tb, _, p, 99, bu, bv, bu, bv, rfl, by omega, by omega, .inl (.inl upd_same), .inl (.inl (st5 _ _ hti)), .inl (.inl (st5 _ _ hti)), fun z => ?_, fun D' y1' H6' told sm v => ?_⟩⟩
            · rw [hnot] at z
              exact nomatch z
            obtain rfl : D' = .str "!w" := by
              rcases told with ⟨_, e⟩ | ⟨z, _⟩ | ⟨z, _⟩ | ⟨z, _⟩
              · exact e
              all_goals (rw [w99] at z; exact nomatch z)
            cases v
            refine ⟨rfl, _, rfl, ?_⟩
            rw [decide_eq_true rfl]
            refine iteF ?_
            have s6 := Same.trans st5 sm
            refine ⟨_, rfl, _, rfl, _, rfl, _, rfl, .inl ⟨xw, tb, xy, _, p, d, bu, bv, a', b', rfl, by omega, by omega, .inl (.inl (s6 _ _ hwi)), .inl (.inl (s6 _ _ hti)), .inl (.inl (s6 _ _ hyi)), fun z => ?_, fun D' y2' H7' told sm7 v => ?_⟩⟩
            · rw [hnot] at z
              exact nomatch z
            obtain rfl : D' = .str "!n" := by
              rcases told with ⟨z, _⟩ | ⟨_, _, e⟩ | ⟨_, z, _⟩ | ⟨_, z, _⟩
              · rw [ew] at z
                exact nomatch z
              · exact e
              all_goals (rw [hnot] at z; exact nomatch z)
            cases v
            refine ⟨rfl, _, rfl, ?_⟩
            rw [decide_eq_true rfl]
            refine iteF ?_
            have s7 := Same.trans s6 sm7
            refine ⟨_, rfl, _, rfl, _, rfl, _, rfl, .inl ⟨xw, xx, tb, _, p, d, a, b, bu, bv, rfl, by omega, by omega, .inl (.inl (s7 _ _ hwi)), .inl (.inl (s7 _ _ hxi)), .inl (.inl (s7 _ _ hti)), fun _ z => ?_, fun D' y3' H8' told sm8 v => ?_⟩⟩
            · rw [hnot] at z
              exact nomatch z
            obtain rfl : D' = .str "!n" := by
              rcases told with ⟨z, _⟩ | ⟨_, _, e⟩ | ⟨_, _, z, _⟩ | ⟨_, _, z, _⟩
              · rw [ew] at z
                exact nomatch z
              · exact e
              all_goals (rw [hnot] at z; exact nomatch z)
            cases v
            refine ⟨rfl, _, rfl, ?_⟩
            rw [decide_eq_true rfl]
            exact iteF ⟨_, rfl, Same.trans zi (Same.trans s7 sm8)⟩
          · rintro σ H5' ⟨v8, rfl, zi⟩
            have hwi := zi _ _ hw16
            have hxi := zi _ _ hx16
            have hti := zi _ _ htb
            refine ⟨_, rfl, (by show 2 ≤ sizeLine; decide), fun t5 nt5 => ?_⟩
            have st5 : Same H5' (upd H5' t5 (.tup [.int p, .int 99])) := same_upd nt5
            refine ⟨_, rfl, 1, rfl, .inr ⟨t5, tb, p, 99, bu, bv, -1, rfl, by decide, .inl (.inl upd_same), .inl (.inl (st5 _ _ hti)), fun _ H6' sm => ?_, fun z => ?_, fun z => ?_⟩⟩
            · refine ⟨rfl, _, rfl, ?_⟩
              rw [decide_eq_true rfl]
              refine iteF ?_
              have s6 := Same.trans st5 sm
              refine ⟨_, rfl, _, rfl, 1, rfl, .inr ⟨xw, tb, p, d, bu, bv, -1, rfl, by decide, .inl (.inl (s6 _ _ hwi)), .inl (.inl (s6 _ _ hti)), fun z => ?_, fun _ _ H7' sm7 => ?_, fun _ z => ?_⟩⟩
              · rw [ew] at z
                exact nomatch z
              · refine ⟨rfl, _, rfl, ?_⟩
                rw [decide_eq_true rfl]
                refine iteF ?_
                have s7 := Same.trans s6 sm7
                refine ⟨_, rfl, _, rfl, 1, rfl, .inr ⟨xw, xx, p, d, a, b, -1, rfl, by decide, .inl (.inl (s7 _ _ hwi)), .inl (.inl (s7 _ _ hxi)), fun z => ?_, fun _ z => ?_, fun _ _ H8' sm8 => ?_⟩⟩
                · rw [ew] at z
                  exact nomatch z
                · rw [en] at z
                  exact nomatch z
                · refine ⟨rfl, _, rfl, ?_⟩
                  rw [decide_eq_true rfl]
                  refine iteT ?_
                  have s8 := Same.trans s7 sm8
                  refine ⟨_, rfl, _, rfl, .inr ⟨xw, xx, p, d, a, b, 201, rfl, by decide, .inl (.inl (s8 _ _ hwi)), .inl (.inl (s8 _ _ hxi)), fun z => ?_, fun _ z => ?_, fun _ _ H9' sm9 => ?_⟩⟩
                  · rw [ew] at z
                    exact nomatch z
                  · rw [en] at z
                    exact nomatch z
                  · refine ⟨rfl, ?_⟩
                    rw [decide_eq_true rfl]
                    exact q _
              · rw [hnot] at z
                exact nomatch z
            · rw [w99] at z
              exact nomatch z
            · rw [w99] at z
              exact nomatch z
end

theorem all_mk {P : Program} {w : World} {K : PySem.W.Frag} {h : Heap} {mg : Str → Option Value} {fa : Addr} (X : K.In h) (G : h.Ns mainGlobals mg) (hfa : mg "law" = some (.ref fa))
    {f_is_world : Addr} {od_is_world an_is_world : Option Addr} {sl_is_world : Array (Option Value)} {oc_is_world kV_is_world dc_is_world pm_is_world cd_is_world ct_is_world : Value}
    {f_law_plain : Addr} {od_law_plain an_law_plain : Option Addr} {sl_law_plain : Array (Option Value)} {oc_law_plain kV_law_plain dc_law_plain pm_law_plain cd_law_plain ct_law_plain : Value}
    {f_law_next : Addr} {od_law_next an_law_next : Option Addr} {sl_law_next : Array (Option Value)} {oc_law_next kV_law_next dc_law_next pm_law_next cd_law_next ct_law_next : Value}
    {f_law_draws : Addr} {od_law_draws an_law_draws : Option Addr} {sl_law_draws : Array (Option Value)} {oc_law_draws kV_law_draws dc_law_draws pm_law_draws cd_law_draws ct_law_draws : Value}
    {f_check_world : Addr} {od_check_world an_check_world : Option Addr} {sl_check_world : Array (Option Value)} {oc_check_world kV_check_world dc_check_world pm_check_world cd_check_world ct_check_world : Value}
    {f_is_number : Addr} {od_is_number an_is_number : Option Addr} {sl_is_number : Array (Option Value)} {oc_is_number kV_is_number dc_is_number pm_is_number cd_is_number ct_is_number : Value}
    {f_check_number : Addr} {od_check_number an_check_number : Option Addr} {sl_check_number : Array (Option Value)} {oc_check_number kV_check_number dc_check_number pm_check_number cd_check_number ct_check_number : Value}
    {f_lowest_ : Addr} {od_lowest_ an_lowest_ : Option Addr} {sl_lowest_ : Array (Option Value)} {oc_lowest_ kV_lowest_ dc_lowest_ pm_lowest_ cd_lowest_ ct_lowest_ : Value}
    {f_inverse_ : Addr} {od_inverse_ an_inverse_ : Option Addr} {sl_inverse_ : Array (Option Value)} {oc_inverse_ kV_inverse_ dc_inverse_ pm_inverse_ cd_inverse_ ct_inverse_ : Value}
    {dT_number : Addr}
    {f_number : Addr} {od_number an_number : Option Addr} {sl_number : Array (Option Value)} {oc_number kV_number dc_number pm_number cd_number ct_number : Value}
    {f_law_lowest : Addr} {od_law_lowest an_law_lowest : Option Addr} {sl_law_lowest : Array (Option Value)} {oc_law_lowest kV_law_lowest dc_law_lowest pm_law_lowest cd_law_lowest ct_law_lowest : Value}
    {f_law_made : Addr} {od_law_made an_law_made : Option Addr} {sl_law_made : Array (Option Value)} {oc_law_made kV_law_made dc_law_made pm_law_made cd_law_made ct_law_made : Value}
    {f_law_world : Addr} {od_law_world an_law_world : Option Addr} {sl_law_world : Array (Option Value)} {oc_law_world kV_law_world dc_law_world pm_law_world cd_law_world ct_law_world : Value}
    {f_law_number : Addr} {od_law_number an_law_number : Option Addr} {sl_law_number : Array (Option Value)} {oc_law_number kV_law_number dc_law_number pm_law_number cd_law_number ct_law_number : Value}
    {f_check_two_ : Addr} {od_check_two_ an_check_two_ : Option Addr} {sl_check_two_ : Array (Option Value)} {oc_check_two_ kV_check_two_ dc_check_two_ pm_check_two_ cd_check_two_ ct_check_two_ : Value}
    {f_plus : Addr} {od_plus an_plus : Option Addr} {sl_plus : Array (Option Value)} {oc_plus kV_plus dc_plus pm_plus cd_plus ct_plus : Value}
    {f_minus : Addr} {od_minus an_minus : Option Addr} {sl_minus : Array (Option Value)} {oc_minus kV_minus dc_minus pm_minus cd_minus ct_minus : Value}
    {f_times : Addr} {od_times an_times : Option Addr} {sl_times : Array (Option Value)} {oc_times kV_times dc_times pm_times cd_times ct_times : Value}
    {f_over : Addr} {od_over an_over : Option Addr} {sl_over : Array (Option Value)} {oc_over kV_over dc_over pm_over cd_over ct_over : Value}
    {f_power : Addr} {od_power an_power : Option Addr} {sl_power : Array (Option Value)} {oc_power kV_power dc_power pm_power cd_power ct_power : Value}
    {f_law_told : Addr} {od_law_told an_law_told : Option Addr} {sl_law_told : Array (Option Value)} {oc_law_told kV_law_told dc_law_told pm_law_told cd_law_told ct_law_told : Value}
    {f_law : Addr} {od_law an_law : Option Addr} {sl_law : Array (Option Value)} {oc_law kV_law dc_law pm_law cd_law ct_law : Value}
    {aP : Addr} {ddP : Option Addr} {nP : Nat} {slP : Array (Option Value)} {u2 u3 u5 u7 u11 u13 u17 u19 u23 u29 u31 : Tok}
    {CW : Addr}
    {CN : Addr}
    {CB : Addr}
    {CE : Addr}
    {dd_number : Option Addr} {un : Tok} {nn_number : Nat} {sd_number : Array (Option Value)}
    {tm : Tok}
    {aO : Addr} {ddO : Option Addr} {nO : Nat} {slO : Array (Option Value)} {uo1 uo2 : Tok}
    (a_is_world : PySem.W.nsIn K mainGlobals "is_world" = some (some (.ref f_is_world))) (l_is_world : K.lookup f_is_world = some ⟨oc_is_world, od_is_world, .func (PySem.W.fnOf "is_world" "is_world" (defArgs s_is_world) (defBody s_is_world) (defScope s_is_world) .none kV_is_world dc_is_world pm_is_world an_is_world cd_is_world ct_is_world), sl_is_world⟩) (c_is_world : PySem.W.codeIn K cd_is_world "is_world" = true) (k_is_world : PySem.W.keepIn K (.ref f_is_world) = true)
    (a_law_plain : PySem.W.nsIn K mainGlobals "_law_plain" = some (some (.ref f_law_plain))) (l_law_plain : K.lookup f_law_plain = some ⟨oc_law_plain, od_law_plain, .func (PySem.W.fnOf "_law_plain" "_law_plain" (defArgs s_law_plain) (defBody s_law_plain) (defScope s_law_plain) .none kV_law_plain dc_law_plain pm_law_plain an_law_plain cd_law_plain ct_law_plain), sl_law_plain⟩) (c_law_plain : PySem.W.codeIn K cd_law_plain "_law_plain" = true) (k_law_plain : PySem.W.keepIn K (.ref f_law_plain) = true)
    (a_law_next : PySem.W.nsIn K mainGlobals "_law_next" = some (some (.ref f_law_next))) (l_law_next : K.lookup f_law_next = some ⟨oc_law_next, od_law_next, .func (PySem.W.fnOf "_law_next" "_law_next" (defArgs s_law_next) (defBody s_law_next) (defScope s_law_next) .none kV_law_next dc_law_next pm_law_next an_law_next cd_law_next ct_law_next), sl_law_next⟩) (c_law_next : PySem.W.codeIn K cd_law_next "_law_next" = true) (k_law_next : PySem.W.keepIn K (.ref f_law_next) = true)
    (a_law_draws : PySem.W.nsIn K mainGlobals "_law_draws" = some (some (.ref f_law_draws))) (l_law_draws : K.lookup f_law_draws = some ⟨oc_law_draws, od_law_draws, .func (PySem.W.fnOf "_law_draws" "_law_draws" (defArgs s_law_draws) (defBody s_law_draws) (defScope s_law_draws) .none kV_law_draws dc_law_draws pm_law_draws an_law_draws cd_law_draws ct_law_draws), sl_law_draws⟩) (c_law_draws : PySem.W.codeIn K cd_law_draws "_law_draws" = true) (k_law_draws : PySem.W.keepIn K (.ref f_law_draws) = true)
    (a_check_world : PySem.W.nsIn K mainGlobals "check_world" = some (some (.ref f_check_world))) (l_check_world : K.lookup f_check_world = some ⟨oc_check_world, od_check_world, .func (PySem.W.fnOf "check_world" "check_world" (defArgs s_check_world) (defBody s_check_world) (defScope s_check_world) .none kV_check_world dc_check_world pm_check_world an_check_world cd_check_world ct_check_world), sl_check_world⟩) (c_check_world : PySem.W.codeIn K cd_check_world "check_world" = true) (k_check_world : PySem.W.keepIn K (.ref f_check_world) = true)
    (a_is_number : PySem.W.nsIn K mainGlobals "is_number" = some (some (.ref f_is_number))) (l_is_number : K.lookup f_is_number = some ⟨oc_is_number, od_is_number, .func (PySem.W.fnOf "is_number" "is_number" (defArgs s_is_number) (defBody s_is_number) (defScope s_is_number) .none kV_is_number dc_is_number pm_is_number an_is_number cd_is_number ct_is_number), sl_is_number⟩) (c_is_number : PySem.W.codeIn K cd_is_number "is_number" = true) (k_is_number : PySem.W.keepIn K (.ref f_is_number) = true)
    (a_check_number : PySem.W.nsIn K mainGlobals "check_number" = some (some (.ref f_check_number))) (l_check_number : K.lookup f_check_number = some ⟨oc_check_number, od_check_number, .func (PySem.W.fnOf "check_number" "check_number" (defArgs s_check_number) (defBody s_check_number) (defScope s_check_number) .none kV_check_number dc_check_number pm_check_number an_check_number cd_check_number ct_check_number), sl_check_number⟩) (c_check_number : PySem.W.codeIn K cd_check_number "check_number" = true) (k_check_number : PySem.W.keepIn K (.ref f_check_number) = true)
    (a_lowest_ : PySem.W.nsIn K mainGlobals "_lowest" = some (some (.ref f_lowest_))) (l_lowest_ : K.lookup f_lowest_ = some ⟨oc_lowest_, od_lowest_, .func (PySem.W.fnOf "_lowest" "_lowest" (defArgs s_lowest_) (defBody s_lowest_) (defScope s_lowest_) .none kV_lowest_ dc_lowest_ pm_lowest_ an_lowest_ cd_lowest_ ct_lowest_), sl_lowest_⟩) (c_lowest_ : PySem.W.codeIn K cd_lowest_ "_lowest" = true) (k_lowest_ : PySem.W.keepIn K (.ref f_lowest_) = true)
    (a_inverse_ : PySem.W.nsIn K mainGlobals "_inverse" = some (some (.ref f_inverse_))) (l_inverse_ : K.lookup f_inverse_ = some ⟨oc_inverse_, od_inverse_, .func (PySem.W.fnOf "_inverse" "_inverse" (defArgs s_inverse_) (defBody s_inverse_) (defScope s_inverse_) .none kV_inverse_ dc_inverse_ pm_inverse_ an_inverse_ cd_inverse_ ct_inverse_), sl_inverse_⟩) (c_inverse_ : PySem.W.codeIn K cd_inverse_ "_inverse" = true) (k_inverse_ : PySem.W.keepIn K (.ref f_inverse_) = true)
    (a_number : PySem.W.nsIn K mainGlobals "number" = some (some (.ref f_number))) (l_number : K.lookup f_number = some ⟨oc_number, od_number, .func (PySem.W.fnOf "number" "number" (defArgs s_number) (defBody s_number) (defScope s_number) (.ref dT_number) kV_number dc_number pm_number an_number cd_number ct_number), sl_number⟩) (c_number : PySem.W.codeIn K cd_number "number" = true) (k_number : PySem.W.keepIn K (.ref f_number) = true)
    (a_law_lowest : PySem.W.nsIn K mainGlobals "_law_lowest" = some (some (.ref f_law_lowest))) (l_law_lowest : K.lookup f_law_lowest = some ⟨oc_law_lowest, od_law_lowest, .func (PySem.W.fnOf "_law_lowest" "_law_lowest" (defArgs s_law_lowest) (defBody s_law_lowest) (defScope s_law_lowest) .none kV_law_lowest dc_law_lowest pm_law_lowest an_law_lowest cd_law_lowest ct_law_lowest), sl_law_lowest⟩) (c_law_lowest : PySem.W.codeIn K cd_law_lowest "_law_lowest" = true) (k_law_lowest : PySem.W.keepIn K (.ref f_law_lowest) = true)
    (a_law_made : PySem.W.nsIn K mainGlobals "_law_made" = some (some (.ref f_law_made))) (l_law_made : K.lookup f_law_made = some ⟨oc_law_made, od_law_made, .func (PySem.W.fnOf "_law_made" "_law_made" (defArgs s_law_made) (defBody s_law_made) (defScope s_law_made) .none kV_law_made dc_law_made pm_law_made an_law_made cd_law_made ct_law_made), sl_law_made⟩) (c_law_made : PySem.W.codeIn K cd_law_made "_law_made" = true) (k_law_made : PySem.W.keepIn K (.ref f_law_made) = true)
    (a_law_world : PySem.W.nsIn K mainGlobals "_law_world" = some (some (.ref f_law_world))) (l_law_world : K.lookup f_law_world = some ⟨oc_law_world, od_law_world, .func (PySem.W.fnOf "_law_world" "_law_world" (defArgs s_law_world) (defBody s_law_world) (defScope s_law_world) .none kV_law_world dc_law_world pm_law_world an_law_world cd_law_world ct_law_world), sl_law_world⟩) (c_law_world : PySem.W.codeIn K cd_law_world "_law_world" = true) (k_law_world : PySem.W.keepIn K (.ref f_law_world) = true)
    (a_law_number : PySem.W.nsIn K mainGlobals "_law_number" = some (some (.ref f_law_number))) (l_law_number : K.lookup f_law_number = some ⟨oc_law_number, od_law_number, .func (PySem.W.fnOf "_law_number" "_law_number" (defArgs s_law_number) (defBody s_law_number) (defScope s_law_number) .none kV_law_number dc_law_number pm_law_number an_law_number cd_law_number ct_law_number), sl_law_number⟩) (c_law_number : PySem.W.codeIn K cd_law_number "_law_number" = true) (k_law_number : PySem.W.keepIn K (.ref f_law_number) = true)
    (a_check_two_ : PySem.W.nsIn K mainGlobals "_check_two" = some (some (.ref f_check_two_))) (l_check_two_ : K.lookup f_check_two_ = some ⟨oc_check_two_, od_check_two_, .func (PySem.W.fnOf "_check_two" "_check_two" (defArgs s_check_two_) (defBody s_check_two_) (defScope s_check_two_) .none kV_check_two_ dc_check_two_ pm_check_two_ an_check_two_ cd_check_two_ ct_check_two_), sl_check_two_⟩) (c_check_two_ : PySem.W.codeIn K cd_check_two_ "_check_two" = true) (k_check_two_ : PySem.W.keepIn K (.ref f_check_two_) = true)
    (a_plus : PySem.W.nsIn K mainGlobals "plus" = some (some (.ref f_plus))) (l_plus : K.lookup f_plus = some ⟨oc_plus, od_plus, .func (PySem.W.fnOf "plus" "plus" (defArgs s_plus) (defBody s_plus) (defScope s_plus) .none kV_plus dc_plus pm_plus an_plus cd_plus ct_plus), sl_plus⟩) (c_plus : PySem.W.codeIn K cd_plus "plus" = true) (k_plus : PySem.W.keepIn K (.ref f_plus) = true)
    (a_minus : PySem.W.nsIn K mainGlobals "minus" = some (some (.ref f_minus))) (l_minus : K.lookup f_minus = some ⟨oc_minus, od_minus, .func (PySem.W.fnOf "minus" "minus" (defArgs s_minus) (defBody s_minus) (defScope s_minus) .none kV_minus dc_minus pm_minus an_minus cd_minus ct_minus), sl_minus⟩) (c_minus : PySem.W.codeIn K cd_minus "minus" = true) (k_minus : PySem.W.keepIn K (.ref f_minus) = true)
    (a_times : PySem.W.nsIn K mainGlobals "times" = some (some (.ref f_times))) (l_times : K.lookup f_times = some ⟨oc_times, od_times, .func (PySem.W.fnOf "times" "times" (defArgs s_times) (defBody s_times) (defScope s_times) .none kV_times dc_times pm_times an_times cd_times ct_times), sl_times⟩) (c_times : PySem.W.codeIn K cd_times "times" = true) (k_times : PySem.W.keepIn K (.ref f_times) = true)
    (a_over : PySem.W.nsIn K mainGlobals "over" = some (some (.ref f_over))) (l_over : K.lookup f_over = some ⟨oc_over, od_over, .func (PySem.W.fnOf "over" "over" (defArgs s_over) (defBody s_over) (defScope s_over) .none kV_over dc_over pm_over an_over cd_over ct_over), sl_over⟩) (c_over : PySem.W.codeIn K cd_over "over" = true) (k_over : PySem.W.keepIn K (.ref f_over) = true)
    (a_power : PySem.W.nsIn K mainGlobals "power" = some (some (.ref f_power))) (l_power : K.lookup f_power = some ⟨oc_power, od_power, .func (PySem.W.fnOf "power" "power" (defArgs s_power) (defBody s_power) (defScope s_power) .none kV_power dc_power pm_power an_power cd_power ct_power), sl_power⟩) (c_power : PySem.W.codeIn K cd_power "power" = true) (k_power : PySem.W.keepIn K (.ref f_power) = true)
    (a_law_told : PySem.W.nsIn K mainGlobals "_law_told" = some (some (.ref f_law_told))) (l_law_told : K.lookup f_law_told = some ⟨oc_law_told, od_law_told, .func (PySem.W.fnOf "_law_told" "_law_told" (defArgs s_law_told) (defBody s_law_told) (defScope s_law_told) .none kV_law_told dc_law_told pm_law_told an_law_told cd_law_told ct_law_told), sl_law_told⟩) (c_law_told : PySem.W.codeIn K cd_law_told "_law_told" = true) (k_law_told : PySem.W.keepIn K (.ref f_law_told) = true)
    (a_law : PySem.W.nsIn K mainGlobals "law" = some (some (.ref f_law))) (l_law : K.lookup f_law = some ⟨oc_law, od_law, .func (PySem.W.fnOf "law" "law" (defArgs s_law) (defBody s_law) (defScope s_law) .none kV_law dc_law pm_law an_law cd_law ct_law), sl_law⟩) (c_law : PySem.W.codeIn K cd_law "law" = true) (k_law : PySem.W.keepIn K (.ref f_law) = true)
    (zn_int : PySem.W.nsIn K mainGlobals "int" = some none)
    (zn_range : PySem.W.nsIn K mainGlobals "range" = some none)
    (zn_repr : PySem.W.nsIn K mainGlobals "repr" = some none)
    (zn_abs : PySem.W.nsIn K mainGlobals "abs" = some none)
    (zn_isinstance : PySem.W.nsIn K mainGlobals "isinstance" = some none)
    (n_gcd : PySem.W.nsIn K mainGlobals "gcd" = some (some (.builtin "math.gcd")))
    (n_PRIMES : PySem.W.nsIn K mainGlobals "PRIMES" = some (some (.ref aP)))
    (l_PRIMES : K.lookup aP = some ⟨.type "tuple", ddP, .seq #[.int 2 u2, .int 3 u3, .int 5 u5, .int 7 u7, .int 11 u11, .int 13 u13, .int 17 u17, .int 19 u19, .int 23 u23, .int 29 u29, .int 31 u31] nP, slP⟩)
    (n_NotWorld : PySem.W.nsIn K mainGlobals "NotWorld" = some (some (.ref CW)))
    (x_NotWorld : PySem.W.excIn K CW [.type "ValueError", .type "Exception", .type "BaseException", .type "object"] "ValueError.__new__" = true)
    (kc_NotWorld : PySem.W.keepIn K (.ref CW) = true)
    (bc_NotWorld : PySem.W.subIn K (.ref CW) (.type "BaseException") = some true)
    (tc_NotWorld : PySem.W.typeIn K (.ref CW) = some (.type "type"))
    (hg_NotWorld : PySem.W.findIn K (.ref CW) "__getattribute__" = some (some (.builtin "BaseException.__getattribute__")))
    (hk_NotWorld : PySem.W.findIn K (.ref CW) "__getattr__" = some none)
    (hd_NotWorld : PySem.W.hasDictIn K CW = true)
    (ha_NotWorld : PySem.W.findIn K (.ref CW) "__class__" = some (some (.builtin "object.__class__")))
    (hm_NotWorld : PySem.W.mroIn K CW (.type "object") = some true)
    (n_NotNumber : PySem.W.nsIn K mainGlobals "NotNumber" = some (some (.ref CN)))
    (x_NotNumber : PySem.W.excIn K CN [.type "ValueError", .type "Exception", .type "BaseException", .type "object"] "ValueError.__new__" = true)
    (kc_NotNumber : PySem.W.keepIn K (.ref CN) = true)
    (bc_NotNumber : PySem.W.subIn K (.ref CN) (.type "BaseException") = some true)
    (tc_NotNumber : PySem.W.typeIn K (.ref CN) = some (.type "type"))
    (hg_NotNumber : PySem.W.findIn K (.ref CN) "__getattribute__" = some (some (.builtin "BaseException.__getattribute__")))
    (hk_NotNumber : PySem.W.findIn K (.ref CN) "__getattr__" = some none)
    (hd_NotNumber : PySem.W.hasDictIn K CN = true)
    (ha_NotNumber : PySem.W.findIn K (.ref CN) "__class__" = some (some (.builtin "object.__class__")))
    (hm_NotNumber : PySem.W.mroIn K CN (.type "object") = some true)
    (n_BadNumber : PySem.W.nsIn K mainGlobals "BadNumber" = some (some (.ref CB)))
    (x_BadNumber : PySem.W.excIn K CB [.type "ValueError", .type "Exception", .type "BaseException", .type "object"] "ValueError.__new__" = true)
    (kc_BadNumber : PySem.W.keepIn K (.ref CB) = true)
    (bc_BadNumber : PySem.W.subIn K (.ref CB) (.type "BaseException") = some true)
    (tc_BadNumber : PySem.W.typeIn K (.ref CB) = some (.type "type"))
    (hg_BadNumber : PySem.W.findIn K (.ref CB) "__getattribute__" = some (some (.builtin "BaseException.__getattribute__")))
    (hk_BadNumber : PySem.W.findIn K (.ref CB) "__getattr__" = some none)
    (hd_BadNumber : PySem.W.hasDictIn K CB = true)
    (ha_BadNumber : PySem.W.findIn K (.ref CB) "__class__" = some (some (.builtin "object.__class__")))
    (hm_BadNumber : PySem.W.mroIn K CB (.type "object") = some true)
    (hn_cls : PySem.W.specialIn K (.builtin "object.__class__") "__get__" = some (some (.builtin "getset_descriptor.__get__")))
    (ht_cls : PySem.W.takesIn K (.builtin "object.__class__") = some true)
    (n_WorthError : PySem.W.nsIn K mainGlobals "WorthError" = some (some (.ref CE)))
    (ebc : PySem.W.subIn K (.ref CE) (.type "BaseException") = some true)
    (ehd : PySem.W.hasDictIn K CE = true)
    (ety : PySem.W.typeIn K (.ref CE) = some (.type "type"))
    (sCW : PySem.W.subIn K (.ref CW) (.ref CE) = some true)
    (sCN : PySem.W.subIn K (.ref CN) (.ref CE) = some true)
    (sCB : PySem.W.subIn K (.ref CB) (.ref CE) = some true)
    (tCWCW : PySem.W.kitOne K (.ref CW) (.ref CW) = some true)
    (tCWCN : PySem.W.kitOne K (.ref CW) (.ref CN) = some false)
    (tCWCB : PySem.W.kitOne K (.ref CW) (.ref CB) = some false)
    (tCNCW : PySem.W.kitOne K (.ref CN) (.ref CW) = some false)
    (tCNCN : PySem.W.kitOne K (.ref CN) (.ref CN) = some true)
    (tCNCB : PySem.W.kitOne K (.ref CN) (.ref CB) = some false)
    (tCBCW : PySem.W.kitOne K (.ref CB) (.ref CW) = some false)
    (tCBCN : PySem.W.kitOne K (.ref CB) (.ref CN) = some false)
    (tCBCB : PySem.W.kitOne K (.ref CB) (.ref CB) = some true)
    (ld_number : K.lookup dT_number = some ⟨.type "tuple", dd_number, .seq #[.int 1 un] nn_number, sd_number⟩)
    (n_MOST_POWER : PySem.W.nsIn K mainGlobals "MOST_POWER" = some (some (.int 200 tm)))
    (n_ONE : PySem.W.nsIn K mainGlobals "ONE" = some (some (.ref aO)))
    (l_ONE : K.lookup aO = some ⟨.type "tuple", ddO, .seq #[.int 1 uo1, .int 1 uo2] nO, slO⟩)
    : ∃ fd : FuncData, (∀ (s : Shared) (v : Value), BindsTo s fd ⟨[v], []⟩ [("script", v)]) ∧ ∀ base : Heap, K.In base → base.Ns mainGlobals mg → FnG P w K mg base 9 fa fd ["script"] (spLaw K) := by
  have e := hfa.symm.trans (PySem.W.mg_of X G a_law)
  cases e
  have F_is_world := fun_mk (st := s_is_world) l_is_world c_is_world k_is_world
  have g_is_world := PySem.W.mg_of X G a_is_world
  have b_is_world := F_is_world.binds (ps := ["world"]) fun _ _ _ _ _ _ us hl => match us, hl with | [_], _ => rfl
  have F_law_plain := fun_mk (st := s_law_plain) l_law_plain c_law_plain k_law_plain
  have g_law_plain := PySem.W.mg_of X G a_law_plain
  have b_law_plain := F_law_plain.binds (ps := ["cell"]) fun _ _ _ _ _ _ us hl => match us, hl with | [_], _ => rfl
  have F_law_next := fun_mk (st := s_law_next) l_law_next c_law_next k_law_next
  have g_law_next := PySem.W.mg_of X G a_law_next
  have b_law_next := F_law_next.binds (ps := ["draws"]) fun _ _ _ _ _ _ us hl => match us, hl with | [_], _ => rfl
  have F_law_draws := fun_mk (st := s_law_draws) l_law_draws c_law_draws k_law_draws
  have g_law_draws := PySem.W.mg_of X G a_law_draws
  have b_law_draws := F_law_draws.binds (ps := ["script"]) fun _ _ _ _ _ _ us hl => match us, hl with | [_], _ => rfl
  have F_check_world := fun_mk (st := s_check_world) l_check_world c_check_world k_check_world
  have g_check_world := PySem.W.mg_of X G a_check_world
  have b_check_world := F_check_world.binds (ps := ["world"]) fun _ _ _ _ _ _ us hl => match us, hl with | [_], _ => rfl
  have F_is_number := fun_mk (st := s_is_number) l_is_number c_is_number k_is_number
  have g_is_number := PySem.W.mg_of X G a_is_number
  have b_is_number := F_is_number.binds (ps := ["world", "x"]) fun _ _ _ _ _ _ us hl => match us, hl with | [_, _], _ => rfl
  have F_check_number := fun_mk (st := s_check_number) l_check_number c_check_number k_check_number
  have g_check_number := PySem.W.mg_of X G a_check_number
  have b_check_number := F_check_number.binds (ps := ["world", "x"]) fun _ _ _ _ _ _ us hl => match us, hl with | [_, _], _ => rfl
  have F_lowest_ := fun_mk (st := s_lowest_) l_lowest_ c_lowest_ k_lowest_
  have g_lowest_ := PySem.W.mg_of X G a_lowest_
  have b_lowest_ := F_lowest_.binds (ps := ["a", "b"]) fun _ _ _ _ _ _ us hl => match us, hl with | [_, _], _ => rfl
  have F_inverse_ := fun_mk (st := s_inverse_) l_inverse_ c_inverse_ k_inverse_
  have g_inverse_ := PySem.W.mg_of X G a_inverse_
  have b_inverse_ := F_inverse_.binds (ps := ["p", "b"]) fun _ _ _ _ _ _ us hl => match us, hl with | [_, _], _ => rfl
  have F_number : FunA K "number" "number" s_number f_number _ := ⟨⟨_, _, _, _, _, _, _, _, _, _, rfl, l_number, c_number⟩, k_number⟩
  have g_number := PySem.W.mg_of X G a_number
  have F_law_lowest := fun_mk (st := s_law_lowest) l_law_lowest c_law_lowest k_law_lowest
  have g_law_lowest := PySem.W.mg_of X G a_law_lowest
  have b_law_lowest := F_law_lowest.binds (ps := ["a", "b"]) fun _ _ _ _ _ _ us hl => match us, hl with | [_, _], _ => rfl
  have F_law_made := fun_mk (st := s_law_made) l_law_made c_law_made k_law_made
  have g_law_made := PySem.W.mg_of X G a_law_made
  have b_law_made := F_law_made.binds (ps := ["p", "a", "b"]) fun _ _ _ _ _ _ us hl => match us, hl with | [_, _, _], _ => rfl
  have F_law_world := fun_mk (st := s_law_world) l_law_world c_law_world k_law_world
  have g_law_world := PySem.W.mg_of X G a_law_world
  have b_law_world := F_law_world.binds (ps := ["draws"]) fun _ _ _ _ _ _ us hl => match us, hl with | [_], _ => rfl
  have F_law_number := fun_mk (st := s_law_number) l_law_number c_law_number k_law_number
  have g_law_number := PySem.W.mg_of X G a_law_number
  have b_law_number := F_law_number.binds (ps := ["draws", "world"]) fun _ _ _ _ _ _ us hl => match us, hl with | [_, _], _ => rfl
  have F_check_two_ := fun_mk (st := s_check_two_) l_check_two_ c_check_two_ k_check_two_
  have g_check_two_ := PySem.W.mg_of X G a_check_two_
  have b_check_two_ := F_check_two_.binds (ps := ["world", "x", "y"]) fun _ _ _ _ _ _ us hl => match us, hl with | [_, _, _], _ => rfl
  have F_plus := fun_mk (st := s_plus) l_plus c_plus k_plus
  have g_plus := PySem.W.mg_of X G a_plus
  have b_plus := F_plus.binds (ps := ["world", "x", "y"]) fun _ _ _ _ _ _ us hl => match us, hl with | [_, _, _], _ => rfl
  have F_minus := fun_mk (st := s_minus) l_minus c_minus k_minus
  have g_minus := PySem.W.mg_of X G a_minus
  have b_minus := F_minus.binds (ps := ["world", "x", "y"]) fun _ _ _ _ _ _ us hl => match us, hl with | [_, _, _], _ => rfl
  have F_times := fun_mk (st := s_times) l_times c_times k_times
  have g_times := PySem.W.mg_of X G a_times
  have b_times := F_times.binds (ps := ["world", "x", "y"]) fun _ _ _ _ _ _ us hl => match us, hl with | [_, _, _], _ => rfl
  have F_over := fun_mk (st := s_over) l_over c_over k_over
  have g_over := PySem.W.mg_of X G a_over
  have b_over := F_over.binds (ps := ["world", "x", "y"]) fun _ _ _ _ _ _ us hl => match us, hl with | [_, _, _], _ => rfl
  have F_power := fun_mk (st := s_power) l_power c_power k_power
  have g_power := PySem.W.mg_of X G a_power
  have b_power := F_power.binds (ps := ["world", "x", "count"]) fun _ _ _ _ _ _ us hl => match us, hl with | [_, _, _], _ => rfl
  have F_law_told := fun_mk (st := s_law_told) l_law_told c_law_told k_law_told
  have g_law_told := PySem.W.mg_of X G a_law_told
  have b_law_told := F_law_told.binds (ps := ["way", "world", "x", "y"]) fun _ _ _ _ _ _ us hl => match us, hl with | [_, _, _, _], _ => rfl
  have F_law := fun_mk (st := s_law) l_law c_law k_law
  have g_law := PySem.W.mg_of X G a_law
  have b_law := F_law.binds (ps := ["script"]) fun _ _ _ _ _ _ us hl => match us, hl with | [_], _ => rfl
  have z_int := PySem.W.mg_none_of X G zn_int
  have z_range := PySem.W.mg_none_of X G zn_range
  have z_repr := PySem.W.mg_none_of X G zn_repr
  have z_abs := PySem.W.mg_none_of X G zn_abs
  have z_isinstance := PySem.W.mg_none_of X G zn_isinstance
  have m_gcd := PySem.W.mg_of X G n_gcd
  have m_PRIMES := PySem.W.mg_of X G n_PRIMES
  have tP : ∀ H, SqT K H aP (primes.map V.int) := fun H => .inr ⟨_, _, _, l_PRIMES, rfl, rfl, (by show 11 ≤ sizeLine; decide), .cons ⟨_, rfl⟩ (.cons ⟨_, rfl⟩ (.cons ⟨_, rfl⟩ (.cons ⟨_, rfl⟩ (.cons ⟨_, rfl⟩ (.cons ⟨_, rfl⟩ (.cons ⟨_, rfl⟩ (.cons ⟨_, rfl⟩ (.cons ⟨_, rfl⟩ (.cons ⟨_, rfl⟩ (.cons ⟨_, rfl⟩ (.nil)))))))))))⟩
  have E_NotWorld : ErrC K mg "NotWorld" CW := ⟨PySem.W.mg_of X G n_NotWorld, x_NotWorld, kc_NotWorld, bc_NotWorld, tc_NotWorld⟩
  have I_NotWorld : ExcC K CW := ⟨hg_NotWorld, hk_NotWorld, bc_NotWorld, hd_NotWorld, ha_NotWorld, hn_cls, ht_cls, hm_NotWorld⟩
  have E_NotNumber : ErrC K mg "NotNumber" CN := ⟨PySem.W.mg_of X G n_NotNumber, x_NotNumber, kc_NotNumber, bc_NotNumber, tc_NotNumber⟩
  have I_NotNumber : ExcC K CN := ⟨hg_NotNumber, hk_NotNumber, bc_NotNumber, hd_NotNumber, ha_NotNumber, hn_cls, ht_cls, hm_NotNumber⟩
  have E_BadNumber : ErrC K mg "BadNumber" CB := ⟨PySem.W.mg_of X G n_BadNumber, x_BadNumber, kc_BadNumber, bc_BadNumber, tc_BadNumber⟩
  have I_BadNumber : ExcC K CB := ⟨hg_BadNumber, hk_BadNumber, bc_BadNumber, hd_BadNumber, ha_BadNumber, hn_cls, ht_cls, hm_BadNumber⟩
  have T_told : ErrT K mg CE CW CN CB := ⟨PySem.W.mg_of X G n_WorthError, ebc, ehd, ety, PySem.W.mg_of X G n_NotWorld, PySem.W.mg_of X G n_NotNumber, PySem.W.mg_of X G n_BadNumber, I_NotWorld, I_NotNumber, I_BadNumber, sCW, sCN, sCB, tCWCW, tCWCN, tCWCB, tCNCW, tCNCN, tCNCB, tCBCW, tCBCN, tCBCB⟩
  have b_number : Binds K (PySem.W.fnOf "number" "number" (defArgs s_number) (defBody s_number) (defScope s_number) (.ref dT_number) kV_number dc_number pm_number an_number cd_number ct_number) ["world", "a", "b"] [] := by
        obtain ⟨ds, hv, hb⟩ := FunD.binds1 (K := K) (kws := []) (dvs := [.int 1]) (ps := ["world", "a", "b"]) ⟨⟨_, _, _, _, _, _, _, _, _, _, rfl, l_number, c_number, .inr ⟨(fun z => nomatch z), dT_number, _, [_], _, rfl, ld_number, rfl, .cons ⟨_, rfl⟩ .nil⟩, .inl rfl⟩, k_number⟩ 3 1 (fun z => nomatch z) rfl
          (fun T kV doc pm an cdv ct us its hl hl2 => match us, its, hl, hl2 with | [_, _, _], [_], _, _ => ⟨_, rfl, rfl⟩)
        cases hv
        exact hb
  have m_MOST_POWER := PySem.W.mg_of X G n_MOST_POWER
  have m_ONE := PySem.W.mg_of X G n_ONE
  have tO : ∀ H, SqT K H aO [.int 1, .int 1] := fun H => .inr ⟨_, _, _, l_ONE, rfl, rfl, (by show 2 ≤ sizeLine; decide), .cons ⟨_, rfl⟩ (.cons ⟨_, rfl⟩ .nil)⟩
  refine ⟨PySem.W.fnOf "law" "law" (defArgs s_law) (defBody s_law) (defScope s_law) .none kV_law dc_law pm_law an_law cd_law ct_law, fun s v => .of_eq rfl, fun base _ _ => ?_⟩
  have G_is_world := ok_is_world (P := P) (w := w) (mg := mg) (base := base) (F := F_is_world) (m_PRIMES := m_PRIMES) (tP := tP)
  have G_law_plain := ok_plain (P := P) (w := w) (mg := mg) (base := base) (F := F_law_plain)
  have G_law_next := ok_next (P := P) (w := w) (mg := mg) (base := base) (F := F_law_next)
  have G_law_draws := ok_draws (P := P) (w := w) (mg := mg) (base := base) (F := F_law_draws) (z_range := z_range) (z_int := z_int) (G_law_plain := G_law_plain) (g_law_plain := g_law_plain) (k_law_plain := k_law_plain) (b_law_plain := b_law_plain)
  have G_check_world := ok_check_world (P := P) (w := w) (mg := mg) (base := base) (F := F_check_world) (T := E_NotWorld) (G_is_world := G_is_world) (g_is_world := g_is_world) (k_is_world := k_is_world) (b_is_world := b_is_world)
  have G_is_number := ok_is_number (P := P) (w := w) (mg := mg) (base := base) (F := F_is_number) (m_gcd := m_gcd) (G_check_world := G_check_world) (g_check_world := g_check_world) (k_check_world := k_check_world) (b_check_world := b_check_world)
  have G_check_number := ok_check_number (P := P) (w := w) (mg := mg) (base := base) (F := F_check_number) (T := E_NotNumber) (G_is_number := G_is_number) (g_is_number := g_is_number) (k_is_number := k_is_number) (b_is_number := b_is_number)
  have G_lowest_ := ok_lowest (P := P) (w := w) (mg := mg) (base := base) (F := F_lowest_) (m_gcd := m_gcd)
  have G_inverse_ := ok_inverse (P := P) (w := w) (mg := mg) (base := base) (F := F_inverse_)
  have G_number := ok_number (P := P) (w := w) (mg := mg) (base := base) (F := F_number) (T := E_BadNumber) (G_check_world := G_check_world) (g_check_world := g_check_world) (k_check_world := k_check_world) (b_check_world := b_check_world) (G_inverse_ := G_inverse_) (g_inverse_ := g_inverse_) (k_inverse_ := k_inverse_) (b_inverse_ := b_inverse_) (G_lowest_ := G_lowest_) (g_lowest_ := g_lowest_) (k_lowest_ := k_lowest_) (b_lowest_ := b_lowest_)
  have G_law_lowest := ok_law_lowest (P := P) (w := w) (mg := mg) (base := base) (F := F_law_lowest) (z_range := z_range) (z_int := z_int) (z_abs := z_abs)
  have G_law_made := ok_law_made (P := P) (w := w) (mg := mg) (base := base) (F := F_law_made) (z_range := z_range) (z_int := z_int) (G_law_lowest := G_law_lowest) (g_law_lowest := g_law_lowest) (k_law_lowest := k_law_lowest) (b_law_lowest := b_law_lowest)
  have G_law_world := ok_law_world (P := P) (w := w) (mg := mg) (base := base) (F := F_law_world) (z_int := z_int) (G_law_next := G_law_next) (g_law_next := g_law_next) (k_law_next := k_law_next) (b_law_next := b_law_next)
  have G_law_number := ok_law_number (P := P) (w := w) (mg := mg) (base := base) (F := F_law_number) (z_int := z_int) (G_law_next := G_law_next) (g_law_next := g_law_next) (k_law_next := k_law_next) (b_law_next := b_law_next) (G_law_lowest := G_law_lowest) (g_law_lowest := g_law_lowest) (k_law_lowest := k_law_lowest) (b_law_lowest := b_law_lowest)
  have G_check_two_ := ok_check_two (P := P) (w := w) (mg := mg) (base := base) (F := F_check_two_) (G_check_number := G_check_number) (g_check_number := g_check_number) (k_check_number := k_check_number) (b_check_number := b_check_number)
  have G_plus := ok_plus (P := P) (w := w) (mg := mg) (base := base) (F := F_plus) (G_check_two_ := G_check_two_) (g_check_two_ := g_check_two_) (k_check_two_ := k_check_two_) (b_check_two_ := b_check_two_) (G_number := G_number) (g_number := g_number) (k_number := k_number) (b_number := b_number)
  have G_minus := ok_minus (P := P) (w := w) (mg := mg) (base := base) (F := F_minus) (G_check_two_ := G_check_two_) (g_check_two_ := g_check_two_) (k_check_two_ := k_check_two_) (b_check_two_ := b_check_two_) (G_number := G_number) (g_number := g_number) (k_number := k_number) (b_number := b_number)
  have G_times := ok_times (P := P) (w := w) (mg := mg) (base := base) (F := F_times) (G_check_two_ := G_check_two_) (g_check_two_ := g_check_two_) (k_check_two_ := k_check_two_) (b_check_two_ := b_check_two_) (G_number := G_number) (g_number := g_number) (k_number := k_number) (b_number := b_number)
  have G_over := ok_over (P := P) (w := w) (mg := mg) (base := base) (F := F_over) (G_check_two_ := G_check_two_) (g_check_two_ := g_check_two_) (k_check_two_ := k_check_two_) (b_check_two_ := b_check_two_) (G_number := G_number) (g_number := g_number) (k_number := k_number) (b_number := b_number)
  have G_power := ok_power (P := P) (w := w) (mg := mg) (base := base) (F := F_power) (T := E_BadNumber) (z_range := z_range) (m_MOST_POWER := m_MOST_POWER) (m_ONE := m_ONE) (tO := tO) (G_check_number := G_check_number) (g_check_number := g_check_number) (k_check_number := k_check_number) (b_check_number := b_check_number) (G_times := G_times) (g_times := g_times) (k_times := k_times) (b_times := b_times)
  have G_law_told := ok_told2 (P := P) (w := w) (mg := mg) (base := base) (F := F_law_told) (T := T_told) (z_isinstance := z_isinstance) (G_plus := G_plus) (g_plus := g_plus) (k_plus := k_plus) (b_plus := b_plus) (G_minus := G_minus) (g_minus := g_minus) (k_minus := k_minus) (b_minus := b_minus) (G_times := G_times) (g_times := g_times) (k_times := k_times) (b_times := b_times) (G_over := G_over) (g_over := g_over) (k_over := k_over) (b_over := b_over) (G_power := G_power) (g_power := g_power) (k_power := k_power) (b_power := b_power)
  exact ok_law (P := P) (w := w) (mg := mg) (base := base) (F := F_law) (z_int := z_int) (z_range := z_range) (z_repr := z_repr) (G_law_draws := G_law_draws) (g_law_draws := g_law_draws) (k_law_draws := k_law_draws) (b_law_draws := b_law_draws) (G_law_next := G_law_next) (g_law_next := g_law_next) (k_law_next := k_law_next) (b_law_next := b_law_next) (G_law_world := G_law_world) (g_law_world := g_law_world) (k_law_world := k_law_world) (b_law_world := b_law_world) (G_law_number := G_law_number) (g_law_number := g_law_number) (k_law_number := k_law_number) (b_law_number := b_law_number) (G_law_made := G_law_made) (g_law_made := g_law_made) (k_law_made := k_law_made) (b_law_made := b_law_made) (G_law_told := G_law_told) (g_law_told := g_law_told) (k_law_told := k_law_told) (b_law_told := b_law_told) (G_power := G_power) (g_power := g_power) (k_power := k_power) (b_power := b_power)
end T
open PySem PySem.W PyProof.Rows
set_option maxHeartbeats 0 in
theorem PySem.Challenge.cw_threadworth_k01_sums_and_products_holds : PySem.Challenge.rw_threadworth_k01_sums_and_products.Holds := by
  w_on; o_law; k_head; (case hw => w_witness2)
  k_fill
  refine L2.walk_ofG (l := PySem.Challenge.rw_threadworth_k01_sums_and_products) (n := 63) (k := 9) (x := "script") (sp := fun w => T.spLaw _) rfl (by decide) rfl ⟨rfl, by decide, by decide⟩ (fun w h Y => PySem.W.kIn_of Y) ?F (fun _ _ a ns hl hS => ⟨a, ns, rfl, hS, hl, fun _ => rfl⟩)
  case F =>
    intro w mg fa h KX G hmg
    refine' T.all_mk KX G hmg ?a_is_world ?l_is_world ?c_is_world ?k_is_world ?a_law_plain ?l_law_plain ?c_law_plain ?k_law_plain ?a_law_next ?l_law_next ?c_law_next ?k_law_next ?a_law_draws ?l_law_draws ?c_law_draws ?k_law_draws ?a_check_world ?l_check_world ?c_check_world ?k_check_world ?a_is_number ?l_is_number ?c_is_number ?k_is_number ?a_check_number ?l_check_number ?c_check_number ?k_check_number ?a_lowest_ ?l_lowest_ ?c_lowest_ ?k_lowest_ ?a_inverse_ ?l_inverse_ ?c_inverse_ ?k_inverse_ ?a_number ?l_number ?c_number ?k_number ?a_law_lowest ?l_law_lowest ?c_law_lowest ?k_law_lowest ?a_law_made ?l_law_made ?c_law_made ?k_law_made ?a_law_world ?l_law_world ?c_law_world ?k_law_world ?a_law_number ?l_law_number ?c_law_number ?k_law_number ?a_check_two_ ?l_check_two_ ?c_check_two_ ?k_check_two_ ?a_plus ?l_plus ?c_plus ?k_plus ?a_minus ?l_minus ?c_minus ?k_minus ?a_times ?l_times ?c_times ?k_times ?a_over ?l_over ?c_over ?k_over ?a_power ?l_power ?c_power ?k_power ?a_law_told ?l_law_told ?c_law_told ?k_law_told ?a_law ?l_law ?c_law ?k_law ?zn_int ?zn_range ?zn_repr ?zn_abs ?zn_isinstance ?n_gcd ?n_PRIMES ?l_PRIMES ?n_NotWorld ?x_NotWorld ?kc_NotWorld ?bc_NotWorld ?tc_NotWorld ?hg_NotWorld ?hk_NotWorld ?hd_NotWorld ?ha_NotWorld ?hm_NotWorld ?n_NotNumber ?x_NotNumber ?kc_NotNumber ?bc_NotNumber ?tc_NotNumber ?hg_NotNumber ?hk_NotNumber ?hd_NotNumber ?ha_NotNumber ?hm_NotNumber ?n_BadNumber ?x_BadNumber ?kc_BadNumber ?bc_BadNumber ?tc_BadNumber ?hg_BadNumber ?hk_BadNumber ?hd_BadNumber ?ha_BadNumber ?hm_BadNumber ?hn_cls ?ht_cls ?n_WorthError ?ebc ?ehd ?ety ?sCW ?sCN ?sCB ?tCWCW ?tCWCN ?tCWCB ?tCNCW ?tCNCN ?tCNCB ?tCBCW ?tCBCN ?tCBCB ?ld_number ?n_MOST_POWER ?n_ONE ?l_ONE
    (case a_is_world => k_is); (case l_is_world => k_is); (case c_is_world => k_is); (case k_is_world => k_is); (case a_law_plain => k_is); (case l_law_plain => k_is); (case c_law_plain => k_is); (case k_law_plain => k_is)
    (case a_law_next => k_is); (case l_law_next => k_is); (case c_law_next => k_is); (case k_law_next => k_is); (case a_law_draws => k_is); (case l_law_draws => k_is); (case c_law_draws => k_is); (case k_law_draws => k_is)
    (case a_check_world => k_is); (case l_check_world => k_is); (case c_check_world => k_is); (case k_check_world => k_is); (case a_is_number => k_is); (case l_is_number => k_is); (case c_is_number => k_is); (case k_is_number => k_is)
    (case a_check_number => k_is); (case l_check_number => k_is); (case c_check_number => k_is); (case k_check_number => k_is); (case a_lowest_ => k_is); (case l_lowest_ => k_is); (case c_lowest_ => k_is); (case k_lowest_ => k_is)
    (case a_inverse_ => k_is); (case l_inverse_ => k_is); (case c_inverse_ => k_is); (case k_inverse_ => k_is); (case a_number => k_is); (case l_number => k_is); (case c_number => k_is); (case k_number => k_is)
    (case a_law_lowest => k_is); (case l_law_lowest => k_is); (case c_law_lowest => k_is); (case k_law_lowest => k_is); (case a_law_made => k_is); (case l_law_made => k_is); (case c_law_made => k_is); (case k_law_made => k_is)
    (case a_law_world => k_is); (case l_law_world => k_is); (case c_law_world => k_is); (case k_law_world => k_is); (case a_law_number => k_is); (case l_law_number => k_is); (case c_law_number => k_is); (case k_law_number => k_is)
    (case a_check_two_ => k_is); (case l_check_two_ => k_is); (case c_check_two_ => k_is); (case k_check_two_ => k_is); (case a_plus => k_is); (case l_plus => k_is); (case c_plus => k_is); (case k_plus => k_is)
    (case a_minus => k_is); (case l_minus => k_is); (case c_minus => k_is); (case k_minus => k_is); (case a_times => k_is); (case l_times => k_is); (case c_times => k_is); (case k_times => k_is)
    (case a_over => k_is); (case l_over => k_is); (case c_over => k_is); (case k_over => k_is); (case a_power => k_is); (case l_power => k_is); (case c_power => k_is); (case k_power => k_is)
    (case a_law_told => k_is); (case l_law_told => k_is); (case c_law_told => k_is); (case k_law_told => k_is); (case a_law => k_is); (case l_law => k_is); (case c_law => k_is); (case k_law => k_is)
    (case zn_int => k_is); (case zn_range => k_is); (case zn_repr => k_is); (case zn_abs => k_is); (case zn_isinstance => k_is); (case n_gcd => k_is); (case n_PRIMES => k_is); (case l_PRIMES => k_is)
    (case n_NotWorld => k_is); (case x_NotWorld => k_exc); (case kc_NotWorld => k_is); (case bc_NotWorld => k_is); (case tc_NotWorld => k_is); (case hg_NotWorld => k_is); (case hk_NotWorld => k_is); (case hd_NotWorld => k_is)
    (case ha_NotWorld => k_is); (case hm_NotWorld => k_is); (case n_NotNumber => k_is); (case x_NotNumber => k_exc); (case kc_NotNumber => k_is); (case bc_NotNumber => k_is); (case tc_NotNumber => k_is); (case hg_NotNumber => k_is)
    (case hk_NotNumber => k_is); (case hd_NotNumber => k_is); (case ha_NotNumber => k_is); (case hm_NotNumber => k_is); (case n_BadNumber => k_is); (case x_BadNumber => k_exc); (case kc_BadNumber => k_is); (case bc_BadNumber => k_is)
    (case tc_BadNumber => k_is); (case hg_BadNumber => k_is); (case hk_BadNumber => k_is); (case hd_BadNumber => k_is); (case ha_BadNumber => k_is); (case hm_BadNumber => k_is); (case hn_cls => k_is); (case ht_cls => k_is)
    (case n_WorthError => k_is); (case ebc => k_is); (case ehd => k_is); (case ety => k_is); (case sCW => k_is); (case sCN => k_is); (case sCB => k_is); (case tCWCW => kit_is)
    (case tCWCN => kit_is); (case tCWCB => kit_is); (case tCNCW => kit_is); (case tCNCN => kit_is); (case tCNCB => kit_is); (case tCBCW => kit_is); (case tCBCN => kit_is); (case tCBCB => kit_is)
    (case ld_number => k_is); (case n_MOST_POWER => k_is); (case n_ONE => k_is); (case l_ONE => k_is)
