import PyProof.Rows.All
import Wide.All
import OpenK.AllK
import Wide.FinOn
import HandS.ForMost
import HandS.IsInst
import HandS.Zip
import HandS.Walk
import HandS.Exc
import HandS.Wide
import HandS.SortKw
import KE.GoesMore
import KE.GoesEnum
import KE.DataMinMax
import HandS.TupAny
import KE.GoesZip
import PySem.Challenge.RW_haulropes_k27_whole_texts_and_bytes_of_p
import HandS.More
import HandS.ToBytes
import HandS.BytesMake
import KE.KBytesWalk
import HandS.Conv
import KE.KDictList
import PyProof.SumAny
import PyProof.CollectWalk
import HandS.Text
import HandS.StrMore
import KE.IntTextLaws
import PyProof.Rows.StrDigitsNeg
import PyProof.Rows.ReprOcc
import KE.KDictZip
import HandS.Zip0
import HandS.ListItems
import HandS.ExcOwn
import HandS.TryOnly
import HandS.WordsExc
import HandS.DictComp
import HandS.Defaults
import HandS.NoneIn
import HandS.Deep
import HandS.TupMul
import HandS.RevRange
import HandS.Style
set_option Elab.async false
set_option linter.all false
set_option maxRecDepth 100000
/-! Readings by rewriting: each word of a reading, applied, as an equation; then simp does the walking. -/
namespace Hx
open PySem PySem.Spec PyProof.Rows L2

section eqs
variable {K : PySem.W.Frag} {σ : L2.St} {H : Hp} {Q : VK} {QB : Bool → Hp → Prop} {QL : List V → Hp → Prop} {D : Ends} {i j n : Nat} {v : V} {ta tb tc te : TE} {tA tB' tt : TT} {a : TA} {r r' : R2} {t u : TS} {g : TG} {gs : TGs}
theorem q_var : tVar i σ H Q = ∃ v, σ[i]? = some (some v) ∧ Q v H := rfl
theorem q_c : tC v σ H Q = Q v H := rfl
theorem q_op : tOp r ta tb σ H Q = ta σ H fun x H1 => tb σ H1 fun y H2 => r x y H2 Q := rfl
theorem q_un {ru : V → Hp → VK → Prop} : tUn ru ta σ H Q = ta σ H fun x H1 => ru x H1 Q := rfl
theorem q_rI {C : Int → Int → Prop} {f : Int → Int → V} {x y : Int} : rI C f (.int x) (.int y) H Q = (C x y ∧ Q (f x y) H) := by
  apply propext; constructor
  · rintro ⟨_, _, e1, e2, c, q⟩; cases e1; cases e2; exact ⟨c, q⟩
  · rintro ⟨c, q⟩; exact ⟨_, _, rfl, rfl, c, q⟩
theorem q_rI0 {f : Int → Int → V} {x y : Int} : rI0 f (.int x) (.int y) H Q = Q (f x y) H := by
  apply propext; constructor
  · rintro ⟨_, _, e1, e2, q⟩; cases e1; cases e2; exact q
  · intro q; exact ⟨_, _, rfl, rfl, q⟩
theorem q_rU {f : Int → V} {x : Int} : rU f (.int x) H Q = Q (f x) H := by
  apply propext; constructor
  · rintro ⟨_, e1, q⟩; cases e1; exact q
  · intro q; exact ⟨_, rfl, q⟩
theorem q_rEq {x y : V} : rEq x y H Q = (scal x y = true ∧ Q (.bl (decide (x = y))) H) := rfl
theorem q_rNe {x y : V} : rNe x y H Q = (scal x y = true ∧ Q (.bl (!decide (x = y))) H) := rfl
theorem q_test : tTest te σ H QB = te σ H fun x H' => ∃ k, x = .bl k ∧ QB k H' := rfl
theorem q_tB : L2.tB te σ H QB = te σ H fun x H' => ∃ k, x = .bl k ∧ QB k H' := rfl
theorem q_and : tAnd tA tB' σ H QB = tA σ H fun c H1 => if c = true then tB' σ H1 QB else QB false H1 := rfl
theorem q_or : tOr tA tB' σ H QB = tA σ H fun c H1 => if c = true then QB true H1 else tB' σ H1 QB := rfl
theorem q_not : tNot tA σ H QB = tA σ H fun c H1 => QB (!c) H1 := rfl
theorem q_andV : tAndV ta tb σ H Q = ta σ H fun x H1 => ∃ c, x = .bl c ∧ if c = true then tb σ H1 Q else Q (.bl false) H1 := rfl
theorem q_orV : tOrV ta tb σ H Q = ta σ H fun x H1 => ∃ c, x = .bl c ∧ if c = true then Q (.bl true) H1 else tb σ H1 Q := rfl
theorem q_notV : tNotV ta σ H Q = ta σ H fun x H1 => ∃ c, x = .bl c ∧ Q (.bl (!c)) H1 := rfl
theorem q_if : tIf tA ta tb σ H Q = tA σ H fun c H1 => if c = true then ta σ H1 Q else tb σ H1 Q := rfl
theorem q_isN : tIsN ta σ H Q = ta σ H fun x H1 => Q (.bl (decide (x = .non))) H1 := rfl
theorem q_notN : tNotN ta σ H Q = ta σ H fun x H1 => Q (.bl (!decide (x = .non))) H1 := rfl
theorem q_chain : tChain r r' ta tb tc σ H Q = ta σ H fun x H1 => tb σ H1 fun y H2 => r x y H2 fun z H3 => ∃ k, z = .bl k ∧ (if k = true then tc σ H3 fun w' H4 => r' y w' H4 Q else Q (.bl false) H3) := rfl
theorem q_next : tNext D σ H = D.nx σ H := rfl
theorem q_seq : tSeq t u D σ H = t { D with nx := u D } σ H := rfl
theorem q_break : tBreak D σ H = D.bk σ H := rfl
theorem q_cont : tCont D σ H = D.ct σ H := rfl
theorem q_drop : tDrop te D σ H = te σ H fun _ H1 => D.nx σ H1 := rfl
theorem q_ret : tRet te D σ H = te σ H D.rt := rfl
theorem q_retN : tRetN D σ H = D.rt .non H := rfl
theorem q_ifS : tIfS tA t u D σ H = tA σ H fun b H1 => if b = true then t D σ H1 else u D σ H1 := rfl
theorem q_never : tNever D σ H = False := rfl
theorem q_gN {Qg : L2.St → Hp → Prop} : gName i v σ H Qg = Qg (σ.set i (some v)) H := rfl
theorem q_gNil {Qg : L2.St → Hp → Prop} : gNil [] σ H Qg = Qg σ H := by
  apply propext; exact ⟨fun h => h.2, fun h => ⟨rfl, h⟩⟩
theorem q_gCons {Qg : L2.St → Hp → Prop} {vs : List V} : gCons g gs (v :: vs) σ H Qg = g v σ H fun σ' H' => gs vs σ' H' Qg := by
  apply propext; constructor
  · rintro ⟨_, _, e, q⟩; cases e; exact q
  · intro q; exact ⟨_, _, rfl, q⟩
theorem q_gTup {Qg : L2.St → Hp → Prop} : gTup K n gs v σ H Qg = ∃ a xs, v = .ref a ∧ SqT K H a xs ∧ xs.length = n ∧ gs xs σ H Qg := rfl
theorem q_gSub {Qg : L2.St → Hp → Prop} {ts : TSet} : gSub ta tb ts v σ H Qg = ta σ H fun o H1 => tb σ H1 fun i H2 => ts o i v H2 fun H3 => Qg σ H3 := rfl
theorem q_asg : tAsg te g D σ H = te σ H fun x H1 => g x σ H1 D.nx := rfl
theorem q_par : tPar i j a D σ H = a σ H fun vs H1 => ∃ v w, vs = [v, w] ∧ D.nx ((σ.set i (some v)).set j (some w)) H1 := rfl
theorem q_aug {ti : TIp} : tAug i te ti D σ H = ∃ x, σ[i]? = some (some x) ∧ te σ H fun y H1 => ti x y H1 fun z H2 => D.nx (σ.set i (some z)) H2 := rfl
theorem q_nil : tNil σ H QL = QL [] H := rfl
theorem q_cons : tCons te a σ H QL = te σ H fun x H1 => a σ H1 fun xs H2 => QL (x :: xs) H2 := rfl
theorem q_tup : tTup a σ H Q = a σ H fun xs H1 => xs.length ≤ sizeLine ∧ ∀ p, H1 p = none → Q (.ref p) (upd H1 p (.tup xs)) := rfl
theorem q_lst : tLst a σ H Q = a σ H fun xs H1 => xs.length ≤ sizeLine ∧ ∀ p, H1 p = none → Q (.ref p) (upd H1 p (.lst xs)) := rfl
theorem q_call {sp : Sp} {dvs : List V} {E : XK} : tCall sp dvs E a σ H Q = a σ H fun vs H1 => sp (vs ++ dvs) H1 Q E := rfl
theorem q_cb {rc : List V → Hp → VK → Prop} : tCB rc a σ H Q = a σ H fun vs H1 => rc vs H1 Q := rfl
theorem q_noPart {Qo : Option Int → Hp → Prop} : tNoPart σ H Qo = Qo none H := rfl
theorem q_part {Qo : Option Int → Hp → Prop} : tPart te σ H Qo = te σ H fun x H1 => ∃ i, x = .int i ∧ Qo (some i) H1 := rfl
theorem q_sl {rs : V → Option Int → Option Int → Hp → VK → Prop} {tl th : TO} : tSl rs te tl th σ H Q = te σ H fun x H1 => tl σ H1 fun l H2 => th σ H2 fun u H3 => rs x l u H3 Q := rfl
theorem q_bm0 {T : String} {rm : V → List V → Hp → VK → Prop} : tBM0 K T rm te σ H Q = te σ H fun x H1 => tyV K T x H1 ∧ rm x [] H1 Q := rfl
theorem q_bm {T : String} {rm : V → List V → Hp → VK → Prop} : tBM K T rm te a σ H Q = te σ H fun x H1 => tyV K T x H1 ∧ a σ H1 fun xs H2 => rm x xs H2 Q := rfl
theorem q_yes : tYes σ H QB = QB true H := rfl
/-- what a for asks of a walk -/
def ForW (J : It) (g : TG) (tb : TS) (D : Ends) (σ : L2.St) (H : Hp) : Prop := ∃ W : Nat → Nat → L2.St → Hp → Prop, (∃ m, W 0 m σ H) ∧ ∀ i m σ H, W i m σ H →
  (J.stop i H ∧ D.nx σ H) ∨ (J.go i H ∧ ∃ N : L2.St → Hp → Prop, (∀ σ' H', N σ' H' → ∃ m', m' < m ∧ W (i + 1) m' σ' H') ∧ ∀ x H', J.yld i H x H' → g x σ H' fun σ2 H2 => tb { D with nx := N, ct := N, bk := D.nx } σ2 H2)
theorem q_for {wi : TI} : tFor wi g t D σ H = wi σ H fun J H1 => ForW J g t D σ H1 := rfl
/-- what a comprehension asks of a walk, its new list at p -/
def LcW (J : It) (g : TG) (tt : TT) (te : TE) (vs : List Nat) (p : Addr) (σ : L2.St) (H1 : Hp) (Qd : Hp → Prop) : Prop := ∃ W : Nat → Nat → Hp → Prop, (∃ m, W 0 m (upd H1 p (.lst []))) ∧ ∀ i m H, W i m H →
  (J.stop i H ∧ Qd H) ∨ (J.go i H ∧ ∃ Nx : Hp → Prop, (∀ H', Nx H' → ∃ m', m' < m ∧ W (i + 1) m' H') ∧ ∀ x H', J.yld i H x H' → g x (wipe σ vs) H' fun σ2 H2 => wipe σ2 vs = wipe σ vs ∧ tt σ2 H2 fun b H3 =>
    if b = true then te σ2 H3 fun y H4 => ∃ acc, H4 p = some (.lst acc) ∧ acc.length < sizeLine ∧ Nx (upd H4 p (.lst (acc ++ [y]))) else Nx H3)
theorem q_lc {wi : TI} {vs : List Nat} : tLc wi g tt te vs σ H Q = wi σ H fun J H1 => ∀ p, H1 p = none → LcW J g tt te vs p σ H1 (Q (.ref p)) := rfl
theorem q_iList {R : It → Hp → Prop} : iList K te σ H R = te σ H fun x H1 => ∃ a, x = .ref a ∧ (∃ xs, SqL K H1 a xs) ∧ R (Itl K a) H1 := rfl
theorem q_iTup {R : It → Hp → Prop} : iTup K te σ H R = te σ H fun x H1 => ∃ a, x = .ref a ∧ (∃ xs, SqT K H1 a xs) ∧ R (Itt K a) H1 := rfl
theorem q_iRng1 {R : It → Hp → Prop} : iRng1 a σ H R = a σ H fun vs H1 => ∃ j : Int, vs = [.int j] ∧ -(2 ^ 62) ≤ j ∧ j < 2 ^ 62 ∧ R (Itr 0 j.toNat) H1 := rfl
theorem q_iEnum {R : It → Hp → Prop} : iEnum K a σ H R = a σ H fun vs H1 => ∃ b xs, vs = [.ref b] ∧ SqL K H1 b xs ∧ R (Ite K b) H1 := rfl
theorem q_iRng2 {R : It → Hp → Prop} : iRng2 a σ H R = a σ H fun vs H1 => ∃ i j : Int, vs = [.int i, .int j] ∧ (-(2 ^ 62) ≤ i ∧ i < 2 ^ 62 ∧ -(2 ^ 62) ≤ j ∧ j < 2 ^ 62) ∧ R (Itr i (j - i).toNat) H1 := rfl
theorem q_iZipA {R : It → Hp → Prop} : RZ.iZipA K a σ H R = a σ H fun vs H1 => ∃ b c xs ys, vs = [.ref b, .ref c] ∧ ((SqL K H1 b xs ∧ SqL K H1 c ys ∧ R (Itz K b c) H1) ∨ (SqT K H1 b xs ∧ SqT K H1 c ys ∧ R (RZ.ItzT K b c) H1)) := rfl
theorem q_ipI {f : Int → Int → Int} {x y : Int} : ipI f (.int x) (.int y) H Q = Q (.int (f x y)) H := by
  apply propext; constructor
  · rintro ⟨_, _, e1, e2, q⟩; cases e1; cases e2; exact q
  · intro q; exact ⟨_, _, rfl, rfl, q⟩
theorem q_ckw {rk : List V → List V → Hp → VK → Prop} {ak : TA} : tCKw rk a ak σ H Q = a σ H fun vs H1 => ak σ H1 fun zs H2 => rk vs zs H2 Q := rfl
end eqs
end Hx

set_option Elab.async false
set_option linter.all false
set_option maxRecDepth 100000
set_option maxHeartbeats 4000000
/-! Rules that the layer lacks: enumerate of a tuple. -/
namespace Hx
open PySem PySem.Spec PyProof.Rows L2

theorem new_enum1 {v : Value} {ob : Obj} {Ho : Heap → Prop} (Bg : Begins v ob Ho) :
    Meets (Builtin.«enumerate.__new__» ⟨[.type "enumerate", v], []⟩) fun _ R s => Ho s.heap ∧
      R (.ok (.ret (.ref (s.heap.push ob).objs.size)))
        { s with heap := Heap.push (s.heap.push ob) { cls := .type "enumerate", data := .fields #[.none, .bool false, .ref s.heap.objs.size, rawInt 0, .none, .none] } } :=
  .of_wp fun pr ww AA R s hh => by
    obtain ⟨hp, g, d, tk, os⟩ := s
    obtain ⟨hv, hR⟩ := hh
    have hsub := sub_enumerate
    have begin' : ∀ {AA' : Around} {EE QQ : Value → Shared → Prop}, QQ (.ref hp.objs.size) ⟨hp.push ob, g, d, tk, os⟩ → wpAny (model pr ww) AA' (pyIter v) QQ EE ⟨hp, g, d, tk, os⟩ :=
      fun qq => Bg.iter pr ww _ _ ⟨hp, g, d, tk, os⟩ _ hv qq
    wp_walk using begin'
    refine wpAny_stack_any fun st => wpAny_pure ?_
    split
    · rename_i c _ _ _ _ _
      cases (c == Value.type "enumerate") <;>
      · wp_walk using begin'
        exact ⟨_, rfl, hR⟩
    · wp_walk using begin'
      exact ⟨_, rfl, hR⟩

theorem enum_of_tuple {prog : Program} {w : World} {A : Around} {E : Value → Shared → Prop} {s : Shared} {t : Addr} {its : Array Value} {Q : Value → Shared → Prop} (hT : s.heap.IsTuple t its)
    (h : ∀ h', IsEnum h' (s.heap.objs.size + 1) s.heap.objs.size 0 .none → h'.IsTupleIter s.heap.objs.size t 0 → (∀ b o, s.heap.get? b = some o → h'.get? b = some o) → Q (.ref (s.heap.objs.size + 1)) { s with heap := h' }) :
    wpAny (model prog w) A (call (.type "enumerate") [.ref t]) Q E s := by
  refine callType_new F.called_enumerate (by decide) (F.typeCall_enumerate_1 _) (F.newCall_enumerate_1 _) (fun ob => F.args_object_init_2 ob _) F.entry_enumerate_new (new_enum1 (begins_tuple t its)) ⟨hT, ?_⟩
  generalize hob : ({ cls := .type "tuple_iterator", data := .fields #[.ref t, .int 0 0] } : Obj) = ob
  have hfr : ob.isFreed = false := by rw [← hob]; rfl
  have hz : (s.heap.push ob).objs.size = s.heap.objs.size + 1 := Heap.size_push ..
  show _ ∧ _
  rw [hz]
  generalize hoe : ({ cls := .type "enumerate", data := .fields #[.none, .bool false, .ref s.heap.objs.size, rawInt 0, .none, .none] } : Obj) = oe
  have he : ((s.heap.push ob).push oe).get? (s.heap.objs.size + 1) = some oe := by
    rw [← hz]
    exact Heap.get?_push_size _ (by rw [← hoe]; rfl)
  have hi : ((s.heap.push ob).push oe).get? s.heap.objs.size = some ob := Heap.get?_push_of_some _ (Heap.get?_push_size _ hfr)
  refine ⟨⟨_, he, by rw [← hoe]⟩, h _ (by rw [← hoe] at he ⊢; exact he) ⟨ob, hi, by rw [← hob], by rw [← hob]; rfl⟩ fun b o q => Heap.get?_push_of_some _ (Heap.get?_push_of_some _ q)⟩

/-- the tuple at a, each item in a new pair with its number -/
def IteT (K : PySem.W.Frag) (a : Addr) : It where
  go := fun i H => ∃ (xs : List V) (x : V), SqT K H a xs ∧ xs[i]? = some x
  yld := fun i H v H' => ∃ T x, v = .ref T ∧ H T = none ∧ H' = upd H T (.tup [.int (i : Nat), x]) ∧ ∀ xs, SqT K H a xs → xs[i]? = some x
  stop := fun i H => ∃ xs : List V, SqT K H a xs ∧ xs.length ≤ i
theorem turn_enumT {P : Program} {w : World} {K : PySem.W.Frag} {es : List Expr} {k : Nat} {ps : Pos} (a e it : Addr) (hae : e ≠ a) (hia : a ≠ it) :
    Turn P w K (.Tuple es k ps) (IteT K a) [e, it] e fun i h => (∃ old, IsEnum h e it ((i : Nat) : Int) old) ∧ h.IsTupleIter it a i ∧ e ≠ it where
  mem := List.mem_cons_self
  obj := by
    rintro i h ⟨⟨old, he⟩, ⟨o, ho, hc, hd⟩, _⟩ b hb
    rcases List.mem_cons.mp hb with rfl | hb
    · exact ⟨_, he, fun v q => nomatch q⟩
    · cases List.mem_singleton.mp hb
      exact ⟨o, ho, fun v q => by rw [hd] at q; cases q⟩
  keep := by
    rintro i h h' ⟨⟨old, he⟩, hi, hne⟩ kk
    exact ⟨⟨old, kk e List.mem_cons_self _ he⟩, hi.at fun o q => kk it (List.mem_cons_of_mem _ List.mem_cons_self) o q, hne⟩
  item := by
    rintro X rfl rfl rfl hc i pins s σ H E I hf ⟨⟨old, he⟩, hit, hne⟩ ⟨xs, x, hq, hx⟩
    obtain ⟨its, rv, p, hz⟩ := I.tuple hq
    obtain ⟨u, hu, ru⟩ := rv.get hx
    have hel : e < s.heap.objs.size := Heap.lt_size he
    have hil : it < s.heap.objs.size := by obtain ⟨_, q, _⟩ := hit; exact Heap.lt_size q
    have hlt : i < its.toArray.size := by
      have q := (List.getElem?_eq_some_iff.mp hu).1
      simpa using q
    have hh : X.A.in1.handled = none := I.ok.hd hc
    refine wpAny_pyNext_enum_itemD (Draws.tuple hh it a hia its.toArray) he ⟨hit, p⟩ hlt hne (by simp [hne, hae]) fun x' h' tk hx' ho hit' hT hsz hk => ?_
    have ex : x' = u := by
      have q : its.toArray[i]? = some x' := hx'
      have q2 : its[i]? = some x' := by simpa using q
      rw [hu] at q2
      exact (Option.some.inj q2).symm
    subst ex
    refine ⟨_, rfl, wpAny_letOwnedTupleGo_enum (s := { s with heap := h', toks := tk + 1 }) ho fun h2 he2 sb => ?_⟩
    have hn : H s.heap.objs.size = none := I.hok.fresh (Nat.le_refl _)
    have hT2 : h2.get? s.heap.objs.size = some { cls := .type "tuple", data := .seq #[.int i tk, x'] } := (sb.2 _ (Nat.ne_of_gt hel)).trans hT
    have new : ObjOk X.prog X.w (upd H s.heap.objs.size (.tup [.int (i : Nat), x])) h2 s.heap.objs.size (.tup [.int (i : Nat), x]) := by
      refine ⟨?_, [.int i tk, x'], .cons ⟨_, rfl⟩ (.cons ru .nil), ⟨_, hT2, rfl, _, rfl⟩⟩
      show 2 ≤ sizeLine
      decide
    have kp : ∀ b ob, b ∉ [e, it] → s.heap.get? b = some ob → h2.get? b = some ob := fun b ob hb q => by
      have b1 : b ≠ e := fun z => hb (by simp [z])
      have b2 : b ≠ it := fun z => hb (by simp [z])
      exact (sb.2 b b1).trans (hk b ob b1 b2 q)
    have J := I.turnedNew (t' := tk + 1) kp hf (Nat.le_refl _) new
    refine ⟨.ref s.heap.objs.size, _, J, rfl, ⟨_, x, rfl, hn, rfl, fun ys hy => ?_⟩, ⟨⟨x', ?_⟩, ?_, hne⟩, fun b hb => ?_⟩
    · rw [I.tuple_inj hy hq]
      exact hx
    · have e1 : ((i + 1 : Nat) : Int) = (i : Int) + 1 := by omega
      rw [e1]
      exact he2
    · exact hit'.1.at fun o q => (sb.2 it (Ne.symm hne)).trans q
    · have hb' : b < s.heap.objs.size := by
        rcases List.mem_cons.mp hb with rfl | hb
        · exact hel
        · cases List.mem_singleton.mp hb
          exact hil
      rw [upd_ne (Nat.ne_of_lt hb')]
      exact (hf b hb).1
  done := by
    rintro X rfl rfl rfl hc i pins s σ H E I hf ⟨⟨old, he⟩, hit, hne⟩ ⟨xs, hq, hx⟩
    obtain ⟨its, rv, p, hz⟩ := I.tuple hq
    obtain ⟨f0, f1, f2, f3, f4, f5⟩ := hf it (List.mem_cons_of_mem _ List.mem_cons_self)
    have hl := rv.length
    have hh : X.A.in1.handled = none := I.ok.hd hc
    have D : Draws X.prog X.w X.A.in1 it [it, a] i (fun _ _ => False) (fun j h => j = i ∧ h.IsTupleIter it a i ∧ h.IsTuple a its.toArray) :=
      { live := fun j h st => let ⟨o, ho, _⟩ := st.2.1; ⟨o, ho⟩
        frame := fun j h h' st hk => ⟨st.1, st.2.1.at fun o e => hk it (by simp) o e, st.2.2.at fun o e => hk a (by simp) o e⟩
        item := fun j s Q E hj st q => absurd st.1 (Nat.ne_of_lt hj)
        done := fun s Q E st hE => wpAny_nextOf_tuple_end hh st.2.1 st.2.2 (by simp; omega) hE }
    exact wpAny_pyNext_enum_endD D he ⟨rfl, hit, p⟩ fun h' eb => ⟨rfl, I.turned (t' := s.toks) (fun b o hb q => eb b o hb q) f0 f1 f3 f4 f5⟩
  self := fun A i s Q E st h => wpAny_pyIter_enum st.1.choose_spec h
def iEnumT (K : PySem.W.Frag) (ta : TA) : TI := fun σ H R => ta σ H fun vs H1 => ∃ a, vs = [.ref a] ∧ (∃ xs, SqT K H1 a xs) ∧ R (IteT K a) H1
theorem q_iEnumT {K : PySem.W.Frag} {ta : TA} {σ : L2.St} {H : Hp} {R : It → Hp → Prop} : iEnumT K ta σ H R = ta σ H fun vs H1 => ∃ a, vs = [.ref a] ∧ (∃ xs, SqT K H1 a xs) ∧ R (IteT K a) H1 := rfl
theorem pi_enumT {X : Cx} {ex : Expr} {ta : TA} {p p1 p2 : Pos} {es : List Expr} {k : Nat} (hg : Gl X "enumerate") (hm : X.mg "enumerate" = none) (ha : PA X [ex] ta)
    (hs : starEach [ex] X.env = [(false, eval ex X.env)] := by rfl) : PI X (.Tuple es k p2) (.Call (.Name "enumerate" p) [ex] [] p1) (iEnumT X.K ta) := by
  refine ⟨fun pins s σ H R I h => ?_⟩
  refine Call_ (ld_blt I hg hm boot_enumerate (PyProof.Rows.callWith_type1 (thn (ha.run p1 pins s σ H _ I h) ?_) hs rfl))
  rintro us s1 ⟨vs, H1, I1, r1, a, rfl, ⟨xs, hq⟩, q⟩
  cases r1 with
  | cons r rr =>
    cases rr
    cases r
    obtain ⟨its, rv, pt, hz⟩ := I1.tuple hq
    have hal : a < s1.heap.objs.size := pt.lt
    refine enum_of_tuple pt fun h' he hit hk => wpAny_pyIter_enum he ?_
    have I2 : Inv X pins σ H1 { s1 with heap := h' } := I1.kept (t' := s1.toks) hk
    refine ⟨_, _, _, _, H1, rfl, I2, turn_enumT a (s1.heap.objs.size + 1) s1.heap.objs.size (Nat.ne_of_gt (Nat.lt_succ_of_lt hal)) (Nat.ne_of_lt hal), ⟨⟨.none, he⟩, hit, Nat.succ_ne_self _⟩, fun b hb => ?_, q⟩
    have hle : s1.heap.objs.size ≤ b := by
      rcases List.mem_cons.mp hb with rfl | hb
      · omega
      · cases List.mem_singleton.mp hb
        omega
    exact I1.fpOk hle (I1.hok.fresh hle)
theorem walk_enumT {K : PySem.W.Frag} {a : Addr} {xs : List V} : Walk (IteT K a) xs.length (fun H => SqT K H a xs) (YPair (fun i => some (.int (i : Nat))) (fun i => xs[i]?)) where
  goes := fun i _ hi q => ⟨xs, xs[i], q, List.getElem?_eq_getElem hi⟩
  stops := fun _ q => ⟨xs, q, Nat.le_refl _⟩
  yields := by
    rintro i H v H' _ q ⟨T, x, h1, h2, h3, h4⟩
    exact ⟨T, .int (i : Nat), x, h1, h2, h3, rfl, h4 xs q⟩

/-! min(list of ints, default=None) -/
def rMinD (K : PySem.W.Frag) : List V → List V → Hp → VK → Prop := fun vs zs H Q => ∃ (a : Addr) (ns : List Int), vs = [.ref a] ∧ zs = [.non] ∧ SqL K H a (ns.map V.int) ∧
  (ns = [] → Q .non H) ∧ (∀ n r, ns = n :: r → Q (.int (r.foldl min n)) H)
theorem dpAll_ints (K : PySem.W.Frag) (H : Hp) : ∀ ns : List Int, DpAll K H (ns.map V.int) (ns.map PyData.int)
  | [] => .nil
  | n :: r => .cons (.int n) (dpAll_ints K H r)
theorem depth_ints : ∀ ns : List Int, PyData.depthAll (ns.map PyData.int) = 0
  | [] => rfl
  | n :: r => by
    have e := depth_ints r
    simp only [List.map_cons, PyData.depthAll, PyData.depth, e]
    rfl
theorem alike_ints (ns : List Int) : PySem.W.AlikeAll (ns.map PyData.int) := by
  refine ⟨fun x hx y hy => ?_, fun x hx => ?_⟩
  · obtain ⟨i, _, rfl⟩ := List.mem_map.mp hx
    obtain ⟨j, _, rfl⟩ := List.mem_map.mp hy
    rfl
  · obtain ⟨i, _, rfl⟩ := List.mem_map.mp hx
    intro h
    cases h
theorem call_minD {X : Cx} (hc : X.calm = true) (hu : X.A.units + 64 < cLine) : CallRK X (.builtin "min") [Str.ofString "default"] (rMinD X.K) := by
  rintro pins s σ H xs zs us ws Q I r1 r2 ⟨a, ns, rfl, rfl, hs, h0, h1⟩
  obtain ⟨its, rv, hl, _⟩ := I.list hs
  cases r1 with
  | cons r rr =>
    cases rr
    cases r
    cases r2 with
    | cons q qq =>
      cases qq
      cases (show _ = Value.none from q)
      obtain ⟨as, hr⟩ := Dp.readsAll I _ _ _ (dpAll_ints X.K H ns) rv
      have hd : X.A.units + 1 + PyData.depthAll (ns.map PyData.int) < cLine := by
        rw [depth_ints]
        omega
      refine PySem.W.min_list_default (xs := ns.map PyData.int) (I.ok.hd hc) hl.isList hr (alike_ints ns) hd (fun e h' tk hk => ?_) (fun y ys i v h' tk bs e hv hrd hk => ?_)
      · have e0 : ns = [] := List.map_eq_nil_iff.mp e
        exact ⟨.non, H, I.kept hk, rfl, h0 e0⟩
      · cases ns with
        | nil => cases e
        | cons n r =>
          cases e
          rw [PySem.W.minD_ints] at hrd
          refine ⟨.int (r.foldl min n), H, I.kept hk, ?_, h1 n r rfl⟩
          cases hrd
          exact ⟨_, rfl⟩
end Hx

set_option Elab.async false
set_option linter.all false
set_option maxRecDepth 100000
set_option maxHeartbeats 4000000
namespace Hx
open PySem PySem.Spec PyProof.Rows L2
/-! A def of the text that stands behind the top; a def that keeps a promise, for its callers. -/
structure Here (K : PySem.W.Frag) (mg : Str → Option Value) (x : Str) (st : Stmt) : Prop where
  ex : ∃ (f : Addr) (fd : FuncData), Fun K x x st f fd ∧ mg x = some (.ref f)
structure Df (P : Program) (w : World) (K : PySem.W.Frag) (mg : Str → Option Value) (base : Heap) (CX : CXT) (x : Str) (k : Nat) (ps : List Str) (sp : Sp) : Prop where
  ex : ∃ (f : Addr) (fd : FuncData), FnOk P w K mg base CX k f fd ps sp ∧ mg x = some (.ref f) ∧ PySem.W.keepIn K (.ref f) = true ∧ Binds K fd ps []
section
variable {P : Program} {w : World} {K : PySem.W.Frag} {mg : Str → Option Value} {base : Heap}
theorem Here.df {x : Str} {st : Stmt} {N ps : List Str} {k : Nat} {sp : Sp} (T : Here K mg x st) (S : FnScope N ps (defScope st))
    (hb : ∀ (kV doc pm : Value) (an : Option Addr) (cdv ct : Value) (us : List Value), us.length = ps.length → bindArgs (PySem.W.fnOf x x (defArgs st) (defBody st) (defScope st) .none kV doc pm an cdv ct) ⟨us, []⟩ = pure (ps.zip us))
    (len : ∀ vs H Q E, sp vs H Q E → vs.length = ps.length)
    (body : ∀ (f : Addr) (cdv : Value) (A : Around) (outer : List Env) (s : Shared) (H : Hp) (vs : List V) (Q : VK) (E : XK), Room k (A.deeper (envOfC x (defScope st) s.heap.objs.size f cdv)) → sp vs H Q E →
      ∃ t, PSs (cxOf CX0 P w K mg base N x (defScope st) f cdv A outer s H E).nox (defBody st) t ∧ t { nx := fun _ H' => Q .non H', rt := Q } (L2.start N vs) H) :
    Df P w K mg base CX0 x (k + 1) ps sp := by
  obtain ⟨f, fd, F, g⟩ := T.ex
  exact ⟨f, fd, F.ok S len (body f), g, F.kp, F.binds hb⟩
end
section
variable {X : Cx} {x : Str} {k : Nat} {ps : List Str} {sp : Sp} {e : Expr} {es : List Expr} {p pos : Pos} {t : TA}
theorem Df.call (D : Df X.prog X.w X.K X.mg X.base CX0 x k ps sp) (hr : Room k X.A) (hg : Gl X x) (ha : PA X (e :: es) t) (hdb : (x == ("__debug__" : Str)) = false := by decide)
    (he : starEach (e :: es) X.env = (false, eval e X.env) :: starEach es X.env := by rfl) (hpl : (backTo pos (starEach es X.env)).any (·.1) = false := by rfl) : PE X (.Call (.Name x p) (e :: es) [] pos) (tCall sp [] E0 t) := by
  obtain ⟨f, fd, F, g, kp, b⟩ := D.ex
  exact pe_call F hr hg g kp b .nil pass0 ha hdb he hpl
theorem Df.call0 (D : Df X.prog X.w X.K X.mg X.base CX0 x k [] sp) (hr : Room k X.A) (hg : Gl X x) (hdb : (x == ("__debug__" : Str)) = false := by decide) : PE X (.Call (.Name x p) [] [] pos) (fun _ H Q => sp [] H Q E0) := by
  obtain ⟨f, fd, F, g, kp, b⟩ := D.ex
  exact pe_call0 F hr hg g kp b .nil pass0 hdb
theorem pe_gi {i : Int} (hg : Gl X x) (hm : ∃ u, X.mg x = some (.int i u)) (hd : (x == ("__debug__" : Str)) = false := by decide) : PE X (.Name x pos) (tC (.int i)) := by
  obtain ⟨u, h⟩ := hm
  exact pe_glob hg h ⟨_, rfl⟩ hd
end
/-! the rules that name the written part, with it given (a comprehension's block has the same) -/
section
variable {X : Cx} (K : PySem.W.Frag)
theorem ixT (h : X.K = K) : IxR X (rIxT K) := by subst h; exact ix_tup
theorem ixL (h : X.K = K) : IxR X (rIxL K) := by subst h; exact ix_list
theorem slA (h : X.K = K) : SlR X (rSlA K) := by subst h; exact sl_tupA
theorem slL (h : X.K = K) : SlR X (rSlL K) := by subst h; exact sl_list
theorem catA (h : X.K = K) : OpR X (binaryOp .Add) (rCatA K) := by subst h; exact op_catA
theorem eqD (h : X.K = K) (hu : X.A.units + 64 < cLine) : OpR X (compareOp .Eq) (rEqD K) := by subst h; exact op_eqD hu
theorem neD (h : X.K = K) (hu : X.A.units + 64 < cLine) : OpR X (compareOp .NotEq) (rNeD K) := by subst h; exact op_neD hu
theorem isi (h : X.K = K) : CallR X (.builtin "isinstance") (rIsi K) := by subst h; exact call_isi
theorem isiT (h : X.K = K) : CallR X (.builtin "isinstance") (rIsiT K) := by subst h; exact call_isiT
def rLen (K : PySem.W.Frag) : List V → Hp → VK → Prop := fun xs H Q => ∃ p ys, xs = [.ref p] ∧ (SqL K H p ys ∨ SqT K H p ys) ∧ Q (.int ys.length) H
theorem lenQ (h : X.K = K) : CallR X (.builtin "len") (rLen K) := by subst h; exact call_len_seq
def rListOf (K : PySem.W.Frag) : List V → Hp → VK → Prop := fun xs H Q => ∃ p ys, xs = [.ref p] ∧ (SqL K H p ys ∨ SqT K H p ys) ∧ ∀ l, H l = none → Q (.ref l) (upd H l (.lst ys))
theorem listOf (h : X.K = K) : CallR X (.type "list") (rListOf K) := by subst h; exact call_list_of
def rTupleOf (K : PySem.W.Frag) : List V → Hp → VK → Prop := fun xs H Q => ∃ p ys, xs = [.ref p] ∧ ((SqL K H p ys ∧ ∀ l, H l = none → Q (.ref l) (upd H l (.tup ys))) ∨ (SqT K H p ys ∧ Q (.ref p) H))
theorem tupleOf (h : X.K = K) : CallR X (.type "tuple") (rTupleOf K) := by subst h; exact call_tuple_of
theorem pgTup (h : X.K = K) {es : List Expr} {k : Nat} {t : TGs} {n : Nat} {pos : Pos} (hc : X.calm = true) (hp : PGs X es t)
    (hn : (assignEach es X.env).length = n := by rfl) (hst : (assignEach es X.env).findIdx? (·.1) = none := by rfl) : PG X (.Tuple es k pos) (gTup K n t) := by
  subst h; exact pg_tup hc hp hn hst
theorem piList (h : X.K = K) {tg l : Expr} {tl : TE} (hl : PE X l tl) : PI X tg l (iList K tl) := by subst h; exact pi_list hl
theorem piTup (h : X.K = K) {tg l : Expr} {tl : TE} (hl : PE X l tl) : PI X tg l (iTup K tl) := by subst h; exact pi_tup hl
theorem q_len {p : Addr} {H : Hp} {Q : VK} : rLen K [.ref p] H Q = ∃ ys, (SqL K H p ys ∨ SqT K H p ys) ∧ Q (.int ys.length) H := by
  apply propext; constructor
  · rintro ⟨_, ys, e, a, b⟩; cases e; exact ⟨ys, a, b⟩
  · rintro ⟨ys, a, b⟩; exact ⟨_, ys, rfl, a, b⟩
theorem q_listOf {p : Addr} {H : Hp} {Q : VK} : rListOf K [.ref p] H Q = ∃ ys, (SqL K H p ys ∨ SqT K H p ys) ∧ ∀ l, H l = none → Q (.ref l) (upd H l (.lst ys)) := by
  apply propext; constructor
  · rintro ⟨_, ys, e, a, b⟩; cases e; exact ⟨ys, a, b⟩
  · rintro ⟨ys, a, b⟩; exact ⟨_, ys, rfl, a, b⟩
theorem q_tupleOf {p : Addr} {H : Hp} {Q : VK} : rTupleOf K [.ref p] H Q = ∃ ys, ((SqL K H p ys ∧ ∀ l, H l = none → Q (.ref l) (upd H l (.tup ys))) ∨ (SqT K H p ys ∧ Q (.ref p) H)) := by
  apply propext; constructor
  · rintro ⟨_, ys, e, b⟩; cases e; exact ⟨ys, b⟩
  · rintro ⟨ys, b⟩; exact ⟨_, ys, rfl, b⟩
end
/-- the built-in names that the text leaves alone -/
structure Blt (mg : Str → Option Value) : Prop where
  len : mg "len" = none
  isinstance : mg "isinstance" = none
  int : mg "int" = none
  bool : mg "bool" = none
  tuple : mg "tuple" = none
  list : mg "list" = none
  range : mg "range" = none
  enumerate : mg "enumerate" = none
  zip : mg "zip" = none
  max : mg "max" = none
  min : mg "min" = none
/-! ### loops and comprehensions -/
section
variable {K : PySem.W.Frag} {J : It} {n : Nat} {G : Hp → Prop} {Y : Nat → Hp → V → Hp → Prop} {g : TG} {tb : TS} {D : Ends} {σ : L2.St} {H : Hp} {a b : Addr} {xs ys : List V}
theorem forW (wk : Walk J n G Y) (Pv : Nat → L2.St → Hp → Prop) (h0 : Pv 0 σ H) (hG : ∀ i σ H, i ≤ n → Pv i σ H → G H)
    (hs : ∀ i x σ H H', i < n → Pv i σ H → Y i H x H' → g x σ H' fun σ2 H2 => tb { D with nx := Pv (i + 1), ct := Pv (i + 1), bk := D.nx } σ2 H2) (hd : ∀ σ H, Pv n σ H → D.nx σ H) : ForW J g tb D σ H :=
  for_it wk Pv h0 hG hs hd
theorem forRange (Pv : Nat → L2.St → Hp → Prop) (h0 : Pv 0 σ H) (hs : ∀ (i : Nat) σ H, i < n → Pv i σ H → g (.int i) σ H fun σ2 H2 => tb { D with nx := Pv (i + 1), ct := Pv (i + 1), bk := D.nx } σ2 H2)
    (hd : ∀ σ H, Pv n σ H → D.nx σ H) : ForW (Itr 0 n) g tb D σ H :=
  forW walk_range Pv h0 (fun _ _ _ _ _ => trivial) (fun i x σ H H' hi p y => by
    obtain ⟨rfl, rfl⟩ := y
    have e0 : V.int (0 + (i : Int)) = V.int i := congrArg V.int (Int.zero_add _)
    show g (V.int (0 + (i : Int))) σ H' _
    rw [e0]
    exact hs i σ H' hi p) hd
theorem forTup (Pv : Nat → L2.St → Hp → Prop) (h0 : Pv 0 σ H) (hG : ∀ i σ H, i ≤ xs.length → Pv i σ H → SqT K H a xs)
    (hs : ∀ (i : Nat) x σ H, xs[i]? = some x → Pv i σ H → g x σ H fun σ2 H2 => tb { D with nx := Pv (i + 1), ct := Pv (i + 1), bk := D.nx } σ2 H2) (hd : ∀ σ H, Pv xs.length σ H → D.nx σ H) : ForW (Itt K a) g tb D σ H :=
  forW walk_tup Pv h0 hG (fun i x σ H H' _ p y => by
    obtain ⟨rfl, e⟩ := y
    exact hs i x σ H' e p) hd
theorem forList (Pv : Nat → L2.St → Hp → Prop) (h0 : Pv 0 σ H) (hG : ∀ i σ H, i ≤ xs.length → Pv i σ H → SqL K H a xs)
    (hs : ∀ (i : Nat) x σ H, xs[i]? = some x → Pv i σ H → g x σ H fun σ2 H2 => tb { D with nx := Pv (i + 1), ct := Pv (i + 1), bk := D.nx } σ2 H2) (hd : ∀ σ H, Pv xs.length σ H → D.nx σ H) : ForW (Itl K a) g tb D σ H :=
  forW walk_list Pv h0 hG (fun i x σ H H' _ p y => by
    obtain ⟨rfl, e⟩ := y
    exact hs i x σ H' e p) hd
theorem forEnumT (Pv : Nat → L2.St → Hp → Prop) (h0 : Pv 0 σ H) (hG : ∀ i σ H, i ≤ xs.length → Pv i σ H → SqT K H a xs)
    (hs : ∀ (i : Nat) x T σ H, xs[i]? = some x → Pv i σ H → H T = none → g (.ref T) σ (upd H T (.tup [.int i, x])) fun σ2 H2 => tb { D with nx := Pv (i + 1), ct := Pv (i + 1), bk := D.nx } σ2 H2)
    (hd : ∀ σ H, Pv xs.length σ H → D.nx σ H) : ForW (IteT K a) g tb D σ H :=
  forW walk_enumT Pv h0 hG (fun i x σ H H' _ p y => by
    obtain ⟨T, u, v, rfl, hT, rfl, e1, e2⟩ := y
    cases Option.some.inj e1
    exact hs i v T σ H e2 p hT) hd
theorem forEnumL (Pv : Nat → L2.St → Hp → Prop) (h0 : Pv 0 σ H) (hG : ∀ i σ H, i ≤ xs.length → Pv i σ H → SqL K H a xs)
    (hs : ∀ (i : Nat) x T σ H, xs[i]? = some x → Pv i σ H → H T = none → g (.ref T) σ (upd H T (.tup [.int i, x])) fun σ2 H2 => tb { D with nx := Pv (i + 1), ct := Pv (i + 1), bk := D.nx } σ2 H2)
    (hd : ∀ σ H, Pv xs.length σ H → D.nx σ H) : ForW (Ite K a) g tb D σ H :=
  forW walk_enum Pv h0 hG (fun i x σ H H' _ p y => by
    obtain ⟨T, u, v, rfl, hT, rfl, e1, e2⟩ := y
    cases Option.some.inj e1
    exact hs i v T σ H e2 p hT) hd
theorem walk_zipT (hn : n = min xs.length ys.length) : Walk (RZ.ItzT K a b) n (fun H => SqT K H a xs ∧ SqT K H b ys) (YPair (fun i => xs[i]?) (fun i => ys[i]?)) := by
  subst hn
  refine ⟨fun i _ hi q => ?_, fun _ q => ⟨xs, ys, q.1, q.2, by omega⟩, ?_⟩
  · have h1 : i < xs.length := Nat.lt_of_lt_of_le hi (Nat.min_le_left _ _)
    have h2 : i < ys.length := Nat.lt_of_lt_of_le hi (Nat.min_le_right _ _)
    exact ⟨xs, ys, _, _, q.1, q.2, List.getElem?_eq_getElem h1, List.getElem?_eq_getElem h2⟩
  · rintro i H v H' _ q ⟨T, x, z, h1, h2, h3, h4, h5⟩
    exact ⟨T, x, z, h1, h2, h3, h4 xs q.1, h5 ys q.2⟩
theorem forZipT (hl : xs.length = ys.length) (Pv : Nat → L2.St → Hp → Prop) (h0 : Pv 0 σ H) (hG : ∀ i σ H, i ≤ xs.length → Pv i σ H → SqT K H a xs ∧ SqT K H b ys)
    (hs : ∀ (i : Nat) x y T σ H, xs[i]? = some x → ys[i]? = some y → Pv i σ H → H T = none → g (.ref T) σ (upd H T (.tup [x, y])) fun σ2 H2 => tb { D with nx := Pv (i + 1), ct := Pv (i + 1), bk := D.nx } σ2 H2)
    (hd : ∀ σ H, Pv xs.length σ H → D.nx σ H) : ForW (RZ.ItzT K a b) g tb D σ H :=
  forW (walk_zipT (by rw [hl, Nat.min_self])) Pv h0 (fun i σ H hi p => hG i σ H (by omega) p) (fun i x σ H H' _ p y => by
    obtain ⟨T, u, v, rfl, hT, rfl, e1, e2⟩ := y
    exact hs i u v T σ H e1 e2 p hT) (fun σ H p => hd σ H (by rw [hl]; exact p))
variable {tt : TT} {te : TE} {vs : List Nat} {p : Addr} {Qd : Hp → Prop}
theorem lcW (wk : Walk J n G Y) (Pv : Nat → Hp → Prop) (h0 : Pv 0 (upd H p (.lst []))) (hG : ∀ i H, i ≤ n → Pv i H → G H)
    (hs : ∀ i x H H', i < n → Pv i H → Y i H x H' → g x (wipe σ vs) H' fun σ2 H2 => wipe σ2 vs = wipe σ vs ∧ tt σ2 H2 fun b H3 =>
      if b = true then te σ2 H3 fun y H4 => ∃ acc, H4 p = some (.lst acc) ∧ acc.length < sizeLine ∧ Pv (i + 1) (upd H4 p (.lst (acc ++ [y]))) else Pv (i + 1) H3) (hd : ∀ H, Pv n H → Qd H) : LcW J g tt te vs p σ H Qd :=
  lc_it wk Pv h0 hG hs hd
theorem lcRange (Pv : Nat → Hp → Prop) (h0 : Pv 0 (upd H p (.lst [])))
    (hs : ∀ (i : Nat) H, i < n → Pv i H → g (.int i) (wipe σ vs) H fun σ2 H2 => wipe σ2 vs = wipe σ vs ∧ tt σ2 H2 fun b H3 =>
      if b = true then te σ2 H3 fun y H4 => ∃ acc, H4 p = some (.lst acc) ∧ acc.length < sizeLine ∧ Pv (i + 1) (upd H4 p (.lst (acc ++ [y]))) else Pv (i + 1) H3) (hd : ∀ H, Pv n H → Qd H) : LcW (Itr 0 n) g tt te vs p σ H Qd :=
  lcW walk_range Pv h0 (fun _ _ _ _ => trivial) (fun i x H H' hi p y => by
    obtain ⟨rfl, rfl⟩ := y
    have e0 : V.int (0 + (i : Int)) = V.int i := congrArg V.int (Int.zero_add _)
    show g (V.int (0 + (i : Int))) (wipe σ vs) H' _
    rw [e0]
    exact hs i H' hi p) hd
theorem lcTup (Pv : Nat → Hp → Prop) (h0 : Pv 0 (upd H p (.lst []))) (hG : ∀ i H, i ≤ xs.length → Pv i H → SqT K H a xs)
    (hs : ∀ (i : Nat) x H, xs[i]? = some x → Pv i H → g x (wipe σ vs) H fun σ2 H2 => wipe σ2 vs = wipe σ vs ∧ tt σ2 H2 fun b H3 =>
      if b = true then te σ2 H3 fun y H4 => ∃ acc, H4 p = some (.lst acc) ∧ acc.length < sizeLine ∧ Pv (i + 1) (upd H4 p (.lst (acc ++ [y]))) else Pv (i + 1) H3) (hd : ∀ H, Pv xs.length H → Qd H) : LcW (Itt K a) g tt te vs p σ H Qd :=
  lcW walk_tup Pv h0 hG (fun i x H H' _ p y => by
    obtain ⟨rfl, e⟩ := y
    exact hs i x H' e p) hd
theorem lcList (Pv : Nat → Hp → Prop) (h0 : Pv 0 (upd H p (.lst []))) (hG : ∀ i H, i ≤ xs.length → Pv i H → SqL K H a xs)
    (hs : ∀ (i : Nat) x H, xs[i]? = some x → Pv i H → g x (wipe σ vs) H fun σ2 H2 => wipe σ2 vs = wipe σ vs ∧ tt σ2 H2 fun b H3 =>
      if b = true then te σ2 H3 fun y H4 => ∃ acc, H4 p = some (.lst acc) ∧ acc.length < sizeLine ∧ Pv (i + 1) (upd H4 p (.lst (acc ++ [y]))) else Pv (i + 1) H3) (hd : ∀ H, Pv xs.length H → Qd H) : LcW (Itl K a) g tt te vs p σ H Qd :=
  lcW walk_list Pv h0 hG (fun i x H H' _ p y => by
    obtain ⟨rfl, e⟩ := y
    exact hs i x H' e p) hd
theorem lcZipT (hl : xs.length = ys.length) (Pv : Nat → Hp → Prop) (h0 : Pv 0 (upd H p (.lst []))) (hG : ∀ i H, i ≤ xs.length → Pv i H → SqT K H a xs ∧ SqT K H b ys)
    (hs : ∀ (i : Nat) x y T H, xs[i]? = some x → ys[i]? = some y → Pv i H → H T = none → g (.ref T) (wipe σ vs) (upd H T (.tup [x, y])) fun σ2 H2 => wipe σ2 vs = wipe σ vs ∧ tt σ2 H2 fun b H3 =>
      if b = true then te σ2 H3 fun y H4 => ∃ acc, H4 p = some (.lst acc) ∧ acc.length < sizeLine ∧ Pv (i + 1) (upd H4 p (.lst (acc ++ [y]))) else Pv (i + 1) H3) (hd : ∀ H, Pv xs.length H → Qd H) : LcW (RZ.ItzT K a b) g tt te vs p σ H Qd :=
  lcW (walk_zipT (by rw [hl, Nat.min_self])) Pv h0 (fun i H hi p => hG i H (by omega) p) (fun i x H H' _ p y => by
    obtain ⟨T, u, v, rfl, hT, rfl, e1, e2⟩ := y
    exact hs i u v T H e1 e2 p hT) (fun H p => hd H (by rw [hl]; exact p))
end
/-! ### small facts for the readings -/
section
variable {K : PySem.W.Frag} {H H' : Hp} {Q : VK}
theorem cx_K {CX : CXT} {P : Program} {w : World} {K : PySem.W.Frag} {mg : Str → Option Value} {base : Heap} {N : List Str} {q : Str} {sc : Scope} {f : Addr} {cd : Value} {A : Around} {o : List Env} {s : Shared} {H : Hp} {E : XK} :
    (cxOf CX P w K mg base N q sc f cd A o s H E).K = K := rfl
theorem isi_yes {x : V} {a b : String} (ty : TyX K H x (.type a)) (e : kitB a b = some true) (q : Q (.bl true) H) : rIsi K [x, .ty b] H Q := ⟨_, _, _, _, _, rfl, .ty _, ty, kit_ty e, q⟩
theorem isi_no {x : V} {a b : String} (ty : TyX K H x (.type a)) (e : kitB a b = some false) (q : Q (.bl false) H) : rIsi K [x, .ty b] H Q := ⟨_, _, _, _, _, rfl, .ty _, ty, kit_ty e, q⟩
theorem isi_t {x : V} {a b : String} {r : Bool} (ty : TyX K H x (.type a)) (e : kitB a b = some r) (q : Q (.bl r) H) : rIsi K [x, .ty b] H Q := ⟨_, _, _, _, _, rfl, .ty _, ty, kit_ty e, q⟩
theorem tyx_tup {a : Addr} {xs : List V} (h : SqT K H a xs) : TyX K H (.ref a) (.type "tuple") := by
  rcases h with (h | ⟨o, h⟩) | ⟨o, its, n, h, c, _⟩
  · exact .base (.tup h)
  · exact .fTuple h
  · exact .kTuple h c
theorem tyx_lst {a : Addr} {xs : List V} (h : SqL K H a xs) : TyX K H (.ref a) (.type "list") := by
  rcases h with (h | ⟨o, h⟩) | ⟨o, its, n, h, c, _⟩
  · exact .base (.lst h)
  · exact .base (.frz h)
  · exact .kList h c
theorem sqt_same {a : Addr} {xs : List V} (e : Same H H') (h : SqT K H a xs) : SqT K H' a xs := by
  rcases h with (h | ⟨o, h⟩) | h
  · exact .inl (.inl (e _ _ h))
  · exact .inl (.inr ⟨o, e _ _ h⟩)
  · exact .inr h
theorem same_upd {p : Addr} {o : HO} (h : H p = none) : Same H (upd H p o) := fun b x e => by
  rw [upd_ne (ne_of_none e h)]
  exact e
/-- all that was tracked but what stands at a is as it was -/
def But (a : Addr) (H H' : Hp) : Prop := ∀ b o, b ≠ a → H b = some o → H' b = some o
theorem But.refl (a : Addr) (H : Hp) : But a H H := fun _ _ _ h => h
theorem But.trans {a : Addr} {H1 : Hp} (x : But a H H1) (y : But a H1 H') : But a H H' := fun b o n h => y b o n (x b o n h)
theorem same_but {a : Addr} (x : Same H H') : But a H H' := fun b o _ h => x b o h
theorem but_upd {a : Addr} {o : HO} : But a H (upd H a o) := fun b u n h => by
  rw [upd_ne n]
  exact h
theorem sqt_but {a b : Addr} {xs ys : List V} (e : But a H H') (ha : H a = some (.lst ys)) (h : SqT K H b xs) : SqT K H' b xs := by
  rcases h with (h | ⟨o, h⟩) | h
  · exact .inl (.inl (e _ _ (ne_of h ha (fun q => by cases q)) h))
  · exact .inl (.inr ⟨o, e _ _ (ne_of h ha (fun q => by cases q)) h⟩)
  · exact .inr h
theorem But.none_of {a p : Addr} (e : But a H H') (h : H' p = none) (n : p ≠ a) : H p = none := by
  cases q : H p with
  | none => rfl
  | some o =>
    rw [e p o n q] at h
    cases h
end
end Hx

set_option Elab.async false
set_option linter.all false
set_option maxRecDepth 100000
set_option maxHeartbeats 4000000
/-! zip of a list and a tuple -/
namespace Hx
open PySem PySem.Spec PyProof.Rows L2
def ItM (K : PySem.W.Frag) (a b : Addr) (xs ys : List V) : It where
  go := fun i H => SqL K H a xs ∧ SqT K H b ys ∧ i < xs.length ∧ i < ys.length
  yld := fun i H v H' => ∃ T x y, v = .ref T ∧ H T = none ∧ H' = upd H T (.tup [x, y]) ∧ xs[i]? = some x ∧ ys[i]? = some y
  stop := fun i H => SqL K H a xs ∧ SqT K H b ys ∧ i = xs.length ∧ i = ys.length
theorem turn_zipM {P : Program} {w : World} {K : PySem.W.Frag} {es : List Expr} {k : Nat} {ps : Pos} {xs ys : List V} {a b z TI TO i1 i2 : Addr} (S : ZipSep2 z TI TO i1 i2 [i1, a] [i2, b]) (h1a : a ≠ i1) (h2b : b ≠ i2) :
    Turn P w K (.Tuple es k ps) (ItM K a b xs ys) [z, TI, TO, i1, i2] z fun i h => IsZip h z TI TO .none ∧ IsTupOf2 h TI (.ref i1) (.ref i2) ∧ (∃ a1 a2, IsTupOf2 h TO a1 a2) ∧ h.IsListIter i1 a i ∧ h.IsTupleIter i2 b i where
  mem := List.mem_cons_self
  obj := by
    rintro i h ⟨hz, hTI, ⟨x, y, hTO⟩, ⟨o1, e1, _, d1⟩, ⟨o2, e2, _, d2⟩⟩ c hc
    simp only [List.mem_cons, List.not_mem_nil, or_false] at hc
    rcases hc with rfl | rfl | rfl | rfl | rfl
    · exact ⟨_, hz, fun v q => nomatch q⟩
    · exact ⟨_, hTI, fun v q => nomatch q⟩
    · exact ⟨_, hTO, fun v q => nomatch q⟩
    · exact ⟨o1, e1, fun v q => by rw [d1] at q; cases q⟩
    · exact ⟨o2, e2, fun v q => by rw [d2] at q; cases q⟩
  keep := by
    rintro i h h' ⟨hz, hTI, ⟨x, y, hTO⟩, g1, g2⟩ kk
    exact ⟨kk z (by simp) _ hz, kk TI (by simp) _ hTI, ⟨x, y, kk TO (by simp) _ hTO⟩, g1.at fun o q => kk i1 (by simp) o q, g2.at fun o q => kk i2 (by simp) o q⟩
  item := by
    rintro X rfl rfl rfl hc i pins s σ H E I hf ⟨hz, hTI, ⟨x0, y0, hTO⟩, g1, g2⟩ ⟨hq1, hq2, hi1, hi2⟩
    obtain ⟨its1, rv1, p1, _⟩ := I.list hq1
    obtain ⟨its2, rv2, p2, _⟩ := I.tuple hq2
    obtain ⟨u1, hu1, ru1⟩ := rv1.get (List.getElem?_eq_getElem hi1)
    obtain ⟨u2, hu2, ru2⟩ := rv2.get (List.getElem?_eq_getElem hi2)
    have l1 := rv1.length
    have l2 := rv2.length
    have hh : X.A.in1.handled = none := I.ok.hd hc
    have hzl : z < s.heap.objs.size := Heap.lt_size hz
    refine wpAny_pyNext_zipD2_item S (Draws.list hh i1 a h1a its1.toArray) (Draws.tuple hh i2 b h2b its2.toArray) hz hTI hTO ⟨g1, p1.isList⟩ ⟨g2, p2⟩ (by simp; omega) (by simp; omega) fun v1 v2 h' tk e1 e2 z' TO' g1' g2' hT hsz hk => ?_
    have f1 : v1 = u1 := by
      have q : its1[i]? = some v1 := by simpa using e1
      rw [hu1] at q
      exact (Option.some.inj q).symm
    have f2 : v2 = u2 := by
      have q : its2[i]? = some v2 := by simpa using e2
      rw [hu2] at q
      exact (Option.some.inj q).symm
    subst f1 f2
    refine ⟨_, rfl, wpAny_letOwnedTupleGo_zip (s := { s with heap := h', toks := tk }) z' fun h2 z2 sb => ?_⟩
    have hT2 : h2.get? s.heap.objs.size = some { cls := .type "tuple", data := .seq #[v1, v2] } := (sb.2 _ (Nat.ne_of_gt hzl)).trans hT
    have new : ObjOk X.prog X.w (upd H s.heap.objs.size (.tup [xs[i], ys[i]])) h2 s.heap.objs.size (.tup [xs[i], ys[i]]) := by
      refine ⟨?_, [v1, v2], .cons ru1 (.cons ru2 .nil), ⟨_, hT2, rfl, _, rfl⟩⟩
      show 2 ≤ sizeLine
      decide
    have kp : ∀ c o, c ∉ [z, TI, TO, i1, i2] → s.heap.get? c = some o → h2.get? c = some o := fun c o hc q => by
      simp only [List.mem_cons, List.not_mem_nil, or_false, not_or] at hc
      exact (sb.2 c hc.1).trans (hk c o hc.1 hc.2.2.1 hc.2.2.2.1 hc.2.2.2.2 q)
    have J := I.turnedNew (t' := tk) kp hf (Nat.le_refl _) new
    refine ⟨.ref s.heap.objs.size, _, J, rfl, ⟨_, _, _, rfl, I.hok.fresh (Nat.le_refl _), rfl, List.getElem?_eq_getElem hi1, List.getElem?_eq_getElem hi2⟩, ⟨z2, ?_, ⟨v1, v2, ?_⟩, ?_, ?_⟩, fun c hcm => ?_⟩
    · exact (sb.2 _ S.TIz).trans (hk _ _ S.TIz S.TITO S.TIi1 S.TIi2 hTI)
    · exact (sb.2 _ S.TOz).trans TO'
    · exact g1'.1.at fun o q => (sb.2 _ (fun e => S.zf1 (by simp [e]))).trans q
    · exact g2'.1.at fun o q => (sb.2 _ (fun e => S.zf2 (by simp [e]))).trans q
    · have hlt : c < s.heap.objs.size := by
        have hcm' := hcm
        simp only [List.mem_cons, List.not_mem_nil, or_false] at hcm'
        rcases hcm' with rfl | rfl | rfl | rfl | rfl
        · exact hzl
        · exact Heap.lt_size hTI
        · exact Heap.lt_size hTO
        · obtain ⟨_, q, _⟩ := g1
          exact Heap.lt_size q
        · obtain ⟨_, q, _⟩ := g2
          exact Heap.lt_size q
      rw [upd_ne (Nat.ne_of_lt hlt)]
      exact (hf c hcm).1
  done := by
    rintro X rfl rfl rfl hc i pins s σ H E I hf ⟨hz, hTI, ⟨x0, y0, hTO⟩, g1, g2⟩ ⟨hq1, hq2, hi1, hi2⟩
    obtain ⟨its1, rv1, p1, _⟩ := I.list hq1
    obtain ⟨its2, rv2, p2, _⟩ := I.tuple hq2
    have l1 := rv1.length
    have l2 := rv2.length
    have hh : X.A.in1.handled = none := I.ok.hd hc
    refine wpAny_pyNext_zipD2_end S (Draws.list hh i1 a h1a its1.toArray) (Draws.tuple hh i2 b h2b its2.toArray) hz hTI hTO ⟨g1, p1.isList⟩ ⟨g2, p2⟩ (by simp; omega) (by simp; omega) (.inl (by simp; omega)) fun h' tk hk => ⟨rfl, ?_⟩
    exact I.turnedL (t' := tk) (ch := [z, TI, TO, i1, i2]) (fun c o hb q => by
      simp only [List.mem_cons, List.not_mem_nil, or_false, not_or] at hb
      exact hk c o hb.1 hb.2.2.1 hb.2.2.2.1 hb.2.2.2.2 q) hf
  self := fun A i s Q E st h => wpAny_pyIter_zip st.1 h
def iZipM (K : PySem.W.Frag) (ta : TA) : TI := fun σ H R => ta σ H fun vs H1 => ∃ a b xs ys, vs = [.ref a, .ref b] ∧ SqL K H1 a xs ∧ SqT K H1 b ys ∧ R (ItM K a b xs ys) H1
theorem q_iZipM {K : PySem.W.Frag} {ta : TA} {σ : L2.St} {H : Hp} {R : It → Hp → Prop} : iZipM K ta σ H R = ta σ H fun vs H1 => ∃ a b xs ys, vs = [.ref a, .ref b] ∧ SqL K H1 a xs ∧ SqT K H1 b ys ∧ R (ItM K a b xs ys) H1 := rfl
theorem pi_zipM {X : Cx} {e e2 : Expr} {ta : TA} {p pos tpos : Pos} {es : List Expr} {kk : Nat} (hg : Gl X "zip") (hm : X.mg "zip" = none) (ha : PA X [e, e2] ta)
    (hs : starEach [e, e2] X.env = (false, eval e X.env) :: starEach [e2] X.env := by rfl) (hpl : (backTo pos (starEach [e2] X.env)).any (·.1) = false := by rfl) :
    PI X (.Tuple es kk tpos) (.Call (.Name "zip" p) [e, e2] [] pos) (iZipM X.K ta) := by
  refine ⟨fun pins s σ H R I h => ?_⟩
  refine Call_ (ld_blt I hg hm PyProof.Rows.boot_zip (PyProof.Rows.callWith_type1 (thn (ha.run pos pins s σ H _ I h) ?_) hs hpl))
  rintro us s1 ⟨vs, H1, I1, r1, a, b, xs, ys, rfl, hq1, hq2, q⟩
  cases r1 with
  | cons r rr =>
    cases rr with
    | cons r' rr =>
      cases rr
      cases r
      cases r'
      obtain ⟨its1, rv1, p1, _⟩ := I1.list hq1
      obtain ⟨its2, rv2, p2, _⟩ := I1.tuple hq2
      have la : a < s1.heap.objs.size := p1.lt
      have lb : b < s1.heap.objs.size := p2.lt
      refine zip_begins2 (begins_list a its1.toArray) (begins_tuple b its2.toArray) p1.isList p2 fun h' hz hTI hTO h1 h2 hsz hk => wpAny_pyIter_zip hz ?_
      have I2 : Inv X pins σ H1 { s1 with heap := h' } := I1.kept (t' := s1.toks) hk
      have S : ZipSep2 (s1.heap.objs.size + 4) (s1.heap.objs.size + 2) (s1.heap.objs.size + 3) s1.heap.objs.size (s1.heap.objs.size + 1) [s1.heap.objs.size, a] [s1.heap.objs.size + 1, b] :=
        zip_sep2 (fun c hc => by cases List.mem_singleton.mp hc; exact la) (fun c hc => by cases List.mem_singleton.mp hc; exact lb)
      refine ⟨_, _, _, _, H1, rfl, I2, turn_zipM S (Nat.ne_of_lt la) (Nat.ne_of_lt (Nat.lt_succ_of_lt lb)), ⟨hz, hTI, ⟨_, _, hTO⟩, ⟨_, h1, rfl, rfl⟩, ⟨_, h2, rfl, rfl⟩⟩, fun c hc => ?_, q⟩
      have hle : s1.heap.objs.size ≤ c := by
        simp only [List.mem_cons, List.not_mem_nil, or_false] at hc
        rcases hc with rfl | rfl | rfl | rfl | rfl
        · exact Nat.le_add_right _ _
        · exact Nat.le_add_right _ _
        · exact Nat.le_add_right _ _
        · exact Nat.le_refl _
        · exact Nat.le_add_right _ _
      exact I1.fpOk hle (I1.hok.fresh hle)
theorem piZipM {X : Cx} (K : PySem.W.Frag) (h : X.K = K) {e e2 : Expr} {ta : TA} {p pos tpos : Pos} {es : List Expr} {kk : Nat} (hg : Gl X "zip") (hm : X.mg "zip" = none) (ha : PA X [e, e2] ta)
    (hs : starEach [e, e2] X.env = (false, eval e X.env) :: starEach [e2] X.env := by rfl) (hpl : (backTo pos (starEach [e2] X.env)).any (·.1) = false := by rfl) :
    PI X (.Tuple es kk tpos) (.Call (.Name "zip" p) [e, e2] [] pos) (iZipM K ta) := by
  subst h
  exact pi_zipM hg hm ha hs hpl
theorem walk_zipM {K : PySem.W.Frag} {a b : Addr} {xs ys : List V} (hl : xs.length = ys.length) : Walk (ItM K a b xs ys) xs.length (fun H => SqL K H a xs ∧ SqT K H b ys) (YPair (fun i => xs[i]?) (fun i => ys[i]?)) where
  goes := fun i _ hi q => ⟨q.1, q.2, hi, by omega⟩
  stops := fun _ q => ⟨q.1, q.2, rfl, hl⟩
  yields := by
    rintro i H v H' _ q ⟨T, x, y, h1, h2, h3, h4, h5⟩
    exact ⟨T, x, y, h1, h2, h3, h4, h5⟩
theorem forZipM {K : PySem.W.Frag} {g : TG} {tb : TS} {D : Ends} {σ : L2.St} {H : Hp} {a b : Addr} {xs ys : List V} (hl : xs.length = ys.length) (Pv : Nat → L2.St → Hp → Prop) (h0 : Pv 0 σ H) (hG : ∀ i σ H, i ≤ xs.length → Pv i σ H → SqL K H a xs ∧ SqT K H b ys)
    (hs : ∀ (i : Nat) x y T σ H, xs[i]? = some x → ys[i]? = some y → Pv i σ H → H T = none → g (.ref T) σ (upd H T (.tup [x, y])) fun σ2 H2 => tb { D with nx := Pv (i + 1), ct := Pv (i + 1), bk := D.nx } σ2 H2)
    (hd : ∀ σ H, Pv xs.length σ H → D.nx σ H) : ForW (ItM K a b xs ys) g tb D σ H :=
  forW (walk_zipM hl) Pv h0 hG (fun i x σ H H' _ p y => by
    obtain ⟨T, u, v, rfl, hT, rfl, e1, e2⟩ := y
    exact hs i u v T σ H e1 e2 p hT) hd
/-- min(xs) of a list of ints that is not empty -/
theorem minQ {X : Cx} (K : PySem.W.Frag) (h : X.K = K) (hc : X.calm = true) : CallR X (.builtin "min") (rMin K) := by subst h; exact cr_min hc
theorem minDQ {X : Cx} (K : PySem.W.Frag) (h : X.K = K) (hc : X.calm = true) (hu : X.A.units + 64 < cLine) : CallRK X (.builtin "min") [Str.ofString "default"] (rMinD K) := by subst h; exact call_minD hc hu
end Hx

/-! The table of chains, as a function; no Python here. -/
set_option linter.all false
namespace Hx
structure Rope where
  f : Int
  r : Int
  l : Int
abbrev Tab := Nat → Nat → Option Int
def setD (d : Tab) (i j : Nat) (l : Int) : Tab := fun a b => if a = i ∧ b = j then some l else d a b
def keepD (d : Tab) (i j : Nat) (l : Int) : Tab := match d i j with
  | none => setD d i j l
  | some x => if l < x then setD d i j l else d
def baseD (n : Nat) : Tab := fun a b => if a = b ∧ a < n then some 0 else none
def ropesD (d : Tab) (rs : List Rope) : Tab := rs.foldl (fun d r => keepD d r.f.toNat r.r.toNat r.l) d
def fwStep (d : Tab) (m i j : Nat) : Tab := match d i m, d m j with
  | some a, some b => keepD d i j (a + b)
  | _, _ => d
def fwRow (n : Nat) (d : Tab) (m i k : Nat) : Tab := (List.range k).foldl (fun d j => fwStep d m i j) d
def fwMid (n : Nat) (d : Tab) (m k : Nat) : Tab := (List.range k).foldl (fun d i => fwRow n d m i n) d
def fwAll (n : Nat) (d : Tab) (k : Nat) : Tab := (List.range k).foldl (fun d m => fwMid n d m n) d
def chainTab (n : Nat) (rs : List Rope) : Tab := fwAll n (ropesD (baseD n) rs) n
theorem setD_at (d : Tab) (i j : Nat) (l : Int) : setD d i j l i j = some l := if_pos ⟨rfl, rfl⟩
theorem setD_ne (d : Tab) {i j a b : Nat} (l : Int) (h : ¬ (a = i ∧ b = j)) : setD d i j l a b = d a b := if_neg h
theorem keep_cases (d : Tab) (i j : Nat) (l : Int) : (keepD d i j l = setD d i j l ∧ ∀ x, d i j = some x → l < x) ∨ (keepD d i j l = d ∧ ∃ x, d i j = some x ∧ x ≤ l) := by
  unfold keepD
  cases h : d i j with
  | none => exact .inl ⟨rfl, fun x e => by cases e⟩
  | some x =>
    by_cases hl : l < x
    · refine .inl ⟨if_pos hl, fun y e => ?_⟩
      cases e
      exact hl
    · exact .inr ⟨if_neg hl, x, rfl, by omega⟩
theorem step_cases (d : Tab) (m i j : Nat) : (fwStep d m i j = d ∧ (d i m = none ∨ d m j = none)) ∨ ∃ a b, d i m = some a ∧ d m j = some b ∧ fwStep d m i j = keepD d i j (a + b) := by
  unfold fwStep
  cases h : d i m with
  | none => exact .inl ⟨rfl, .inl rfl⟩
  | some a =>
    cases k : d m j with
    | none => exact .inl ⟨rfl, .inr rfl⟩
    | some b => exact .inr ⟨a, b, rfl, rfl, rfl⟩
theorem fwRow_succ (n : Nat) (d : Tab) (m i k : Nat) : fwRow n d m i (k + 1) = fwStep (fwRow n d m i k) m i k := by
  unfold fwRow
  rw [List.range_succ, List.foldl_append]
  rfl
theorem fwMid_succ (n : Nat) (d : Tab) (m k : Nat) : fwMid n d m (k + 1) = fwRow n (fwMid n d m k) m k n := by
  unfold fwMid
  rw [List.range_succ, List.foldl_append]
  rfl
theorem fwAll_succ (n : Nat) (d : Tab) (k : Nat) : fwAll n d (k + 1) = fwMid n (fwAll n d k) k n := by
  unfold fwAll
  rw [List.range_succ, List.foldl_append]
  rfl
/-! what the table is worth, beside potentials x: positions that hold all ropes -/
def HoldsR (x : Nat → Int) (r : Rope) : Prop := x r.f.toNat - x r.r.toNat ≤ r.l
/-- no entry is less than x allows -/
def Sound (x : Nat → Int) (d : Tab) : Prop := ∀ i j l, d i j = some l → x i - x j ≤ l
theorem sound_keep {x : Nat → Int} {d : Tab} (h : Sound x d) {i j : Nat} {l : Int} (hl : x i - x j ≤ l) : Sound x (keepD d i j l) := by
  have hs : Sound x (setD d i j l) := fun a b y e => by
    unfold setD at e
    split at e
    · rename_i hab
      cases e
      obtain ⟨rfl, rfl⟩ := hab
      exact hl
    · exact h a b y e
  rcases keep_cases d i j l with ⟨e, _⟩ | ⟨e, _⟩ <;> rw [e]
  · exact hs
  · exact h
theorem sound_base (x : Nat → Int) (n : Nat) : Sound x (baseD n) := fun a b y e => by
  unfold baseD at e
  split at e
  · rename_i h
    cases e
    rw [h.1]
    omega
  · cases e
theorem sound_ropes {x : Nat → Int} : ∀ (rs : List Rope) {d : Tab}, Sound x d → (∀ r ∈ rs, HoldsR x r) → Sound x (ropesD d rs)
  | [], _, h, _ => h
  | r :: rs, d, h, hr => sound_ropes rs (d := keepD d r.f.toNat r.r.toNat r.l) (sound_keep h (hr r List.mem_cons_self)) fun q hq => hr q (List.mem_cons_of_mem _ hq)
theorem sound_step {x : Nat → Int} {d : Tab} (h : Sound x d) (m i j : Nat) : Sound x (fwStep d m i j) := by
  rcases step_cases d m i j with ⟨e, _⟩ | ⟨a, b, ea, eb, e⟩ <;> rw [e]
  · exact h
  · have h1 := h i m a ea
    have h2 := h m j b eb
    exact sound_keep h (by omega)
theorem sound_fold {α : Type} {x : Nat → Int} (f : Tab → α → Tab) (hf : ∀ d a, Sound x d → Sound x (f d a)) : ∀ (l : List α) {d : Tab}, Sound x d → Sound x (l.foldl f d)
  | [], _, h => h
  | a :: l, d, h => sound_fold f hf l (hf d a h)
theorem sound_all {x : Nat → Int} {d : Tab} (h : Sound x d) (n k : Nat) : Sound x (fwAll n d k) :=
  sound_fold _ (fun _ m h => sound_fold _ (fun _ i h => sound_fold _ (fun _ j h => sound_step h m i j) _ h) _ h) _ h
theorem sound_chain {x : Nat → Int} {n : Nat} {rs : List Rope} (hr : ∀ r ∈ rs, HoldsR x r) : Sound x (chainTab n rs) := sound_all (sound_ropes rs (sound_base x n) hr) n n
/-! entries only become less -/
/-- e is at most d -/
def Le (e d : Option Int) : Prop := ∀ y, d = some y → ∃ z, e = some z ∧ z ≤ y
theorem Le.refl (e : Option Int) : Le e e := fun y h => ⟨y, h, Int.le_refl y⟩
theorem Le.trans {a b c : Option Int} (h : Le a b) (k : Le b c) : Le a c := fun y e => by
  obtain ⟨z, ez, hz⟩ := k y e
  obtain ⟨u, eu, hu⟩ := h z ez
  exact ⟨u, eu, by omega⟩
theorem keep_le (d : Tab) (i j : Nat) (l : Int) (a b : Nat) : Le (keepD d i j l a b) (d a b) := by
  rcases keep_cases d i j l with ⟨e, h⟩ | ⟨e, _⟩ <;> rw [e]
  · by_cases hab : a = i ∧ b = j
    · obtain ⟨rfl, rfl⟩ := hab
      intro y ey
      have := h y ey
      exact ⟨l, setD_at d a b l, by omega⟩
    · rw [setD_ne d l hab]
      exact Le.refl _
  · exact Le.refl _
theorem keep_at (d : Tab) (i j : Nat) (l : Int) : Le (keepD d i j l i j) (some l) := by
  intro y ey
  cases ey
  rcases keep_cases d i j l with ⟨e, h⟩ | ⟨e, x, ex, hx⟩ <;> rw [e]
  · exact ⟨l, setD_at d i j l, Int.le_refl l⟩
  · exact ⟨x, ex, hx⟩
theorem keep_ne (d : Tab) {i j a b : Nat} (l : Int) (h : ¬ (a = i ∧ b = j)) : keepD d i j l a b = d a b := by
  rcases keep_cases d i j l with ⟨e, _⟩ | ⟨e, _⟩ <;> rw [e]
  exact setD_ne d l h
theorem le_fold {α : Type} (f : Tab → α → Tab) (hf : ∀ d x a b, Le (f d x a b) (d a b)) : ∀ (l : List α) (d : Tab) (a b : Nat), Le (l.foldl f d a b) (d a b)
  | [], d, a, b => Le.refl _
  | x :: l, d, a, b => (le_fold f hf l (f d x) a b).trans (hf d x a b)
theorem step_le (d : Tab) (m i j a b : Nat) : Le (fwStep d m i j a b) (d a b) := by
  rcases step_cases d m i j with ⟨e, _⟩ | ⟨_, _, _, _, e⟩ <;> rw [e]
  · exact Le.refl _
  · exact keep_le d i j _ a b
theorem all_le (n : Nat) (d : Tab) (k a b : Nat) : Le (fwAll n d k a b) (d a b) :=
  le_fold _ (fun d m a b => le_fold _ (fun d i a b => le_fold _ (fun d j a b => step_le d m i j a b) _ d a b) _ d a b) _ d a b
theorem ropes_le : ∀ (rs : List Rope) (d : Tab) (a b : Nat), Le (ropesD d rs a b) (d a b) := fun rs d a b => le_fold _ (fun d r a b => keep_le d _ _ _ a b) rs d a b
theorem ropes_at : ∀ (rs : List Rope) (d : Tab) (r : Rope), r ∈ rs → Le (ropesD d rs r.f.toNat r.r.toNat) (some r.l)
  | [], _, _, h => by cases h
  | q :: rs, d, r, h => by
    rcases List.mem_cons.mp h with rfl | h
    · exact (ropes_le rs (keepD d r.f.toNat r.r.toNat r.l) _ _).trans (keep_at d _ _ _)
    · exact ropes_at rs (keepD d q.f.toNat q.r.toNat q.l) r h
theorem chain_rope {n : Nat} {rs : List Rope} {r : Rope} (h : r ∈ rs) : Le (chainTab n rs r.f.toNat r.r.toNat) (some r.l) := (all_le n _ n _ _).trans (ropes_at rs _ r h)
theorem chain_diag {n : Nat} {rs : List Rope} {i : Nat} (h : i < n) : Le (chainTab n rs i i) (some 0) := by
  refine (all_le n _ n i i).trans ((ropes_le rs _ i i).trans ?_)
  unfold baseD
  rw [if_pos ⟨rfl, h⟩]
  exact Le.refl _
/-! the table is closed: no way by a third barge is less -/
def PassI (d : Tab) (m : Nat) (c : Tab) : Prop := ∀ a b, c a b = d a b ∨ ∃ p q, d a m = some p ∧ d m b = some q ∧ c a b = some (p + q) ∧ ∀ y, d a b = some y → p + q < y
theorem PassI.col {d c : Tab} {m : Nat} (h : PassI d m c) (h0 : d m m = some 0) (a : Nat) : c a m = d a m := by
  rcases h a m with e | ⟨p, q, e1, e2, e3, e4⟩
  · exact e
  · rw [h0] at e2
    cases e2
    have := e4 p e1
    omega
theorem PassI.row {d c : Tab} {m : Nat} (h : PassI d m c) (h0 : d m m = some 0) (b : Nat) : c m b = d m b := by
  rcases h m b with e | ⟨p, q, e1, e2, e3, e4⟩
  · exact e
  · rw [h0] at e1
    cases e1
    have := e4 q e2
    omega
theorem PassI.step {d c : Tab} {m : Nat} (h : PassI d m c) (h0 : d m m = some 0) (i j : Nat) : PassI d m (fwStep c m i j) ∧ ∀ p q, d i m = some p → d m j = some q → Le (fwStep c m i j i j) (some (p + q)) := by
  rcases step_cases c m i j with ⟨e, he⟩ | ⟨p, q, e1, e2, e⟩
  · rw [e]
    refine ⟨h, fun p q ep eq => ?_⟩
    rw [h.col h0, h.row h0, ep, eq] at he
    rcases he with he | he <;> cases he
  · rw [e]
    rw [h.col h0] at e1
    rw [h.row h0] at e2
    refine ⟨fun a b => ?_, fun p' q' ep eq => ?_⟩
    · rcases keep_cases c i j (p + q) with ⟨k, hk⟩ | ⟨k, _⟩
      · rw [k]
        by_cases hab : a = i ∧ b = j
        · obtain ⟨rfl, rfl⟩ := hab
          refine .inr ⟨p, q, e1, e2, setD_at c a b _, fun y ey => ?_⟩
          rcases h a b with e' | ⟨p', q', f1, f2, f3, _⟩
          · exact hk y (e'.trans ey)
          · rw [e1] at f1
            rw [e2] at f2
            cases f1
            cases f2
            have := hk _ f3
            omega
        · rw [setD_ne c _ hab]
          exact h a b
      · rw [k]
        exact h a b
    · rw [e1] at ep
      rw [e2] at eq
      cases ep
      cases eq
      exact keep_at c i j _
theorem pass_row (n : Nat) {d c : Tab} {m : Nat} (h : PassI d m c) (h0 : d m m = some 0) (i : Nat) : ∀ k, PassI d m (fwRow n c m i k) ∧ (∀ a b, Le (fwRow n c m i k a b) (c a b)) ∧ ∀ j, j < k → ∀ p q, d i m = some p → d m j = some q → Le (fwRow n c m i k i j) (some (p + q))
  | 0 => ⟨h, fun _ _ => Le.refl _, fun j hj => absurd hj (Nat.not_lt_zero j)⟩
  | k + 1 => by
    obtain ⟨h1, h2, h3⟩ := pass_row n h h0 i k
    obtain ⟨g1, g2⟩ := h1.step h0 i k
    rw [fwRow_succ]
    refine ⟨g1, fun a b => (step_le _ _ _ _ _ _).trans (h2 a b), fun j hj p q ep eq => ?_⟩
    by_cases hjk : j = k
    · subst hjk
      exact g2 p q ep eq
    · exact (step_le _ _ _ _ _ _).trans (h3 j (by omega) p q ep eq)
theorem pass_mid (n : Nat) {d : Tab} {m : Nat} (h0 : d m m = some 0) : ∀ k, PassI d m (fwMid n d m k) ∧ ∀ i, i < k → ∀ j, j < n → ∀ p q, d i m = some p → d m j = some q → Le (fwMid n d m k i j) (some (p + q))
  | 0 => ⟨fun _ _ => .inl rfl, fun i hi => absurd hi (Nat.not_lt_zero i)⟩
  | k + 1 => by
    obtain ⟨h1, h2⟩ := pass_mid n h0 k
    obtain ⟨g1, g2, g3⟩ := pass_row n h1 h0 k n
    rw [fwMid_succ]
    refine ⟨g1, fun i hi j hj p q ep eq => ?_⟩
    by_cases hik : i = k
    · subst hik
      exact g3 j hj p q ep eq
    · exact (g2 i j).trans (h2 i (by omega) j hj p q ep eq)
/-- closed by the first k barges -/
def Closed (n : Nat) (d : Tab) (k : Nat) : Prop := ∀ m, m < k → ∀ i, i < n → ∀ j, j < n → ∀ p q, d i m = some p → d m j = some q → Le (d i j) (some (p + q))
def Diag (n : Nat) (d : Tab) : Prop := ∀ i, i < n → d i i = some 0
theorem le_some {e : Option Int} {y z : Int} (h : Le e (some y)) (hy : y ≤ z) : Le e (some z) := fun u eu => by
  cases eu
  obtain ⟨v, ev, hv⟩ := h y rfl
  exact ⟨v, ev, by omega⟩
theorem closed_mid {n : Nat} {d : Tab} {k : Nat} (hk : k < n) (hd : Diag n d) (h : Closed n d k) : Closed n (fwMid n d k n) (k + 1) := by
  have h0 := hd k hk
  obtain ⟨hp, hq⟩ := pass_mid n h0 n
  have hle : ∀ a b, Le (fwMid n d k n a b) (d a b) := fun a b => le_fold _ (fun d i a b => le_fold _ (fun d j a b => step_le d k i j a b) _ d a b) _ d a b
  intro m hm i hi j hj p q ep eq
  by_cases hmk : m = k
  · subst hmk
    rw [hp.col h0] at ep
    rw [hp.row h0] at eq
    exact hq i hi j hj p q ep eq
  · have hm' : m < k := by omega
    have hmn : m < n := by omega
    rcases hp i m with e | ⟨p1, q1, a1, a2, a3, _⟩
    · rw [e] at ep
      rcases hp m j with e' | ⟨p2, q2, b1, b2, b3, _⟩
      · rw [e'] at eq
        exact (hle i j).trans (h m hm' i hi j hj p q ep eq)
      · rw [eq] at b3
        cases b3
        obtain ⟨z, ez, hz⟩ := h m hm' i hi k hk p p2 ep b1 _ rfl
        exact le_some (hq i hi j hj z q2 ez b2) (by omega)
    · rw [ep] at a3
      cases a3
      rcases hp m j with e' | ⟨p2, q2, b1, b2, b3, _⟩
      · rw [e'] at eq
        obtain ⟨z, ez, hz⟩ := h m hm' k hk j hj q1 q a2 eq _ rfl
        exact le_some (hq i hi j hj p1 z a1 ez) (by omega)
      · rw [eq] at b3
        cases b3
        obtain ⟨z, ez, hz⟩ := h m hm' k hk k hk q1 p2 a2 b1 _ rfl
        rw [h0] at ez
        cases ez
        exact le_some (hq i hi j hj p1 q2 a1 b2) (by omega)
theorem diag_of {n : Nat} {x : Nat → Int} {d : Tab} (hs : Sound x d) (h : ∀ i, i < n → Le (d i i) (some 0)) : Diag n d := fun i hi => by
  obtain ⟨z, ez, hz⟩ := h i hi 0 rfl
  have := hs i i z ez
  have : z = 0 := by omega
  rw [ez, this]
theorem fwAll_good {n : Nat} {x : Nat → Int} {d : Tab} (hs : Sound x d) (hd : Diag n d) : ∀ k, k ≤ n → Diag n (fwAll n d k) ∧ Closed n (fwAll n d k) k
  | 0, _ => ⟨hd, fun m hm => absurd hm (Nat.not_lt_zero m)⟩
  | k + 1, hk => by
    obtain ⟨h1, h2⟩ := fwAll_good hs hd k (by omega)
    refine ⟨diag_of (sound_all hs n (k + 1)) fun i hi => ?_, ?_⟩
    · have := all_le n d (k + 1) i i
      rw [hd i hi] at this
      exact this
    · rw [fwAll_succ]
      exact closed_mid (by omega) h1 h2
theorem chain_good {n : Nat} {x : Nat → Int} {rs : List Rope} (hr : ∀ r ∈ rs, HoldsR x r) : Diag n (chainTab n rs) ∧ Closed n (chainTab n rs) n := by
  refine fwAll_good (sound_ropes rs (sound_base x n) hr) (diag_of (sound_ropes rs (sound_base x n) hr) fun i hi => (ropes_le rs _ i i).trans ?_) n (Nat.le_refl n)
  unfold baseD
  rw [if_pos ⟨rfl, hi⟩]
  exact Le.refl _
end Hx

set_option Elab.async false
set_option linter.all false
set_option maxRecDepth 100000
set_option maxHeartbeats 4000000
namespace Hx
open PySem PySem.Spec PyProof.Rows L2
def topS (i : Nat) : Stmt := PySem.Challenge.pw_haulropes_k27_whole_texts_and_bytes_of_p.main.body.getD i (.Pass ⟨0, 0, 0, 0⟩)
local macro_rules | `(tactic| walk_at "rd") => `(tactic| (try simp only [q_var, q_c, q_op, q_un, q_rI, q_rI0, q_rU, q_rEq, q_rNe, q_test, q_tB, q_and, q_or, q_not, q_andV, q_orV, q_notV, q_if, q_isN, q_notN, q_chain, q_next, q_seq, q_break, q_cont, q_drop, q_ret, q_retN, q_ifS, q_never, q_gN, q_gNil, q_gCons, q_gTup, q_gSub, q_asg, q_par, q_aug, q_nil, q_cons, q_tup, q_lst, q_call, q_cb, q_noPart, q_part, q_sl, q_bm0, q_bm, q_yes, q_for, q_lc, q_iList, q_iTup, q_iRng1, q_iEnumT, q_iEnum, q_iRng2, q_iZipA, q_iZipM, q_ipI, q_ckw, q_len, q_listOf, q_tupleOf, L2.start, cx_K, wipe, List.map_cons, List.map_nil, List.length_cons, List.length_nil, List.cons_append, List.nil_append, List.append_nil, List.replicate, List.getElem?_cons_zero, List.getElem?_cons_succ, List.set_cons_zero, List.set_cons_succ, Option.some.injEq, List.cons.injEq, exists_eq_left', exists_eq_left, exists_and_left, V.int.injEq, V.bl.injEq, V.ref.injEq, if_true, if_false, Bool.not_true, Bool.not_false, true_and, and_true, Bool.false_eq_true, ite_true, ite_false, Nat.reduceAdd, Nat.reduceSub, reduceCtorEq, decide_false, decide_true, Int.toNat_natCast, false_and, exists_false, or_false, false_or]))
section
variable {P : Program} {w : World} {K : PySem.W.Frag} {mg : Str → Option Value} {base : Heap}
def s_is_number : Stmt := topS 14
abbrev n_is_number : List Str := ["value", "low", "high"]
abbrev p_is_number : List Str := ["value", "low", "high"]
theorem sc_is_number : FnScope n_is_number p_is_number (defScope s_is_number) := ⟨rfl, rfl, rfl, by decide +kernel, rfl, by decide +kernel, by decide +kernel⟩
def sp_is_number (K : PySem.W.Frag) : Sp := fun vs H Q _ => ∃ i lo hi : Int, vs = [.int i, .int lo, .int hi] ∧ Q (.bl (decide (lo ≤ i ∧ i ≤ hi))) H
theorem df_is_number (T : Here K mg "is_number" s_is_number) (B : Blt mg) : Df P w K mg base CX0 "is_number" 1 p_is_number (sp_is_number K) := by
  refine T.df sc_is_number (fun _ _ _ _ _ _ us hl => match us, hl with | [_, _, _], _ => rfl) (fun vs H Q E h => by obtain ⟨_, _, _, rfl, _⟩ := h; rfl) (fun f cdv A outer s H vs Q E hr h => ?_)
  obtain ⟨i, lo, hi, rfl, q⟩ := h
  refine ⟨_, pss_cons (ps_if (PW.pt (pw_or (pt_not (pt_val (pe_callB (isi K rfl) (by rfl) B.isinstance (by decide +kernel) (pa_cons (pv 0) (pa_cons ((pe_bltn (v := .ty "int") (by rfl) B.int (by decide +kernel) rfl)) pa_nil))))) (pw_or1 (pt_val (pe_callB (isi K rfl) (by rfl) B.isinstance (by decide +kernel) (pa_cons (pv 0) (pa_cons ((pe_bltn (v := .ty "bool") (by rfl) B.bool (by decide +kernel) rfl)) pa_nil))))))) (pss_one (ps_ret (pe_bl))) (pss_nil))
      (pss_one (ps_ret (pe_chain op_le op_le (pv 1) (pv 0) (pv 2)))), ?_⟩
  walk_at "rd"
  refine isi_yes (.base (.int i)) (by decide +kernel) ?_
  walk_at "rd"
  refine isi_no (.base (.int i)) (by decide +kernel) ?_
  walk_at "rd"
  by_cases h1 : lo ≤ i
  · rw [if_pos (decide_eq_true h1)]
    simpa only [h1, true_and] using q
  · rw [if_neg (by simpa using h1)]
    simpa only [h1, false_and, decide_false] using q
def s_is_barge : Stmt := topS 15
abbrev n_is_barge : List Str := ["value", "count"]
abbrev p_is_barge : List Str := ["value", "count"]
theorem sc_is_barge : FnScope n_is_barge p_is_barge (defScope s_is_barge) := ⟨rfl, rfl, rfl, by decide +kernel, rfl, by decide +kernel, by decide +kernel⟩
def sp_is_barge (K : PySem.W.Frag) : Sp := fun vs H Q _ => ∃ i n : Int, vs = [.int i, .int n] ∧ Q (.bl (decide (0 ≤ i ∧ i < n))) H
theorem df_is_barge (T : Here K mg "is_barge" s_is_barge) (D_is_number : Df P w K mg base CX0 "is_number" 1 p_is_number (sp_is_number K)) : Df P w K mg base CX0 "is_barge" 2 p_is_barge (sp_is_barge K) := by
  refine T.df sc_is_barge (fun _ _ _ _ _ _ us hl => match us, hl with | [_, _], _ => rfl) (fun vs H Q E h => by obtain ⟨_, _, rfl, _⟩ := h; rfl) (fun f cdv A outer s H vs Q E hr h => ?_)
  obtain ⟨i, n, rfl, q⟩ := h
  refine ⟨_, pss_one (ps_ret (D_is_number.call (hr.mono (by decide)) (by rfl) (pa_cons (pv 0) (pa_cons (pe_int) (pa_cons (pe_op op_sub (pv 1) (pe_int)) pa_nil))))), ?_⟩
  walk_at "rd"
  refine ⟨i, 0, n - 1, rfl, ?_⟩
  have e : decide (0 ≤ i ∧ i < n) = decide (0 ≤ i ∧ i ≤ n - 1) := decide_eq_decide.mpr (by omega)
  rw [← e]
  exact q
/-! fleets -/
def RopeV (K : PySem.W.Frag) (H : Hp) (v : V) (r : Rope) : Prop := ∃ c, v = .ref c ∧ SqT K H c [.int r.f, .int r.r, .int r.l]
def RopeOk (n : Int) (r : Rope) : Prop := 0 ≤ r.f ∧ r.f < n ∧ 0 ≤ r.r ∧ r.r < n ∧ r.f ≠ r.r ∧ -99 ≤ r.l ∧ r.l ≤ 99
theorem RopeV.mono {H H' : Hp} {v : V} {r : Rope} (h : RopeV K H v r) (e : Same H H') : RopeV K H' v r := by
  obtain ⟨c, rfl, h⟩ := h
  exact ⟨c, rfl, sqt_same e h⟩
def s_is_rope : Stmt := topS 16
abbrev n_is_rope : List Str := ["value", "count", "front", "rear", "length"]
abbrev p_is_rope : List Str := ["value", "count"]
theorem sc_is_rope : FnScope n_is_rope p_is_rope (defScope s_is_rope) := ⟨rfl, rfl, rfl, by decide +kernel, rfl, by decide +kernel, by decide +kernel⟩
def sp_is_rope (K : PySem.W.Frag) : Sp := fun vs H Q _ => ∃ (v : V) (r : Rope) (n : Int), vs = [v, .int n] ∧ RopeV K H v r ∧ RopeOk n r ∧ Q (.bl true) H
theorem df_is_rope (T : Here K mg "is_rope" s_is_rope) (B : Blt mg) (C_LONGEST : ∃ u, mg "LONGEST" = some (.int 99 u)) (D_is_number : Df P w K mg base CX0 "is_number" 1 p_is_number (sp_is_number K))
    (D_is_barge : Df P w K mg base CX0 "is_barge" 2 p_is_barge (sp_is_barge K)) : Df P w K mg base CX0 "is_rope" 3 p_is_rope (sp_is_rope K) := by
  refine T.df sc_is_rope (fun _ _ _ _ _ _ us hl => match us, hl with | [_, _], _ => rfl) (fun vs H Q E h => by obtain ⟨_, _, _, rfl, _⟩ := h; rfl) (fun f cdv A outer s H vs Q E hr h => ?_)
  obtain ⟨v, r, n, rfl, ⟨c, rfl, hc⟩, ⟨h1, h2, h3, h4, h5, h6, h7⟩, q⟩ := h
  refine ⟨_, pss_cons (ps_if (PW.pt (pw_or (pt_not (pt_val (pe_callB (isi K rfl) (by rfl) B.isinstance (by decide +kernel) (pa_cons (pv 0) (pa_cons ((pe_bltn (v := .ty "tuple") (by rfl) B.tuple (by decide +kernel) rfl)) pa_nil))))) (pw_or1 (pt_cmpR op_ne (pe_callB (lenQ K rfl) (by rfl) B.len (by decide +kernel) (pa_cons (pv 0) pa_nil)) (pe_int) (nomark _))))) (pss_one (ps_ret (pe_bl))) (pss_nil))
      (pss_cons (ps_asg (pv 0) (pgTup K rfl (n := 3) rfl (pgs_cons (pg_name (i := 2) sc_is_rope.nd rfl (by first | exact Or.inl rfl | exact Or.inr rfl)) (pgs_cons (pg_name (i := 3) sc_is_rope.nd rfl (by first | exact Or.inl rfl | exact Or.inr rfl)) (pgs_cons (pg_name (i := 4) sc_is_rope.nd rfl (by first | exact Or.inl rfl | exact Or.inr rfl)) pgs_nil)))))
      (pss_cons (ps_if (PW.pt (pw_or (pt_not (pt_val (D_is_barge.call (hr.mono (by decide)) (by rfl) (pa_cons (pv 2) (pa_cons (pv 1) pa_nil))))) (pw_or1 (pt_not (pt_val (D_is_barge.call (hr.mono (by decide)) (by rfl) (pa_cons (pv 3) (pa_cons (pv 1) pa_nil)))))))) (pss_one (ps_ret (pe_bl))) (pss_nil))
      (pss_one (ps_ret (pe_and (pe_cmpR op_ne (pv 2) (pv 3) (nomark _)) (pe_one (D_is_number.call (hr.mono (by decide)) (by rfl) (pa_cons (pv 4) (pa_cons (pe_un un_neg (pe_gi (by rfl) C_LONGEST)) (pa_cons (pe_gi (by rfl) C_LONGEST) pa_nil)))))))))), ?_⟩
  walk_at "rd"
  refine isi_yes (tyx_tup hc) (by decide +kernel) ?_
  walk_at "rd"
  refine ⟨_, .inr hc, rfl, iteNS rfl ⟨_, hc, rfl, ?_⟩⟩
  walk_at "rd"
  refine ⟨_, _, rfl, ?_⟩
  rw [decide_eq_true (show 0 ≤ r.f ∧ r.f < n from ⟨h1, h2⟩)]
  walk_at "rd"
  refine ⟨_, _, rfl, ?_⟩
  rw [decide_eq_true (show 0 ≤ r.r ∧ r.r < n from ⟨h3, h4⟩)]
  walk_at "rd"
  refine ⟨rfl, ?_⟩
  rw [decide_eq_false h5]
  walk_at "rd"
  refine ⟨_, _, _, rfl, ?_⟩
  rw [decide_eq_true (show -99 ≤ r.l ∧ r.l ≤ 99 from ⟨h6, h7⟩)]
  exact q
/-- the value v is the fleet of n barges with the ropes rs -/
def FleetV (K : PySem.W.Frag) (H : Hp) (v : V) (n : Int) (rs : List Rope) : Prop := ∃ a b xs, v = .ref a ∧ SqT K H a [.int n, .ref b] ∧ SqT K H b xs ∧ xs.length = rs.length ∧ ∀ (i : Nat) (r : Rope), rs[i]? = some r → ∃ v, xs[i]? = some v ∧ RopeV K H v r
def FleetOk (n : Int) (rs : List Rope) : Prop := 1 ≤ n ∧ n ≤ 8 ∧ rs.length ≤ 40 ∧ ∀ r ∈ rs, RopeOk n r
def s_check_fleet : Stmt := topS 17
abbrev n_check_fleet : List Str := ["fleet", "count", "ropes", "index", "rope"]
abbrev p_check_fleet : List Str := ["fleet"]
theorem sc_check_fleet : FnScope n_check_fleet p_check_fleet (defScope s_check_fleet) := ⟨rfl, rfl, rfl, by decide +kernel, rfl, by decide +kernel, by decide +kernel⟩
def sp_check_fleet (K : PySem.W.Frag) : Sp := fun vs H Q _ => ∃ (v : V) (n : Int) (rs : List Rope), vs = [v] ∧ FleetV K H v n rs ∧ FleetOk n rs ∧ ∀ H', Same H H' → Q .non H'
theorem df_check_fleet (T : Here K mg "check_fleet" s_check_fleet) (B : Blt mg) (C_MOST_BARGES : ∃ u, mg "MOST_BARGES" = some (.int 8 u)) (C_MOST_ROPES : ∃ u, mg "MOST_ROPES" = some (.int 40 u))
    (D_is_number : Df P w K mg base CX0 "is_number" 1 p_is_number (sp_is_number K)) (D_is_rope : Df P w K mg base CX0 "is_rope" 3 p_is_rope (sp_is_rope K)) : Df P w K mg base CX0 "check_fleet" 4 p_check_fleet (sp_check_fleet K) := by
  refine T.df sc_check_fleet (fun _ _ _ _ _ _ us hl => match us, hl with | [_], _ => rfl) (fun vs H Q E h => by obtain ⟨_, _, _, rfl, _⟩ := h; rfl) (fun f cdv A outer s H vs Q E hr h => ?_)
  obtain ⟨v, n, rs, rfl, ⟨a, b, xs, rfl, ha, hb, hl, hx⟩, ⟨h1, h2, h3, h4⟩, q⟩ := h
  refine ⟨_, pss_cons (ps_if (PW.pt (pw_or (pt_not (pt_val (pe_callB (isi K rfl) (by rfl) B.isinstance (by decide +kernel) (pa_cons (pv 0) (pa_cons ((pe_bltn (v := .ty "tuple") (by rfl) B.tuple (by decide +kernel) rfl)) pa_nil))))) (pw_or1 (pt_cmpR op_ne (pe_callB (lenQ K rfl) (by rfl) B.len (by decide +kernel) (pa_cons (pv 0) pa_nil)) (pe_int) (nomark _))))) (pss_one (ps_never)) (pss_nil))
      (pss_cons (ps_asg (pv 0) (pgTup K rfl (n := 2) rfl (pgs_cons (pg_name (i := 1) sc_check_fleet.nd rfl (by first | exact Or.inl rfl | exact Or.inr rfl)) (pgs_cons (pg_name (i := 2) sc_check_fleet.nd rfl (by first | exact Or.inl rfl | exact Or.inr rfl)) pgs_nil))))
      (pss_cons (ps_if (pt_not (pt_val (D_is_number.call (hr.mono (by decide)) (by rfl) (pa_cons (pv 1) (pa_cons (pe_int) (pa_cons (pe_gi (by rfl) C_MOST_BARGES) pa_nil)))))) (pss_one (ps_never)) (pss_nil))
      (pss_cons (ps_if (pt_not (pt_val (pe_callB (isi K rfl) (by rfl) B.isinstance (by decide +kernel) (pa_cons (pv 2) (pa_cons ((pe_bltn (v := .ty "tuple") (by rfl) B.tuple (by decide +kernel) rfl)) pa_nil))))) (pss_one (ps_never)) (pss_nil))
      (pss_one (ps_for PassesOwn.never rfl (pi_enumT (by rfl) B.enumerate (pa_cons (pv 2) pa_nil)) (pgTup K rfl (n := 2) rfl (pgs_cons (pg_name (i := 3) sc_check_fleet.nd rfl (by first | exact Or.inl rfl | exact Or.inr rfl)) (pgs_cons (pg_name (i := 4) sc_check_fleet.nd rfl (by first | exact Or.inl rfl | exact Or.inr rfl)) pgs_nil))) (pss_one (ps_if (PW.pt (pw_or (pt_cmpR op_eq (pv 3) (pe_gi (by rfl) C_MOST_ROPES) (nomark _)) (pw_or1 (pt_not (pt_val (D_is_rope.call (hr.mono (by decide)) (by rfl) (pa_cons (pv 4) (pa_cons (pv 1) pa_nil)))))))) (pss_one (ps_never)) (pss_nil)))))))), ?_⟩
  walk_at "rd"
  refine isi_yes (tyx_tup ha) (by decide +kernel) ?_
  walk_at "rd"
  refine ⟨_, .inr ha, rfl, iteNS rfl ⟨_, ha, rfl, ?_⟩⟩
  walk_at "rd"
  refine ⟨_, _, _, rfl, ?_⟩
  rw [decide_eq_true (show 1 ≤ n ∧ n ≤ 8 from ⟨h1, h2⟩)]
  walk_at "rd"
  refine isi_yes (tyx_tup hb) (by decide +kernel) ?_
  walk_at "rd"
  refine ⟨⟨_, hb⟩, ?_⟩
  refine forEnumT (xs := xs) (fun i σ H' => ∃ x3 x4, σ = [some (.ref a), some (.int n), some (.ref b), x3, x4] ∧ Same H H') ⟨_, _, rfl, .refl _⟩ (fun i σ H' _ p => ?_) (fun i x T σ H' hx' p hT => ?_) (fun σ H' p => ?_)
  · obtain ⟨_, _, _, e⟩ := p
    exact sqt_same e hb
  · obtain ⟨x3, x4, rfl, e⟩ := p
    have hi : i < rs.length := by
      rw [← hl]
      exact (List.getElem?_eq_some_iff.mp hx').1
    obtain ⟨u, hu, hv⟩ := hx i rs[i] (List.getElem?_eq_getElem hi)
    cases hx'.symm.trans hu
    walk_at "rd"
    refine ⟨_, .of upd_same, rfl, ?_⟩
    walk_at "rd"
    refine ⟨rfl, ?_⟩
    rw [decide_eq_false (show ¬ (i : Int) = 40 by omega)]
    walk_at "rd"
    refine ⟨_, _, _, rfl, (hv.mono e).mono (same_upd hT), h4 _ (List.getElem_mem hi), ?_⟩
    walk_at "rd"
    exact ⟨_, _, ⟨rfl, rfl⟩, e.trans (same_upd hT)⟩
  · obtain ⟨_, _, _, e⟩ := p
    exact q _ e
/-! entries: positions (ints), or also None -/
def ovV : Option Int → V
  | none => .non
  | some i => .int i
theorem cut_all (k : Nat) {n : Int} (h : (k : Int) = n) : HT.sIx k 0 none = 0 ∧ HT.sIx k k (some n) = k := by
  subst h
  exact ⟨rfl, by rw [HT.sIx_nat, Nat.min_self]⟩
def s_first_wrong_entry : Stmt := topS 18
abbrev n_first_wrong_entry : List Str := ["entries", "count", "blank", "index", "entry"]
abbrev p_first_wrong_entry : List Str := ["entries", "count", "blank"]
theorem sc_first_wrong_entry : FnScope n_first_wrong_entry p_first_wrong_entry (defScope s_first_wrong_entry) := ⟨rfl, rfl, rfl, by decide +kernel, rfl, by decide +kernel, by decide +kernel⟩
def sp_first_wrong_entry (K : PySem.W.Frag) : Sp := fun vs H Q _ => ∃ (a : Addr) (es : List (Option Int)) (n : Int) (b : Bool), vs = [.ref a, .int n, .bl b] ∧ SqT K H a (es.map ovV) ∧ (es.length : Int) = n ∧
  (∀ e ∈ es, (e = none → b = true) ∧ ∀ i, e = some i → -9999 ≤ i ∧ i ≤ 9999) ∧ ∀ H', Same H H' → Q .non H'
theorem df_first_wrong_entry (T : Here K mg "first_wrong_entry" s_first_wrong_entry) (B : Blt mg) (C_FARTHEST : ∃ u, mg "FARTHEST" = some (.int 9999 u))
    (D_is_number : Df P w K mg base CX0 "is_number" 1 p_is_number (sp_is_number K)) : Df P w K mg base CX0 "first_wrong_entry" 2 p_first_wrong_entry (sp_first_wrong_entry K) := by
  refine T.df sc_first_wrong_entry (fun _ _ _ _ _ _ us hl => match us, hl with | [_, _, _], _ => rfl) (fun vs H Q E h => by obtain ⟨_, _, _, _, rfl, _⟩ := h; rfl) (fun f cdv A outer s H vs Q E hr h => ?_)
  obtain ⟨a, es, n, b, rfl, ha, hl, hes, q⟩ := h
  refine ⟨_, pss_cons (ps_if (pt_not (pt_val (pe_callB (isi K rfl) (by rfl) B.isinstance (by decide +kernel) (pa_cons (pv 0) (pa_cons ((pe_bltn (v := .ty "tuple") (by rfl) B.tuple (by decide +kernel) rfl)) pa_nil))))) (pss_one (ps_ret (pe_int))) (pss_nil))
      (pss_cons (ps_for PassesOwn.never rfl (pi_enumT (by rfl) B.enumerate (pa_cons (pe_slice (slA K rfl) (pv 0) po_none (po_some (pv 1))) pa_nil)) (pgTup K rfl (n := 2) rfl (pgs_cons (pg_name (i := 3) sc_first_wrong_entry.nd rfl (by first | exact Or.inl rfl | exact Or.inr rfl)) (pgs_cons (pg_name (i := 4) sc_first_wrong_entry.nd rfl (by first | exact Or.inl rfl | exact Or.inr rfl)) pgs_nil))) (pss_cons (ps_if (PW.pt (pw_and (pt_val (pv 2)) (pw_and1 (pt_cmpR op_isN (pv 4) (pe_non) (nomark _))))) (pss_one (ps_continue)) (pss_nil))
      (pss_one (ps_if (pt_not (pt_val (D_is_number.call (hr.mono (by decide)) (by rfl) (pa_cons (pv 4) (pa_cons (pe_un un_neg (pe_gi (by rfl) C_FARTHEST)) (pa_cons (pe_gi (by rfl) C_FARTHEST) pa_nil)))))) (pss_one (ps_ret (pv 3))) (pss_nil)))))
      (pss_cons (ps_if (pt_cmpR op_ne (pe_callB (lenQ K rfl) (by rfl) B.len (by decide +kernel) (pa_cons (pv 0) pa_nil)) (pv 1) (nomark _)) (pss_one (ps_ret (pe_callB (call_min2 rfl) (by rfl) B.min (by decide +kernel) (pa_cons (pe_callB (lenQ K rfl) (by rfl) B.len (by decide +kernel) (pa_cons (pv 0) pa_nil)) (pa_cons (pv 1) pa_nil))))) (pss_nil))
      (pss_one (ps_ret (pe_non))))), ?_⟩
  walk_at "rd"
  refine isi_yes (tyx_tup ha) (by decide +kernel) ?_
  walk_at "rd"
  have hl' : (es.map ovV).length = es.length := List.length_map ..
  refine ⟨a, _, rfl, ha, fun _ => ?_, fun e => absurd (cut_all _ (by rw [hl']; exact hl)) e⟩
  walk_at "rd"
  refine ⟨⟨_, ha⟩, ?_⟩
  refine forEnumT (xs := es.map ovV) (fun i σ H' => ∃ x3 x4, σ = [some (.ref a), some (.int n), some (.bl b), x3, x4] ∧ Same H H') ⟨_, _, rfl, .refl _⟩ (fun i σ H' _ p => ?_) (fun i x T σ H' hx' p hT => ?_) (fun σ H' p => ?_)
  · obtain ⟨_, _, _, e⟩ := p
    exact sqt_same e ha
  · obtain ⟨x3, x4, rfl, e⟩ := p
    obtain ⟨en, hen, rfl⟩ := List.mem_map.mp (List.mem_of_getElem? hx')
    obtain ⟨hn, hi⟩ := hes en hen
    walk_at "rd"
    refine ⟨_, .of upd_same, rfl, ?_⟩
    walk_at "rd"
    have eT := e.trans (same_upd (o := .tup [V.int i, ovV en]) hT)
    cases en with
    | none =>
      cases hn rfl
      simp only [ovV, decide_true, ite_true, exists_eq_left', true_and, and_true]
      exact ⟨_, _, ⟨rfl, rfl⟩, eT⟩
    | some k =>
      have hk := hi k rfl
      cases b <;> simp only [ovV, reduceCtorEq, decide_false, Bool.false_eq_true, ite_false, ite_true]
      all_goals
        refine ⟨k, _, _, rfl, ?_⟩
        rw [decide_eq_true (show -9999 ≤ k ∧ k ≤ 9999 from hk)]
        walk_at "rd"
        exact ⟨_, _, ⟨rfl, rfl⟩, eT⟩
  · obtain ⟨x3, x4, rfl, e⟩ := p
    walk_at "rd"
    refine ⟨_, .inr (sqt_same e ha), rfl, ?_⟩
    rw [decide_eq_true (show (((es.map ovV).length : Nat) : Int) = n by rw [hl']; exact hl)]
    walk_at "rd"
    exact q _ e
/-- the value v is positions -/
def IntsT (K : PySem.W.Frag) (H : Hp) (v : V) (xs : List Int) : Prop := ∃ a, v = .ref a ∧ SqT K H a (xs.map V.int)
theorem IntsT.mono {H H' : Hp} {v : V} {xs : List Int} (h : IntsT K H v xs) (e : Same H H') : IntsT K H' v xs := by
  obtain ⟨c, rfl, h⟩ := h
  exact ⟨c, rfl, sqt_same e h⟩
def OptsT (K : PySem.W.Frag) (H : Hp) (v : V) (xs : List (Option Int)) : Prop := ∃ a, v = .ref a ∧ SqT K H a (xs.map ovV)
theorem OptsT.mono {H H' : Hp} {v : V} {xs : List (Option Int)} (h : OptsT K H v xs) (e : Same H H') : OptsT K H' v xs := by
  obtain ⟨c, rfl, h⟩ := h
  exact ⟨c, rfl, sqt_same e h⟩
theorem FleetV.mono {H H' : Hp} {v : V} {n : Int} {rs : List Rope} (h : FleetV K H v n rs) (e : Same H H') : FleetV K H' v n rs := by
  obtain ⟨a, b, xs, rfl, ha, hb, hl, hx⟩ := h
  refine ⟨a, b, xs, rfl, sqt_same e ha, sqt_same e hb, hl, fun i r hr => ?_⟩
  obtain ⟨u, hu, hv⟩ := hx i r hr
  exact ⟨u, hu, hv.mono e⟩
def InRange (xs : List Int) : Prop := ∀ x ∈ xs, -9999 ≤ x ∧ x ≤ 9999
theorem some_map (xs : List Int) : (xs.map some).map ovV = xs.map V.int := by
  rw [List.map_map]
  rfl
def s_check_positions : Stmt := topS 19
abbrev n_check_positions : List Str := ["fleet", "positions", "index"]
abbrev p_check_positions : List Str := ["fleet", "positions"]
theorem sc_check_positions : FnScope n_check_positions p_check_positions (defScope s_check_positions) := ⟨rfl, rfl, rfl, by decide +kernel, rfl, by decide +kernel, by decide +kernel⟩
def sp_check_positions (K : PySem.W.Frag) : Sp := fun vs H Q _ => ∃ (v u : V) (n : Int) (rs : List Rope) (xs : List Int), vs = [v, u] ∧ FleetV K H v n rs ∧ IntsT K H u xs ∧ (xs.length : Int) = n ∧ InRange xs ∧ ∀ H', Same H H' → Q .non H'
theorem df_check_positions (T : Here K mg "check_positions" s_check_positions)
    (D_first_wrong_entry : Df P w K mg base CX0 "first_wrong_entry" 2 p_first_wrong_entry (sp_first_wrong_entry K)) : Df P w K mg base CX0 "check_positions" 3 p_check_positions (sp_check_positions K) := by
  refine T.df sc_check_positions (fun _ _ _ _ _ _ us hl => match us, hl with | [_, _], _ => rfl) (fun vs H Q E h => by obtain ⟨_, _, _, _, _, rfl, _⟩ := h; rfl) (fun f cdv A outer s H vs Q E hr h => ?_)
  obtain ⟨v, u, n, rs, xs, rfl, ⟨a, b, ys, rfl, ha, hb, hl, hx⟩, ⟨c, rfl, hc⟩, hn, hir, q⟩ := h
  refine ⟨_, pss_cons (ps_set (i := 2) sc_check_positions.nd rfl (by first | exact Or.inl rfl | exact Or.inr rfl) (D_first_wrong_entry.call (hr.mono (by decide)) (by rfl) (pa_cons (pv 1) (pa_cons (pe_ix (ixT K rfl) (pv 0) (pe_int) (fun _ _ => rfl)) (pa_cons (pe_bl) pa_nil)))))
      (pss_one (ps_if (pt_cmpR op_notN (pv 2) (pe_non) (nomark _)) (pss_one (ps_never)) (pss_nil))), ?_⟩
  walk_at "rd"
  refine ⟨a, _, 0, _, rfl, rfl, ha, atI_nat (j := 0) rfl, ?_⟩
  walk_at "rd"
  refine ⟨c, xs.map some, n, false, rfl, by rw [some_map]; exact hc, by rw [List.length_map]; exact hn, fun e he => ?_, fun H1 s1 => ?_⟩
  · obtain ⟨x, hx', rfl⟩ := List.mem_map.mp he
    refine ⟨(fun h => by cases h), fun i h => ?_⟩
    cases h
    exact hir x hx'
  · walk_at "rd"
    exact q _ s1
def OptOk (es : List (Option Int)) : Prop := ∀ e ∈ es, ∀ i, e = some i → -9999 ≤ i ∧ i ≤ 9999
end
end Hx

set_option Elab.async false
set_option linter.all false
set_option maxRecDepth 100000
set_option maxHeartbeats 4000000
namespace Hx
open PySem PySem.Spec PyProof.Rows L2
local macro_rules | `(tactic| walk_at "rd") => `(tactic| (try simp only [q_var, q_c, q_op, q_un, q_rI, q_rI0, q_rU, q_rEq, q_rNe, q_test, q_tB, q_and, q_or, q_not, q_andV, q_orV, q_notV, q_if, q_isN, q_notN, q_chain, q_next, q_seq, q_break, q_cont, q_drop, q_ret, q_retN, q_ifS, q_never, q_gN, q_gNil, q_gCons, q_gTup, q_gSub, q_asg, q_par, q_aug, q_nil, q_cons, q_tup, q_lst, q_call, q_cb, q_noPart, q_part, q_sl, q_bm0, q_bm, q_yes, q_for, q_lc, q_iList, q_iTup, q_iRng1, q_iEnumT, q_iEnum, q_iRng2, q_iZipA, q_iZipM, q_ipI, q_ckw, q_len, q_listOf, q_tupleOf, L2.start, cx_K, wipe, List.map_cons, List.map_nil, List.length_cons, List.length_nil, List.cons_append, List.nil_append, List.append_nil, List.replicate, List.getElem?_cons_zero, List.getElem?_cons_succ, List.set_cons_zero, List.set_cons_succ, Option.some.injEq, List.cons.injEq, exists_eq_left', exists_eq_left, exists_and_left, V.int.injEq, V.bl.injEq, V.ref.injEq, if_true, if_false, Bool.not_true, Bool.not_false, true_and, and_true, Bool.false_eq_true, ite_true, ite_false, Nat.reduceAdd, Nat.reduceSub, reduceCtorEq, decide_false, decide_true, Int.toNat_natCast, false_and, exists_false, or_false, false_or]))
section
variable {P : Program} {w : World} {K : PySem.W.Frag} {mg : Str → Option Value} {base : Heap}
/-- positions hold a rope -/
def Holds1 (xs : List Int) (r : Rope) : Prop := xs.getD r.f.toNat 0 - xs.getD r.r.toNat 0 ≤ r.l
def Valid (xs : List Int) (rs : List Rope) : Prop := ∀ r ∈ rs, Holds1 xs r
theorem at_int {xs : List Int} {i : Int} (h0 : 0 ≤ i) (h1 : i < xs.length) : atI (xs.map V.int) i = some (.int (xs.getD i.toNat 0)) := by
  have e : i = (i.toNat : Int) := (Int.toNat_of_nonneg h0).symm
  have hlt : i.toNat < xs.length := by omega
  refine at_of e ?_
  rw [List.getElem?_map, List.getElem?_eq_getElem hlt, List.getD_eq_getElem?_getD, List.getElem?_eq_getElem hlt]
  rfl
def s_unsatisfied_ropes : Stmt := topS 20
abbrev n_unsatisfied_ropes : List Str := ["fleet", "positions", "found", "index", "front", "rear", "length"]
abbrev p_unsatisfied_ropes : List Str := ["fleet", "positions"]
theorem sc_unsatisfied_ropes : FnScope n_unsatisfied_ropes p_unsatisfied_ropes (defScope s_unsatisfied_ropes) := ⟨rfl, rfl, rfl, by decide +kernel, rfl, by decide +kernel, by decide +kernel⟩
def sp_unsatisfied_ropes (K : PySem.W.Frag) : Sp := fun vs H Q _ => ∃ (v u : V) (n : Int) (rs : List Rope) (xs : List Int), vs = [v, u] ∧ FleetV K H v n rs ∧ IntsT K H u xs ∧ (xs.length : Int) = n ∧ (∀ r ∈ rs, RopeOk n r) ∧ Valid xs rs ∧
  ∀ H' p, Same H H' → H p = none → H' p = some (.lst []) → Q (.ref p) H'
theorem df_unsatisfied_ropes (T : Here K mg "unsatisfied_ropes" s_unsatisfied_ropes) (B : Blt mg) : Df P w K mg base CX0 "unsatisfied_ropes" 1 p_unsatisfied_ropes (sp_unsatisfied_ropes K) := by
  refine T.df sc_unsatisfied_ropes (fun _ _ _ _ _ _ us hl => match us, hl with | [_, _], _ => rfl) (fun vs H Q E h => by obtain ⟨_, _, _, _, _, rfl, _⟩ := h; rfl) (fun f cdv A outer s H vs Q E hr h => ?_)
  obtain ⟨v, u, n, rs, xs, rfl, ⟨a, b, ys, rfl, ha, hb, hl, hx⟩, ⟨c, rfl, hc⟩, hn, hok, hv, q⟩ := h
  refine ⟨_, pss_cons (ps_set (i := 2) sc_unsatisfied_ropes.nd rfl (by first | exact Or.inl rfl | exact Or.inr rfl) (pe_lst (pa_nil)))
      (pss_cons (ps_for PassesOwn.never rfl (pi_enumT (by rfl) B.enumerate (pa_cons (pe_ix (ixT K rfl) (pv 0) (pe_int) (fun _ _ => rfl)) pa_nil)) (pgTup K rfl (n := 2) rfl (pgs_cons (pg_name (i := 3) sc_unsatisfied_ropes.nd rfl (by first | exact Or.inl rfl | exact Or.inr rfl)) (pgs_cons (pgTup K rfl (n := 3) rfl (pgs_cons (pg_name (i := 4) sc_unsatisfied_ropes.nd rfl (by first | exact Or.inl rfl | exact Or.inr rfl)) (pgs_cons (pg_name (i := 5) sc_unsatisfied_ropes.nd rfl (by first | exact Or.inl rfl | exact Or.inr rfl)) (pgs_cons (pg_name (i := 6) sc_unsatisfied_ropes.nd rfl (by first | exact Or.inl rfl | exact Or.inr rfl)) pgs_nil)))) pgs_nil))) (pss_one (ps_if (pt_cmpR op_gt (pe_op op_sub (pe_ix (ixT K rfl) (pv 1) (pv 4) (fun _ _ => rfl)) (pe_ix (ixT K rfl) (pv 1) (pv 5) (fun _ _ => rfl))) (pv 6) (nomark _)) (pss_one (ps_expr (pe_bm PySem.F.plainAttrs_list PySem.F.slot_list_append PySem.F.type_list_append mt_append (pv 2) (pa_cons (pv 3) pa_nil)))) (pss_nil))))
      (pss_one (ps_ret (pv 2)))), ?_⟩
  walk_at "rd"
  refine ⟨Nat.zero_le _, fun p hp => ?_⟩
  have s0 := same_upd (o := .lst []) hp
  walk_at "rd"
  refine ⟨a, _, 1, _, rfl, rfl, sqt_same s0 ha, atI_nat (j := 1) rfl, ?_⟩
  walk_at "rd"
  refine ⟨⟨_, sqt_same s0 hb⟩, ?_⟩
  refine forEnumT (xs := ys) (fun i σ H' => ∃ x3 x4 x5 x6, σ = [some (.ref a), some (.ref c), some (.ref p), x3, x4, x5, x6] ∧ Same (upd H p (.lst [])) H') ⟨_, _, _, _, rfl, .refl _⟩ (fun i σ H' _ p => ?_) (fun i x T σ H' hx' pp hT => ?_) (fun σ H' pp => ?_)
  · obtain ⟨_, _, _, _, _, e⟩ := p
    exact sqt_same (s0.trans e) hb
  · obtain ⟨x3, x4, x5, x6, rfl, e⟩ := pp
    have hi : i < rs.length := by
      rw [← hl]
      exact (List.getElem?_eq_some_iff.mp hx').1
    obtain ⟨u, hu, d, rfl, hd⟩ := hx i rs[i] (List.getElem?_eq_getElem hi)
    cases hx'.symm.trans hu
    have e1 := s0.trans e
    have eT := same_upd (o := .tup [V.int i, V.ref d]) hT
    obtain ⟨h1, h2, h3, h4, h5, h6, h7⟩ := hok _ (List.getElem_mem hi)
    have hv1 := hv _ (List.getElem_mem hi)
    walk_at "rd"
    refine ⟨_, .of upd_same, rfl, ?_⟩
    walk_at "rd"
    refine ⟨_, sqt_same (e1.trans eT) hd, rfl, ?_⟩
    walk_at "rd"
    refine ⟨c, _, _, _, rfl, rfl, sqt_same (e1.trans eT) hc, at_int h1 (by omega), ?_⟩
    refine ⟨c, _, _, _, rfl, rfl, sqt_same (e1.trans eT) hc, at_int h3 (by omega), ?_⟩
    walk_at "rd"
    rw [decide_eq_false (show ¬ rs[i].l < xs.getD rs[i].f.toNat 0 - xs.getD rs[i].r.toNat 0 by
      have := hv1
      unfold Holds1 at this
      omega)]
    walk_at "rd"
    exact ⟨_, _, _, _, ⟨rfl, rfl, rfl, rfl⟩, e.trans eT⟩
  · obtain ⟨x3, x4, x5, x6, rfl, e⟩ := pp
    walk_at "rd"
    exact q _ p (s0.trans e) hp (e _ _ upd_same)
def s_check_valid : Stmt := topS 21
abbrev n_check_valid : List Str := ["fleet", "positions", "broken"]
abbrev p_check_valid : List Str := ["fleet", "positions"]
theorem sc_check_valid : FnScope n_check_valid p_check_valid (defScope s_check_valid) := ⟨rfl, rfl, rfl, by decide +kernel, rfl, by decide +kernel, by decide +kernel⟩
def sp_check_valid (K : PySem.W.Frag) : Sp := fun vs H Q _ => ∃ (v u : V) (n : Int) (rs : List Rope) (xs : List Int), vs = [v, u] ∧ FleetV K H v n rs ∧ IntsT K H u xs ∧ (xs.length : Int) = n ∧ InRange xs ∧ (∀ r ∈ rs, RopeOk n r) ∧ Valid xs rs ∧
  ∀ H', Same H H' → Q .non H'
theorem df_check_valid (T : Here K mg "check_valid" s_check_valid) (B : Blt mg) (D_check_positions : Df P w K mg base CX0 "check_positions" 3 p_check_positions (sp_check_positions K))
    (D_unsatisfied_ropes : Df P w K mg base CX0 "unsatisfied_ropes" 1 p_unsatisfied_ropes (sp_unsatisfied_ropes K)) : Df P w K mg base CX0 "check_valid" 4 p_check_valid (sp_check_valid K) := by
  refine T.df sc_check_valid (fun _ _ _ _ _ _ us hl => match us, hl with | [_, _], _ => rfl) (fun vs H Q E h => by obtain ⟨_, _, _, _, _, rfl, _⟩ := h; rfl) (fun f cdv A outer s H vs Q E hr h => ?_)
  obtain ⟨v, u, n, rs, xs, rfl, hv, hu, hn, hr', hok, hva, q⟩ := h
  refine ⟨_, pss_cons (ps_expr (D_check_positions.call (hr.mono (by decide)) (by rfl) (pa_cons (pv 0) (pa_cons (pv 1) pa_nil))))
      (pss_cons (ps_set (i := 2) sc_check_valid.nd rfl (by first | exact Or.inl rfl | exact Or.inr rfl) (D_unsatisfied_ropes.call (hr.mono (by decide)) (by rfl) (pa_cons (pv 0) (pa_cons (pv 1) pa_nil))))
      (pss_one (ps_if (pt_cmpR op_gt (pe_callB (lenQ K rfl) (by rfl) B.len (by decide +kernel) (pa_cons (pv 2) pa_nil)) (pe_int) (nomark _)) (pss_one (ps_never)) (pss_nil)))), ?_⟩
  walk_at "rd"
  refine ⟨v, u, n, rs, xs, rfl, hv, hu, hn, hr', fun H1 s1 => ?_⟩
  walk_at "rd"
  refine ⟨v, u, n, rs, xs, rfl, hv.mono s1, hu.mono s1, hn, hok, hva, fun H2 p s2 hp hp2 => ?_⟩
  walk_at "rd"
  refine ⟨_, .inl (.of hp2), ?_⟩
  walk_at "rd"
  exact q _ (s1.trans s2)
end
end Hx

set_option Elab.async false
set_option linter.all false
set_option maxRecDepth 100000
set_option maxHeartbeats 4000000
namespace Hx
open PySem PySem.Spec PyProof.Rows L2
local macro_rules | `(tactic| walk_at "rd") => `(tactic| (try simp only [q_var, q_c, q_op, q_un, q_rI, q_rI0, q_rU, q_rEq, q_rNe, q_test, q_tB, q_and, q_or, q_not, q_andV, q_orV, q_notV, q_if, q_isN, q_notN, q_chain, q_next, q_seq, q_break, q_cont, q_drop, q_ret, q_retN, q_ifS, q_never, q_gN, q_gNil, q_gCons, q_gTup, q_gSub, q_asg, q_par, q_aug, q_nil, q_cons, q_tup, q_lst, q_call, q_cb, q_noPart, q_part, q_sl, q_bm0, q_bm, q_yes, q_for, q_lc, q_iList, q_iTup, q_iRng1, q_iEnumT, q_iEnum, q_iRng2, q_iZipA, q_iZipM, q_ipI, q_ckw, q_len, q_listOf, q_tupleOf, L2.start, cx_K, wipe, List.map_cons, List.map_nil, List.length_cons, List.length_nil, List.cons_append, List.nil_append, List.append_nil, List.replicate, List.getElem?_cons_zero, List.getElem?_cons_succ, List.set_cons_zero, List.set_cons_succ, Option.some.injEq, List.cons.injEq, exists_eq_left', exists_eq_left, exists_and_left, V.int.injEq, V.bl.injEq, V.ref.injEq, if_true, if_false, Bool.not_true, Bool.not_false, true_and, and_true, Bool.false_eq_true, ite_true, ite_false, Nat.reduceAdd, Nat.reduceSub, reduceCtorEq, decide_false, decide_true, Int.toNat_natCast, false_and, exists_false, or_false, false_or]))
/-- row i of the table d, n wide -/
def rowV (n : Nat) (d : Tab) (i : Nat) : List V := (List.range n).map fun j => ovV (d i j)
theorem rowV_len (n : Nat) (d : Tab) (i : Nat) : (rowV n d i).length = n := by
  unfold rowV
  rw [List.length_map, List.length_range]
theorem rowV_at {n : Nat} (d : Tab) (i : Nat) {j : Nat} (h : j < n) : (rowV n d i)[j]? = some (ovV (d i j)) := by
  unfold rowV
  rw [List.getElem?_map, List.getElem?_range h]
  rfl
theorem rowV_set (n : Nat) (d : Tab) (i j : Nat) (l : Int) : (rowV n d i).set j (.int l) = rowV n (setD d i j l) i := by
  refine List.ext_getElem? fun k => ?_
  by_cases hk : k < n
  · rw [rowV_at _ _ hk]
    by_cases e : j = k
    · subst e
      rw [List.getElem?_set_self (by rw [rowV_len]; exact hk), setD_at]
      rfl
    · rw [List.getElem?_set_ne e, rowV_at _ _ hk, setD_ne]
      rintro ⟨_, h⟩
      exact e h.symm
  · rw [List.getElem?_eq_none (by rw [List.length_set, rowV_len]; omega), List.getElem?_eq_none (by rw [rowV_len]; omega)]
theorem rowV_other (n : Nat) (d : Tab) {i a : Nat} (j : Nat) (l : Int) (h : a ≠ i) : rowV n (setD d i j l) a = rowV n d a := by
  unfold rowV
  refine List.map_congr_left fun k _ => ?_
  rw [setD_ne]
  rintro ⟨e, _⟩
  exact h e
/-- the table d stands at t, its rows at as -/
structure TabAt (H : Hp) (t : Addr) (as : List Addr) (n : Nat) (d : Tab) : Prop where
  top : H t = some (.lst (as.map V.ref))
  len : as.length = n
  nd : as.Nodup
  nt : t ∉ as
  row : ∀ i a, as[i]? = some a → H a = some (.lst (rowV n d i))
theorem TabAt.get {H : Hp} {t : Addr} {as : List Addr} {n : Nat} {d : Tab} (h : TabAt H t as n d) {i : Nat} (hi : i < n) : ∃ a, as[i]? = some a ∧ (as.map V.ref)[i]? = some (.ref a) ∧ H a = some (.lst (rowV n d i)) := by
  have hl : i < as.length := by
    rw [h.len]
    exact hi
  have e : as[i]? = some as[i] := List.getElem?_eq_getElem hl
  refine ⟨_, e, ?_, h.row i _ e⟩
  rw [List.getElem?_map, e]
  rfl
theorem TabAt.put {H : Hp} {t : Addr} {as : List Addr} {n : Nat} {d : Tab} (h : TabAt H t as n d) {i : Nat} {a : Addr} (ha : as[i]? = some a) (j : Nat) (l : Int) :
    TabAt (upd H a (.lst ((rowV n d i).set j (.int l)))) t as n (setD d i j l) where
  top := by
    rw [upd_ne (fun e => h.nt (by rw [e]; exact List.mem_of_getElem? ha))]
    exact h.top
  len := h.len
  nd := h.nd
  nt := h.nt
  row := fun k b hb => by
    by_cases e : k = i
    · subst e
      rw [ha] at hb
      cases hb
      rw [upd_same, rowV_set]
    · rw [upd_ne (fun z => e (nd_ix h.nd hb (by rw [z]; exact ha))), rowV_other n d j l e]
      exact h.row k b hb
theorem TabAt.congr {H : Hp} {t : Addr} {as : List Addr} {n : Nat} {d d' : Tab} (h : TabAt H t as n d) (e : ∀ i j, i < n → j < n → d i j = d' i j) : TabAt H t as n d' :=
  ⟨h.top, h.len, h.nd, h.nt, fun i a ha => by
    have hi : i < n := by
      rw [← h.len]
      exact (List.getElem?_eq_some_iff.mp ha).1
    rw [h.row i a ha]
    unfold rowV
    rw [List.map_congr_left fun k hk => by rw [e i k hi (List.mem_range.mp hk)]]⟩
theorem TabAt.mono {H H' : Hp} {t : Addr} {as : List Addr} {n : Nat} {d : Tab} (h : TabAt H t as n d) (e : Same H H') : TabAt H' t as n d :=
  ⟨e _ _ h.top, h.len, h.nd, h.nt, fun i a ha => e _ _ (h.row i a ha)⟩
/-- all that was tracked but what stands at as is as it was -/
def ButL (as : List Addr) (H H' : Hp) : Prop := ∀ b o, b ∉ as → H b = some o → H' b = some o
section
variable {P : Program} {w : World} {K : PySem.W.Frag} {mg : Str → Option Value} {base : Heap}
theorem nat_at {i : Int} (h0 : 0 ≤ i) : ∃ k : Nat, i = k := ⟨i.toNat, (Int.toNat_of_nonneg h0).symm⟩
theorem ix_nat {k n : Nat} (h : k < n) : ixN n (k : Int) = some k := by
  unfold ixN
  rw [if_pos (by omega), if_pos (by omega), Int.toNat_natCast]
def s_keep_less : Stmt := topS 24
abbrev n_keep_less : List Str := ["table", "front", "rear", "length"]
abbrev p_keep_less : List Str := ["table", "front", "rear", "length"]
theorem sc_keep_less : FnScope n_keep_less p_keep_less (defScope s_keep_less) := ⟨rfl, rfl, rfl, by decide +kernel, rfl, by decide +kernel, by decide +kernel⟩
def sp_keep_less (K : PySem.W.Frag) : Sp := fun vs H Q _ => ∃ (t : Addr) (as : List Addr) (n : Nat) (d : Tab) (f r : Nat) (l : Int), vs = [.ref t, .int f, .int r, .int l] ∧ TabAt H t as n d ∧ f < n ∧ r < n ∧
  ∀ H', TabAt H' t as n (keepD d f r l) → ButL as H H' → Q .non H'
theorem df_keep_less (T : Here K mg "keep_less" s_keep_less) : Df P w K mg base CX0 "keep_less" 1 p_keep_less (sp_keep_less K) := by
  refine T.df sc_keep_less (fun _ _ _ _ _ _ us hl => match us, hl with | [_, _, _, _], _ => rfl) (fun vs H Q E h => by obtain ⟨_, _, _, _, _, _, _, rfl, _⟩ := h; rfl) (fun f cdv A outer s H vs Q E hr h => ?_)
  obtain ⟨t, as, n, d, f, r, l, rfl, ht, hf, hr', q⟩ := h
  refine ⟨_, pss_one (ps_if (PW.pt (pw_or (pt_cmpR op_isN (pe_ix (ixL K rfl) (pe_ix (ixL K rfl) (pv 0) (pv 1) (fun _ _ => rfl)) (pv 2) (fun _ _ => rfl)) (pe_non) (nomark _)) (pw_or1 (pt_cmpR op_lt (pv 3) (pe_ix (ixL K rfl) (pe_ix (ixL K rfl) (pv 0) (pv 1) (fun _ _ => rfl)) (pv 2) (fun _ _ => rfl)) (nomark _))))) (pss_one (ps_asg (pv 3) (pg_sub (pe_ix (ixL K rfl) (pv 0) (pv 1) (fun _ _ => rfl)) (pv 2) set_list))) (pss_nil)), ?_⟩
  obtain ⟨a, ha, ham, hrow⟩ := ht.get hf
  have set_ : ∀ Q' : Prop, (Q' = (∀ H', TabAt H' t as n (setD d f r l) → ButL as H H' → Q .non H')) → Q' → Q .non (upd H a (.lst ((rowV n d f).set r (.int l)))) := by
    rintro _ rfl k
    refine k _ (ht.put ha r l) fun b o hb e => ?_
    rw [upd_ne (fun z => hb (by rw [z]; exact List.mem_of_getElem? ha))]
    exact e
  walk_at "rd"
  refine ⟨t, _, _, _, rfl, rfl, .of ht.top, atI_nat ham, a, _, _, _, rfl, rfl, .of hrow, atI_nat (rowV_at d f hr'), ?_⟩
  walk_at "rd"
  rcases keep_cases d f r l with ⟨e, h⟩ | ⟨e, x, ex, hx⟩ <;> rw [e] at q
  · cases hd : d f r with
    | none =>
      simp only [ovV, decide_true, ite_true]
      refine ⟨t, _, _, _, rfl, rfl, .of ht.top, atI_nat ham, a, _, _, _, rfl, rfl, hrow, ix_nat (by rw [rowV_len]; exact hr'), set_ _ rfl q⟩
    | some x =>
      simp only [ovV, reduceCtorEq, decide_false, Bool.false_eq_true, ite_false]
      refine ⟨t, _, _, _, rfl, rfl, .of ht.top, atI_nat ham, a, _, _, _, rfl, rfl, .of hrow, atI_nat (rowV_at d f hr'), ?_⟩
      rw [hd]
      simp only [ovV, q_rI0, exists_eq_left', V.bl.injEq, decide_eq_true (h x hd), ite_true]
      refine ⟨t, _, _, _, rfl, rfl, .of ht.top, atI_nat ham, a, _, _, _, rfl, rfl, hrow, ix_nat (by rw [rowV_len]; exact hr'), set_ _ rfl q⟩
  · rw [ex]
    simp only [ovV, reduceCtorEq, decide_false, Bool.false_eq_true, ite_false]
    refine ⟨t, _, _, _, rfl, rfl, .of ht.top, atI_nat ham, a, _, _, _, rfl, rfl, .of hrow, atI_nat (rowV_at d f hr'), ?_⟩
    rw [ex]
    simp only [ovV, q_rI0, exists_eq_left', V.bl.injEq, decide_eq_false (show ¬ l < x by omega), Bool.false_eq_true, ite_false]
    exact q _ ht fun _ _ _ h => h
end
end Hx

set_option Elab.async false
set_option linter.all false
set_option maxRecDepth 100000
set_option maxHeartbeats 4000000
namespace Hx
open PySem PySem.Spec PyProof.Rows L2
local macro_rules | `(tactic| walk_at "rd") => `(tactic| (try simp only [q_var, q_c, q_op, q_un, q_rI, q_rI0, q_rU, q_rEq, q_rNe, q_test, q_tB, q_and, q_or, q_not, q_andV, q_orV, q_notV, q_if, q_isN, q_notN, q_chain, q_next, q_seq, q_break, q_cont, q_drop, q_ret, q_retN, q_ifS, q_never, q_gN, q_gNil, q_gCons, q_gTup, q_gSub, q_asg, q_par, q_aug, q_nil, q_cons, q_tup, q_lst, q_call, q_cb, q_noPart, q_part, q_sl, q_bm0, q_bm, q_yes, q_for, q_lc, q_iList, q_iTup, q_iRng1, q_iEnumT, q_iEnum, q_iRng2, q_iZipA, q_iZipM, q_ipI, q_ckw, q_len, q_listOf, q_tupleOf, L2.start, cx_K, wipe, List.map_cons, List.map_nil, List.length_cons, List.length_nil, List.cons_append, List.nil_append, List.append_nil, List.replicate, List.getElem?_cons_zero, List.getElem?_cons_succ, List.set_cons_zero, List.set_cons_succ, Option.some.injEq, List.cons.injEq, exists_eq_left', exists_eq_left, exists_and_left, V.int.injEq, V.bl.injEq, V.ref.injEq, if_true, if_false, Bool.not_true, Bool.not_false, true_and, and_true, Bool.false_eq_true, ite_true, ite_false, Nat.reduceAdd, Nat.reduceSub, reduceCtorEq, decide_false, decide_true, Int.toNat_natCast, false_and, exists_false, or_false, false_or]))
/-- a table that is new since H0 -/
structure TabNew (H0 H : Hp) (t : Addr) (as : List Addr) (n : Nat) (d : Tab) : Prop where
  same : Same H0 H
  ft : H0 t = none
  fa : ∀ a ∈ as, H0 a = none
  tab : TabAt H t as n d
theorem TabNew.step {H0 H H' : Hp} {t : Addr} {as : List Addr} {n : Nat} {d d' : Tab} (h : TabNew H0 H t as n d) (h' : TabAt H' t as n d') (k : ButL as H H') : TabNew H0 H' t as n d' :=
  ⟨fun b o e => k b o (fun m => by rw [h.fa b m] at e; cases e) (h.same b o e), h.ft, h.fa, h'⟩
theorem butL_upd {H : Hp} {as : List Addr} {a : Addr} {o : HO} (h : a ∈ as) : ButL as H (upd H a o) := fun b u hb e => by
  rw [upd_ne (fun z => hb (by rw [z]; exact h))]
  exact e
theorem rep_flat (n : Nat) (v : V) : (List.replicate n [v]).flatten = List.replicate n v := by
  induction n with
  | zero => rfl
  | succ k ih => rw [List.replicate_succ, List.flatten_cons, ih, List.replicate_succ]; rfl
theorem rowV_none (n : Nat) (d : Tab) (i : Nat) (h : ∀ j, j < n → d i j = none) : List.replicate n V.non = rowV n d i := by
  refine List.ext_getElem? fun k => ?_
  by_cases hk : k < n
  · rw [rowV_at _ _ hk, h k hk, List.getElem?_replicate, if_pos hk]
    rfl
  · rw [List.getElem?_eq_none (by rw [List.length_replicate]; omega), List.getElem?_eq_none (by rw [rowV_len]; omega)]
def diagD (k : Nat) : Tab := fun a b => if a = b ∧ a < k then some 0 else none
theorem diag_step (i x y : Nat) : setD (diagD i) i i 0 x y = diagD (i + 1) x y := by
  by_cases e : x = i ∧ y = i
  · obtain ⟨rfl, rfl⟩ := e
    rw [setD_at]
    exact (if_pos ⟨rfl, Nat.lt_succ_self _⟩).symm
  · rw [setD_ne _ _ e]
    show (if x = y ∧ x < i then some 0 else none) = if x = y ∧ x < i + 1 then some (0 : Int) else none
    by_cases e' : x = y ∧ x < i
    · rw [if_pos e', if_pos (by omega)]
    · rw [if_neg e', if_neg (by omega)]
section
variable {P : Program} {w : World} {K : PySem.W.Frag} {mg : Str → Option Value} {base : Heap}
def s_chain_table : Stmt := topS 23
abbrev n_chain_table : List Str := ["fleet", "count", "ropes", "table", "_", "barge", "front", "rear", "length", "middle"]
abbrev p_chain_table : List Str := ["fleet"]
theorem sc_chain_table : FnScope n_chain_table p_chain_table (defScope s_chain_table) := ⟨rfl, rfl, rfl, by decide +kernel, rfl, by decide +kernel, by decide +kernel⟩
def sp_chain_table (K : PySem.W.Frag) : Sp := fun vs H Q _ => ∃ (v : V) (n : Nat) (rs : List Rope), vs = [v] ∧ FleetV K H v n rs ∧ FleetOk n rs ∧ ∀ H' t as, TabNew H H' t as n (chainTab n rs) → Q (.ref t) H'
theorem df_chain_table (T : Here K mg "chain_table" s_chain_table) (B : Blt mg) (D_keep_less : Df P w K mg base CX0 "keep_less" 1 p_keep_less (sp_keep_less K)) : Df P w K mg base CX0 "chain_table" 2 p_chain_table (sp_chain_table K) := by
  refine T.df sc_chain_table (fun _ _ _ _ _ _ us hl => match us, hl with | [_], _ => rfl) (fun vs H Q E h => by obtain ⟨_, _, _, rfl, _⟩ := h; rfl) (fun f cdv A outer s H vs Q E hr h => ?_)
  obtain ⟨v, n, rs, rfl, ⟨a, b, ys, rfl, ha, hb, hl, hx⟩, ⟨h1, h2, h3, h4⟩, q⟩ := h
  refine ⟨_, pss_cons (ps_asg (pv 0) (pgTup K rfl (n := 2) rfl (pgs_cons (pg_name (i := 1) sc_chain_table.nd rfl (by first | exact Or.inl rfl | exact Or.inr rfl)) (pgs_cons (pg_name (i := 2) sc_chain_table.nd rfl (by first | exact Or.inl rfl | exact Or.inr rfl)) pgs_nil))))
      (pss_cons (ps_setLc (i := 3) (own := [("_", 4)]) rfl sc_chain_table.nd rfl rfl (sw_true rfl rfl rfl (by decide +kernel)) (pi_range1 (by rfl) B.range (pa_cons (pv 1) pa_nil)) (blkOk_by (N := n_chain_table) (sc := defScope s_chain_table) (by decide +kernel)) (fun _ _ _ _ _ => pg_name (i := 4) sc_chain_table.nd rfl (by first | exact Or.inl rfl | exact Or.inr rfl)) (fun _ _ _ _ _ => pts_nil) (fun _ _ _ _ _ => pe_op op_rep (pe_lst (pa_cons (pe_non) pa_nil)) (pv 1)))
      (pss_cons (ps_for PassesOwn.never rfl (pi_range1 (by rfl) B.range (pa_cons (pv 1) pa_nil)) (pg_name (i := 5) sc_chain_table.nd rfl (by first | exact Or.inl rfl | exact Or.inr rfl)) (pss_one (ps_asg (pe_int) (pg_sub (pe_ix (ixL K rfl) (pv 3) (pv 5) (fun _ _ => rfl)) (pv 5) set_list))))
      (pss_cons (ps_for PassesOwn.never rfl (piTup K rfl (pv 2)) (pgTup K rfl (n := 3) rfl (pgs_cons (pg_name (i := 6) sc_chain_table.nd rfl (by first | exact Or.inl rfl | exact Or.inr rfl)) (pgs_cons (pg_name (i := 7) sc_chain_table.nd rfl (by first | exact Or.inl rfl | exact Or.inr rfl)) (pgs_cons (pg_name (i := 8) sc_chain_table.nd rfl (by first | exact Or.inl rfl | exact Or.inr rfl)) pgs_nil)))) (pss_one (ps_expr (D_keep_less.call (hr.mono (by decide)) (by rfl) (pa_cons (pv 3) (pa_cons (pv 6) (pa_cons (pv 7) (pa_cons (pv 8) pa_nil))))))))
      (pss_cons (ps_for PassesOwn.never rfl (pi_range1 (by rfl) B.range (pa_cons (pv 1) pa_nil)) (pg_name (i := 9) sc_chain_table.nd rfl (by first | exact Or.inl rfl | exact Or.inr rfl)) (pss_one (ps_for PassesOwn.never rfl (pi_range1 (by rfl) B.range (pa_cons (pv 1) pa_nil)) (pg_name (i := 6) sc_chain_table.nd rfl (by first | exact Or.inl rfl | exact Or.inr rfl)) (pss_one (ps_for PassesOwn.never rfl (pi_range1 (by rfl) B.range (pa_cons (pv 1) pa_nil)) (pg_name (i := 7) sc_chain_table.nd rfl (by first | exact Or.inl rfl | exact Or.inr rfl)) (pss_one (ps_if (PW.pt (pw_and (pt_cmpR op_notN (pe_ix (ixL K rfl) (pe_ix (ixL K rfl) (pv 3) (pv 6) (fun _ _ => rfl)) (pv 9) (fun _ _ => rfl)) (pe_non) (nomark _)) (pw_and1 (pt_cmpR op_notN (pe_ix (ixL K rfl) (pe_ix (ixL K rfl) (pv 3) (pv 9) (fun _ _ => rfl)) (pv 7) (fun _ _ => rfl)) (pe_non) (nomark _))))) (pss_one (ps_expr (D_keep_less.call (hr.mono (by decide)) (by rfl) (pa_cons (pv 3) (pa_cons (pv 6) (pa_cons (pv 7) (pa_cons (pe_op op_add (pe_ix (ixL K rfl) (pe_ix (ixL K rfl) (pv 3) (pv 6) (fun _ _ => rfl)) (pv 9) (fun _ _ => rfl)) (pe_ix (ixL K rfl) (pe_ix (ixL K rfl) (pv 3) (pv 9) (fun _ _ => rfl)) (pv 7) (fun _ _ => rfl))) pa_nil))))))) (pss_nil))))))))
      (pss_one (ps_ret (pv 3))))))), ?_⟩
  have n8 : n ≤ 8 := by omega
  have hz : 8 ≤ sizeLine := by decide
  have hrs : ∀ (i : Nat) x, ys[i]? = some x → ∃ r : Rope, rs[i]? = some r ∧ r ∈ rs ∧ RopeV K H x r ∧ ∃ f g : Nat, r.f = f ∧ r.r = g ∧ f < n ∧ g < n := by
    intro i x hx'
    have hi : i < rs.length := by
      rw [← hl]
      exact (List.getElem?_eq_some_iff.mp hx').1
    obtain ⟨u, hu, hd⟩ := hx i rs[i] (List.getElem?_eq_getElem hi)
    cases hx'.symm.trans hu
    obtain ⟨g1, g2, g3, g4, _⟩ := h4 _ (List.getElem_mem hi)
    exact ⟨_, List.getElem?_eq_getElem hi, List.getElem_mem hi, hd, rs[i].f.toNat, rs[i].r.toNat, by omega, by omega, by omega, by omega⟩
  walk_at "rd"
  refine ⟨_, ha, rfl, ?_⟩
  walk_at "rd"
  refine ⟨by omega, by omega, fun p hp => ?_⟩
  refine lcRange (fun i H' => ∃ as : List Addr, H' p = some (.lst (as.map V.ref)) ∧ as.length = i ∧ as.Nodup ∧ p ∉ as ∧ (∀ a ∈ as, H a = none ∧ H' a = some (.lst (List.replicate n .non))) ∧ Same H H')
    ⟨[], upd_same, rfl, .nil, by simp, fun a h => (by cases h), same_upd hp⟩ (fun i H' hi hPv => ?_) (fun H' hPv => ?_)
  · obtain ⟨as, e1, e2, e3, e4, e5, e6⟩ := hPv
    walk_at "rd"
    refine ⟨by omega, fun q1 hq1 => ?_⟩
    refine ⟨q1, n, [.non], rfl, rfl, upd_same, by omega, by omega, ?_, fun q2 hq2 => ?_⟩
    · rw [Int.toNat_natCast]
      show 1 * n ≤ sizeLine
      omega
    · have n1 : p ≠ q1 := ne_of_none e1 hq1
      have n2 : p ≠ q2 := ne_of_none (by rw [upd_ne n1]; exact e1) hq2
      have n3 : q2 ≠ q1 := fun z => by
        rw [z, upd_same] at hq2
        cases hq2
      have hq2' : H' q2 = none := by
        rw [upd_ne n3] at hq2
        exact hq2
      refine ⟨as.map V.ref, ?_, ?_, as ++ [q2], ?_, ?_, ?_, ?_, fun c hc => ?_, ?_⟩
      · rw [upd_ne n2, upd_ne n1]
        exact e1
      · rw [List.length_map]
        omega
      · rw [upd_same, List.map_append]
        rfl
      · rw [List.length_append, e2]
        rfl
      · refine List.nodup_append.mpr ⟨e3, by simp, fun x hx y hy => ?_⟩
        cases List.mem_singleton.mp hy
        exact ne_of_none (e5 x hx).2 hq2'
      · intro z
        rcases List.mem_append.mp z with z | z
        · exact e4 z
        · exact n2 (List.mem_singleton.mp z)
      · rcases List.mem_append.mp hc with z | z
        · obtain ⟨k1, k2⟩ := e5 c z
          have c1 : c ≠ p := fun y => e4 (by rw [← y]; exact z)
          refine ⟨k1, ?_⟩
          rw [upd_ne c1, upd_ne (ne_of_none k2 hq2'), upd_ne (ne_of_none k2 hq1)]
          exact k2
        · cases List.mem_singleton.mp z
          refine ⟨e6.free hq2', ?_⟩
          rw [upd_ne n2.symm, upd_same, Int.toNat_natCast, rep_flat]
      · intro c o e
        have c1 : c ≠ p := ne_of_none e hp
        rw [upd_ne c1]
        exact (same_upd hq1 |>.trans (same_upd hq2)) c o (e6 c o e)
  · obtain ⟨as, e1, e2, e3, e4, e5, e6⟩ := hPv
    have t0 : TabNew H H' p as n (diagD 0) := by
      refine ⟨e6, hp, fun a h => (e5 a h).1, ⟨e1, e2, e3, e4, fun i a h => ?_⟩⟩
      rw [(e5 a (List.mem_of_getElem? h)).2, rowV_none]
      intro j _
      unfold diagD
      rw [if_neg]
      omega
    walk_at "rd"
    refine ⟨by omega, by omega, ?_⟩
    refine forRange (fun i σ H' => ∃ x4 x5 x6 x7 x8 x9, σ = [some (.ref a), some (.int n), some (.ref b), some (.ref p), x4, x5, x6, x7, x8, x9] ∧ TabNew H H' p as n (diagD i)) ⟨_, _, _, _, _, _, rfl, t0⟩ (fun i σ H' hi hPv => ?_) (fun σ H' hPv => ?_)
    · obtain ⟨x4, x5, x6, x7, x8, x9, rfl, tn⟩ := hPv
      obtain ⟨c, hc, hcm, hrow⟩ := tn.tab.get hi
      walk_at "rd"
      refine ⟨p, _, _, _, rfl, rfl, .of tn.tab.top, atI_nat hcm, ?_⟩
      refine ⟨c, _, i, i, rfl, rfl, hrow, ix_nat (by rw [rowV_len]; exact hi), ?_⟩
      refine ⟨_, _, _, _, _, _, ⟨rfl, rfl, rfl, rfl, rfl, rfl⟩, tn.step ((tn.tab.put hc i 0).congr fun x y hx hy => ?_) (butL_upd (List.mem_of_getElem? hc))⟩
      exact diag_step i x y
    · obtain ⟨x4, x5, x6, x7, x8, x9, rfl, tn⟩ := hPv
      walk_at "rd"
      refine ⟨⟨_, sqt_same tn.same hb⟩, ?_⟩
      refine forTup (xs := ys) (fun i σ H' => ∃ x4 x5 x6 x7 x8 x9, σ = [some (.ref a), some (.int n), some (.ref b), some (.ref p), x4, x5, x6, x7, x8, x9] ∧ TabNew H H' p as n (ropesD (baseD n) (rs.take i))) ⟨_, _, _, _, _, _, rfl, ?_⟩ (fun i σ H' hi hPv => ?_) (fun i x σ H' hx' hPv => ?_) (fun σ H' hPv => ?_)
      · exact tn
      · obtain ⟨_, _, _, _, _, _, _, tn⟩ := hPv
        exact sqt_same tn.same hb
      · obtain ⟨x4, x5, x6, x7, x8, x9, rfl, tn⟩ := hPv
        obtain ⟨r, hri, hrm, ⟨c, rfl, hc⟩, f, g, ef, eg, hf, hg⟩ := hrs i x hx'
        walk_at "rd"
        refine ⟨_, sqt_same tn.same hc, rfl, ?_⟩
        walk_at "rd"
        refine ⟨p, as, n, _, f, g, r.l, by rw [ef, eg], tn.tab, hf, hg, fun H2 t2 b2 => ?_⟩
        walk_at "rd"
        refine ⟨_, _, _, _, _, _, ⟨rfl, rfl, rfl, rfl, rfl, rfl⟩, tn.step ?_ b2⟩
        rw [List.take_add_one, hri]
        unfold ropesD
        rw [List.foldl_append]
        show TabAt H2 p as n (keepD _ r.f.toNat r.r.toNat r.l)
        rw [ef, eg, Int.toNat_natCast, Int.toNat_natCast]
        exact t2
      · obtain ⟨x4, x5, x6, x7, x8, x9, rfl, tn⟩ := hPv
        rw [List.take_of_length_le (by omega)] at tn
        walk_at "rd"
        refine ⟨by omega, by omega, ?_⟩
        refine forRange (fun i σ H' => ∃ x4 x5 x6 x7 x8 x9, σ = [some (.ref a), some (.int n), some (.ref b), some (.ref p), x4, x5, x6, x7, x8, x9] ∧ TabNew H H' p as n (fwAll n (ropesD (baseD n) rs) i)) ⟨_, _, _, _, _, _, rfl, tn⟩ (fun m σ H' hm hPv => ?_) (fun σ H' hPv => ?_)
        · obtain ⟨x4, x5, x6, x7, x8, x9, rfl, tn⟩ := hPv
          walk_at "rd"
          refine ⟨by omega, by omega, ?_⟩
          refine forRange (fun i σ H' => ∃ x4 x5 x6 x7 x8, σ = [some (.ref a), some (.int n), some (.ref b), some (.ref p), x4, x5, x6, x7, x8, some (.int m)] ∧ TabNew H H' p as n (fwMid n (fwAll n (ropesD (baseD n) rs) m) m i)) ⟨_, _, _, _, _, rfl, tn⟩ (fun i σ H' hi hPv => ?_) (fun σ H' hPv => ?_)
          · obtain ⟨x4, x5, x6, x7, x8, rfl, tn⟩ := hPv
            walk_at "rd"
            refine ⟨by omega, by omega, ?_⟩
            refine forRange (fun j σ H' => ∃ x4 x5 x7 x8, σ = [some (.ref a), some (.int n), some (.ref b), some (.ref p), x4, x5, some (.int i), x7, x8, some (.int m)] ∧ TabNew H H' p as n (fwRow n (fwMid n (fwAll n (ropesD (baseD n) rs) m) m i) m i j)) ⟨_, _, _, _, rfl, tn⟩ (fun j σ H' hj hPv => ?_) (fun σ H' hPv => ?_)
            · obtain ⟨x4, x5, x7, x8, rfl, tn⟩ := hPv
              generalize hD : fwRow n (fwMid n (fwAll n (ropesD (baseD n) rs) m) m i) m i j = D at tn
              have hfin : fwRow n (fwMid n (fwAll n (ropesD (baseD n) rs) m) m i) m i (j + 1) = fwStep D m i j := by rw [fwRow_succ, hD]
              obtain ⟨c, hc, hcm, hrow⟩ := tn.tab.get hi
              obtain ⟨c2, hc2, hcm2, hrow2⟩ := tn.tab.get hm
              rw [hfin]
              walk_at "rd"
              refine ⟨p, _, _, _, rfl, rfl, .of tn.tab.top, atI_nat hcm, c, _, _, _, rfl, rfl, .of hrow, atI_nat (rowV_at D i hm), ?_⟩
              walk_at "rd"
              rcases step_cases D m i j with ⟨e, h⟩ | ⟨u, v, eu, ev, e⟩ <;> rw [e]
              · cases hu : D i m with
                | none =>
                  simp only [ovV, decide_true, Bool.not_true, Bool.false_eq_true, ite_false]
                  exact ⟨_, _, _, _, ⟨rfl, rfl, rfl, rfl⟩, tn⟩
                | some u =>
                  have hv : D m j = none := by
                    rcases h with h | h
                    · rw [hu] at h
                      cases h
                    · exact h
                  simp only [ovV, reduceCtorEq, decide_false, Bool.not_false, ite_true]
                  refine ⟨p, _, _, _, rfl, rfl, .of tn.tab.top, atI_nat hcm2, c2, _, _, _, rfl, rfl, .of hrow2, atI_nat (rowV_at D m hj), ?_⟩
                  rw [hv]
                  walk_at "rd"
                  simp only [ovV, decide_true, Bool.not_true, Bool.false_eq_true, ite_false]
                  exact ⟨_, _, _, _, ⟨rfl, rfl, rfl, rfl⟩, tn⟩
              · rw [eu]
                simp only [ovV, reduceCtorEq, decide_false, Bool.not_false, ite_true]
                refine ⟨p, _, _, _, rfl, rfl, .of tn.tab.top, atI_nat hcm2, c2, _, _, _, rfl, rfl, .of hrow2, atI_nat (rowV_at D m hj), ?_⟩
                rw [ev]
                walk_at "rd"
                simp only [ovV, reduceCtorEq, decide_false, Bool.not_false, ite_true]
                refine ⟨p, _, _, _, rfl, rfl, .of tn.tab.top, atI_nat hcm, c, _, _, _, rfl, rfl, .of hrow, atI_nat (rowV_at D i hm), ?_⟩
                refine ⟨p, _, _, _, rfl, rfl, .of tn.tab.top, atI_nat hcm2, c2, _, _, _, rfl, rfl, .of hrow2, atI_nat (rowV_at D m hj), ?_⟩
                rw [eu, ev]
                simp only [ovV]
                walk_at "rd"
                refine ⟨p, as, n, D, i, j, u + v, rfl, tn.tab, hi, hj, fun H2 t2 b2 => ?_⟩
                walk_at "rd"
                exact ⟨_, _, _, _, ⟨rfl, rfl, rfl, rfl⟩, tn.step t2 b2⟩
            · obtain ⟨x4, x5, x7, x8, rfl, tn⟩ := hPv
              rw [← fwMid_succ] at tn
              exact ⟨_, _, _, _, _, rfl, tn⟩
          · obtain ⟨x4, x5, x6, x7, x8, rfl, tn⟩ := hPv
            rw [← fwAll_succ] at tn
            exact ⟨_, _, _, _, _, _, rfl, tn⟩
        · obtain ⟨x4, x5, x6, x7, x8, x9, rfl, tn⟩ := hPv
          walk_at "rd"
          exact q _ _ _ tn
end
end Hx

set_option Elab.async false
set_option linter.all false
set_option maxRecDepth 100000
set_option maxHeartbeats 4000000
namespace Hx
open PySem PySem.Spec PyProof.Rows L2
local macro_rules | `(tactic| walk_at "rd") => `(tactic| (try simp only [q_var, q_c, q_op, q_un, q_rI, q_rI0, q_rU, q_rEq, q_rNe, q_test, q_tB, q_and, q_or, q_not, q_andV, q_orV, q_notV, q_if, q_isN, q_notN, q_chain, q_next, q_seq, q_break, q_cont, q_drop, q_ret, q_retN, q_ifS, q_never, q_gN, q_gNil, q_gCons, q_gTup, q_gSub, q_asg, q_par, q_aug, q_nil, q_cons, q_tup, q_lst, q_call, q_cb, q_noPart, q_part, q_sl, q_bm0, q_bm, q_yes, q_for, q_lc, q_iList, q_iTup, q_iRng1, q_iEnumT, q_iEnum, q_iRng2, q_iZipA, q_iZipM, q_ipI, q_ckw, q_len, q_listOf, q_tupleOf, L2.start, cx_K, wipe, List.map_cons, List.map_nil, List.length_cons, List.length_nil, List.cons_append, List.nil_append, List.append_nil, List.replicate, List.getElem?_cons_zero, List.getElem?_cons_succ, List.set_cons_zero, List.set_cons_succ, Option.some.injEq, List.cons.injEq, exists_eq_left', exists_eq_left, exists_and_left, V.int.injEq, V.bl.injEq, V.ref.injEq, if_true, if_false, Bool.not_true, Bool.not_false, true_and, and_true, Bool.false_eq_true, ite_true, ite_false, Nat.reduceAdd, Nat.reduceSub, reduceCtorEq, decide_false, decide_true, Int.toNat_natCast, false_and, exists_false, or_false, false_or]))
section
variable {P : Program} {w : World} {K : PySem.W.Frag} {mg : Str → Option Value} {base : Heap}
/-! hauling -/
def mv1 : Option Int → Int → Int → Int
  | none, x, _ => x
  | some l, x, p => if p - l > x then p - l else x
def moveD (d : Tab) (xs : List Int) (b : Nat) (p : Int) : List Int := (List.range xs.length).map fun o => mv1 (d b o) (xs.getD o 0) p
theorem moveD_len (d : Tab) (xs : List Int) (b : Nat) (p : Int) : (moveD d xs b p).length = xs.length := by
  unfold moveD
  rw [List.length_map, List.length_range]
theorem moveD_at (d : Tab) (xs : List Int) (b : Nat) (p : Int) {o : Nat} (h : o < xs.length) : (moveD d xs b p)[o]? = some (mv1 (d b o) (xs.getD o 0) p) := by
  unfold moveD
  rw [List.getElem?_map, List.getElem?_range h]
  rfl
theorem ints_at {xs : List Int} {i : Nat} {x : V} (h : (xs.map V.int)[i]? = some x) : i < xs.length ∧ x = .int (xs.getD i 0) := by
  rw [List.getElem?_map] at h
  cases e : xs[i]? with
  | none =>
    rw [e] at h
    cases h
  | some y =>
    rw [e] at h
    refine ⟨(List.getElem?_eq_some_iff.mp e).1, ?_⟩
    rw [List.getD_eq_getElem?_getD, e]
    exact (Option.some.inj h).symm
theorem at_ints {xs : List Int} {i : Nat} (h : i < xs.length) : (xs.map V.int)[i]? = some (.int (xs.getD i 0)) := by
  rw [List.getElem?_map, List.getD_eq_getElem?_getD, List.getElem?_eq_getElem h]
  rfl
def s_move_barge : Stmt := topS 30
abbrev n_move_barge : List Str := ["table", "positions", "barge", "position", "after", "other", "before", "length"]
abbrev p_move_barge : List Str := ["table", "positions", "barge", "position"]
theorem sc_move_barge : FnScope n_move_barge p_move_barge (defScope s_move_barge) := ⟨rfl, rfl, rfl, by decide +kernel, rfl, by decide +kernel, by decide +kernel⟩
def sp_move_barge (K : PySem.W.Frag) : Sp := fun vs H Q _ => ∃ (t : Addr) (as : List Addr) (n : Nat) (d : Tab) (u : V) (xs : List Int) (b : Nat) (p : Int), vs = [.ref t, u, .int b, .int p] ∧ TabAt H t as n d ∧ IntsT K H u xs ∧ xs.length = n ∧ b < n ∧ n ≤ 8 ∧
  ∀ H' a, Same H H' → H a = none → H' a = some (.tup ((moveD d xs b p).map V.int)) → Q (.ref a) H'
theorem df_move_barge (T : Here K mg "move_barge" s_move_barge) (B : Blt mg) : Df P w K mg base CX0 "move_barge" 1 p_move_barge (sp_move_barge K) := by
  refine T.df sc_move_barge (fun _ _ _ _ _ _ us hl => match us, hl with | [_, _, _, _], _ => rfl) (fun vs H Q E h => by obtain ⟨_, _, _, _, _, _, _, _, rfl, _⟩ := h; rfl) (fun f cdv A outer s H vs Q E hr h => ?_)
  obtain ⟨t, as, n, d, u, xs, b, p, rfl, ht, ⟨c, rfl, hc⟩, hn, hb, h8, q⟩ := h
  refine ⟨_, pss_cons (ps_set (i := 4) sc_move_barge.nd rfl (by first | exact Or.inl rfl | exact Or.inr rfl) (pe_lst (pa_nil)))
      (pss_cons (ps_for PassesOwn.never rfl (pi_enumT (by rfl) B.enumerate (pa_cons (pv 1) pa_nil)) (pgTup K rfl (n := 2) rfl (pgs_cons (pg_name (i := 5) sc_move_barge.nd rfl (by first | exact Or.inl rfl | exact Or.inr rfl)) (pgs_cons (pg_name (i := 6) sc_move_barge.nd rfl (by first | exact Or.inl rfl | exact Or.inr rfl)) pgs_nil))) (pss_cons (ps_set (i := 7) sc_move_barge.nd rfl (by first | exact Or.inl rfl | exact Or.inr rfl) (pe_ix (ixL K rfl) (pe_ix (ixL K rfl) (pv 0) (pv 2) (fun _ _ => rfl)) (pv 5) (fun _ _ => rfl)))
      (pss_one (ps_if (pt_cmpR op_isN (pv 7) (pe_non) (nomark _)) (pss_one (ps_expr (pe_bm PySem.F.plainAttrs_list PySem.F.slot_list_append PySem.F.type_list_append mt_append (pv 4) (pa_cons (pv 6) pa_nil)))) (pss_one (ps_expr (pe_bm PySem.F.plainAttrs_list PySem.F.slot_list_append PySem.F.type_list_append mt_append (pv 4) (pa_cons (pe_callB (call_max2 rfl) (by rfl) B.max (by decide +kernel) (pa_cons (pv 6) (pa_cons (pe_op op_sub (pv 3) (pv 7)) pa_nil))) pa_nil))))))))
      (pss_one (ps_ret (pe_callTy (tupleOf K rfl) (by rfl) B.tuple (by decide +kernel) (pa_cons (pv 4) pa_nil))))), ?_⟩
  have hz : 8 < sizeLine := by decide
  walk_at "rd"
  refine ⟨Nat.zero_le _, fun l hl => ?_⟩
  walk_at "rd"
  have s0 := same_upd (o := .lst []) hl
  refine ⟨⟨_, sqt_same s0 hc⟩, ?_⟩
  refine forEnumT (xs := xs.map V.int) (fun i σ H' => ∃ x5 x6 x7, σ = [some (.ref t), some (.ref c), some (.int b), some (.int p), some (.ref l), x5, x6, x7] ∧ Same H H' ∧ H' l = some (.lst (((moveD d xs b p).take i).map V.int)))
    ⟨_, _, _, rfl, s0, upd_same⟩ (fun i σ H' _ hPv => ?_) (fun i x T σ H' hx' hPv hT => ?_) (fun σ H' hPv => ?_)
  · obtain ⟨_, _, _, _, e, _⟩ := hPv
    exact sqt_same e hc
  · obtain ⟨x5, x6, x7, rfl, e, hL⟩ := hPv
    obtain ⟨hi, rfl⟩ := ints_at hx'
    have eT := e.trans (same_upd (o := .tup [V.int i, V.int (xs.getD i 0)]) hT)
    have tT := ht.mono eT
    obtain ⟨a, ha, ham, hrow⟩ := tT.get hb
    have nl : l ≠ T := ne_of_none hL hT
    have hL2 : (upd H' T (.tup [V.int i, V.int (xs.getD i 0)])) l = some (.lst (((moveD d xs b p).take i).map V.int)) := by
      rw [upd_ne nl]
      exact hL
    have hlen : (((moveD d xs b p).take i).map V.int).length < sizeLine := by
      rw [List.length_map, List.length_take, moveD_len]
      omega
    have hnext : ((moveD d xs b p).take i).map V.int ++ [V.int (mv1 (d b i) (xs.getD i 0) p)] = ((moveD d xs b p).take (i + 1)).map V.int := by
      rw [List.take_add_one, moveD_at d xs b p hi, List.map_append]
      rfl
    have fin : ∀ y, y = mv1 (d b i) (xs.getD i 0) p → Same H (upd (upd H' T (.tup [V.int i, V.int (xs.getD i 0)])) l (.lst (((moveD d xs b p).take i).map V.int ++ [V.int y]))) ∧
        (upd (upd H' T (.tup [V.int i, V.int (xs.getD i 0)])) l (.lst (((moveD d xs b p).take i).map V.int ++ [V.int y]))) l = some (.lst (((moveD d xs b p).take (i + 1)).map V.int)) := by
      rintro y rfl
      refine ⟨fun z o hz' => ?_, by rw [upd_same, hnext]⟩
      rw [upd_ne (ne_of_none hz' hl)]
      exact eT z o hz'
    walk_at "rd"
    refine ⟨_, .of upd_same, rfl, ?_⟩
    walk_at "rd"
    refine ⟨t, _, _, _, rfl, rfl, .of tT.top, atI_nat ham, a, _, _, _, rfl, rfl, .of hrow, atI_nat (rowV_at d b (by omega)), ?_⟩
    walk_at "rd"
    cases hd : d b i with
    | none =>
      simp only [ovV, decide_true, ite_true]
      refine ⟨.inl ⟨rfl, _, .of hL2⟩, l, _, _, rfl, rfl, hL2, hlen, ?_⟩
      obtain ⟨f1, f2⟩ := fin (xs.getD i 0) (by rw [hd]; rfl)
      exact ⟨_, _, _, ⟨rfl, rfl, rfl⟩, f1, f2⟩
    | some m =>
      simp only [ovV, reduceCtorEq, decide_false, Bool.false_eq_true, ite_false]
      refine ⟨.inl ⟨rfl, _, .of hL2⟩, ?_⟩
      walk_at "rd"
      refine ⟨_, _, ⟨rfl, rfl⟩, l, _, _, rfl, rfl, hL2, hlen, ?_⟩
      obtain ⟨f1, f2⟩ := fin _ (show (if p - m > xs.getD i 0 then p - m else xs.getD i 0) = _ by rw [hd]; rfl)
      exact ⟨_, _, _, ⟨rfl, rfl, rfl⟩, f1, f2⟩
  · obtain ⟨x5, x6, x7, rfl, e, hL⟩ := hPv
    rw [List.take_of_length_le (by rw [List.length_map, moveD_len]; exact Nat.le_refl _)] at hL
    walk_at "rd"
    refine ⟨_, .inl ⟨.of hL, fun a ha => ?_⟩⟩
    exact q _ a (e.trans (same_upd ha)) (e.free ha) upd_same
end
end Hx

set_option Elab.async false
set_option linter.all false
set_option maxRecDepth 100000
set_option maxHeartbeats 4000000
namespace Hx
open PySem PySem.Spec PyProof.Rows L2
local macro_rules | `(tactic| walk_at "rd") => `(tactic| (try simp only [q_var, q_c, q_op, q_un, q_rI, q_rI0, q_rU, q_rEq, q_rNe, q_test, q_tB, q_and, q_or, q_not, q_andV, q_orV, q_notV, q_if, q_isN, q_notN, q_chain, q_next, q_seq, q_break, q_cont, q_drop, q_ret, q_retN, q_ifS, q_never, q_gN, q_gNil, q_gCons, q_gTup, q_gSub, q_asg, q_par, q_aug, q_nil, q_cons, q_tup, q_lst, q_call, q_cb, q_noPart, q_part, q_sl, q_bm0, q_bm, q_yes, q_for, q_lc, q_iList, q_iTup, q_iRng1, q_iEnumT, q_iEnum, q_iRng2, q_iZipA, q_iZipM, q_ipI, q_ckw, q_len, q_listOf, q_tupleOf, L2.start, cx_K, wipe, List.map_cons, List.map_nil, List.length_cons, List.length_nil, List.cons_append, List.nil_append, List.append_nil, List.replicate, List.getElem?_cons_zero, List.getElem?_cons_succ, List.set_cons_zero, List.set_cons_succ, Option.some.injEq, List.cons.injEq, exists_eq_left', exists_eq_left, exists_and_left, V.int.injEq, V.bl.injEq, V.ref.injEq, if_true, if_false, Bool.not_true, Bool.not_false, true_and, and_true, Bool.false_eq_true, ite_true, ite_false, Nat.reduceAdd, Nat.reduceSub, reduceCtorEq, decide_false, decide_true, Int.toNat_natCast, false_and, exists_false, or_false, false_or]))
section
variable {P : Program} {w : World} {K : PySem.W.Frag} {mg : Str → Option Value} {base : Heap}
def HaulV (K : PySem.W.Frag) (H : Hp) (v : V) (h : Nat × Int) : Prop := ∃ c, v = .ref c ∧ SqT K H c [.int h.1, .int h.2]
theorem HaulV.mono {H H' : Hp} {v : V} {h : Nat × Int} (k : HaulV K H v h) (e : Same H H') : HaulV K H' v h := by
  obtain ⟨c, rfl, k⟩ := k
  exact ⟨c, rfl, sqt_same e k⟩
def s_is_haul : Stmt := topS 29
abbrev n_is_haul : List Str := ["value", "positions", "barge", "position"]
abbrev p_is_haul : List Str := ["value", "positions"]
theorem sc_is_haul : FnScope n_is_haul p_is_haul (defScope s_is_haul) := ⟨rfl, rfl, rfl, by decide +kernel, rfl, by decide +kernel, by decide +kernel⟩
def sp_is_haul (K : PySem.W.Frag) : Sp := fun vs H Q _ => ∃ (v u : V) (xs : List Int) (h : Nat × Int), vs = [v, u] ∧ HaulV K H v h ∧ IntsT K H u xs ∧ h.1 < xs.length ∧ xs.getD h.1 0 ≤ h.2 ∧ h.2 ≤ 9999 ∧ Q (.bl true) H
theorem df_is_haul (T : Here K mg "is_haul" s_is_haul) (B : Blt mg) (C_FARTHEST : ∃ u, mg "FARTHEST" = some (.int 9999 u)) (D_is_number : Df P w K mg base CX0 "is_number" 1 p_is_number (sp_is_number K))
    (D_is_barge : Df P w K mg base CX0 "is_barge" 2 p_is_barge (sp_is_barge K)) : Df P w K mg base CX0 "is_haul" 3 p_is_haul (sp_is_haul K) := by
  refine T.df sc_is_haul (fun _ _ _ _ _ _ us hl => match us, hl with | [_, _], _ => rfl) (fun vs H Q E h => by obtain ⟨_, _, _, _, rfl, _⟩ := h; rfl) (fun f cdv A outer s H vs Q E hr h => ?_)
  obtain ⟨v, u, xs, ⟨b, p⟩, rfl, ⟨c, rfl, hc⟩, ⟨a, rfl, ha⟩, h1, h2, h3, q⟩ := h
  refine ⟨_, pss_cons (ps_if (PW.pt (pw_or (pt_not (pt_val (pe_callB (isi K rfl) (by rfl) B.isinstance (by decide +kernel) (pa_cons (pv 0) (pa_cons ((pe_bltn (v := .ty "tuple") (by rfl) B.tuple (by decide +kernel) rfl)) pa_nil))))) (pw_or1 (pt_cmpR op_ne (pe_callB (lenQ K rfl) (by rfl) B.len (by decide +kernel) (pa_cons (pv 0) pa_nil)) (pe_int) (nomark _))))) (pss_one (ps_ret (pe_bl))) (pss_nil))
      (pss_cons (ps_asg (pv 0) (pgTup K rfl (n := 2) rfl (pgs_cons (pg_name (i := 2) sc_is_haul.nd rfl (by first | exact Or.inl rfl | exact Or.inr rfl)) (pgs_cons (pg_name (i := 3) sc_is_haul.nd rfl (by first | exact Or.inl rfl | exact Or.inr rfl)) pgs_nil))))
      (pss_one (ps_ret (pe_and (D_is_barge.call (hr.mono (by decide)) (by rfl) (pa_cons (pv 2) (pa_cons (pe_callB (lenQ K rfl) (by rfl) B.len (by decide +kernel) (pa_cons (pv 1) pa_nil)) pa_nil))) (pe_one (D_is_number.call (hr.mono (by decide)) (by rfl) (pa_cons (pv 3) (pa_cons (pe_ix (ixT K rfl) (pv 1) (pv 2) (fun _ _ => rfl)) (pa_cons (pe_gi (by rfl) C_FARTHEST) pa_nil))))))))), ?_⟩
  simp only at h1 h2 h3
  walk_at "rd"
  refine isi_yes (tyx_tup hc) (by decide +kernel) ?_
  walk_at "rd"
  refine ⟨_, .inr hc, rfl, iteNS rfl ⟨_, hc, rfl, ?_⟩⟩
  walk_at "rd"
  refine ⟨_, .inr ha, ?_⟩
  rw [List.length_map]
  refine ⟨b, xs.length, rfl, ?_⟩
  rw [decide_eq_true (show 0 ≤ (b : Int) ∧ (b : Int) < (xs.length : Int) by omega)]
  walk_at "rd"
  refine ⟨a, _, b, _, rfl, rfl, ha, atI_nat (at_ints h1), ?_⟩
  refine ⟨p, _, 9999, rfl, ?_⟩
  rw [decide_eq_true (show xs.getD b 0 ≤ p ∧ p ≤ 9999 from ⟨h2, h3⟩)]
  exact q
/-! a run of hauls -/
def runD (d : Tab) (xs : List Int) : List (Nat × Int) → List Int
  | [] => xs
  | h :: hs => runD d (moveD d xs h.1 h.2) hs
def wayD (d : Tab) (xs : List Int) : List (Nat × Int) → Int
  | [] => 0
  | h :: hs => (h.2 - xs.getD h.1 0) + wayD d (moveD d xs h.1 h.2) hs
def HaulsOk (d : Tab) (xs : List Int) : List (Nat × Int) → Prop
  | [] => True
  | h :: hs => h.1 < xs.length ∧ xs.getD h.1 0 ≤ h.2 ∧ h.2 ≤ 9999 ∧ HaulsOk d (moveD d xs h.1 h.2) hs
theorem runD_len (d : Tab) : ∀ (hs : List (Nat × Int)) (xs : List Int), (runD d xs hs).length = xs.length
  | [], xs => rfl
  | h :: hs, xs => by
    show (runD d (moveD d xs h.1 h.2) hs).length = _
    rw [runD_len d hs, moveD_len]
theorem run_snoc (d : Tab) : ∀ (hs : List (Nat × Int)) (xs : List Int) (h : Nat × Int), runD d xs (hs ++ [h]) = moveD d (runD d xs hs) h.1 h.2
  | [], _, _ => rfl
  | k :: hs, xs, h => run_snoc d hs (moveD d xs k.1 k.2) h
theorem way_snoc (d : Tab) : ∀ (hs : List (Nat × Int)) (xs : List Int) (h : Nat × Int), wayD d xs (hs ++ [h]) = wayD d xs hs + (h.2 - (runD d xs hs).getD h.1 0)
  | [], xs, h => by
    show (h.2 - xs.getD h.1 0) + 0 = 0 + (h.2 - xs.getD h.1 0)
    omega
  | k :: hs, xs, h => by
    have e := way_snoc d hs (moveD d xs k.1 k.2) h
    show (k.2 - xs.getD k.1 0) + wayD d (moveD d xs k.1 k.2) (hs ++ [h]) = (k.2 - xs.getD k.1 0) + wayD d (moveD d xs k.1 k.2) hs + (h.2 - (runD d (moveD d xs k.1 k.2) hs).getD h.1 0)
    rw [e]
    omega
theorem ok_snoc (d : Tab) : ∀ (hs : List (Nat × Int)) (xs : List Int) (h : Nat × Int), HaulsOk d xs (hs ++ [h]) ↔ HaulsOk d xs hs ∧ h.1 < (runD d xs hs).length ∧ (runD d xs hs).getD h.1 0 ≤ h.2 ∧ h.2 ≤ 9999
  | [], xs, h => by
    show (h.1 < xs.length ∧ xs.getD h.1 0 ≤ h.2 ∧ h.2 ≤ 9999 ∧ True) ↔ True ∧ h.1 < xs.length ∧ xs.getD h.1 0 ≤ h.2 ∧ h.2 ≤ 9999
    simp only [and_true, true_and]
  | k :: hs, xs, h => by
    have e := ok_snoc d hs (moveD d xs k.1 k.2) h
    show (k.1 < xs.length ∧ xs.getD k.1 0 ≤ k.2 ∧ k.2 ≤ 9999 ∧ HaulsOk d (moveD d xs k.1 k.2) (hs ++ [h])) ↔ (k.1 < xs.length ∧ xs.getD k.1 0 ≤ k.2 ∧ k.2 ≤ 9999 ∧ HaulsOk d (moveD d xs k.1 k.2) hs) ∧ h.1 < (runD d (moveD d xs k.1 k.2) hs).length ∧ (runD d (moveD d xs k.1 k.2) hs).getD h.1 0 ≤ h.2 ∧ h.2 ≤ 9999
    rw [e]
    simp only [and_assoc]
theorem ok_left (d : Tab) : ∀ (a b : List (Nat × Int)) (xs : List Int), HaulsOk d xs (a ++ b) → HaulsOk d xs a
  | [], _, _, _ => trivial
  | h :: a, b, xs, k => ⟨k.1, k.2.1, k.2.2.1, ok_left d a b _ k.2.2.2⟩
/-- the list at l holds hauls -/
def HaulsL (K : PySem.W.Frag) (H : Hp) (l : Addr) (hs : List (Nat × Int)) : Prop := ∃ xs, SqL K H l xs ∧ xs.length = hs.length ∧ ∀ (i : Nat) x, xs[i]? = some x → ∃ h, hs[i]? = some h ∧ HaulV K H x h
theorem HaulsL.mono {H H' : Hp} {l : Addr} {hs : List (Nat × Int)} (k : HaulsL K H l hs) (e : Same H H') : HaulsL K H' l hs := by
  obtain ⟨xs, h1, h2, h3⟩ := k
  refine ⟨xs, e.seq h1, h2, fun i x hx => ?_⟩
  obtain ⟨h, g1, g2⟩ := h3 i x hx
  exact ⟨h, g1, g2.mono e⟩
structure WayOk (n : Nat) (rs : List Rope) (xs : List Int) : Prop where
  fleet : FleetOk n rs
  len : xs.length = n
  range : InRange xs
  valid : Valid xs rs
def s_follow_hauls : Stmt := topS 28
abbrev n_follow_hauls : List Str := ["fleet", "positions", "hauls", "table", "current", "total", "index", "step", "barge", "position"]
abbrev p_follow_hauls : List Str := ["fleet", "positions", "hauls"]
theorem sc_follow_hauls : FnScope n_follow_hauls p_follow_hauls (defScope s_follow_hauls) := ⟨rfl, rfl, rfl, by decide +kernel, rfl, by decide +kernel, by decide +kernel⟩
def sp_follow_hauls (K : PySem.W.Frag) : Sp := fun vs H Q _ => ∃ (v u : V) (l : Addr) (n : Nat) (rs : List Rope) (xs : List Int) (hs : List (Nat × Int)), vs = [v, u, .ref l] ∧ FleetV K H v n rs ∧ IntsT K H u xs ∧ WayOk n rs xs ∧ HaulsL K H l hs ∧ hs.length ≤ 1000 ∧
  HaulsOk (chainTab n rs) xs hs ∧ ∀ H' p c, Same H H' → H' p = some (.tup [.ref c, .int (wayD (chainTab n rs) xs hs)]) → IntsT K H' (.ref c) (runD (chainTab n rs) xs hs) → Q (.ref p) H'
theorem df_follow_hauls (T : Here K mg "follow_hauls" s_follow_hauls) (B : Blt mg) (D_check_fleet : Df P w K mg base CX0 "check_fleet" 4 p_check_fleet (sp_check_fleet K)) (D_check_valid : Df P w K mg base CX0 "check_valid" 4 p_check_valid (sp_check_valid K))
    (D_chain_table : Df P w K mg base CX0 "chain_table" 2 p_chain_table (sp_chain_table K)) (D_is_haul : Df P w K mg base CX0 "is_haul" 3 p_is_haul (sp_is_haul K)) (D_move_barge : Df P w K mg base CX0 "move_barge" 1 p_move_barge (sp_move_barge K)) :
    Df P w K mg base CX0 "follow_hauls" 5 p_follow_hauls (sp_follow_hauls K) := by
  refine T.df sc_follow_hauls (fun _ _ _ _ _ _ us hl => match us, hl with | [_, _, _], _ => rfl) (fun vs H Q E h => by obtain ⟨_, _, _, _, _, _, _, rfl, _⟩ := h; rfl) (fun f cdv A outer s H vs Q E hr h => ?_)
  obtain ⟨v, u, l, n, rs, xs, hs, rfl, hv, hu, hw, hl, hlen, hok, q⟩ := h
  refine ⟨_, pss_cons (ps_expr (D_check_fleet.call (hr.mono (by decide)) (by rfl) (pa_cons (pv 0) pa_nil)))
      (pss_cons (ps_expr (D_check_valid.call (hr.mono (by decide)) (by rfl) (pa_cons (pv 0) (pa_cons (pv 1) pa_nil))))
      (pss_cons (ps_if (pt_not (pt_val (pe_callB (isi K rfl) (by rfl) B.isinstance (by decide +kernel) (pa_cons (pv 2) (pa_cons ((pe_bltn (v := .ty "list") (by rfl) B.list (by decide +kernel) rfl)) pa_nil))))) (pss_one (ps_never)) (pss_nil))
      (pss_cons (ps_set (i := 3) sc_follow_hauls.nd rfl (by first | exact Or.inl rfl | exact Or.inr rfl) (D_chain_table.call (hr.mono (by decide)) (by rfl) (pa_cons (pv 0) pa_nil)))
      (pss_cons (ps_set (i := 4) sc_follow_hauls.nd rfl (by first | exact Or.inl rfl | exact Or.inr rfl) (pe_callTy (tupleOf K rfl) (by rfl) B.tuple (by decide +kernel) (pa_cons (pv 1) pa_nil)))
      (pss_cons (ps_set (i := 5) sc_follow_hauls.nd rfl (by first | exact Or.inl rfl | exact Or.inr rfl) (pe_int))
      (pss_cons (ps_for PassesOwn.never rfl (pi_enum (by rfl) B.enumerate (pa_cons (pv 2) pa_nil)) (pgTup K rfl (n := 2) rfl (pgs_cons (pg_name (i := 6) sc_follow_hauls.nd rfl (by first | exact Or.inl rfl | exact Or.inr rfl)) (pgs_cons (pg_name (i := 7) sc_follow_hauls.nd rfl (by first | exact Or.inl rfl | exact Or.inr rfl)) pgs_nil))) (pss_cons (ps_if (pt_not (pt_val (D_is_haul.call (hr.mono (by decide)) (by rfl) (pa_cons (pv 7) (pa_cons (pv 4) pa_nil))))) (pss_one (ps_never)) (pss_nil))
      (pss_cons (ps_asg (pv 7) (pgTup K rfl (n := 2) rfl (pgs_cons (pg_name (i := 8) sc_follow_hauls.nd rfl (by first | exact Or.inl rfl | exact Or.inr rfl)) (pgs_cons (pg_name (i := 9) sc_follow_hauls.nd rfl (by first | exact Or.inl rfl | exact Or.inr rfl)) pgs_nil))))
      (pss_cons (ps_aug (i := 5) sc_follow_hauls.nd rfl (by first | exact Or.inl rfl | exact Or.inr rfl) (pe_op op_sub (pv 9) (pe_ix (ixT K rfl) (pv 4) (pv 8) (fun _ _ => rfl))) ip_add)
      (pss_one (ps_set (i := 4) sc_follow_hauls.nd rfl (by first | exact Or.inl rfl | exact Or.inr rfl) (D_move_barge.call (hr.mono (by decide)) (by rfl) (pa_cons (pv 3) (pa_cons (pv 4) (pa_cons (pv 8) (pa_cons (pv 9) pa_nil)))))))))))
      (pss_one (ps_ret (pe_tup (pa_cons (pv 4) (pa_cons (pv 5) pa_nil))))))))))), ?_⟩
  walk_at "rd"
  refine ⟨v, n, rs, rfl, hv, hw.fleet, fun H1 s1 => ?_⟩
  walk_at "rd"
  refine ⟨v, u, n, rs, xs, rfl, hv.mono s1, hu.mono s1, by rw [hw.len], hw.range, hw.fleet.2.2.2, hw.valid, fun H2 s2 => ?_⟩
  have s2 := s1.trans s2
  obtain ⟨ys, hy1, hy2, hy3⟩ := hl.mono s2
  walk_at "rd"
  refine isi_yes (tyx_lst hy1) (by decide +kernel) ?_
  walk_at "rd"
  refine ⟨v, n, rs, rfl, hv.mono s2, hw.fleet, fun H3 t as tn => ?_⟩
  have s3 := s2.trans tn.same
  obtain ⟨c, rfl, hc⟩ := hu.mono s3
  walk_at "rd"
  refine ⟨_, .inr ⟨hc, ?_⟩⟩
  walk_at "rd"
  refine ⟨_, tn.same.seq hy1, ?_⟩
  refine forEnumL (xs := ys) (fun i σ H' => ∃ c' x6 x7 x8 x9, σ = [some v, some (.ref c), some (.ref l), some (.ref t), some (.ref c'), some (.int (wayD (chainTab n rs) xs (hs.take i))), x6, x7, x8, x9] ∧ Same H3 H' ∧ SqT K H' c' ((runD (chainTab n rs) xs (hs.take i)).map V.int))
    ⟨c, _, _, _, _, rfl, .refl _, hc⟩ (fun i σ H' _ hPv => ?_) (fun i x T σ H' hx' hPv hT => ?_) (fun σ H' hPv => ?_)
  · obtain ⟨_, _, _, _, _, _, e, _⟩ := hPv
    exact (tn.same.trans e).seq hy1
  · obtain ⟨c', x6, x7, x8, x9, rfl, e, hc'⟩ := hPv
    obtain ⟨⟨hb, hp⟩, hh, hV⟩ := hy3 i x hx'
    have etk : hs.take (i + 1) = hs.take i ++ [(hb, hp)] := by
      rw [List.take_add_one, hh]
      rfl
    have hk : HaulsOk (chainTab n rs) xs (hs.take i ++ [(hb, hp)]) := by
      rw [← etk]
      refine ok_left _ _ (hs.drop (i + 1)) xs ?_
      rw [List.take_append_drop]
      exact hok
    obtain ⟨k0, k1, k2, k3⟩ := (ok_snoc _ _ _ _).mp hk
    have k1 : hb < (runD (chainTab n rs) xs (hs.take i)).length := k1
    have k2 : (runD (chainTab n rs) xs (hs.take i)).getD hb 0 ≤ hp := k2
    have k3 : hp ≤ 9999 := k3
    have eT := e.trans (same_upd (o := .tup [V.int i, x]) hT)
    have hcT := sqt_same (same_upd (o := .tup [V.int i, x]) hT) hc'
    obtain ⟨z, rfl, hz⟩ := hV.mono (tn.same.trans eT)
    walk_at "rd"
    refine ⟨_, .of upd_same, rfl, ?_⟩
    walk_at "rd"
    refine ⟨.ref z, .ref c', _, (hb, hp), rfl, ⟨z, rfl, hz⟩, ⟨c', rfl, hcT⟩, k1, k2, k3, ?_⟩
    walk_at "rd"
    refine ⟨_, hz, rfl, ?_⟩
    walk_at "rd"
    refine ⟨c', _, hb, _, rfl, rfl, hcT, atI_nat (at_ints k1), ?_⟩
    walk_at "rd"
    refine ⟨t, as, n, _, _, _, hb, hp, rfl, tn.tab.mono eT, ⟨c', rfl, hcT⟩, by rw [runD_len, hw.len], ?_, by have := hw.fleet.2.1; omega, fun H5 a s5 _ ha => ?_⟩
    · rw [runD_len, hw.len] at k1
      exact k1
    · refine ⟨a, _, _, _, _, ⟨rfl, ?_, rfl, rfl, rfl, rfl⟩, eT.trans s5, ?_⟩
      · rw [etk, way_snoc]
      · rw [etk, run_snoc]
        exact .of ha
  · obtain ⟨c', x6, x7, x8, x9, rfl, e, hc'⟩ := hPv
    rw [List.take_of_length_le (by omega)] at hc'
    rw [List.take_of_length_le (by omega)]
    walk_at "rd"
    refine ⟨(by show 2 ≤ sizeLine; decide), fun p hp => ?_⟩
    have sp := same_upd (o := .tup [V.ref c', V.int (wayD (chainTab n rs) xs hs)]) hp
    exact q _ p c' ((s3.trans e).trans sp) upd_same ⟨c', rfl, sqt_same sp hc'⟩
def s_haul_all : Stmt := topS 27
abbrev n_haul_all : List Str := ["fleet", "positions", "hauls"]
abbrev p_haul_all : List Str := ["fleet", "positions", "hauls"]
theorem sc_haul_all : FnScope n_haul_all p_haul_all (defScope s_haul_all) := ⟨rfl, rfl, rfl, by decide +kernel, rfl, by decide +kernel, by decide +kernel⟩
def sp_haul_all (K : PySem.W.Frag) : Sp := fun vs H Q _ => ∃ (v u : V) (l : Addr) (n : Nat) (rs : List Rope) (xs : List Int) (hs : List (Nat × Int)), vs = [v, u, .ref l] ∧ FleetV K H v n rs ∧ IntsT K H u xs ∧ WayOk n rs xs ∧ HaulsL K H l hs ∧ hs.length ≤ 1000 ∧
  HaulsOk (chainTab n rs) xs hs ∧ ∀ H' r, Same H H' → IntsT K H' r (runD (chainTab n rs) xs hs) → Q r H'
theorem df_haul_all (T : Here K mg "haul_all" s_haul_all) (D_follow_hauls : Df P w K mg base CX0 "follow_hauls" 5 p_follow_hauls (sp_follow_hauls K)) : Df P w K mg base CX0 "haul_all" 6 p_haul_all (sp_haul_all K) := by
  refine T.df sc_haul_all (fun _ _ _ _ _ _ us hl => match us, hl with | [_, _, _], _ => rfl) (fun vs H Q E h => by obtain ⟨_, _, _, _, _, _, _, rfl, _⟩ := h; rfl) (fun f cdv A outer s H vs Q E hr h => ?_)
  obtain ⟨v, u, l, n, rs, xs, hs, rfl, hv, hu, hw, hl, hlen, hok, q⟩ := h
  refine ⟨_, pss_one (ps_ret (pe_ix (ixT K rfl) (D_follow_hauls.call (hr.mono (by decide)) (by rfl) (pa_cons (pv 0) (pa_cons (pv 1) (pa_cons (pv 2) pa_nil)))) (pe_int) (fun _ _ => rfl))), ?_⟩
  walk_at "rd"
  refine ⟨v, u, l, n, rs, xs, hs, rfl, hv, hu, hw, hl, hlen, hok, fun H1 p c s1 hp hc => ?_⟩
  refine ⟨p, _, 0, _, rfl, rfl, .of hp, atI_nat (j := 0) rfl, ?_⟩
  exact q _ _ s1 hc
def s_haul : Stmt := topS 26
abbrev n_haul : List Str := ["fleet", "positions", "barge", "position"]
abbrev p_haul : List Str := ["fleet", "positions", "barge", "position"]
theorem sc_haul : FnScope n_haul p_haul (defScope s_haul) := ⟨rfl, rfl, rfl, by decide +kernel, rfl, by decide +kernel, by decide +kernel⟩
def sp_haul (K : PySem.W.Frag) : Sp := fun vs H Q _ => ∃ (v u : V) (n : Nat) (rs : List Rope) (xs : List Int) (b : Nat) (p : Int), vs = [v, u, .int b, .int p] ∧ FleetV K H v n rs ∧ IntsT K H u xs ∧ WayOk n rs xs ∧ b < n ∧ xs.getD b 0 ≤ p ∧ p ≤ 9999 ∧
  ∀ H' r, Same H H' → IntsT K H' r (moveD (chainTab n rs) xs b p) → Q r H'
theorem df_haul (T : Here K mg "haul" s_haul) (D_haul_all : Df P w K mg base CX0 "haul_all" 6 p_haul_all (sp_haul_all K)) : Df P w K mg base CX0 "haul" 7 p_haul (sp_haul K) := by
  refine T.df sc_haul (fun _ _ _ _ _ _ us hl => match us, hl with | [_, _, _, _], _ => rfl) (fun vs H Q E h => by obtain ⟨_, _, _, _, _, _, _, rfl, _⟩ := h; rfl) (fun f cdv A outer s H vs Q E hr h => ?_)
  obtain ⟨v, u, n, rs, xs, b, p, rfl, hv, hu, hw, hb, h1, h2, q⟩ := h
  refine ⟨_, pss_one (ps_ret (D_haul_all.call (hr.mono (by decide)) (by rfl) (pa_cons (pv 0) (pa_cons (pv 1) (pa_cons (pe_lst (pa_cons (pe_tup (pa_cons (pv 2) (pa_cons (pv 3) pa_nil))) pa_nil)) pa_nil))))), ?_⟩
  walk_at "rd"
  refine ⟨(by show 2 ≤ sizeLine; decide), fun c hc => ?_⟩
  refine ⟨(by show 1 ≤ sizeLine; decide), fun l hl => ?_⟩
  have s1 := same_upd (o := .tup [V.int b, V.int p]) hc
  have s2 := same_upd (o := .lst [V.ref c]) hl
  have hb' : b < xs.length := by rw [hw.len]; exact hb
  refine ⟨v, u, l, n, rs, xs, [(b, p)], rfl, hv.mono (s1.trans s2), hu.mono (s1.trans s2), hw, ⟨_, .of upd_same, rfl, fun i x hx => ?_⟩, (by show 1 ≤ 1000; decide), ⟨hb', h1, h2, trivial⟩, fun H3 r s3 hr3 => ?_⟩
  · cases i with
    | zero =>
      cases hx
      exact ⟨_, rfl, c, rfl, sqt_same s2 (.of upd_same)⟩
    | succ i => cases hx
  · exact q _ _ ((s1.trans s2).trans s3) hr3
end
end Hx

set_option Elab.async false
set_option linter.all false
set_option maxRecDepth 100000
set_option maxHeartbeats 4000000
namespace Hx
open PySem PySem.Spec PyProof.Rows L2
local macro_rules | `(tactic| walk_at "rd") => `(tactic| (try simp only [q_var, q_c, q_op, q_un, q_rI, q_rI0, q_rU, q_rEq, q_rNe, q_test, q_tB, q_and, q_or, q_not, q_andV, q_orV, q_notV, q_if, q_isN, q_notN, q_chain, q_next, q_seq, q_break, q_cont, q_drop, q_ret, q_retN, q_ifS, q_never, q_gN, q_gNil, q_gCons, q_gTup, q_gSub, q_asg, q_par, q_aug, q_nil, q_cons, q_tup, q_lst, q_call, q_cb, q_noPart, q_part, q_sl, q_bm0, q_bm, q_yes, q_for, q_lc, q_iList, q_iTup, q_iRng1, q_iEnumT, q_iEnum, q_iRng2, q_iZipA, q_iZipM, q_ipI, q_ckw, q_len, q_listOf, q_tupleOf, L2.start, cx_K, wipe, List.map_cons, List.map_nil, List.length_cons, List.length_nil, List.cons_append, List.nil_append, List.append_nil, List.replicate, List.getElem?_cons_zero, List.getElem?_cons_succ, List.set_cons_zero, List.set_cons_succ, Option.some.injEq, List.cons.injEq, exists_eq_left', exists_eq_left, exists_and_left, V.int.injEq, V.bl.injEq, V.ref.injEq, if_true, if_false, Bool.not_true, Bool.not_false, true_and, and_true, Bool.false_eq_true, ite_true, ite_false, Nat.reduceAdd, Nat.reduceSub, reduceCtorEq, decide_false, decide_true, Int.toNat_natCast, false_and, exists_false, or_false, false_or]))
section
variable {P : Program} {w : World} {K : PySem.W.Frag} {mg : Str → Option Value} {base : Heap}
def dragD (xs ys : List Int) (b k : Nat) : List Nat := (List.range k).filter fun o => decide (o ≠ b) && decide (ys.getD o 0 ≠ xs.getD o 0)
theorem dragD_succ (xs ys : List Int) (b k : Nat) : dragD xs ys b (k + 1) = dragD xs ys b k ++ (if k ≠ b ∧ ys.getD k 0 ≠ xs.getD k 0 then [k] else []) := by
  unfold dragD
  rw [List.range_succ, List.filter_append, List.filter_cons, List.filter_nil]
  by_cases h1 : k ≠ b <;> by_cases h2 : ys.getD k 0 ≠ xs.getD k 0 <;> simp [h1, h2]
theorem dragD_le (xs ys : List Int) (b k : Nat) : (dragD xs ys b k).length ≤ k := by
  unfold dragD
  have := List.length_filter_le (fun o => decide (o ≠ b) && decide (ys.getD o 0 ≠ xs.getD o 0)) (List.range k)
  rw [List.length_range] at this
  exact this
def natV (ks : List Nat) : List V := ks.map fun (k : Nat) => V.int (k : Int)
def leastD (d : Tab) (ws : List (Option Int)) (xs : List Int) (k : Nat) : List Int :=
  (List.range k).foldl (fun ys i => match ws.getD i none with | none => ys | some v => if ys.getD i 0 < v then moveD d ys i v else ys) xs
theorem leastD_succ (d : Tab) (ws : List (Option Int)) (xs : List Int) (k : Nat) : leastD d ws xs (k + 1) = match ws.getD k none with | none => leastD d ws xs k | some v => if (leastD d ws xs k).getD k 0 < v then moveD d (leastD d ws xs k) k v else leastD d ws xs k := by
  unfold leastD
  rw [List.range_succ, List.foldl_append]
  rfl
theorem leastD_len (d : Tab) (ws : List (Option Int)) (xs : List Int) : ∀ k, (leastD d ws xs k).length = xs.length
  | 0 => rfl
  | k + 1 => by
    rw [leastD_succ]
    have ih := leastD_len d ws xs k
    cases ws.getD k none with
    | none => exact ih
    | some v =>
      show (if (leastD d ws xs k).getD k 0 < v then moveD d (leastD d ws xs k) k v else leastD d ws xs k).length = _
      split
      · rw [moveD_len]
        exact ih
      · exact ih
theorem opts_at {es : List (Option Int)} {i : Nat} {x : V} (h : (es.map ovV)[i]? = some x) : i < es.length ∧ x = ovV (es.getD i none) := by
  rw [List.getElem?_map] at h
  cases e : es[i]? with
  | none =>
    rw [e] at h
    cases h
  | some y =>
    rw [e] at h
    refine ⟨(List.getElem?_eq_some_iff.mp e).1, ?_⟩
    rw [List.getD_eq_getElem?_getD, e]
    exact (Option.some.inj h).symm
theorem at_opts {es : List (Option Int)} {i : Nat} (h : i < es.length) : (es.map ovV)[i]? = some (ovV (es.getD i none)) := by
  rw [List.getElem?_map, List.getD_eq_getElem?_getD, List.getElem?_eq_getElem h]
  rfl
end
end Hx

set_option Elab.async false
set_option linter.all false
set_option maxRecDepth 100000
set_option maxHeartbeats 4000000
namespace Hx
open PySem PySem.Spec PyProof.Rows L2
local macro_rules | `(tactic| walk_at "rd") => `(tactic| (try simp only [q_var, q_c, q_op, q_un, q_rI, q_rI0, q_rU, q_rEq, q_rNe, q_test, q_tB, q_and, q_or, q_not, q_andV, q_orV, q_notV, q_if, q_isN, q_notN, q_chain, q_next, q_seq, q_break, q_cont, q_drop, q_ret, q_retN, q_ifS, q_never, q_gN, q_gNil, q_gCons, q_gTup, q_gSub, q_asg, q_par, q_aug, q_nil, q_cons, q_tup, q_lst, q_call, q_cb, q_noPart, q_part, q_sl, q_bm0, q_bm, q_yes, q_for, q_lc, q_iList, q_iTup, q_iRng1, q_iEnumT, q_iEnum, q_iRng2, q_iZipA, q_iZipM, q_ipI, q_ckw, q_len, q_listOf, q_tupleOf, L2.start, cx_K, wipe, List.map_cons, List.map_nil, List.length_cons, List.length_nil, List.cons_append, List.nil_append, List.append_nil, List.replicate, List.getElem?_cons_zero, List.getElem?_cons_succ, List.set_cons_zero, List.set_cons_succ, Option.some.injEq, List.cons.injEq, exists_eq_left', exists_eq_left, exists_and_left, V.int.injEq, V.bl.injEq, V.ref.injEq, if_true, if_false, Bool.not_true, Bool.not_false, true_and, and_true, Bool.false_eq_true, ite_true, ite_false, Nat.reduceAdd, Nat.reduceSub, reduceCtorEq, decide_false, decide_true, Int.toNat_natCast, false_and, exists_false, or_false, false_or]))
section
variable {P : Program} {w : World} {K : PySem.W.Frag} {mg : Str → Option Value} {base : Heap}
/-- the law's row of numbers stands at a -/
def RowAt (K : PySem.W.Frag) (H : Hp) (a s : Addr) (ns : List Int) : Prop := ∃ i z l : Int, H a = some (.lst [.ref s, .int i, .int z, .int l]) ∧ SqL K H s (ns.map V.int) ∧ (s ≠ a ∨ SqL K (fun _ => none) s (ns.map V.int)) ∧ 0 ≤ i ∧ 0 ≤ z ∧ z < 2147483647 ∧ 0 ≤ l
theorem sql_frag {H : Hp} {b : Addr} {xs : List V} (h : SqL K (fun _ => none) b xs) : SqL K H b xs := by
  rcases h with (h | ⟨o, h⟩) | h
  · cases h
  · cases h
  · exact .inr h
theorem sql_but {H H' : Hp} {a b : Addr} {xs : List V} (e : But a H H') (n : b ≠ a ∨ SqL K (fun _ => none) b xs) (h : SqL K H b xs) : SqL K H' b xs := by
  rcases n with n | n
  · rcases h with (h | ⟨o, h⟩) | h
    · exact .inl (.inl (e _ _ n h))
    · exact .inl (.inr ⟨o, e _ _ n h⟩)
    · exact .inr h
  · exact sql_frag n
theorem fmod_bounds (x : Int) {m : Int} (h : 1 ≤ m) : 0 ≤ x.fmod m ∧ x.fmod m < m := by
  rw [Int.fmod_eq_emod_of_nonneg x (by omega)]
  exact ⟨Int.emod_nonneg _ (by omega), Int.emod_lt_of_pos _ (by omega)⟩
theorem fdiv_nonneg {x m : Int} (hx : 0 ≤ x) (h : 1 ≤ m) : 0 ≤ x.fdiv m := by
  rw [Int.fdiv_eq_ediv_of_nonneg x (by omega)]
  exact Int.ediv_nonneg hx (by omega)
def s_law_taken : Stmt := topS 59
abbrev n_law_taken : List Str := ["_law_row", "_law_many", "_law_found", "_law_cell"]
abbrev p_law_taken : List Str := ["_law_row", "_law_many"]
theorem sc_law_taken : FnScope n_law_taken p_law_taken (defScope s_law_taken) := ⟨rfl, rfl, rfl, by decide +kernel, rfl, by decide +kernel, by decide +kernel⟩
def sp_law_taken (K : PySem.W.Frag) : Sp := fun vs H Q _ => ∃ (a sc : Addr) (ns : List Int) (m : Int), vs = [.ref a, .int m] ∧ RowAt K H a sc ns ∧ 1 ≤ m ∧ m < 1073741824 ∧ ∀ r H', 0 ≤ r → r < m → RowAt K H' a sc ns → But a H H' → Q (.int r) H'
theorem df_law_taken (T : Here K mg "_law_taken" s_law_taken) (B : Blt mg) : Df P w K mg base CX0 "_law_taken" 1 p_law_taken (sp_law_taken K) := by
  refine T.df sc_law_taken (fun _ _ _ _ _ _ us hl => match us, hl with | [_, _], _ => rfl) (fun vs H Q E h => by obtain ⟨_, _, _, _, rfl, _⟩ := h; rfl) (fun f cdv A outer s H vs Q E hr h => ?_)
  obtain ⟨a, sc, ns, m, rfl, ⟨i, z, l, hL, hs, hne, hi, hz0, hz1, hl⟩, hm, hm2, q⟩ := h
  refine ⟨_, pss_cons (ps_if (pt_cmpR op_gt (pe_ix (ixL K rfl) (pv 0) (pe_int) (fun _ _ => rfl)) (pe_int) (nomark _)) (pss_cons (ps_set (i := 2) sc_law_taken.nd rfl (by first | exact Or.inl rfl | exact Or.inr rfl) (pe_op op_modN (pe_callTy call_int1 (by rfl) B.int (by decide +kernel) (pa_cons (pe_ix (ixL K rfl) (pv 0) (pe_int) (fun _ _ => rfl)) pa_nil)) (pv 1)))
      (pss_cons (ps_asg (pe_op op_fdivN (pe_ix (ixL K rfl) (pv 0) (pe_int) (fun _ _ => rfl)) (pv 1)) (pg_sub (pv 0) (pe_int) set_list))
      (pss_one (ps_ret (pv 2))))) (pss_nil))
      (pss_cons (ps_asg (pe_op op_add (pe_ix (ixL K rfl) (pv 0) (pe_int) (fun _ _ => rfl)) (pe_int)) (pg_sub (pv 0) (pe_int) set_list))
      (pss_cons (ps_if (pt_cmpR op_gt (pe_ix (ixL K rfl) (pv 0) (pe_int) (fun _ _ => rfl)) (pe_callB (lenQ K rfl) (by rfl) B.len (by decide +kernel) (pa_cons (pe_ix (ixL K rfl) (pv 0) (pe_int) (fun _ _ => rfl)) pa_nil)) (nomark _)) (pss_cons (ps_asg (pe_op op_modN (pe_callTy call_int1 (by rfl) B.int (by decide +kernel) (pa_cons (pe_op op_add (pe_op op_mul (pe_ix (ixL K rfl) (pv 0) (pe_int) (fun _ _ => rfl)) (pe_int)) (pe_int)) pa_nil)) (pe_int)) (pg_sub (pv 0) (pe_int) set_list))
      (pss_one (ps_ret (pe_op op_modN (pe_callTy call_int1 (by rfl) B.int (by decide +kernel) (pa_cons (pe_op op_fdivN (pe_ix (ixL K rfl) (pv 0) (pe_int) (fun _ _ => rfl)) (pe_int)) pa_nil)) (pv 1))))) (pss_nil))
      (pss_cons (ps_set (i := 3) sc_law_taken.nd rfl (by first | exact Or.inl rfl | exact Or.inr rfl) (pe_ix (ixL K rfl) (pe_ix (ixL K rfl) (pv 0) (pe_int) (fun _ _ => rfl)) (pe_op op_sub (pe_ix (ixL K rfl) (pv 0) (pe_int) (fun _ _ => rfl)) (pe_int)) (fun _ _ => rfl)))
      (pss_cons (ps_asg (pe_op op_modN (pe_callTy call_int1 (by rfl) B.int (by decide +kernel) (pa_cons (pe_op op_add (pe_op op_add (pe_op op_mul (pe_ix (ixL K rfl) (pv 0) (pe_int) (fun _ _ => rfl)) (pe_int)) (pv 3)) (pe_int)) pa_nil)) (pe_int)) (pg_sub (pv 0) (pe_int) set_list))
      (pss_cons (ps_if (pt_cmpR op_ge (pv 3) (pe_op op_pow (pe_int) (pe_int)) (nomark _)) (pss_one (ps_asg (pe_op op_fdivN (pv 3) (pv 1)) (pg_sub (pv 0) (pe_int) set_list))) (pss_nil))
      (pss_one (ps_ret (pe_op op_modN (pe_callTy call_int1 (by rfl) B.int (by decide +kernel) (pa_cons (pv 3) pa_nil)) (pv 1))))))))), ?_⟩
  have g : ∀ {H : Hp} {xs : List V} {j : Nat} {v : V}, H a = some (.lst xs) → xs[j]? = some v → ∀ {R : VK}, R v H → rIxL K (.ref a) (.int j) H R := fun h e R r => ⟨a, _, _, _, rfl, rfl, .of h, atI_nat e, r⟩
  have fin : ∀ {H' : Hp} {r i' z' l' : Int}, 0 ≤ r ∧ r < m → But a H H' → H' a = some (.lst [.ref sc, .int i', .int z', .int l']) → 0 ≤ i' → 0 ≤ z' ∧ z' < 2147483647 → 0 ≤ l' → Q (.int r) H' :=
    fun h1 hb hL' h2 h3 h4 => q _ _ h1.1 h1.2 ⟨_, _, _, hL', sql_but hb hne hs, hne, h2, h3.1, h3.2, h4⟩ hb
  walk_at "rd"
  refine g (j := 3) hL rfl ?_
  walk_at "rd"
  by_cases h0 : 0 < l
  · simp only [h0, decide_true, ite_true]
    refine g (j := 3) hL rfl ?_
    walk_at "rd"
    refine ⟨by omega, g (j := 3) hL rfl ?_⟩
    walk_at "rd"
    refine ⟨⟨by omega, by omega⟩, a, _, 3, 3, rfl, rfl, hL, rfl, ?_⟩
    exact fin (fmod_bounds l hm) but_upd upd_same hi ⟨hz0, hz1⟩ (fdiv_nonneg hl hm)
  · simp only [h0, decide_false, Bool.false_eq_true, ite_false]
    refine g (j := 1) hL rfl ?_
    walk_at "rd"
    refine ⟨a, _, 1, 1, rfl, rfl, hL, rfl, ?_⟩
    walk_at "rd"
    have b1 : But a H (upd H a (.lst [.ref sc, .int (i + 1), .int z, .int l])) := but_upd
    have hs1 := sql_but b1 hne hs
    refine g (j := 1) upd_same rfl ?_
    refine g (j := 0) upd_same rfl ?_
    walk_at "rd"
    refine ⟨_, .inl hs1, ?_⟩
    rw [List.length_map]
    by_cases h1 : (ns.length : Int) < i + 1
    · simp only [h1, decide_true, ite_true]
      refine g (j := 2) upd_same rfl ?_
      walk_at "rd"
      refine ⟨.inl ⟨by omega, by omega⟩, by omega, a, _, 2, 2, rfl, rfl, upd_same, rfl, ?_⟩
      walk_at "rd"
      rw [upd_upd]
      refine g (j := 2) upd_same rfl ?_
      walk_at "rd"
      refine ⟨⟨by omega, by omega⟩, by omega, ?_⟩
      exact fin (fmod_bounds _ hm) but_upd upd_same (by omega) (fmod_bounds _ (by omega)) hl
    · simp only [h1, decide_false, Bool.false_eq_true, ite_false]
      refine g (j := 0) upd_same rfl ?_
      refine g (j := 1) upd_same rfl ?_
      walk_at "rd"
      have hk : i.toNat < ns.length := by omega
      refine ⟨sc, _, _, .int (ns.getD i.toNat 0), rfl, rfl, hs1, ?_, ?_⟩
      · refine at_of (j := i.toNat) (by omega) ?_
        exact at_ints hk
      generalize ns.getD i.toNat 0 = cell
      walk_at "rd"
      refine g (j := 2) upd_same rfl ?_
      walk_at "rd"
      refine ⟨.inl ⟨by omega, by omega⟩, by omega, a, _, 2, 2, rfl, rfl, upd_same, rfl, ?_⟩
      walk_at "rd"
      rw [upd_upd]
      have hz' := fmod_bounds (z * 48271 + cell + 11) (show (1 : Int) ≤ 2147483647 by omega)
      refine ⟨⟨by omega, by omega, by decide⟩, ?_⟩
      by_cases h2 : (10 : Int) ^ (18 : Int).toNat ≤ cell
      · have h3 : 0 ≤ cell := Int.le_trans (by decide) h2
        simp only [h2, decide_true, ite_true]
        refine ⟨⟨by omega, by omega⟩, a, _, 3, 3, rfl, rfl, upd_same, rfl, ?_⟩
        walk_at "rd"
        rw [upd_upd]
        refine ⟨by omega, ?_⟩
        exact fin (fmod_bounds _ hm) but_upd upd_same (by omega) hz' (fdiv_nonneg h3 hm)
      · simp only [h2, decide_false, Bool.false_eq_true, ite_false]
        refine ⟨by omega, ?_⟩
        exact fin (fmod_bounds _ hm) but_upd upd_same (by omega) hz' hl
end
end Hx

set_option Elab.async false
set_option linter.all false
set_option maxRecDepth 100000
set_option maxHeartbeats 4000000
namespace Hx
open PySem PySem.Spec PyProof.Rows L2
local macro_rules | `(tactic| walk_at "rd") => `(tactic| (try simp only [q_var, q_c, q_op, q_un, q_rI, q_rI0, q_rU, q_rEq, q_rNe, q_test, q_tB, q_and, q_or, q_not, q_andV, q_orV, q_notV, q_if, q_isN, q_notN, q_chain, q_next, q_seq, q_break, q_cont, q_drop, q_ret, q_retN, q_ifS, q_never, q_gN, q_gNil, q_gCons, q_gTup, q_gSub, q_asg, q_par, q_aug, q_nil, q_cons, q_tup, q_lst, q_call, q_cb, q_noPart, q_part, q_sl, q_bm0, q_bm, q_yes, q_for, q_lc, q_iList, q_iTup, q_iRng1, q_iEnumT, q_iEnum, q_iRng2, q_iZipA, q_iZipM, q_ipI, q_ckw, q_len, q_listOf, q_tupleOf, L2.start, cx_K, wipe, List.map_cons, List.map_nil, List.length_cons, List.length_nil, List.cons_append, List.nil_append, List.append_nil, List.replicate, List.getElem?_cons_zero, List.getElem?_cons_succ, List.set_cons_zero, List.set_cons_succ, Option.some.injEq, List.cons.injEq, exists_eq_left', exists_eq_left, exists_and_left, V.int.injEq, V.bl.injEq, V.ref.injEq, if_true, if_false, Bool.not_true, Bool.not_false, true_and, and_true, Bool.false_eq_true, ite_true, ite_false, Nat.reduceAdd, Nat.reduceSub, reduceCtorEq, decide_false, decide_true, Int.toNat_natCast, false_and, exists_false, or_false, false_or]))
def settle1 (c : List Int) (r : Rope) : List Int := c.set r.r.toNat (if c.getD r.f.toNat 0 - r.l > c.getD r.r.toNat 0 then c.getD r.f.toNat 0 - r.l else c.getD r.r.toNat 0)
def settleR (rs : List Rope) (c : List Int) : List Int := rs.foldl settle1 c
def settleN (rs : List Rope) (c : List Int) (k : Nat) : List Int := (List.range k).foldl (fun c _ => settleR rs c) c
theorem settle1_len (c : List Int) (r : Rope) : (settle1 c r).length = c.length := List.length_set
theorem settleR_len : ∀ (rs : List Rope) (c : List Int), (settleR rs c).length = c.length
  | [], _ => rfl
  | r :: rs, c => by
    show (settleR rs (settle1 c r)).length = _
    rw [settleR_len rs, settle1_len]
theorem settleN_succ (rs : List Rope) (c : List Int) (k : Nat) : settleN rs c (k + 1) = settleR rs (settleN rs c k) := by
  unfold settleN
  rw [List.range_succ, List.foldl_append]
  rfl
theorem settleN_len (rs : List Rope) (c : List Int) : ∀ k, (settleN rs c k).length = c.length
  | 0 => rfl
  | k + 1 => by rw [settleN_succ, settleR_len, settleN_len rs c k]
theorem settleR_take {rs : List Rope} {i : Nat} {r : Rope} (h : rs[i]? = some r) (c : List Int) : settleR (rs.take (i + 1)) c = settle1 (settleR (rs.take i) c) r := by
  unfold settleR
  rw [List.take_add_one, h, List.foldl_append]
  rfl
instance (xs : List Int) (r : Rope) : Decidable (Holds1 xs r) := inferInstanceAs (Decidable (_ ≤ _))
instance (xs : List Int) (rs : List Rope) : Decidable (Valid xs rs) := inferInstanceAs (Decidable (∀ r ∈ rs, Holds1 xs r))
section
variable {P : Program} {w : World} {K : PySem.W.Frag} {mg : Str → Option Value} {base : Heap}
/-- a turn's rope of the tuple of a fleet -/
theorem rope_at {H : Hp} {n : Nat} {rs : List Rope} {ys : List V} (hl : ys.length = rs.length) (hx : ∀ (i : Nat) (r : Rope), rs[i]? = some r → ∃ v, ys[i]? = some v ∧ RopeV K H v r) (h4 : ∀ r ∈ rs, RopeOk n r)
    {i : Nat} {x : V} (hx' : ys[i]? = some x) : ∃ r c, rs[i]? = some r ∧ r ∈ rs ∧ x = .ref c ∧ SqT K H c [.int r.f, .int r.r, .int r.l] ∧ ∃ f g : Nat, r.f = f ∧ r.r = g ∧ f < n ∧ g < n ∧ f ≠ g := by
  have hi : i < rs.length := by
    rw [← hl]
    exact (List.getElem?_eq_some_iff.mp hx').1
  obtain ⟨u, hu, c, rfl, hc⟩ := hx i rs[i] (List.getElem?_eq_getElem hi)
  cases hx'.symm.trans hu
  obtain ⟨g1, g2, g3, g4, g5, _⟩ := h4 _ (List.getElem_mem hi)
  exact ⟨_, c, List.getElem?_eq_getElem hi, List.getElem_mem hi, rfl, hc, rs[i].f.toNat, rs[i].r.toNat, by omega, by omega, by omega, by omega, by omega⟩
theorem ints_set (xs : List Int) (j : Nat) (v : Int) : (xs.map V.int).set j (.int v) = (xs.set j v).map V.int := by
  rw [List.map_set]
def s_law_settled : Stmt := topS 60
abbrev n_law_settled : List Str := ["_law_fleet_here", "_law_positions_here", "_law_result", "_law_turn", "_law_front", "_law_rear", "_law_length"]
abbrev p_law_settled : List Str := ["_law_fleet_here", "_law_positions_here"]
theorem sc_law_settled : FnScope n_law_settled p_law_settled (defScope s_law_settled) := ⟨rfl, rfl, rfl, by decide +kernel, rfl, by decide +kernel, by decide +kernel⟩
/-- ints at u, in a list or a tuple -/
def IntsA (K : PySem.W.Frag) (H : Hp) (u : V) (xs : List Int) : Prop := ∃ a, u = .ref a ∧ (SqL K H a (xs.map V.int) ∨ SqT K H a (xs.map V.int))
def sp_law_settled (K : PySem.W.Frag) : Sp := fun vs H Q _ => ∃ (v u : V) (n : Nat) (rs : List Rope) (xs : List Int), vs = [v, u] ∧ FleetV K H v n rs ∧ (∀ r ∈ rs, RopeOk n r) ∧ n ≤ 8 ∧ IntsA K H u xs ∧ xs.length = n ∧
  (Valid (settleN rs xs (n + 1)) rs → ∀ H' p, Same H H' → H p = none → H' p = some (.tup ((settleN rs xs (n + 1)).map V.int)) → Q (.ref p) H') ∧ (¬ Valid (settleN rs xs (n + 1)) rs → ∀ H', Same H H' → Q .non H')
theorem df_law_settled (T : Here K mg "_law_settled" s_law_settled) (B : Blt mg) : Df P w K mg base CX0 "_law_settled" 1 p_law_settled (sp_law_settled K) := by
  refine T.df sc_law_settled (fun _ _ _ _ _ _ us hl => match us, hl with | [_, _], _ => rfl) (fun vs H Q E h => by obtain ⟨_, _, _, _, _, rfl, _⟩ := h; rfl) (fun f cdv A outer s H vs Q E hr h => ?_)
  obtain ⟨v, u, n, rs, xs, rfl, ⟨a, b, ys, rfl, ha, hb, hl, hx⟩, h4, h8, ⟨c, rfl, hc⟩, hn, q1, q2⟩ := h
  refine ⟨_, pss_cons (ps_set (i := 2) sc_law_settled.nd rfl (by first | exact Or.inl rfl | exact Or.inr rfl) (pe_callTy (listOf K rfl) (by rfl) B.list (by decide +kernel) (pa_cons (pv 1) pa_nil)))
      (pss_cons (ps_for PassesOwn.never rfl (pi_range1 (by rfl) B.range (pa_cons (pe_op op_add (pe_ix (ixT K rfl) (pv 0) (pe_int) (fun _ _ => rfl)) (pe_int)) pa_nil)) (pg_name (i := 3) sc_law_settled.nd rfl (by first | exact Or.inl rfl | exact Or.inr rfl)) (pss_one (ps_for PassesOwn.never rfl (piTup K rfl (pe_ix (ixT K rfl) (pv 0) (pe_int) (fun _ _ => rfl))) (pgTup K rfl (n := 3) rfl (pgs_cons (pg_name (i := 4) sc_law_settled.nd rfl (by first | exact Or.inl rfl | exact Or.inr rfl)) (pgs_cons (pg_name (i := 5) sc_law_settled.nd rfl (by first | exact Or.inl rfl | exact Or.inr rfl)) (pgs_cons (pg_name (i := 6) sc_law_settled.nd rfl (by first | exact Or.inl rfl | exact Or.inr rfl)) pgs_nil)))) (pss_one (ps_asg (pe_callB (call_max2 rfl) (by rfl) B.max (by decide +kernel) (pa_cons (pe_ix (ixL K rfl) (pv 2) (pv 5) (fun _ _ => rfl)) (pa_cons (pe_op op_sub (pe_ix (ixL K rfl) (pv 2) (pv 4) (fun _ _ => rfl)) (pv 6)) pa_nil))) (pg_sub (pv 2) (pv 5) set_list))))))
      (pss_cons (ps_for PassesOwn.never rfl (piTup K rfl (pe_ix (ixT K rfl) (pv 0) (pe_int) (fun _ _ => rfl))) (pgTup K rfl (n := 3) rfl (pgs_cons (pg_name (i := 4) sc_law_settled.nd rfl (by first | exact Or.inl rfl | exact Or.inr rfl)) (pgs_cons (pg_name (i := 5) sc_law_settled.nd rfl (by first | exact Or.inl rfl | exact Or.inr rfl)) (pgs_cons (pg_name (i := 6) sc_law_settled.nd rfl (by first | exact Or.inl rfl | exact Or.inr rfl)) pgs_nil)))) (pss_one (ps_if (pt_cmpR op_lt (pe_ix (ixL K rfl) (pv 2) (pv 5) (fun _ _ => rfl)) (pe_op op_sub (pe_ix (ixL K rfl) (pv 2) (pv 4) (fun _ _ => rfl)) (pv 6)) (nomark _)) (pss_one (ps_ret (pe_non))) (pss_nil))))
      (pss_one (ps_ret (pe_callTy (tupleOf K rfl) (by rfl) B.tuple (by decide +kernel) (pa_cons (pv 2) pa_nil)))))), ?_⟩
  walk_at "rd"
  refine ⟨_, hc, fun l hl0 => ?_⟩
  have s0 := same_upd (o := .lst (xs.map V.int)) hl0
  walk_at "rd"
  refine ⟨a, _, 0, _, rfl, rfl, sqt_same s0 ha, atI_nat (j := 0) rfl, ?_⟩
  walk_at "rd"
  have e1 : ((n : Int) + 1).toNat = n + 1 := by omega
  rw [e1]
  refine ⟨by omega, by omega, ?_⟩
  refine forRange (fun k σ H' => ∃ x3 x4 x5 x6, σ = [some (.ref a), some (.ref c), some (.ref l), x3, x4, x5, x6] ∧ Same H H' ∧ H' l = some (.lst ((settleN rs xs k).map V.int))) ⟨_, _, _, _, rfl, s0, upd_same⟩ (fun k σ H' hk hPv => ?_) (fun σ H' hPv => ?_)
  · obtain ⟨x3, x4, x5, x6, rfl, e, hL⟩ := hPv
    have ln := settleN_len rs xs k
    generalize hc0 : settleN rs xs k = c0 at hL ln ⊢
    walk_at "rd"
    refine ⟨a, _, 1, _, rfl, rfl, sqt_same e ha, atI_nat (j := 1) rfl, ?_⟩
    walk_at "rd"
    refine ⟨⟨_, sqt_same e hb⟩, ?_⟩
    refine forTup (xs := ys) (fun i σ H' => ∃ x4 x5 x6, σ = [some (.ref a), some (.ref c), some (.ref l), some (.int k), x4, x5, x6] ∧ Same H H' ∧ H' l = some (.lst ((settleR (rs.take i) c0).map V.int))) ⟨_, _, _, rfl, e, hL⟩ (fun i σ H' _ hPv => ?_) (fun i x σ H' hx' hPv => ?_) (fun σ H' hPv => ?_)
    · obtain ⟨_, _, _, _, e, _⟩ := hPv
      exact sqt_same e hb
    · obtain ⟨x4, x5, x6, rfl, e, hL⟩ := hPv
      obtain ⟨r, d, hri, _, rfl, hd, f, g, ef, eg, hf, hg, _⟩ := rope_at hl hx h4 hx'
      have lc := settleR_len (rs.take i) c0
      rw [settleR_take hri]
      generalize settleR (rs.take i) c0 = c1 at hL lc ⊢
      walk_at "rd"
      refine ⟨_, sqt_same e hd, rfl, ?_⟩
      walk_at "rd"
      rw [ef, eg]
      refine ⟨l, _, g, _, rfl, rfl, .of hL, atI_nat (at_ints (by omega)), l, _, f, _, rfl, rfl, .of hL, atI_nat (at_ints (by omega)), ?_⟩
      walk_at "rd"
      refine ⟨_, _, ⟨rfl, rfl⟩, ?_⟩
      refine ⟨l, _, g, g, rfl, rfl, hL, ix_nat (by rw [List.length_map]; omega), ?_⟩
      refine ⟨_, _, _, ⟨rfl, rfl, rfl⟩, fun z o hz => ?_, ?_⟩
      · rw [upd_ne (ne_of_none hz hl0)]
        exact e z o hz
      · rw [upd_same, ints_set]
        unfold settle1
        rw [ef, eg, Int.toNat_natCast, Int.toNat_natCast]
    · obtain ⟨x4, x5, x6, rfl, e, hL⟩ := hPv
      rw [List.take_of_length_le (by omega)] at hL
      refine ⟨_, _, _, _, rfl, e, ?_⟩
      rw [settleN_succ, hc0]
      exact hL
  · obtain ⟨x3, x4, x5, x6, rfl, e, hL⟩ := hPv
    have ln := settleN_len rs xs (n + 1)
    generalize settleN rs xs (n + 1) = c0 at hL ln q1 q2
    walk_at "rd"
    refine ⟨a, _, 1, _, rfl, rfl, sqt_same e ha, atI_nat (j := 1) rfl, ?_⟩
    walk_at "rd"
    refine ⟨⟨_, sqt_same e hb⟩, ?_⟩
    refine forTup (xs := ys) (fun i σ H' => ∃ x4 x5 x6, σ = [some (.ref a), some (.ref c), some (.ref l), x3, x4, x5, x6] ∧ Same H H' ∧ H' l = some (.lst (c0.map V.int)) ∧ ∀ r ∈ rs.take i, Holds1 c0 r) ⟨_, _, _, rfl, e, hL, fun r h => (by cases h)⟩ (fun i σ H' _ hPv => ?_) (fun i x σ H' hx' hPv => ?_) (fun σ H' hPv => ?_)
    · obtain ⟨_, _, _, _, e, _⟩ := hPv
      exact sqt_same e hb
    · obtain ⟨x4, x5, x6, rfl, e, hL, hh⟩ := hPv
      obtain ⟨r, d, hri, hrm, rfl, hd, f, g, ef, eg, hf, hg, _⟩ := rope_at hl hx h4 hx'
      walk_at "rd"
      refine ⟨_, sqt_same e hd, rfl, ?_⟩
      walk_at "rd"
      rw [ef, eg]
      refine ⟨l, _, g, _, rfl, rfl, .of hL, atI_nat (at_ints (by omega)), l, _, f, _, rfl, rfl, .of hL, atI_nat (at_ints (by omega)), ?_⟩
      walk_at "rd"
      by_cases hlt : c0.getD g 0 < c0.getD f 0 - r.l
      · simp only [hlt, decide_true, ite_true]
        refine q2 (fun hv => ?_) _ e
        have := hv r hrm
        unfold Holds1 at this
        rw [ef, eg, Int.toNat_natCast, Int.toNat_natCast] at this
        omega
      · simp only [hlt, decide_false, Bool.false_eq_true, ite_false]
        refine ⟨_, _, _, ⟨rfl, rfl, rfl⟩, e, hL, fun r' hr' => ?_⟩
        rw [List.take_add_one, hri] at hr'
        rcases List.mem_append.mp hr' with h | h
        · exact hh r' h
        · cases List.mem_singleton.mp h
          unfold Holds1
          rw [ef, eg, Int.toNat_natCast, Int.toNat_natCast]
          omega
    · obtain ⟨x4, x5, x6, rfl, e, hL, hh⟩ := hPv
      rw [List.take_of_length_le (by omega)] at hh
      walk_at "rd"
      refine ⟨_, .inl ⟨.of hL, fun p hp => ?_⟩⟩
      exact q1 hh _ p (e.trans (same_upd hp)) (e.free hp) upd_same
end
end Hx

set_option Elab.async false
set_option linter.all false
set_option maxRecDepth 100000
set_option maxHeartbeats 4000000
namespace Hx
open PySem PySem.Spec PyProof.Rows L2
local macro_rules | `(tactic| walk_at "rd") => `(tactic| (try simp only [q_var, q_c, q_op, q_un, q_rI, q_rI0, q_rU, q_rEq, q_rNe, q_test, q_tB, q_and, q_or, q_not, q_andV, q_orV, q_notV, q_if, q_isN, q_notN, q_chain, q_next, q_seq, q_break, q_cont, q_drop, q_ret, q_retN, q_ifS, q_never, q_gN, q_gNil, q_gCons, q_gTup, q_gSub, q_asg, q_par, q_aug, q_nil, q_cons, q_tup, q_lst, q_call, q_cb, q_noPart, q_part, q_sl, q_bm0, q_bm, q_yes, q_for, q_lc, q_iList, q_iTup, q_iRng1, q_iEnumT, q_iEnum, q_iRng2, q_iZipA, q_iZipM, q_ipI, q_ckw, q_len, q_listOf, q_tupleOf, L2.start, cx_K, wipe, List.map_cons, List.map_nil, List.length_cons, List.length_nil, List.cons_append, List.nil_append, List.append_nil, List.replicate, List.getElem?_cons_zero, List.getElem?_cons_succ, List.set_cons_zero, List.set_cons_succ, Option.some.injEq, List.cons.injEq, exists_eq_left', exists_eq_left, exists_and_left, V.int.injEq, V.bl.injEq, V.ref.injEq, if_true, if_false, Bool.not_true, Bool.not_false, true_and, and_true, Bool.false_eq_true, ite_true, ite_false, Nat.reduceAdd, Nat.reduceSub, reduceCtorEq, decide_false, decide_true, Int.toNat_natCast, false_and, exists_false, or_false, false_or]))
section
variable {P : Program} {w : World} {K : PySem.W.Frag} {mg : Str → Option Value} {base : Heap}
theorem RowAt.lst {H : Hp} {a sc : Addr} {ns : List Int} (h : RowAt K H a sc ns) : ∃ xs, H a = some (.lst xs) := by
  obtain ⟨_, _, _, h, _⟩ := h
  exact ⟨_, h⟩
theorem RowAt.ne {H : Hp} {a p sc : Addr} {ns : List Int} (h : RowAt K H a sc ns) (hp : H p = none) : p ≠ a := fun e => by
  obtain ⟨_, h⟩ := h.lst
  rw [← e, hp] at h
  cases h
theorem RowAt.mono {H H' : Hp} {a sc : Addr} {ns : List Int} (h : RowAt K H a sc ns) (e : Same H H') : RowAt K H' a sc ns := by
  obtain ⟨i, z, l, h1, h2, h3⟩ := h
  exact ⟨i, z, l, e _ _ h1, e.seq h2, h3⟩
/-- what was free at H0 is written: the row stays -/
theorem RowAt.put {H0 H : Hp} {a p sc : Addr} {ns : List Int} {o : HO} (h0 : RowAt K H0 a sc ns) (hp : H0 p = none) (b : But a H0 H) (h : RowAt K H a sc ns) : RowAt K (upd H p o) a sc ns := by
  obtain ⟨i, z, l, h1, h2, h3, h4⟩ := h
  obtain ⟨_, _, _, _, k2, k3, _⟩ := id h0
  refine ⟨i, z, l, by rw [upd_ne (h0.ne hp).symm]; exact h1, ?_, h3, h4⟩
  rcases k3 with k3 | k3
  case inr => exact sql_frag k3
  rcases k2 with (k | ⟨ob, k⟩) | k
  · exact .inl (.inl (by rw [upd_ne (ne_of_none k hp)]; exact b _ _ k3 k))
  · exact .inl (.inr ⟨ob, by rw [upd_ne (ne_of_none k hp)]; exact b _ _ k3 k⟩)
  · exact .inr k
theorem But.put {H0 H : Hp} {a p : Addr} {o : HO} (b : But a H0 H) (hp : H0 p = none) : But a H0 (upd H p o) := fun c u n e => by
  rw [upd_ne (ne_of_none e hp)]
  exact b c u n e
/-- fleets that places keep -/
def Kept (n : Nat) (rs : List Rope) : Prop := ∃ pl : Nat → Int, (∀ i, 0 ≤ pl i ∧ pl i ≤ 88) ∧ ∀ r ∈ rs, HoldsR pl r
/-- ropes at refs -/
def RopesX (K : PySem.W.Frag) (H : Hp) (xs : List V) (rs : List Rope) : Prop := xs.length = rs.length ∧ ∀ (i : Nat) (r : Rope), rs[i]? = some r → ∃ v, xs[i]? = some v ∧ RopeV K H v r
theorem RopesX.same {H H' : Hp} {xs : List V} {rs : List Rope} (h : RopesX K H xs rs) (e : Same H H') : RopesX K H' xs rs :=
  ⟨h.1, fun i r hr => by
    obtain ⟨v, hv, k⟩ := h.2 i r hr
    exact ⟨v, hv, k.mono e⟩⟩
theorem RopeV.but {H H' : Hp} {a : Addr} {ys : List V} {v : V} {r : Rope} (h : RopeV K H v r) (e : But a H H') (ha : H a = some (.lst ys)) : RopeV K H' v r := by
  obtain ⟨c, rfl, h⟩ := h
  exact ⟨c, rfl, sqt_but e ha h⟩
theorem RopesX.but {H H' : Hp} {a : Addr} {ys xs : List V} {rs : List Rope} (h : RopesX K H xs rs) (e : But a H H') (ha : H a = some (.lst ys)) : RopesX K H' xs rs :=
  ⟨h.1, fun i r hr => by
    obtain ⟨v, hv, k⟩ := h.2 i r hr
    exact ⟨v, hv, k.but e ha⟩⟩
theorem RopesX.snoc {H : Hp} {xs : List V} {rs : List Rope} {v : V} {r : Rope} (h : RopesX K H xs rs) (k : RopeV K H v r) : RopesX K H (xs ++ [v]) (rs ++ [r]) := by
  refine ⟨by rw [List.length_append, List.length_append, h.1]; rfl, fun i q hq => ?_⟩
  by_cases hi : i < rs.length
  · rw [List.getElem?_append_left hi] at hq
    obtain ⟨u, hu, ku⟩ := h.2 i q hq
    exact ⟨u, by rw [List.getElem?_append_left (by rw [h.1]; exact hi)]; exact hu, ku⟩
  · rw [List.getElem?_append_right (by omega)] at hq
    have e : i - rs.length = 0 := by
      cases hz : i - rs.length with
      | zero => rfl
      | succ k =>
        rw [hz] at hq
        cases hq
    rw [e] at hq
    cases hq
    refine ⟨v, ?_, k⟩
    rw [List.getElem?_append_right (by rw [h.1]; omega), h.1, e]
    rfl
theorem RopesX.take {H : Hp} {xs : List V} {rs : List Rope} (h : RopesX K H xs rs) (k : Nat) : RopesX K H (xs.take k) (rs.take k) := by
  refine ⟨by rw [List.length_take, List.length_take, h.1], fun i r hr => ?_⟩
  rw [List.getElem?_take] at hr
  split at hr
  · rename_i hik
    obtain ⟨v, hv, kv⟩ := h.2 i r hr
    exact ⟨v, by rw [List.getElem?_take, if_pos hik]; exact hv, kv⟩
  · cases hr
/-- the state of the loop that makes ropes -/
structure FlS (K : PySem.W.Frag) (a sc : Addr) (ns : List Int) (H3 : Hp) (L : Addr) (H : Hp) (xs : List V) (rs : List Rope) : Prop where
  row : RowAt K H a sc ns
  but : But a H3 H
  lst : H L = some (.lst xs)
  rx : RopesX K H xs rs
theorem FlS.call {a sc L : Addr} {ns : List Int} {H3 H H' : Hp} {xs : List V} {rs : List Rope} (h : FlS K a sc ns H3 L H xs rs) (n : L ≠ a) (r : RowAt K H' a sc ns) (b : But a H H') : FlS K a sc ns H3 L H' xs rs := by
  obtain ⟨_, k⟩ := h.row.lst
  exact ⟨r, h.but.trans b, b _ _ n h.lst, h.rx.but b k⟩
theorem FlS.new {a sc L : Addr} {ns : List Int} {H3 H H' : Hp} {xs : List V} {rs : List Rope} (h : FlS K a sc ns H3 L H xs rs) (e : Same H H') : FlS K a sc ns H3 L H' xs rs :=
  ⟨h.row.mono e, h.but.trans (same_but e), e _ _ h.lst, h.rx.same e⟩
theorem FlS.app {a sc L T : Addr} {ns : List Int} {H3 H : Hp} {xs : List V} {rs : List Rope} {r : Rope} (h : FlS K a sc ns H3 L H xs rs) (h3 : H3 L = none) (r3 : RowAt K H3 a sc ns) (hT : H T = some (.tup [.int r.f, .int r.r, .int r.l])) :
    FlS K a sc ns H3 L (upd H L (.lst (xs ++ [.ref T]))) (xs ++ [.ref T]) (rs ++ [r]) := by
  refine ⟨r3.put h3 h.but h.row, h.but.put h3, upd_same, ?_⟩
  have b : But L H (upd H L (.lst (xs ++ [.ref T]))) := but_upd
  exact (h.rx.but b h.lst).snoc ⟨T, rfl, sqt_but b h.lst (.of hT)⟩
theorem places_bound {pl : List Int} {fc : Int} (h : ∀ x ∈ pl, 0 ≤ x ∧ x ≤ 11 * fc) (h0 : 0 ≤ fc) (i : Nat) : 0 ≤ pl.getD i 0 ∧ pl.getD i 0 ≤ 11 * fc := by
  rw [List.getD_eq_getElem?_getD]
  cases e : pl[i]? with
  | none => exact ⟨Int.le_refl 0, by show (0 : Int) ≤ 11 * fc; omega⟩
  | some y => exact h y (List.mem_of_getElem? e)
def s_law_fleet : Stmt := topS 61
abbrev n_law_fleet : List Str := ["_law_row", "_law_most", "_law_count", "_law_factor", "_law_places", "_law_barge", "_law_ropes", "_law_k", "_law_front", "_law_rear", "_law_some", "_law_more"]
abbrev p_law_fleet : List Str := ["_law_row", "_law_most"]
theorem sc_law_fleet : FnScope n_law_fleet p_law_fleet (defScope s_law_fleet) := ⟨rfl, rfl, rfl, by decide +kernel, rfl, by decide +kernel, by decide +kernel⟩
def sp_law_fleet (K : PySem.W.Frag) : Sp := fun vs H Q _ => ∃ (a sc : Addr) (ns : List Int) (m : Int), vs = [.ref a, .int m] ∧ RowAt K H a sc ns ∧ 1 ≤ m ∧ m ≤ 8 ∧
  ∀ H' v (n : Nat) rs, RowAt K H' a sc ns → But a H H' → FleetV K H' v n rs → FleetOk n rs → (n : Int) ≤ m → Kept n rs → Q v H'
theorem df_law_fleet (T : Here K mg "_law_fleet" s_law_fleet) (B : Blt mg) (D_law_taken : Df P w K mg base CX0 "_law_taken" 1 p_law_taken (sp_law_taken K)) : Df P w K mg base CX0 "_law_fleet" 2 p_law_fleet (sp_law_fleet K) := by
  refine T.df sc_law_fleet (fun _ _ _ _ _ _ us hl => match us, hl with | [_, _], _ => rfl) (fun vs H Q E h => by obtain ⟨_, _, _, _, rfl, _⟩ := h; rfl) (fun f cdv A outer s H vs Q E hr h => ?_)
  obtain ⟨a, sc, ns, m, rfl, hrow, hm1, hm8, q⟩ := h
  refine ⟨_, pss_cons (ps_set (i := 2) sc_law_fleet.nd rfl (by first | exact Or.inl rfl | exact Or.inr rfl) (pe_op op_add (pe_int) (D_law_taken.call (hr.mono (by decide)) (by rfl) (pa_cons (pv 0) (pa_cons (pv 1) pa_nil)))))
      (pss_cons (ps_set (i := 3) sc_law_fleet.nd rfl (by first | exact Or.inl rfl | exact Or.inr rfl) (pe_ix (ixL K rfl) (pe_lst (pa_cons (pe_int) (pa_cons (pe_int) (pa_cons (pe_int) pa_nil)))) (D_law_taken.call (hr.mono (by decide)) (by rfl) (pa_cons (pv 0) (pa_cons (pe_int) pa_nil))) (fun _ _ => rfl)))
      (pss_cons (ps_setLc (i := 4) (own := [("_law_barge", 5)]) rfl sc_law_fleet.nd rfl rfl (sw_true rfl rfl rfl (by decide +kernel)) (pi_range1 (by rfl) B.range (pa_cons (pv 2) pa_nil)) (blkOk_by (N := n_law_fleet) (sc := defScope s_law_fleet) (by decide +kernel)) (fun _ _ _ _ _ => pg_name (i := 5) sc_law_fleet.nd rfl (by first | exact Or.inl rfl | exact Or.inr rfl)) (fun _ _ _ _ _ => pts_nil) (fun _ _ _ _ _ => pe_op op_mul (pv 3) (D_law_taken.call (hr.mono (by decide)) (by rfl) (pa_cons (pv 0) (pa_cons (pe_int) pa_nil)))))
      (pss_cons (ps_set (i := 6) sc_law_fleet.nd rfl (by first | exact Or.inl rfl | exact Or.inr rfl) (pe_lst (pa_nil)))
      (pss_cons (ps_for PassesOwn.never rfl (pi_range1 (by rfl) B.range (pa_cons (D_law_taken.call (hr.mono (by decide)) (by rfl) (pa_cons (pv 0) (pa_cons (pe_op op_mul (pe_int) (pv 2)) pa_nil))) pa_nil)) (pg_name (i := 7) sc_law_fleet.nd rfl (by first | exact Or.inl rfl | exact Or.inr rfl)) (pss_cons (ps_par (i := 8) (j := 9) rfl sc_law_fleet.nd rfl rfl (by decide) rfl rfl (pa_cons (D_law_taken.call (hr.mono (by decide)) (by rfl) (pa_cons (pv 0) (pa_cons (pv 2) pa_nil))) (pa_cons (D_law_taken.call (hr.mono (by decide)) (by rfl) (pa_cons (pv 0) (pa_cons (pv 2) pa_nil))) pa_nil)) (by rfl))
      (pss_one (ps_if (pt_cmpR op_ne (pv 8) (pv 9) (nomark _)) (pss_cons (ps_set (i := 10) sc_law_fleet.nd rfl (by first | exact Or.inl rfl | exact Or.inr rfl) (pe_op op_cat (pe_lst (pa_cons (pe_int) (pa_cons (pe_int) (pa_cons (pe_int) (pa_cons (pe_int) (pa_cons (D_law_taken.call (hr.mono (by decide)) (by rfl) (pa_cons (pv 0) (pa_cons (pe_int) pa_nil))) pa_nil)))))) (pe_op op_rep (pe_lst (pa_cons (pe_op op_add (pe_int) (D_law_taken.call (hr.mono (by decide)) (by rfl) (pa_cons (pv 0) (pa_cons (pe_int) pa_nil)))) pa_nil)) (pe_callTy call_int1 (by rfl) B.int (by decide +kernel) (pa_cons (pe_cmpR op_eq (pv 3) (pe_int) (nomark _)) pa_nil)))))
      (pss_cons (ps_set (i := 11) sc_law_fleet.nd rfl (by first | exact Or.inl rfl | exact Or.inr rfl) (pe_ix (ixL K rfl) (pv 10) (D_law_taken.call (hr.mono (by decide)) (by rfl) (pa_cons (pv 0) (pa_cons (pe_callB (lenQ K rfl) (by rfl) B.len (by decide +kernel) (pa_cons (pv 10) pa_nil)) pa_nil))) (fun _ _ => rfl)))
      (pss_cons (ps_expr (pe_bm PySem.F.plainAttrs_list PySem.F.slot_list_append PySem.F.type_list_append mt_append (pv 6) (pa_cons (pe_tup (pa_cons (pv 8) (pa_cons (pv 9) (pa_cons (pe_op op_add (pe_op op_sub (pe_ix (ixL K rfl) (pv 4) (pv 8) (fun _ _ => rfl)) (pe_ix (ixL K rfl) (pv 4) (pv 9) (fun _ _ => rfl))) (pv 11)) pa_nil)))) pa_nil)))
      (pss_one (ps_if (pt_cmpR op_eq (D_law_taken.call (hr.mono (by decide)) (by rfl) (pa_cons (pv 0) (pa_cons (pe_int) pa_nil))) (pe_int) (nomark _)) (pss_one (ps_expr (pe_bm PySem.F.plainAttrs_list PySem.F.slot_list_append PySem.F.type_list_append mt_append (pv 6) (pa_cons (pe_tup (pa_cons (pv 9) (pa_cons (pv 8) (pa_cons (pe_op op_add (pe_op op_sub (pe_ix (ixL K rfl) (pv 4) (pv 9) (fun _ _ => rfl)) (pe_ix (ixL K rfl) (pv 4) (pv 8) (fun _ _ => rfl))) (pe_op op_mul (pv 11) (D_law_taken.call (hr.mono (by decide)) (by rfl) (pa_cons (pv 0) (pa_cons (pe_int) pa_nil))))) pa_nil)))) pa_nil)))) (pss_nil)))))) (pss_nil)))))
      (pss_one (ps_ret (pe_tup (pa_cons (pv 2) (pa_cons (pe_callTy (tupleOf K rfl) (by rfl) B.tuple (by decide +kernel) (pa_cons (pe_slice (slL K rfl) (pv 6) po_none (po_some (pe_int))) pa_nil)) pa_nil))))))))), ?_⟩
  walk_at "rd"
  refine ⟨a, sc, ns, m, rfl, hrow, hm1, by omega, fun r0 H1 hr0 hr0m row1 b1 => ?_⟩
  obtain ⟨n, hn⟩ : ∃ n : Nat, (1 + r0 : Int) = n := ⟨(1 + r0).toNat, by omega⟩
  walk_at "rd"
  rw [hn]
  refine ⟨(by show 3 ≤ sizeLine; decide), fun l1 hl1 => ?_⟩
  have s1 := same_upd (o := .lst [.int 1, .int 1, .int 8]) hl1
  refine ⟨a, sc, ns, 3, rfl, row1.mono s1, by omega, by omega, fun r1 H2 hr1 hr1m row2 b2 => ?_⟩
  have hL1 := b2 _ _ (row1.ne hl1) (upd_same (H := H1) (a := l1) (o := .lst [.int 1, .int 1, .int 8]))
  obtain ⟨fc, hfc, hfc2⟩ : ∃ fc : Int, atI [V.int 1, .int 1, .int 8] r1 = some (.int fc) ∧ (fc = 1 ∨ fc = 8) := by
    have : r1 = 0 ∨ r1 = 1 ∨ r1 = 2 := by omega
    rcases this with rfl | rfl | rfl
    · exact ⟨1, rfl, .inl rfl⟩
    · exact ⟨1, rfl, .inl rfl⟩
    · exact ⟨8, rfl, .inr rfl⟩
  refine ⟨l1, _, r1, .int fc, rfl, rfl, .of hL1, hfc, ?_⟩
  have b02 : But a H H2 := (b1.trans (same_but s1)).trans b2
  clear hL1 hl1 s1 b2 row1 b1 hfc
  walk_at "rd"
  refine ⟨by omega, by omega, fun D hD => ?_⟩
  have nDa := row2.ne hD
  refine lcRange (fun i H' => ∃ pl : List Int, pl.length = i ∧ H' D = some (.lst (pl.map V.int)) ∧ RowAt K H' a sc ns ∧ But a H2 H' ∧ ∀ x ∈ pl, 0 ≤ x ∧ x ≤ 11 * fc)
    ⟨[], rfl, upd_same, row2.mono (same_upd hD), same_but (same_upd hD), fun x h => (by cases h)⟩ (fun i H' hi hPv => ?_) (fun H3 hPv => ?_)
  · obtain ⟨pl, e1, e2, e3, e4, e5⟩ := hPv
    walk_at "rd"
    refine ⟨a, sc, ns, 12, rfl, e3, by omega, by omega, fun r H4 h0 h1 row4 b4 => ?_⟩
    walk_at "rd"
    have hD4 := b4 _ _ nDa e2
    refine ⟨.inl (by rcases hfc2 with rfl | rfl <;> omega), _, hD4, by rw [List.length_map, e1]; exact Nat.lt_of_lt_of_le hi (Nat.le_trans (by omega) (show 100 ≤ sizeLine by decide)), pl ++ [fc * r], ?_, ?_, ?_, ?_, ?_⟩
    · rw [List.length_append, e1]
      rfl
    · rw [upd_same, List.map_append]
      rfl
    · exact row2.put hD (e4.trans b4) row4
    · exact (e4.trans b4).put hD
    · intro x hx
      rcases List.mem_append.mp hx with hx | hx
      · exact e5 x hx
      · cases List.mem_singleton.mp hx
        rcases hfc2 with rfl | rfl <;> omega
  · obtain ⟨pl, e1, e2, row3, e4, e5⟩ := hPv
    have b03 := b02.trans e4
    clear b02 e4 row2 hD
    walk_at "rd"
    refine ⟨Nat.zero_le _, fun L hL => ?_⟩
    have nLa := row3.ne hL
    have nDL : D ≠ L := ne_of_none e2 hL
    have sL := same_upd (o := .lst []) hL
    refine ⟨.inl ⟨by omega, by omega⟩, a, sc, ns, _, rfl, row3.mono sL, by omega, by omega, fun r2 H4 h20 h21 row4 b4 => ?_⟩
    have b34 : But a H3 H4 := (same_but sL).trans b4
    have hL4 := b4 _ _ nLa (upd_same (H := H3) (a := L) (o := .lst []))
    walk_at "rd"
    refine ⟨by omega, by omega, ?_⟩
    have hplb := places_bound e5 (by rcases hfc2 with rfl | rfl <;> omega)
    have hsz : 100 ≤ sizeLine := by decide
    refine forRange (fun k σ H' => ∃ x5 x7 x8 x9 x10 x11, σ = [some (.ref a), some (.int m), some (.int n), some (.int fc), some (.ref D), x5, some (.ref L), x7, x8, x9, x10, x11] ∧
        ∃ xs rs, FlS K a sc ns H3 L H' xs rs ∧ rs.length ≤ 2 * k ∧ ∀ r ∈ rs, RopeOk n r ∧ HoldsR (fun i => pl.getD i 0) r) ⟨_, _, _, _, _, _, rfl, [], [], ⟨row4, b34, hL4, ⟨rfl, fun i r h => (by cases h)⟩⟩, Nat.zero_le _, fun r h => (by cases h)⟩ (fun k σ H' hk hPv => ?_) (fun σ H' hPv => ?_)
    · obtain ⟨x5, x7, x8, x9, x10, x11, rfl, xs, rs, S, hlen, hrs⟩ := hPv
      have hk24 : k < 24 := by omega
      walk_at "rd"
      refine ⟨a, sc, ns, _, rfl, S.row, by omega, by omega, fun fr H5 f0 f1 row5 b5 => ?_⟩
      have S := S.call nLa row5 b5
      walk_at "rd"
      refine ⟨a, sc, ns, _, rfl, S.row, by omega, by omega, fun re H6 g0 g1 row6 b6 => ?_⟩
      have S := S.call nLa row6 b6
      obtain ⟨fr, rfl⟩ := nat_at f0
      obtain ⟨re, rfl⟩ := nat_at g0
      walk_at "rd"
      refine ⟨_, _, ⟨rfl, rfl⟩, ?_⟩
      walk_at "rd"
      refine ⟨rfl, ?_⟩
      by_cases hfr : (fr : Int) = (re : Int)
      · simp only [hfr, decide_true, Bool.not_true, Bool.false_eq_true, ite_false]
        exact ⟨_, _, _, _, _, _, ⟨rfl, rfl, rfl, rfl, rfl, rfl⟩, xs, rs, S, by omega, hrs⟩
      · simp only [hfr, decide_false, Bool.not_false, ite_true]
        refine ⟨a, sc, ns, _, rfl, S.row, by omega, by omega, fun c1 H7 c10 c11 row7 b7 => ?_⟩
        have S := S.call nLa row7 b7
        walk_at "rd"
        refine ⟨(by show 5 ≤ sizeLine; omega), fun l5 hl5 => ?_⟩
        have S := S.new (same_upd (o := .lst [.int 0, .int 0, .int 1, .int 3, .int c1]) hl5)
        have n5 := row7.ne hl5
        refine ⟨a, sc, ns, _, rfl, S.row, by omega, by omega, fun c2 H8 c20 c21 row8 b8 => ?_⟩
        have S := S.call nLa row8 b8
        have h5 := b8 _ _ n5 (upd_same (H := H7) (a := l5) (o := .lst [.int 0, .int 0, .int 1, .int 3, .int c1]))
        walk_at "rd"
        refine ⟨by show 1 ≤ sizeLine; omega, fun l1 hl1 => ?_⟩
        have S := S.new (same_upd (o := .lst [.int (40 + c2)]) hl1)
        have h5 := same_upd (o := .lst [.int (40 + c2)]) hl1 _ _ h5
        obtain ⟨kk, hkk, hkk2⟩ : ∃ kk : Nat, (if decide (fc = 1) = true then (1 : Int) else 0) = kk ∧ (kk = 0 ∨ kk = 1 ∧ fc = 1) := by
          rcases hfc2 with rfl | rfl
          · exact ⟨1, rfl, .inr ⟨rfl, rfl⟩⟩
          · exact ⟨0, rfl, .inl rfl⟩
        rw [hkk]
        refine ⟨rfl, l1, kk, _, rfl, rfl, upd_same, by omega, by omega, ?_, fun l2 hl2 => ?_⟩
        · show 1 * (kk : Int).toNat ≤ sizeLine
          omega
        have S := S.new (same_upd (o := .lst (List.replicate (kk : Int).toNat [V.int (40 + c2)]).flatten) hl2)
        have h5 := same_upd (o := .lst (List.replicate (kk : Int).toNat [V.int (40 + c2)]).flatten) hl2 _ _ h5
        obtain ⟨ms, hms, hml, hmb⟩ : ∃ ms : List Int, ([.int 0, .int 0, .int 1, .int 3, .int c1] ++ (List.replicate (kk : Int).toNat [V.int (40 + c2)]).flatten : List V) = ms.map V.int ∧ 1 ≤ ms.length ∧ ∀ i, 0 ≤ ms.getD i 0 ∧ 11 * fc + ms.getD i 0 ≤ 99 := by
          rcases hkk2 with rfl | ⟨rfl, rfl⟩
          · refine ⟨[0, 0, 1, 3, c1], rfl, by show 1 ≤ 5; omega, fun i => ?_⟩
            match i with
            | 0 => exact ⟨by show (0 : Int) ≤ 0; omega, by show 11 * fc + 0 ≤ 99; rcases hfc2 with rfl | rfl <;> omega⟩
            | 1 => exact ⟨by show (0 : Int) ≤ 0; omega, by show 11 * fc + 0 ≤ 99; rcases hfc2 with rfl | rfl <;> omega⟩
            | 2 => exact ⟨by show (0 : Int) ≤ 1; omega, by show 11 * fc + 1 ≤ 99; rcases hfc2 with rfl | rfl <;> omega⟩
            | 3 => exact ⟨by show (0 : Int) ≤ 3; omega, by show 11 * fc + 3 ≤ 99; rcases hfc2 with rfl | rfl <;> omega⟩
            | 4 => exact ⟨c10, by show 11 * fc + c1 ≤ 99; rcases hfc2 with rfl | rfl <;> omega⟩
            | k + 5 => exact ⟨by show (0 : Int) ≤ 0; omega, by show 11 * fc + 0 ≤ 99; rcases hfc2 with rfl | rfl <;> omega⟩
          · refine ⟨[0, 0, 1, 3, c1, 40 + c2], rfl, by show 1 ≤ 6; omega, fun i => ?_⟩
            match i with
            | 0 => exact ⟨by show (0 : Int) ≤ 0; omega, by show (11 : Int) * 1 + 0 ≤ 99; omega⟩
            | 1 => exact ⟨by show (0 : Int) ≤ 0; omega, by show (11 : Int) * 1 + 0 ≤ 99; omega⟩
            | 2 => exact ⟨by show (0 : Int) ≤ 1; omega, by show (11 : Int) * 1 + 1 ≤ 99; omega⟩
            | 3 => exact ⟨by show (0 : Int) ≤ 3; omega, by show (11 : Int) * 1 + 3 ≤ 99; omega⟩
            | 4 => exact ⟨c10, by show (11 : Int) * 1 + c1 ≤ 99; omega⟩
            | 5 => exact ⟨by show (0 : Int) ≤ 40 + c2; omega, by show (11 : Int) * 1 + (40 + c2) ≤ 99; omega⟩
            | k + 6 => exact ⟨by show (0 : Int) ≤ 0; omega, by show (11 : Int) * 1 + 0 ≤ 99; omega⟩
        have hml6 : ms.length ≤ 6 := by
          have e := congrArg List.length hms
          rw [List.length_append, List.length_map] at e
          have : ((List.replicate (kk : Int).toNat [V.int (40 + c2)]).flatten).length ≤ 1 := by
            rcases hkk2 with rfl | ⟨rfl, _⟩
            · exact Nat.zero_le 1
            · exact Nat.le_refl 1
          simp only [List.length_cons, List.length_nil] at e
          omega
        refine ⟨l5, l2, _, _, rfl, rfl, h5, upd_same, ?_, fun l6 hl6 => ?_⟩
        · rw [← List.length_append, hms, List.length_map]
          omega
        rw [hms]
        have n6 := S.row.ne hl6
        have S := S.new (same_upd (o := .lst (ms.map V.int)) hl6)
        walk_at "rd"
        refine ⟨_, .inl (.of upd_same), ?_⟩
        rw [List.length_map]
        refine ⟨a, sc, ns, _, rfl, S.row, by omega, by omega, fun ix H9 ix0 ix1 row9 b9 => ?_⟩
        have S := S.call nLa row9 b9
        have h6 := b9 _ _ n6 upd_same
        obtain ⟨ix, rfl⟩ := nat_at ix0
        refine ⟨l6, _, ix, _, rfl, rfl, .of h6, atI_nat (at_ints (by omega)), ?_⟩
        obtain ⟨hmo0, hmo1⟩ := hmb ix
        generalize ms.getD ix 0 = mo at hmo0 hmo1
        have hD9 := S.but _ _ nDa e2
        obtain ⟨pf0, pf1⟩ := hplb fr
        obtain ⟨pr0, pr1⟩ := hplb re
        generalize hpf : pl.getD fr 0 = pf at pf0 pf1
        generalize hpr : pl.getD re 0 = pr at pr0 pr1
        walk_at "rd"
        refine ⟨.inl ⟨rfl, _, .of S.lst⟩, D, _, fr, .int pf, rfl, rfl, .of hD9, atI_nat (by rw [← hpf]; exact at_ints (by omega)), D, _, re, .int pr, rfl, rfl, .of hD9, atI_nat (by rw [← hpr]; exact at_ints (by omega)), ?_⟩
        walk_at "rd"
        refine ⟨by show 3 ≤ sizeLine; omega, fun T1 hT1 => ?_⟩
        have S := S.new (same_upd (o := .tup [.int fr, .int re, .int (pf - pr + mo)]) hT1)
        have hD10 := same_upd (o := .tup [.int fr, .int re, .int (pf - pr + mo)]) hT1 _ _ hD9
        have ok1 : RopeOk n ⟨fr, re, pf - pr + mo⟩ ∧ HoldsR (fun i => pl.getD i 0) ⟨fr, re, pf - pr + mo⟩ := by
          refine ⟨⟨f0, f1, g0, g1, hfr, ?_, ?_⟩, ?_⟩
          · show -99 ≤ pf - pr + mo
            rcases hfc2 with rfl | rfl <;> omega
          · show pf - pr + mo ≤ 99
            rcases hfc2 with rfl | rfl <;> omega
          · unfold HoldsR
            show pl.getD (fr : Int).toNat 0 - pl.getD (re : Int).toNat 0 ≤ pf - pr + mo
            rw [Int.toNat_natCast, Int.toNat_natCast, hpf, hpr]
            omega
        refine ⟨L, _, _, rfl, rfl, S.lst, by rw [S.rx.1]; omega, ?_⟩
        have S := FlS.app (r := ⟨fr, re, pf - pr + mo⟩) S hL row3 upd_same
        have hD10 : (upd _ L (.lst (xs ++ [V.ref T1]))) D = _ := (upd_ne nDL).trans hD10
        refine ⟨a, sc, ns, 3, rfl, S.row, by omega, by omega, fun c3 H11 c30 c31 row11 b11 => ?_⟩
        have S := S.call nLa row11 b11
        have hD11 := b11 _ _ nDa hD10
        have hrs2 : ∀ r ∈ rs ++ [⟨fr, re, pf - pr + mo⟩], RopeOk n r ∧ HoldsR (fun i => pl.getD i 0) r := fun r hr => by
          rcases List.mem_append.mp hr with hr | hr
          · exact hrs r hr
          · cases List.mem_singleton.mp hr
            exact ok1
        have hlen2 : (rs ++ [(⟨fr, re, pf - pr + mo⟩ : Rope)]).length ≤ 2 * k + 1 := by
          rw [List.length_append, List.length_singleton]
          omega
        generalize rs ++ [(⟨fr, re, pf - pr + mo⟩ : Rope)] = rs2 at S hrs2 hlen2
        generalize xs ++ [V.ref T1] = xs2 at S
        walk_at "rd"
        refine ⟨rfl, ?_⟩
        by_cases hc3 : c3 = 0
        · simp only [hc3, decide_true, ite_true]
          refine ⟨.inl ⟨rfl, _, .of S.lst⟩, D, _, re, .int pr, rfl, rfl, .of hD11, atI_nat (by rw [← hpr]; exact at_ints (by omega)), D, _, fr, .int pf, rfl, rfl, .of hD11, atI_nat (by rw [← hpf]; exact at_ints (by omega)), ?_⟩
          walk_at "rd"
          refine ⟨a, sc, ns, 2, rfl, S.row, by omega, by omega, fun c4 H12 c40 c41 row12 b12 => ?_⟩
          have S := S.call nLa row12 b12
          have hmc : 0 ≤ mo * c4 ∧ mo * c4 ≤ mo := by
            have : c4 = 0 ∨ c4 = 1 := by omega
            rcases this with rfl | rfl <;> omega
          walk_at "rd"
          refine ⟨.inl (by rcases hfc2 with rfl | rfl <;> omega), by show 3 ≤ sizeLine; omega, fun T2 hT2 => ?_⟩
          generalize mo * c4 = mc at hmc
          have S := S.new (same_upd (o := .tup [.int re, .int fr, .int (pr - pf + mc)]) hT2)
          have ok2 : RopeOk n ⟨re, fr, pr - pf + mc⟩ ∧ HoldsR (fun i => pl.getD i 0) ⟨re, fr, pr - pf + mc⟩ := by
            refine ⟨⟨g0, g1, f0, f1, Ne.symm hfr, ?_, ?_⟩, ?_⟩
            · show -99 ≤ pr - pf + mc
              rcases hfc2 with rfl | rfl <;> omega
            · show pr - pf + mc ≤ 99
              rcases hfc2 with rfl | rfl <;> omega
            · unfold HoldsR
              show pl.getD (re : Int).toNat 0 - pl.getD (fr : Int).toNat 0 ≤ pr - pf + mc
              rw [Int.toNat_natCast, Int.toNat_natCast, hpf, hpr]
              omega
          refine ⟨L, _, _, rfl, rfl, S.lst, by rw [S.rx.1]; omega, ?_⟩
          have S := FlS.app (r := ⟨re, fr, pr - pf + mc⟩) S hL row3 upd_same
          refine ⟨_, _, _, _, _, _, ⟨rfl, rfl, rfl, rfl, rfl, rfl⟩, _, _, S, by rw [List.length_append, List.length_singleton]; omega, fun r hr => ?_⟩
          rcases List.mem_append.mp hr with hr | hr
          · exact hrs2 r hr
          · cases List.mem_singleton.mp hr
            exact ok2
        · simp only [hc3, decide_false, Bool.false_eq_true, ite_false]
          exact ⟨_, _, _, _, _, _, ⟨rfl, rfl, rfl, rfl, rfl, rfl⟩, _, _, S, by omega, hrs2⟩
    · obtain ⟨x5, x7, x8, x9, x10, x11, rfl, xs, rs, S, hlen, hrs⟩ := hPv
      walk_at "rd"
      refine ⟨L, _, rfl, .of S.lst, fun l7 hl7 => ?_⟩
      have S := S.new (same_upd (o := .lst (cutV xs none (some 40))) hl7)
      have ecut : cutV xs none (some 40) = xs.take 40 := by
        unfold cutV
        rw [HT.sIx_none, show HT.sIx xs.length xs.length (some (40 : Int)) = min 40 xs.length from HT.sIx_nat _ _ 40]
        show (List.drop 0 xs).take (min 40 xs.length - 0) = _
        rw [List.drop_zero, Nat.sub_zero]
        by_cases h : 40 ≤ xs.length
        · rw [Nat.min_eq_left h]
        · rw [Nat.min_eq_right (by omega), List.take_of_length_le (Nat.le_refl _), List.take_of_length_le (by omega)]
      walk_at "rd"
      refine ⟨_, .inl ⟨.of upd_same, fun t1 ht1 => ?_⟩⟩
      have e1 := same_upd (o := .tup (cutV xs none (some 40))) ht1
      have S := S.new e1
      walk_at "rd"
      refine ⟨by show 2 ≤ sizeLine; omega, fun t2 ht2 => ?_⟩
      have e2' := same_upd (o := .tup [.int n, .ref t1]) ht2
      have S := S.new e2'
      have RX := S.rx.take 40
      refine q _ _ n (rs.take 40) S.row (b03.trans S.but) ⟨t2, t1, xs.take 40, rfl, .of upd_same, ?_, RX.1, RX.2⟩ ⟨by omega, by omega, ?_, fun r hr => (hrs r (List.mem_of_mem_take hr)).1⟩ (by omega) ⟨fun i => pl.getD i 0, fun i => ?_, fun r hr => (hrs r (List.mem_of_mem_take hr)).2⟩
      · rw [← ecut]
        exact sqt_same e2' (.of upd_same)
      · rw [List.length_take]
        exact Nat.min_le_left _ _
      · obtain ⟨h1, h2⟩ := hplb i
        exact ⟨h1, by show pl.getD i 0 ≤ 88; rcases hfc2 with rfl | rfl <;> omega⟩
end
end Hx

set_option Elab.async false
set_option linter.all false
set_option maxRecDepth 100000
set_option maxHeartbeats 4000000
namespace Hx
open PySem PySem.Spec PyProof.Rows L2
abbrev gd (c : List Int) (i : Nat) : Int := c.getD i 0
theorem gd_set (c : List Int) {g : Nat} (v : Int) (h : g < c.length) (i : Nat) : gd (c.set g v) i = if i = g then v else gd c i := by
  unfold gd
  rw [List.getD_eq_getElem?_getD, List.getElem?_set]
  by_cases e : g = i
  · subst e
    rw [if_pos rfl, if_pos h, if_pos rfl]
    rfl
  · rw [if_neg e, if_neg (fun z => e z.symm), List.getD_eq_getElem?_getD]
theorem gd_move (d : Tab) (xs : List Int) (b : Nat) (p : Int) {o : Nat} (h : o < xs.length) : gd (moveD d xs b p) o = mv1 (d b o) (gd xs o) p := by
  unfold gd
  rw [List.getD_eq_getElem?_getD, moveD_at d xs b p h]
  rfl
theorem mv1_ge (l : Option Int) (x p : Int) : x ≤ mv1 l x p := by
  cases l with
  | none => exact Int.le_refl x
  | some l =>
    show x ≤ if p - l > x then p - l else x
    split <;> omega
theorem mv1_some (l x p : Int) : p - l ≤ mv1 (some l) x p := by
  show p - l ≤ if p - l > x then p - l else x
  split <;> omega
theorem mv1_le {l : Option Int} {x p y : Int} (h : x ≤ y) (h2 : ∀ a, l = some a → p - a ≤ y) : mv1 l x p ≤ y := by
  cases l with
  | none => exact h
  | some a =>
    have := h2 a rfl
    show (if p - a > x then p - a else x) ≤ y
    split <;> omega
/-- what a fleet is worth, for the tables -/
structure Fit (n : Nat) (rs : List Rope) : Prop where
  ok : ∀ r ∈ rs, RopeOk n r
  diag : Diag n (chainTab n rs)
  closed : Closed n (chainTab n rs) n
theorem Fit.of {n : Nat} {rs : List Rope} (ok : ∀ r ∈ rs, RopeOk n r) {x : Nat → Int} (h : ∀ r ∈ rs, HoldsR x r) : Fit n rs :=
  ⟨ok, (chain_good h).1, (chain_good h).2⟩
theorem RopeOk.ix {n : Nat} {r : Rope} (h : RopeOk n r) : r.f.toNat < n ∧ r.r.toNat < n := by
  obtain ⟨h1, h2, h3, h4, _⟩ := h
  omega
theorem move_valid {n : Nat} {rs : List Rope} (F : Fit n rs) {xs : List Int} (hl : xs.length = n) (hv : Valid xs rs) {b : Nat} (hb : b < n) (p : Int) : Valid (moveD (chainTab n rs) xs b p) rs := fun r hr => by
  obtain ⟨hf, hg⟩ := (F.ok r hr).ix
  have h0 := hv r hr
  unfold Holds1 at h0 ⊢
  show gd _ _ - gd _ _ ≤ _
  rw [gd_move _ _ _ _ (by omega), gd_move _ _ _ _ (by omega)]
  have hg1 := mv1_ge (chainTab n rs b r.r.toNat) (gd xs r.r.toNat) p
  have h0 : gd xs r.f.toNat - gd xs r.r.toNat ≤ r.l := h0
  have key : mv1 (chainTab n rs b r.f.toNat) (gd xs r.f.toNat) p ≤ mv1 (chainTab n rs b r.r.toNat) (gd xs r.r.toNat) p + r.l := by
    refine mv1_le (by omega) fun a ea => ?_
    obtain ⟨z, ez, hz⟩ := chain_rope (n := n) hr r.l rfl
    obtain ⟨y, ey, hy⟩ := F.closed r.f.toNat hf b hb r.r.toNat hg a z ea ez _ rfl
    rw [ey]
    have := mv1_some y (gd xs r.r.toNat) p
    omega
  omega
theorem move_least {n : Nat} {rs : List Rope} {xs : List Int} (hl : xs.length = n) {b : Nat} {p : Int} {y : Nat → Int} (hy : ∀ r ∈ rs, HoldsR y r) (h1 : ∀ i, i < n → gd xs i ≤ y i) (h2 : p ≤ y b) :
    ∀ i, i < n → gd (moveD (chainTab n rs) xs b p) i ≤ y i := fun i hi => by
  rw [gd_move _ _ _ _ (by omega)]
  refine mv1_le (h1 i hi) fun a ea => ?_
  have := sound_chain (n := n) hy b i a ea
  omega
theorem move_ge (d : Tab) (xs : List Int) (b : Nat) (p : Int) {i : Nat} (h : i < xs.length) : gd xs i ≤ gd (moveD d xs b p) i := by
  rw [gd_move _ _ _ _ h]
  exact mv1_ge _ _ _
theorem move_at {n : Nat} {rs : List Rope} (F : Fit n rs) {xs : List Int} (hl : xs.length = n) {b : Nat} (hb : b < n) (p : Int) : p ≤ gd (moveD (chainTab n rs) xs b p) b := by
  rw [gd_move _ _ _ _ (by omega), F.diag b hb]
  have := mv1_some 0 (gd xs b) p
  omega
theorem leastD_none {d : Tab} {ws : List (Option Int)} {xs : List Int} {k : Nat} (h : ws.getD k none = none) : leastD d ws xs (k + 1) = leastD d ws xs k := by
  rw [leastD_succ, h]
theorem leastD_mv {d : Tab} {ws : List (Option Int)} {xs : List Int} {k : Nat} {u : Int} (h : ws.getD k none = some u) (h2 : gd (leastD d ws xs k) k < u) : leastD d ws xs (k + 1) = moveD d (leastD d ws xs k) k u := by
  rw [leastD_succ, h]
  exact if_pos h2
theorem leastD_st {d : Tab} {ws : List (Option Int)} {xs : List Int} {k : Nat} {u : Int} (h : ws.getD k none = some u) (h2 : ¬ gd (leastD d ws xs k) k < u) : leastD d ws xs (k + 1) = leastD d ws xs k := by
  rw [leastD_succ, h]
  exact if_neg h2
theorem least_all {n : Nat} {rs : List Rope} (F : Fit n rs) {xs : List Int} (hl : xs.length = n) (hv : Valid xs rs) (ws : List (Option Int)) : ∀ k, k ≤ n →
    Valid (leastD (chainTab n rs) ws xs k) rs ∧ (∀ i, i < n → gd xs i ≤ gd (leastD (chainTab n rs) ws xs k) i) ∧ (∀ i, i < k → ∀ v, ws.getD i none = some v → v ≤ gd (leastD (chainTab n rs) ws xs k) i) ∧
    ∀ y : Nat → Int, (∀ r ∈ rs, HoldsR y r) → (∀ i, i < n → gd xs i ≤ y i) → (∀ i, i < k → ∀ v, ws.getD i none = some v → v ≤ y i) → ∀ i, i < n → gd (leastD (chainTab n rs) ws xs k) i ≤ y i
  | 0, _ => ⟨hv, fun _ _ => Int.le_refl _, fun i hi => absurd hi (Nat.not_lt_zero i), fun y _ h _ => h⟩
  | k + 1, hk => by
    obtain ⟨h1, h2, h3, h4⟩ := least_all F hl hv ws k (by omega)
    have ll := leastD_len (chainTab n rs) ws xs k
    cases hw : ws.getD k none with
    | none =>
      rw [leastD_none hw]
      generalize leastD (chainTab n rs) ws xs k = c at h1 h2 h3 h4 ll
      refine ⟨h1, h2, fun i hi v hv' => ?_, fun y a b e => h4 y a b fun i hi => e i (by omega)⟩
      by_cases hik : i = k
      · subst hik
        rw [hw] at hv'
        cases hv'
      · exact h3 i (by omega) v hv'
    | some u =>
      by_cases hlt : gd (leastD (chainTab n rs) ws xs k) k < u
      · rw [leastD_mv hw hlt]
        generalize leastD (chainTab n rs) ws xs k = c at h1 h2 h3 h4 ll hlt
        refine ⟨move_valid F (by omega) h1 (by omega) u, fun i hi => Int.le_trans (h2 i hi) (move_ge _ _ _ _ (by omega)), fun i hi v hv' => ?_, fun y a b e => ?_⟩
        · by_cases hik : i = k
          · subst hik
            rw [hw] at hv'
            cases hv'
            exact move_at F (by omega) (by omega) u
          · exact Int.le_trans (h3 i (by omega) v hv') (move_ge _ _ _ _ (by omega))
        · exact move_least (by omega) a (h4 y a b fun i hi => e i (by omega)) (e k (by omega) u hw)
      · rw [leastD_st hw hlt]
        generalize leastD (chainTab n rs) ws xs k = c at h1 h2 h3 h4 ll hlt
        refine ⟨h1, h2, fun i hi v hv' => ?_, fun y a b e => h4 y a b fun i hi => e i (by omega)⟩
        by_cases hik : i = k
        · subst hik
          rw [hw] at hv'
          cases hv'
          omega
        · exact h3 i (by omega) v hv'
/-! settling, rope by rope -/
theorem gd_settle1 (c : List Int) {n : Nat} (hl : c.length = n) {r : Rope} (h : RopeOk n r) (i : Nat) : gd (settle1 c r) i = if i = r.r.toNat then max (gd c r.r.toNat) (gd c r.f.toNat - r.l) else gd c i := by
  unfold settle1
  rw [gd_set _ _ (by rw [hl]; exact h.ix.2)]
  by_cases e : i = r.r.toNat
  · rw [if_pos e, if_pos e]
    show (if gd c r.f.toNat - r.l > gd c r.r.toNat then gd c r.f.toNat - r.l else gd c r.r.toNat) = _
    split <;> omega
  · rw [if_neg e, if_neg e]
theorem settle1_ge (c : List Int) {n : Nat} (hl : c.length = n) {r : Rope} (h : RopeOk n r) (i : Nat) : gd c i ≤ gd (settle1 c r) i := by
  rw [gd_settle1 c hl h]
  split
  · rename_i e
    rw [e]
    omega
  · exact Int.le_refl _
theorem settleR_ge {n : Nat} : ∀ (rs : List Rope) (c : List Int), c.length = n → (∀ r ∈ rs, RopeOk n r) → ∀ i, gd c i ≤ gd (settleR rs c) i
  | [], _, _, _, _ => Int.le_refl _
  | r :: rs, c, hl, h, i => Int.le_trans (settle1_ge c hl (h r List.mem_cons_self) i) (settleR_ge rs (settle1 c r) (by rw [settle1_len]; exact hl) (fun q hq => h q (List.mem_cons_of_mem _ hq)) i)
theorem settleR_rope {n : Nat} : ∀ (rs : List Rope) (c : List Int), c.length = n → (∀ r ∈ rs, RopeOk n r) → ∀ r ∈ rs, gd c r.f.toNat - r.l ≤ gd (settleR rs c) r.r.toNat
  | [], _, _, _, _, h => by cases h
  | q :: rs, c, hl, h, r, hr => by
    have hq := h q List.mem_cons_self
    have ht := fun z (hz : z ∈ rs) => h z (List.mem_cons_of_mem _ hz)
    have hl' : (settle1 c q).length = n := by rw [settle1_len]; exact hl
    rcases List.mem_cons.mp hr with e | hr
    · subst e
      refine Int.le_trans ?_ (settleR_ge rs (settle1 c r) hl' ht _)
      rw [gd_settle1 c hl hq, if_pos rfl]
      omega
    · have a := settleR_rope rs (settle1 c q) hl' ht r hr
      have b := settle1_ge c hl hq r.f.toNat
      show _ ≤ gd (settleR rs (settle1 c q)) _
      omega
theorem settleR_le {n : Nat} {y : Nat → Int} : ∀ (rs : List Rope) (c : List Int), c.length = n → (∀ r ∈ rs, RopeOk n r) → (∀ r ∈ rs, HoldsR y r) → (∀ i, i < n → gd c i ≤ y i) → ∀ i, i < n → gd (settleR rs c) i ≤ y i
  | [], _, _, _, _, h => h
  | r :: rs, c, hl, h, hy, hc => settleR_le rs (settle1 c r) (by rw [settle1_len]; exact hl) (fun q hq => h q (List.mem_cons_of_mem _ hq)) (fun q hq => hy q (List.mem_cons_of_mem _ hq)) fun i hi => by
    have hr := h r List.mem_cons_self
    have h1 := hy r List.mem_cons_self
    unfold HoldsR at h1
    have h2 := hc _ hr.ix.1
    rw [gd_settle1 c hl hr]
    split
    · rename_i e
      have h3 := hc i hi
      rw [e] at h3 ⊢
      omega
    · exact hc i hi
/-- barges that are not yet at y -/
def low (n : Nat) (c : List Int) (y : Nat → Int) : List Nat := (List.range n).filter fun i => decide (gd c i < y i)
theorem filter_lt {α : Type} (p q : α → Bool) : ∀ (l : List α), (∀ x ∈ l, q x = true → p x = true) → (l.filter q).length ≤ (l.filter p).length ∧ ((∃ x ∈ l, p x = true ∧ q x = false) → (l.filter q).length < (l.filter p).length)
  | [], _ => ⟨Nat.le_refl 0, fun ⟨_, h, _⟩ => by cases h⟩
  | a :: l, h => by
    obtain ⟨h1, h2⟩ := filter_lt p q l fun x hx => h x (List.mem_cons_of_mem _ hx)
    rw [List.filter_cons, List.filter_cons]
    have ha := h a List.mem_cons_self
    cases hp : p a <;> cases hq : q a
    · simp only [Bool.false_eq_true, if_false]
      refine ⟨h1, fun ⟨x, hx, k1, k2⟩ => ?_⟩
      rcases List.mem_cons.mp hx with e | hx
      · subst e
        rw [hp] at k1
        cases k1
      · exact h2 ⟨x, hx, k1, k2⟩
    · rw [ha hq] at hp
      cases hp
    · simp only [Bool.false_eq_true, if_false, if_true, List.length_cons]
      exact ⟨by omega, fun _ => by omega⟩
    · simp only [if_true, List.length_cons]
      refine ⟨by omega, fun ⟨x, hx, k1, k2⟩ => ?_⟩
      rcases List.mem_cons.mp hx with e | hx
      · subst e
        rw [hq] at k2
        cases k2
      · have := h2 ⟨x, hx, k1, k2⟩
        omega
theorem settle_low {n : Nat} {rs : List Rope} (ok : ∀ r ∈ rs, RopeOk n r) {ws : List Int} {y : Nat → Int} (hy : ∀ r ∈ rs, HoldsR y r)
    (least : ∀ z : Nat → Int, (∀ r ∈ rs, HoldsR z r) → (∀ i, i < n → gd ws i ≤ z i) → ∀ i, i < n → y i ≤ z i) (c : List Int) (hl : c.length = n) (h1 : ∀ i, i < n → gd ws i ≤ gd c i) (h2 : ∀ i, i < n → gd c i ≤ y i) :
    (low n (settleR rs c) y).length ≤ (low n c y).length - 1 := by
  have hsub := filter_lt (fun i => decide (gd c i < y i)) (fun i => decide (gd (settleR rs c) i < y i)) (List.range n) fun i hi q => by
    have := settleR_ge rs c hl ok i
    have q := of_decide_eq_true q
    exact decide_eq_true (by omega)
  by_cases hz : ∃ i ∈ List.range n, decide (gd c i < y i) = true ∧ decide (gd (settleR rs c) i < y i) = false
  · have := hsub.2 hz
    unfold low
    omega
  · by_cases he : ∃ j, j < n ∧ gd c j < y j
    · exfalso
      obtain ⟨j, hj, hjc⟩ := he
      have all : ∀ i, i < n → gd c i < y i → gd (settleR rs c) i < y i := fun i hi q => by
        by_cases k : gd (settleR rs c) i < y i
        · exact k
        · exact absurd ⟨i, List.mem_range.mpr hi, decide_eq_true q, decide_eq_false k⟩ hz
      have := least (fun i => if gd c i < y i then y i - 1 else y i) (fun r hr => ?_) (fun i hi => ?_) j hj
      · simp only [hjc, if_true] at this
        omega
      · obtain ⟨hf, hg⟩ := (ok r hr).ix
        have h0 := hy r hr
        unfold HoldsR at h0 ⊢
        have hf2 := h2 _ hf
        by_cases k1 : gd c r.f.toNat < y r.f.toNat <;> by_cases k2 : gd c r.r.toNat < y r.r.toNat <;> simp only [k1, k2, if_true, if_false]
        · omega
        · omega
        · have := all _ hg k2
          have := settleR_rope rs c hl ok r hr
          omega
        · omega
      · have a := h1 i hi
        show gd ws i ≤ if gd c i < y i then y i - 1 else y i
        have b := h2 i hi
        split <;> omega
    · have e0 : low n (settleR rs c) y = [] := by
        unfold low
        refine List.filter_eq_nil_iff.mpr fun i hi => ?_
        have hi := List.mem_range.mp hi
        have := settleR_ge rs c hl ok i
        have k : ¬ gd c i < y i := fun q => he ⟨i, hi, q⟩
        simpa using (show y i ≤ gd (settleR rs c) i by omega)
      rw [e0]
      exact Nat.zero_le _
theorem settle_is {n : Nat} {rs : List Rope} (ok : ∀ r ∈ rs, RopeOk n r) {ws : List Int} (hw : ws.length = n) {y : Nat → Int} (hy : ∀ r ∈ rs, HoldsR y r) (hwy : ∀ i, i < n → gd ws i ≤ y i)
    (least : ∀ z : Nat → Int, (∀ r ∈ rs, HoldsR z r) → (∀ i, i < n → gd ws i ≤ z i) → ∀ i, i < n → y i ≤ z i) : ∀ k, (low n (settleN rs ws k) y).length ≤ n - k ∧ (∀ i, i < n → gd ws i ≤ gd (settleN rs ws k) i) ∧ ∀ i, i < n → gd (settleN rs ws k) i ≤ y i
  | 0 => by
    refine ⟨?_, fun _ _ => Int.le_refl _, hwy⟩
    unfold low
    have := List.length_filter_le (fun i => decide (gd ws i < y i)) (List.range n)
    rw [List.length_range] at this
    exact this
  | k + 1 => by
    obtain ⟨h1, h2, h3⟩ := settle_is ok hw hy hwy least k
    have hl := settleN_len rs ws k
    rw [hw] at hl
    rw [settleN_succ]
    refine ⟨?_, fun i hi => Int.le_trans (h2 i hi) (settleR_ge rs _ hl ok i), settleR_le rs _ hl ok hy h3⟩
    have := settle_low ok hy least _ hl h2 h3
    omega
theorem shift_le (pl : Nat → Int) (w : Nat → Int) : ∀ n : Nat, ∃ M : Int, ∀ i, i < n → pl i - M ≤ w i
  | 0 => ⟨0, fun i hi => absurd hi (Nat.not_lt_zero i)⟩
  | n + 1 => by
    obtain ⟨M, h⟩ := shift_le pl w n
    refine ⟨max M (pl n - w n), fun i hi => ?_⟩
    by_cases e : i = n
    · subst e
      omega
    · have := h i (by omega)
      omega
/-- settled positions: the least that hold all ropes -/
theorem settle_spec {n : Nat} {rs : List Rope} (ok : ∀ r ∈ rs, RopeOk n r) {pl : Nat → Int} (hp : ∀ r ∈ rs, HoldsR pl r) {ws : List Int} (hw : ws.length = n) :
    Valid (settleN rs ws (n + 1)) rs ∧ (∀ i, i < n → gd ws i ≤ gd (settleN rs ws (n + 1)) i) ∧ ∀ z : Nat → Int, (∀ r ∈ rs, HoldsR z r) → (∀ i, i < n → gd ws i ≤ z i) → ∀ i, i < n → gd (settleN rs ws (n + 1)) i ≤ z i := by
  have F := Fit.of ok hp
  obtain ⟨M, hM⟩ := shift_le pl (gd ws) n
  obtain ⟨x0, hx0⟩ : ∃ x0 : List Int, x0 = (List.range n).map fun i => pl i - M := ⟨_, rfl⟩
  have l0 : x0.length = n := by rw [hx0, List.length_map, List.length_range]
  have g0 : ∀ i, i < n → gd x0 i = pl i - M := fun i hi => by
    unfold gd
    rw [hx0, List.getD_eq_getElem?_getD, List.getElem?_map, List.getElem?_range hi]
    rfl
  have v0 : Valid x0 rs := fun r hr => by
    obtain ⟨hf, hg⟩ := (ok r hr).ix
    have := hp r hr
    unfold HoldsR at this
    unfold Holds1
    show gd x0 _ - gd x0 _ ≤ _
    rw [g0 _ hf, g0 _ hg]
    omega
  obtain ⟨h1, h2, h3, h4⟩ := least_all F l0 v0 (ws.map some) n (Nat.le_refl n)
  have hws : ∀ i, i < n → (ws.map some).getD i none = some (gd ws i) := fun i hi => by
    rw [List.getD_eq_getElem?_getD, List.getElem?_map, List.getElem?_eq_getElem (by omega)]
    unfold gd
    rw [List.getD_eq_getElem?_getD, List.getElem?_eq_getElem (by omega)]
    rfl
  have hy : ∀ r ∈ rs, HoldsR (gd (leastD (chainTab n rs) (ws.map some) x0 n)) r := h1
  have hwy : ∀ i, i < n → gd ws i ≤ gd (leastD (chainTab n rs) (ws.map some) x0 n) i := fun i hi => h3 i hi _ (hws i hi)
  have hle : ∀ z : Nat → Int, (∀ r ∈ rs, HoldsR z r) → (∀ i, i < n → gd ws i ≤ z i) → ∀ i, i < n → gd (leastD (chainTab n rs) (ws.map some) x0 n) i ≤ z i := fun z hz hwz =>
    h4 z hz (fun i hi => by rw [g0 i hi]; exact Int.le_trans (hM i hi) (hwz i hi)) fun i hi v hv => by
      rw [hws i hi] at hv
      cases hv
      exact hwz i hi
  generalize gd (leastD (chainTab n rs) (ws.map some) x0 n) = y at hy hwy hle
  obtain ⟨k1, k2, k3⟩ := settle_is ok hw hy hwy hle (n + 1)
  have same : ∀ i, i < n → gd (settleN rs ws (n + 1)) i = y i := fun i hi => by
    have e : low n (settleN rs ws (n + 1)) y = [] := List.eq_nil_of_length_eq_zero (by omega)
    have : ¬ gd (settleN rs ws (n + 1)) i < y i := fun q => by
      have m : i ∈ low n (settleN rs ws (n + 1)) y := List.mem_filter.mpr ⟨List.mem_range.mpr hi, decide_eq_true q⟩
      rw [e] at m
      cases m
    have := k3 i hi
    omega
  refine ⟨fun r hr => ?_, k2, fun z hz hwz i hi => by rw [same i hi]; exact hle z hz hwz i hi⟩
  obtain ⟨hf, hg⟩ := (ok r hr).ix
  have := hy r hr
  unfold HoldsR at this
  unfold Holds1
  show gd _ _ - gd _ _ ≤ _
  rw [same _ hf, same _ hg]
  exact this
end Hx

set_option Elab.async false
set_option linter.all false
set_option maxRecDepth 100000
set_option maxHeartbeats 4000000
/-! list(b), sum(b) of bytes. -/
namespace Hx
open PySem PySem.Spec PyProof.Rows L2 PySem.Calls PyProof.V
open PySem.W (KBw.bInts KBw.IsBytesIter)
section
variable {prog : Program} {w : World} {A : Around} {E : Value → Shared → Prop} {s : Shared} {b : Array UInt8} {t : Tok}
theorem hint_byt {Q : Bool → Shared → Prop} (q : Q false s) : wpAny (model prog w) A (Builtin.List.listLengthHint (.bytes b t)) Q E s := by
  have ty := PySem.W.typeIs_bytes s b t
  unfold Builtin.List.listLengthHint
  refine wpAny_bind (wpAny_specialOf ty PySem.W.FB.slot_bytes_len.lookup ?_)
  generalize hi : ("bytes.__len__" : String) = jd
  wp_delta
  rw [show splitId jd = some ("bytes", "__len__") from by subst hi; decide +kernel]
  subst hi
  refine wpAny_bind (wpAny_isInstance (T := "bytes") (b := true) ty (by rw [isSubtype_type]; kernel_rfl) ?_)
  refine wpAny_ite_split (fun z => absurd z (by decide)) fun _ => ?_
  refine wpAny_ite_split (fun _ => ?_) fun z => absurd (by decide +kernel) z
  exact wpAny_bind (wpAny_typeOf ty (wpAny_pure q))
theorem byt_at {i : Nat} {v : Value} (h : ∃ c u, b[i]? = some c ∧ v = .int ((c : UInt8).toNat : Int) u) : ∃ u, v = .int ((KBw.bInts b).getD i 0) u := by
  obtain ⟨c, u, h1, rfl⟩ := h
  refine ⟨u, ?_⟩
  rw [List.getD_eq_getElem?_getD, PySem.W.KBw.ints_get h1]
  rfl
theorem list_byt (hh : A.handled = none) (hn : b.size ≤ sizeLine) {Q : Value → Shared → Prop}
    (q : ∀ (g : Heap) (k : Nat) (us : Array Value) (c : Nat), (∀ x o, s.heap.get? x = some o → g.get? x = some o) → g.get? s.heap.objs.size = some { cls := .type "list", dict := none, data := .seq us c, slots := #[] } →
      us.size = b.size → (∀ (i : Nat) v, us[i]? = some v → ∃ u, v = .int ((KBw.bInts b).getD i 0) u) → Q (.ref s.heap.objs.size) { s with heap := g, toks := k }) :
    wpAny (model prog w) A (call (.type "list") [.bytes b t]) Q E s := by
  refine callType_codes (Q₁ := fun o z => o = .ref s.heap.objs.size ∧ z = { s with heap := s.heap.push { cls := .type "list", data := .seq #[] } }) PySem.F.called_list (PySem.F.typeCall_list_1 _)
    PySem.F.entry_list_init (code_list_new _ ⟨rfl, rfl⟩) fun o z hz => ?_
  obtain ⟨rfl, rfl⟩ := hz
  have h0 : (s.heap.push { cls := .type "list", data := .seq #[] }).get? s.heap.objs.size = some { cls := .type "list", data := .seq #[] } := Heap.get?_push_size _ rfl
  refine ⟨⟨_, h0, rfl⟩, PySem.F.args_list_init_2 _ _, ?_⟩
  show wpAny _ A.in1.in1 (Builtin.List.listItems (.ref s.heap.objs.size) >>= fun old => Builtin.List.listUpdate (.ref s.heap.objs.size) (fun _ => #[]) >>= fun _ => letGo old.toList.reverse >>= fun _ => Builtin.List.listExtendWith (.ref s.heap.objs.size) (.bytes b t) .none) _ _ _
  refine wpAny_bind ?_
  unfold Builtin.List.listItems
  refine wpAny_bind (wpAny_seqItems h0 rfl (wpAny_pure ?_))
  refine wpAny_bind (m := updateSeq s.heap.objs.size fun _ => #[]) (wpAny_updateSeq h0 rfl ?_)
  have h2 := Heap.get?_update_self (Obj.mapSeq fun _ => (#[] : Array Value)) h0 rfl
  have far : ∀ x o, s.heap.get? x = some o → ((s.heap.push { cls := .type "list", data := .seq #[] }).update s.heap.objs.size (Obj.mapSeq fun _ => (#[] : Array Value))).get? x = some o := fun x o e =>
    (Heap.get?_update_other _ _ (Nat.ne_of_gt (Heap.lt_size e))).trans (Heap.get?_push_of_some _ e)
  have hsz : ((s.heap.push { cls := .type "list", data := .seq #[] }).update s.heap.objs.size (Obj.mapSeq fun _ => (#[] : Array Value))).objs.size = s.heap.objs.size + 1 := by rw [Heap.size_update, size_push']
  refine wpAny_bind (wpAny_letGo ?_)
  generalize (s.heap.push { cls := .type "list", data := .seq #[] }).update s.heap.objs.size (Obj.mapSeq fun _ => (#[] : Array Value)) = g at h2 far hsz ⊢
  unfold Builtin.List.listExtendWith
  refine wpAny_bind (wpAny_typeOf (T := "bytes") (PySem.W.typeIs_bytes _ b t) ?_)
  have k1 : Builtin.List.listSameRef (.ref s.heap.objs.size) (.bytes b t) = false := rfl
  have k2 : (Value.type "bytes" == Value.type "list") = false := by decide
  have k3 : (Value.type "bytes" == Value.type "tuple") = false := by decide
  simp only [k1, k2, k3, Bool.or_false, Bool.false_eq_true, if_false]
  refine wpAny_bind (PySem.W.KBw.pyIter_bytes ?_)
  refine wpAny_bind (wpAny_holding (hint_byt ?_))
  rw [if_neg (by decide)]
  have hW := PySem.W.KBw.walks (prog := prog) (w := w) (A := A.in1.in1) hh g.objs.size b t
  have nS : s.heap.objs.size ∉ [g.objs.size] := fun z => by
    have z := List.mem_singleton.mp z
    omega
  have h3 : (g.push { cls := .type "bytes_iterator", data := .fields #[.bytes b t, .int 0 0] }).get? s.heap.objs.size = some { cls := .type "list", dict := none, data := .seq #[] 0, slots := #[] } := Heap.get?_push_of_some _ h2
  refine wpAny_pure ⟨plainId_quiet PySem.F.plain_extend_loop _, codeAny_extend_loopS hW.toS hn _ nS _ b.size 0 _ _ _ rfl (Nat.zero_le _) ⟨_, Heap.get?_push_size _ rfl, rfl, rfl⟩ h3 (ItemsOf.nil _) fun z us c hm hz hi => ?_⟩
  rw [Moved.eq_with hm]
  refine ⟨rfl, q z.heap z.toks us c (fun x o e => hm.heap x o (fun z2 => ?_) (Heap.get?_push_of_some _ (far x o e))) hz hi.1 fun i v e => byt_at (hi.2 i v e)⟩
  have lt := Heap.lt_size e
  rcases List.mem_cons.mp z2 with z2 | z2
  · rw [z2] at lt
    exact absurd lt (Nat.lt_irrefl _)
  · have z2 : x = g.objs.size := List.mem_singleton.mp z2
    rw [z2, hsz] at lt
    exact absurd lt (Nat.not_lt.mpr (Nat.le_succ _))
theorem sum_byt (hh : A.handled = none) {Q : Value → Shared → Prop} (q : ∀ (g : Heap) (k : Nat) (u : Tok), (∀ x o, s.heap.get? x = some o → g.get? x = some o) → Q (.int (preSum (fun i => (KBw.bInts b).getD i 0) b.size) u) { s with heap := g, toks := k }) :
    wpAny (model prog w) A (call (.builtin "sum") [.bytes b t]) Q E s := by
  refine call_sum_walkAnyS (PySem.W.KBw.pyIter_bytes ⟨s.heap.objs.size, _, _, _, b.size, _, _, fun i => (KBw.bInts b).getD i 0, rfl, (PySem.W.KBw.walks (prog := prog) (w := w) (A := A.in1) hh s.heap.objs.size b t).toS, ⟨_, Heap.get?_push_size _ rfl, rfl, rfl⟩, fun x hx => ?_, fun i v h => byt_at h, fun z u hm => ?_⟩)
  · rw [List.mem_singleton.mp hx]
    show s.heap.objs.size < (s.heap.push _).objs.size
    rw [size_push']
    exact Nat.lt_succ_self _
  · rw [Moved.eq_with hm]
    refine q z.heap z.toks u fun x o e => hm.heap x o (fun z2 => ?_) (Heap.get?_push_of_some _ e)
    have lt := Heap.lt_size e
    rw [List.mem_singleton.mp z2] at lt
    exact absurd lt (Nat.lt_irrefl _)
theorem preSum_list (l : List Int) : ∀ n, n ≤ l.length → preSum (fun i => l.getD i 0) n = (l.take n).sum := by
  intro n
  induction n with
  | zero => intro _; rfl
  | succ n ih =>
    intro h
    have e : l[n]? = some (l[n]'(by omega)) := List.getElem?_eq_getElem _
    rw [List.take_add_one, e, List.sum_append, ← ih (by omega)]
    show preSum _ n + l.getD n 0 = _
    rw [List.getD_eq_getElem?_getD, e]
    show _ = _ + (l[n] + 0)
    rw [Int.add_zero]
    rfl
end
section
variable {X : Cx}
theorem call_list_byt (hc : X.calm = true) : CallR X (.type "list") (fun xs H Q => ∃ ns : List Int, xs = [V.byt (byteArr ns)] ∧ B8 ns ∧ ns.length ≤ 16777216 ∧ ∀ p, H p = none → Q (.ref p) (upd H p (.lst (ns.map V.int)))) := by
  intro pins s σ H xs us Q I r h
  obtain ⟨ns, rfl, h8, hl, q⟩ := h
  obtain ⟨u, rfl, t, rfl⟩ := vals1 r
  have hb : KBw.bInts (byteArr ns) = ns := bInts_of h8
  have hsz : (byteArr ns).size = ns.length := byteArr_size ns
  refine list_byt (I.ok.hd hc) (by rw [hsz, sizeLine_eq]; exact hl) fun g k vs c far hg hv hi => ?_
  refine ⟨.ref s.heap.objs.size, upd H s.heap.objs.size (.lst (ns.map V.int)), I.laid far (Nat.le_refl _) ⟨by rw [List.length_map, sizeLine_eq]; exact hl, vs.toList, c, ?_, by rw [Array.toArray_toList]; exact hg⟩, rfl, q _ (I.hok.fresh (Nat.le_refl _))⟩
  refine vals_of_at (by rw [List.length_map]; exact hsz.symm.trans (hv.symm.trans Array.length_toList.symm)) fun j x v h1 h2 => ?_
  obtain ⟨u, rfl⟩ := hi j v (by rw [← Array.getElem?_toList]; exact h2)
  rw [hb]
  rw [List.getElem?_map] at h1
  cases hj : ns[j]? with
  | none => rw [hj] at h1; cases h1
  | some m =>
    rw [hj] at h1
    cases h1
    rw [List.getD_eq_getElem?_getD, hj]
    exact ⟨u, rfl⟩
theorem call_sum_byt (hc : X.calm = true) : CallR X (.builtin "sum") (fun xs H Q => ∃ ns : List Int, xs = [V.byt (byteArr ns)] ∧ B8 ns ∧ Q (.int ns.sum) H) := by
  intro pins s σ H xs us Q I r h
  obtain ⟨ns, rfl, h8, q⟩ := h
  obtain ⟨u, rfl, t, rfl⟩ := vals1 r
  have hb : KBw.bInts (byteArr ns) = ns := bInts_of h8
  have hsz : (byteArr ns).size = ns.length := byteArr_size ns
  refine sum_byt (I.ok.hd hc) fun g k u far => ?_
  rw [hb, hsz, preSum_list ns ns.length (Nat.le_refl _), List.take_length]
  exact ⟨.int _, H, I.kept far, ⟨u, rfl⟩, q⟩
end
end Hx

set_option Elab.async false
set_option linter.all false
set_option maxRecDepth 100000
set_option maxHeartbeats 4000000
/-! Bytes of fleets, positions and hauls (maths). -/
namespace Hx
open PySem PySem.Spec PyProof.Rows L2
/-- the bytes of a natural number -/
def gN (n : Nat) : List Int := if h : n < 128 then [(n : Int)] else (128 + (n % 128 : Nat) : Int) :: gN (n / 128)
termination_by n
decreasing_by omega
theorem gN_lt {n : Nat} (h : n < 128) : gN n = [(n : Int)] := by
  rw [gN, dif_pos h]
theorem gN_ge {n : Nat} (h : 128 ≤ n) : gN n = (128 + (n % 128 : Nat) : Int) :: gN (n / 128) := by
  rw [gN, dif_neg (by omega)]
theorem gN_8 : ∀ n, B8 (gN n) := by
  intro n
  induction n using Nat.strongRecOn with
  | _ n ih =>
    by_cases h : n < 128
    · rw [gN_lt h]
      intro x hx
      rw [List.mem_singleton.mp hx]
      omega
    · rw [gN_ge (by omega)]
      intro x hx
      rcases List.mem_cons.mp hx with rfl | hx
      · have := Nat.mod_lt n (show 0 < 128 by decide)
        omega
      · exact ih (n / 128) (by omega) x hx
theorem gN_len : ∀ k n, n < 128 ^ (k + 1) → (gN n).length ≤ k + 1 := by
  intro k
  induction k with
  | zero =>
    intro n h
    rw [gN_lt (by simpa using h)]
    exact Nat.le_refl _
  | succ k ih =>
    intro n h
    by_cases h2 : n < 128
    · rw [gN_lt h2]
      show 1 ≤ _
      omega
    · rw [gN_ge (by omega), List.length_cons]
      have := ih (n / 128) (by rw [Nat.div_lt_iff_lt_mul (by decide)]; rw [Nat.pow_succ] at h; exact h)
      omega
theorem gN_pos (n : Nat) : 0 < (gN n).length := by
  by_cases h : n < 128
  · rw [gN_lt h]
    exact Nat.one_pos
  · rw [gN_ge (by omega), List.length_cons]
    omega
/-- the code of a whole number -/
def zz (d : Int) : Nat := if d < 0 then (-2 * d - 1).toNat else (2 * d).toNat
def intG (d : Int) : List Int := gN (zz d)
theorem zz_lt {d : Int} (h : d.natAbs ≤ 100000) : zz d < 2097152 := by
  unfold zz
  split <;> omega
theorem intG_8 (d : Int) : B8 (intG d) := gN_8 _
theorem intG_len {d : Int} (h : d.natAbs ≤ 100000) : (intG d).length ≤ 3 := gN_len 2 _ (by have := zz_lt h; exact this)
theorem and127 (n : Nat) : Builtin.bitAnd (n : Int) 127 = ((n % 128 : Nat) : Int) := by
  have h := bitAnd_pp (x := (n : Int)) (y := 127) (by omega) (by omega)
  rw [h, Int.toNat_natCast]
  have e : (127 : Int).toNat = 2 ^ 7 - 1 := by decide
  rw [e, Nat.and_two_pow_sub_one_eq_mod]
theorem and1 (n : Nat) : Builtin.bitAnd (n : Int) 1 = ((n % 2 : Nat) : Int) := by
  have h := bitAnd_pp (x := (n : Int)) (y := 1) (by omega) (by omega)
  rw [h, Int.toNat_natCast]
  have e : (1 : Int).toNat = 2 ^ 1 - 1 := by decide
  rw [e, Nat.and_two_pow_sub_one_eq_mod]
def ropeB (r : Rope) : List Int := r.f :: r.r :: intG r.l
def haulsB : List Int → List (Nat × Int) → List Int
  | _, [] => []
  | last, h :: hs => (h.1 : Int) :: (intG (h.2 - last.getD h.1 0) ++ haulsB (last.set h.1 h.2) hs)
def lastB : List Int → List (Nat × Int) → List Int
  | last, [] => last
  | last, h :: hs => lastB (last.set h.1 h.2) hs
theorem haulsB_app : ∀ (hs ks : List (Nat × Int)) (last : List Int), haulsB last (hs ++ ks) = haulsB last hs ++ haulsB (lastB last hs) ks
  | [], _, _ => rfl
  | h :: hs, ks, last => by
    show (h.1 : Int) :: (intG _ ++ haulsB _ (hs ++ ks)) = ((h.1 : Int) :: (intG _ ++ haulsB _ hs)) ++ _
    rw [haulsB_app hs ks, List.cons_append, List.append_assoc]
    rfl
theorem lastB_app : ∀ (hs ks : List (Nat × Int)) (last : List Int), lastB last (hs ++ ks) = lastB (lastB last hs) ks
  | [], _, _ => rfl
  | h :: hs, ks, last => lastB_app hs ks _
theorem lastB_len : ∀ (hs : List (Nat × Int)) (last : List Int), (lastB last hs).length = last.length
  | [], _ => rfl
  | h :: hs, last => by
    show (lastB (last.set h.1 h.2) hs).length = _
    rw [lastB_len hs, List.length_set]
def headB (n : Nat) (rs : List Rope) (xs : List Int) : List Int := [72, (n : Int), (rs.length : Int)] ++ rs.flatMap ropeB ++ xs.flatMap intG
def bodyB (n : Nat) (rs : List Rope) (xs : List Int) (hs : List (Nat × Int)) : List Int := headB n rs xs ++ gN hs.length ++ haulsB xs hs
def codeB (n : Nat) (rs : List Rope) (xs : List Int) (hs : List (Nat × Int)) : List Int := bodyB n rs xs hs ++ [(bodyB n rs xs hs).sum.fmod 251]
theorem B8_app {a b : List Int} (h1 : B8 a) (h2 : B8 b) : B8 (a ++ b) := fun x hx => (List.mem_append.mp hx).elim (h1 x) (h2 x)
theorem B8_flat {α : Type} {l : List α} {f : α → List Int} (h : ∀ x ∈ l, B8 (f x)) : B8 (l.flatMap f) := fun x hx => by
  obtain ⟨y, hy, hx⟩ := List.mem_flatMap.mp hx
  exact h y hy x hx
theorem haulsB_8 : ∀ {hs : List (Nat × Int)} {last : List Int}, (∀ h ∈ hs, h.1 < 8) → B8 (haulsB last hs)
  | [], _, _ => fun x hx => nomatch hx
  | h :: hs, last, hb => fun x hx => by
    rcases List.mem_cons.mp hx with rfl | hx
    · have := hb h List.mem_cons_self
      omega
    · rcases List.mem_append.mp hx with hx | hx
      · exact intG_8 _ x hx
      · exact haulsB_8 (fun k hk => hb k (List.mem_cons_of_mem _ hk)) x hx
theorem headB_8 {n : Nat} {rs : List Rope} {xs : List Int} (h : WayOk n rs xs) : B8 (headB n rs xs) := by
  have h8 := h.fleet.2.1
  have h40 := h.fleet.2.2.1
  refine B8_app (B8_app (fun x hx => ?_) (B8_flat fun r hr => ?_)) (B8_flat fun x _ => intG_8 x)
  · rcases List.mem_cons.mp hx with rfl | hx
    · omega
    · rcases List.mem_cons.mp hx with rfl | hx
      · omega
      · rw [List.mem_singleton.mp hx]
        omega
  · obtain ⟨a1, a2, a3, a4, _⟩ := h.fleet.2.2.2 r hr
    intro x hx
    rcases List.mem_cons.mp hx with rfl | hx
    · omega
    · rcases List.mem_cons.mp hx with rfl | hx
      · omega
      · exact intG_8 _ x hx
theorem bodyB_8 {n : Nat} {rs : List Rope} {xs : List Int} {hs : List (Nat × Int)} (h : WayOk n rs xs) (hb : ∀ k ∈ hs, k.1 < 8) : B8 (bodyB n rs xs hs) := B8_app (B8_app (headB_8 h) (gN_8 _)) (haulsB_8 hb)
theorem fmod_251 (s : Int) : 0 ≤ s.fmod 251 ∧ s.fmod 251 < 251 := by
  rw [Int.fmod_eq_emod_of_nonneg s (by decide)]
  omega
theorem codeB_8 {n : Nat} {rs : List Rope} {xs : List Int} {hs : List (Nat × Int)} (h : WayOk n rs xs) (hb : ∀ k ∈ hs, k.1 < 8) : B8 (codeB n rs xs hs) := B8_app (bodyB_8 h hb) fun x hx => by
  rw [List.mem_singleton.mp hx]
  have := fmod_251 (bodyB n rs xs hs).sum
  omega
theorem flat_len {α : Type} {f : α → List Int} {k : Nat} : ∀ {l : List α}, (∀ x ∈ l, (f x).length ≤ k) → (l.flatMap f).length ≤ l.length * k
  | [], _ => Nat.zero_le _
  | x :: l, h => by
    have h1 := flat_len (l := l) fun y hy => h y (List.mem_cons_of_mem _ hy)
    have h2 := h x List.mem_cons_self
    rw [List.flatMap_cons, List.length_append, List.length_cons, Nat.succ_mul]
    omega
/-- all steps of the last positions are small -/
def StepsOk : List Int → List (Nat × Int) → Prop
  | _, [] => True
  | last, h :: hs => h.1 < 8 ∧ (h.2 - last.getD h.1 0).natAbs ≤ 100000 ∧ StepsOk (last.set h.1 h.2) hs
theorem haulsB_len : ∀ {hs : List (Nat × Int)} {last : List Int}, StepsOk last hs → (haulsB last hs).length ≤ hs.length * 4
  | [], _, _ => Nat.zero_le _
  | h :: hs, last, ⟨_, h2, h3⟩ => by
    have h4 := haulsB_len h3
    have h5 := intG_len h2
    show ((h.1 : Int) :: (intG _ ++ haulsB _ hs)).length ≤ _
    rw [List.length_cons, List.length_append, List.length_cons]
    omega
theorem headB_len {n : Nat} {rs : List Rope} {xs : List Int} (h : WayOk n rs xs) : (headB n rs xs).length ≤ 300 := by
  have h8 := h.fleet.2.1
  have h40 := h.fleet.2.2.1
  have hl := h.len
  have h1 := flat_len (f := ropeB) (k := 5) (l := rs) fun r hr => by
    obtain ⟨_, _, _, _, _, a6, a7⟩ := h.fleet.2.2.2 r hr
    have := intG_len (d := r.l) (by omega)
    show (intG r.l).length + 1 + 1 ≤ 5
    omega
  have h2 := flat_len (f := intG) (k := 3) (l := xs) fun x hx => intG_len (by have := h.range x hx; omega)
  unfold headB
  rw [List.length_append, List.length_append]
  show 3 + _ + _ ≤ 300
  omega
end Hx

set_option Elab.async false
set_option linter.all false
set_option maxRecDepth 100000
set_option maxHeartbeats 4000000
/-! Hauls one after another (maths). -/
namespace Hx.Mh
open PySem PySem.Spec PyProof.Rows L2 Hx
theorem runD_ge (d : Tab) : ∀ (hs : List (Nat × Int)) (xs : List Int) (i : Nat), i < xs.length → gd xs i ≤ gd (runD d xs hs) i
  | [], _, _, _ => Int.le_refl _
  | h :: hs, xs, i, hi => Int.le_trans (move_ge d xs h.1 h.2 hi) (runD_ge d hs _ i (by rw [moveD_len]; exact hi))
variable {n : Nat} {rs : List Rope} {xs : List Int}
theorem move_src (hl : xs.length = n) {b : Nat} {p : Int} {i : Nat} (hi : i < n) : gd (moveD (chainTab n rs) xs b p) i = gd xs i ∨ ∃ l, chainTab n rs b i = some l ∧ gd (moveD (chainTab n rs) xs b p) i = p - l ∧ gd xs i < p - l := by
  rw [gd_move _ _ _ _ (by rw [hl]; exact hi)]
  cases hd : chainTab n rs b i with
  | none => exact .inl rfl
  | some l =>
    show (if p - l > gd xs i then p - l else gd xs i) = gd xs i ∨ ∃ l', some l = some l' ∧ (if p - l > gd xs i then p - l else gd xs i) = p - l' ∧ gd xs i < p - l'
    by_cases h : p - l > gd xs i
    · rw [if_pos h]
      exact .inr ⟨l, rfl, rfl, h⟩
    · rw [if_neg h]
      exact .inl rfl
theorem move_far (F : Fit n rs) (hl : xs.length = n) (hv : Valid xs rs) {b : Nat} (hb : b < n) {p : Int} (hp : gd xs b ≤ p) {i : Nat} (hi : i < n) : gd (moveD (chainTab n rs) xs b p) i ≤ gd xs i + (p - gd xs b) := by
  rcases move_src (rs := rs) (b := b) (p := p) hl hi with e | ⟨l, hd, e, _⟩
  · omega
  · have : gd xs b - gd xs i ≤ l := sound_chain (n := n) (x := gd xs) (fun r hr => hv r hr) _ _ _ hd
    omega
theorem run_app (d : Tab) : ∀ (hs ks : List (Nat × Int)) (xs : List Int), runD d xs (hs ++ ks) = runD d (runD d xs hs) ks
  | [], _, _ => rfl
  | h :: hs, ks, xs => run_app d hs ks (moveD d xs h.1 h.2)
theorem hauls_app (d : Tab) : ∀ (hs ks : List (Nat × Int)) (xs : List Int), HaulsOk d xs hs → HaulsOk d (runD d xs hs) ks → HaulsOk d xs (hs ++ ks)
  | [], _, _, _, h => h
  | g :: hs, ks, xs, ⟨a, b, c, r⟩, k => ⟨a, b, c, hauls_app d hs ks _ r k⟩
theorem gd_range {zs : List Int} {n : Nat} (hl : zs.length = n) (h : ∀ i, i < n → -9999 ≤ gd zs i ∧ gd zs i ≤ 9999) : InRange zs := fun x hx => by
  obtain ⟨i, hi, e⟩ := List.getElem_of_mem hx
  have h1 := h i (by omega)
  have e0 : gd zs i = x := by
    unfold gd
    rw [List.getD_eq_getElem?_getD, List.getElem?_eq_getElem hi, e]
    rfl
  omega
theorem range_gd {zs : List Int} {n : Nat} (hl : zs.length = n) (h : InRange zs) {i : Nat} (hi : i < n) : -9999 ≤ gd zs i ∧ gd zs i ≤ 9999 := by
  have : gd zs i = zs[i]'(by omega) := by
    unfold gd
    rw [List.getD_eq_getElem?_getD, List.getElem?_eq_getElem (by omega)]
    rfl
  rw [this]
  exact h _ (List.getElem_mem _)
theorem steps_ok : ∀ {hs : List (Nat × Int)} {last : List Int}, (∀ x ∈ last, x.natAbs ≤ 9999) → (∀ h ∈ hs, h.1 < 8 ∧ -9999 ≤ h.2 ∧ h.2 ≤ 9999) → StepsOk last hs
  | [], _, _, _ => trivial
  | h :: hs, last, hl, hh => by
    obtain ⟨h1, h2, h3⟩ := hh h List.mem_cons_self
    have hg : (last.getD h.1 0).natAbs ≤ 9999 := by
      rw [List.getD_eq_getElem?_getD]
      cases e : last[h.1]? with
      | none => exact Nat.zero_le _
      | some x => exact hl x (List.mem_of_getElem? e)
    refine ⟨h1, by omega, steps_ok (fun x hx => ?_) fun k hk => hh k (List.mem_cons_of_mem _ hk)⟩
    rcases List.mem_or_eq_of_mem_set hx with z | z
    · exact hl x z
    · rw [z]
      omega
end Hx.Mh

set_option Elab.async false
set_option linter.all false
set_option maxRecDepth 100000
set_option maxHeartbeats 4000000
/-! Texts of rows of words (maths). -/
namespace Hx
open PySem PySem.Spec PyProof.Rows L2 TL
/-- the text of a number -/
def numT (i : Int) : Str := Str.ofString (toString i)
theorem numT_nat (n : Nat) : tl (numT (n : Int)) = numL n := tl_num n
theorem numT_neg {i : Int} (h : i < 0) : tl (numT i) = 45 :: numL (-i).toNat := by
  unfold numT
  have e : (0 : Int) - i = (((-i).toNat : Nat) : Int) := by omega
  rw [toString_neg h, tl_ofString, String.toList_append, List.map_append, e]
  show [45] ++ List.map Char.toNat (toString (((-i).toNat : Nat) : Int)).toList = _
  rw [← tl_ofString, tl_num]
  rfl
theorem numT_free {i : Int} {s : Nat} (h : s ≠ 45 ∧ (s < 48 ∨ 57 < s)) : s ∉ tl (numT i) := int_text_free' s h i
theorem numT_cases (i : Int) : tl (numT i) = numL i.natAbs ∧ 0 ≤ i ∨ tl (numT i) = 45 :: numL i.natAbs ∧ i < 0 := by
  by_cases h : i < 0
  · refine .inr ⟨?_, h⟩
    rw [numT_neg h]
    have : (-i).toNat = i.natAbs := by omega
    rw [this]
  · refine .inl ⟨?_, by omega⟩
    have e : i = ((i.natAbs : Nat) : Int) := by omega
    rw [e, numT_nat]
    rfl
theorem numT_len {i : Int} {k : Nat} (hk : 0 < k) (h : i.natAbs < 10 ^ k) : (numT i).length ≤ k + 1 := by
  have h1 := numL_len hk h
  rw [len_tl]
  rcases numT_cases i with ⟨e, _⟩ | ⟨e, _⟩
  · rw [e]
    omega
  · rw [e, List.length_cons]
    omega
def sp1 : Str := " "
def nl1 : Str := "\n"
theorem tl_sp : tl sp1 = [32] := by decide +kernel
theorem tl_nl : tl nl1 = [10] := by decide +kernel
theorem sp_len : sp1.length = 1 := by rw [len_tl, tl_sp]; rfl
theorem nl_len : nl1.length = 1 := by rw [len_tl, tl_nl]; rfl
/-- the row of a word and numbers -/
def rowT (w : Str) (ns : List Int) : Str := Txt.join sp1 (w :: ns.map numT)
theorem row_words {w : Str} {ns : List Int} (hw : 32 ∉ tl w) : Txt.split (rowT w ns) sp1 = w :: ns.map numT := by
  refine split_join tl_sp (by decide +kernel) (by simp) fun p hp => ?_
  rcases List.mem_cons.mp hp with rfl | hp
  · exact hw
  · obtain ⟨i, _, rfl⟩ := List.mem_map.mp hp
    exact numT_free (by decide)
theorem join_mem {y : List Nat} {s : Nat} : ∀ {ps : List (List Nat)}, s ∉ y → (∀ p ∈ ps, s ∉ p) → s ∉ joinL y ps
  | [], _, _ => List.not_mem_nil
  | [p], _, h => h p List.mem_cons_self
  | p :: q :: r, hy, h => by
    show s ∉ p ++ (y ++ joinL y (q :: r))
    intro hm
    rcases List.mem_append.mp hm with hm | hm
    · exact h p List.mem_cons_self hm
    · rcases List.mem_append.mp hm with hm | hm
      · exact hy hm
      · exact join_mem hy (fun z hz => h z (List.mem_cons_of_mem _ hz)) hm
theorem row_nl {w : Str} {ns : List Int} (hw : 10 ∉ tl w) : 10 ∉ tl (rowT w ns) := by
  unfold rowT
  rw [join_eq, tl_join, tl_sp]
  refine join_mem (by decide) fun p hp => ?_
  rw [List.map_cons] at hp
  rcases List.mem_cons.mp hp with rfl | hp
  · exact hw
  · obtain ⟨z, hz, rfl⟩ := List.mem_map.mp hp
    obtain ⟨i, _, rfl⟩ := List.mem_map.mp hz
    exact numT_free (by decide)
theorem rows_split {rows : List Str} (hne : rows ≠ []) (h : ∀ r ∈ rows, 10 ∉ tl r) : Txt.split (Txt.join nl1 rows) nl1 = rows := split_join tl_nl (by decide +kernel) hne h
theorem join_len (y : Str) (ps : List Str) {k : Nat} (h : ∀ p ∈ ps, p.length ≤ k) : (Txt.join y ps).length ≤ ps.length * (k + y.length) := by
  rw [join_eq]
  have h1 := StrLaws.join_length_le y ps
  have h2 : (ps.map (·.length)).sum ≤ ps.length * k := by
    induction ps with
    | nil => exact Nat.zero_le _
    | cons p ps ih =>
      have := ih (fun q hq => h q (List.mem_cons_of_mem _ hq)) (StrLaws.join_length_le y ps)
      have := h p List.mem_cons_self
      rw [List.map_cons, List.sum_cons, List.length_cons, Nat.succ_mul]
      omega
  rw [Nat.mul_add]
  omega
theorem sum_len : ∀ (ps : List Str) {k : Nat}, (∀ p ∈ ps, p.length ≤ k) → (ps.map (·.length)).sum ≤ ps.length * k
  | [], _, _ => Nat.zero_le _
  | p :: ps, k, h => by
    have h1 := sum_len ps (k := k) fun q hq => h q (List.mem_cons_of_mem _ hq)
    have h2 := h p List.mem_cons_self
    rw [List.map_cons, List.sum_cons, List.length_cons, Nat.succ_mul]
    omega
theorem log_small {n : Nat} (h : n < 10 ^ 9) : n.log2 < 1920 := by
  by_cases h0 : n = 0
  · rw [h0]
    decide
  · exact (Nat.log2_lt h0).mpr (Nat.lt_of_lt_of_le h (by decide +kernel))
/-! whether a word is a number -/
def dash1 : Str := "-"
def zero1 : Str := "0"
theorem tl_dash : tl dash1 = [45] := by decide +kernel
theorem tl_zero : tl zero1 = [48] := by decide +kernel
def readI (w : Str) : Option Int :=
  if (decide (4 < (Txt.removeprefix w dash1).length) || !Txt.isascii (Txt.removeprefix w dash1) || !Txt.isdigit (Txt.removeprefix w dash1)) = true then none
  else if (tl (Txt.removeprefix w dash1)).head? = some 48 ∧ w ≠ zero1 then none else intText? w
theorem sub_pre (x y : Str) : Builtin.Str.subAt x y 0 = ((tl x).take (tl y).length == tl y) := by
  rw [StrLaws.subAt_eq, List.drop_zero, len_tl]
def cutD : List Nat → List Nat
  | 45 :: r => r
  | l => l
theorem tl_rem (w : Str) : tl (Txt.removeprefix w dash1) = cutD (tl w) := by
  unfold Txt.removeprefix
  rw [sub_pre, tl_dash]
  cases hw : tl w with
  | nil =>
    rw [show (List.take [45].length ([] : List Nat) == [45]) = false from rfl]
    exact hw
  | cons c r =>
    by_cases h : c = 45
    · subst h
      rw [show (List.take [45].length (45 :: r) == [45]) = true from rfl, if_pos rfl]
      have hl : w.length = r.length + 1 := by rw [len_tl, hw]; rfl
      have hd : dash1.length = 1 := by rw [len_tl, tl_dash]; rfl
      show tl (if w.length - dash1.length == w.length then w else Builtin.Str.strSub w dash1.length w.length) = r
      rw [if_neg (by rw [hl, hd]; simp), hd, tl_strSub_end, hw]
      rfl
    · have e : (List.take [45].length (c :: r) == [45]) = false := by
        show ([c] == [45]) = false
        simp [h]
      rw [e]
      show tl w = cutD (c :: r)
      rw [hw]
      unfold cutD
      split
      · rename_i z
        injection z with z
        exact absurd z h
      · rfl
theorem digit_lo : ∀ c : Nat, c < 128 → Unicode.isDigit c = true → 48 ≤ c ∧ c ≤ 57 := by decide +kernel
theorem digit_hi : ∀ c : Nat, c < 58 → 48 ≤ c → Unicode.isDigit c = true := by decide +kernel
theorem all_tl (x : Str) (p : Nat → Bool) : x.cps.all p = (tl x).all p := by
  show x.cps.all p = x.cps.toList.all p
  rw [Array.all_toList]
theorem isdigit_tl (x : Str) : Txt.isdigit x = (decide (0 < (tl x).length) && (tl x).all Unicode.isDigit) := by
  unfold Txt.isdigit
  rw [all_tl, len_tl]
theorem isascii_tl (x : Str) : Txt.isascii x = (tl x).all fun c => decide (c < 128) := by
  unfold Txt.isascii
  rw [all_tl]
theorem cut_digits {l : List Nat} (h : NumText.AllDigits l) : cutD l = l := by
  unfold cutD
  split
  · have := (h 45 List.mem_cons_self).1
    omega
  · rfl
theorem numL_head : ∀ n : Nat, (numL n).head? = some 48 → n = 0 := by
  intro n
  induction n using Nat.strongRecOn with
  | _ n ih =>
    intro h
    by_cases hn : n < 10
    · rw [numL_lt hn] at h
      have h : 48 + n = 48 := Option.some.inj h
      omega
    · rw [numL_step (by omega)] at h
      have h2 : (numL (n / 10)).head? = some 48 := by
        cases hx : numL (n / 10) with
        | nil => exact absurd hx (numL_ne _)
        | cons c r =>
          rw [hx] at h
          exact h
      have := ih (n / 10) (by omega) h2
      omega
theorem rem_num (i : Int) : tl (Txt.removeprefix (numT i) dash1) = numL i.natAbs := by
  rw [tl_rem]
  rcases numT_cases i with ⟨e, _⟩ | ⟨e, _⟩
  · rw [e]
    exact cut_digits (numL_digits _)
  · rw [e]
    rfl
theorem int_numT {i : Int} (h : i.natAbs < 10 ^ 300) : intText? (numT i) = some i := by
  have hl := numL_len (k := 300) (by decide) h
  rcases numT_cases i with ⟨e, h0⟩ | ⟨e, h0⟩
  · have ei : i = ((i.natAbs : Nat) : Int) := by omega
    have := int_num (n := i.natAbs) (by omega)
    rw [← ei] at this
    exact this
  · have := intText_neg (x := numT i) (cs := numL i.natAbs) e (numL_digits _) (numL_ne _) (by rw [len_tl, e, List.length_cons]; omega)
    rw [this, numL_val]
    congr 1
    omega
theorem readI_num {i : Int} (h1 : -9999 ≤ i) (h2 : i ≤ 9999) : readI (numT i) = some i := by
  have hl : (numL i.natAbs).length ≤ 4 := numL_len (by decide) (by omega)
  have hp : 0 < (numL i.natAbs).length := List.length_pos_iff.mpr (numL_ne _)
  unfold readI
  have c1 : decide (4 < (Txt.removeprefix (numT i) dash1).length) = false := decide_eq_false (by rw [len_tl, rem_num]; omega)
  have c2 : Txt.isascii (Txt.removeprefix (numT i) dash1) = true := by
    rw [isascii_tl, rem_num]
    exact List.all_eq_true.mpr fun c hc => decide_eq_true (by have := numL_digits _ c hc; omega)
  have c3 : Txt.isdigit (Txt.removeprefix (numT i) dash1) = true := by
    rw [isdigit_tl, rem_num, decide_eq_true hp, Bool.true_and]
    exact List.all_eq_true.mpr fun c hc => digit_hi c (by have := numL_digits _ c hc; omega) (numL_digits _ c hc).1
  rw [c1, c2, c3, if_neg (by decide), if_neg, int_numT (by omega)]
  rintro ⟨h3, h4⟩
  rw [rem_num] at h3
  have hz := numL_head _ h3
  have hi : i = 0 := by omega
  rw [hi] at h4
  exact h4 (by decide +kernel)
/-- what is read is read by int -/
theorem readI_int {w : Str} (h1 : (decide (4 < (Txt.removeprefix w dash1).length) || !Txt.isascii (Txt.removeprefix w dash1) || !Txt.isdigit (Txt.removeprefix w dash1)) = false) : ∃ n, intText? w = some n ∧ w.length ≤ 640 := by
  rw [Bool.or_eq_false_iff, Bool.or_eq_false_iff, Bool.not_eq_false', Bool.not_eq_false', isascii_tl, isdigit_tl, Bool.and_eq_true, decide_eq_true_iff] at h1
  obtain ⟨⟨a1, a2⟩, a3, a4⟩ := h1
  have a1 := of_decide_eq_false a1
  rw [len_tl] at a1
  rw [tl_rem] at a1 a2 a3 a4
  have hd : NumText.AllDigits (cutD (tl w)) := fun c hc => digit_lo c (of_decide_eq_true (List.all_eq_true.mp a2 c hc)) (List.all_eq_true.mp a4 c hc)
  have hne : cutD (tl w) ≠ [] := fun z => by rw [z] at a3; exact absurd a3 (Nat.lt_irrefl 0)
  by_cases hm : ∃ r, tl w = 45 :: r
  · obtain ⟨r, hr⟩ := hm
    have ec : cutD (tl w) = r := by rw [hr]; rfl
    rw [ec] at hd hne a1
    have hl : w.length = r.length + 1 := by rw [len_tl, hr]; rfl
    exact ⟨_, intText_neg (x := w) (cs := r) hr hd hne (by omega), by omega⟩
  · have ec : cutD (tl w) = tl w := by
      unfold cutD
      split
      · rename_i r z
        exact absurd ⟨r, z⟩ hm
      · rfl
    rw [ec] at hd hne a1
    have hl := len_tl w
    exact ⟨_, intText_digits (x := w) hd hne (by omega), by omega⟩
end Hx

set_option Elab.async false
set_option linter.all false
set_option maxRecDepth 100000
set_option maxHeartbeats 4000000
namespace Hx
open PySem PySem.Spec PyProof.Rows L2
local macro_rules | `(tactic| walk_at "rd") => `(tactic| (try simp only [q_var, q_c, q_op, q_un, q_rI, q_rI0, q_rU, q_rEq, q_rNe, q_test, q_tB, q_and, q_or, q_not, q_andV, q_orV, q_notV, q_if, q_isN, q_notN, q_chain, q_next, q_seq, q_break, q_cont, q_drop, q_ret, q_retN, q_ifS, q_never, q_gN, q_gNil, q_gCons, q_gTup, q_gSub, q_asg, q_par, q_aug, q_nil, q_cons, q_tup, q_lst, q_call, q_cb, q_noPart, q_part, q_sl, q_bm0, q_bm, q_yes, q_for, q_lc, q_iList, q_iTup, q_iRng1, q_iEnumT, q_iEnum, q_iRng2, q_iZipA, q_iZipM, q_ipI, q_ckw, q_len, q_listOf, q_tupleOf, L2.start, cx_K, wipe, List.map_cons, List.map_nil, List.length_cons, List.length_nil, List.cons_append, List.nil_append, List.append_nil, List.replicate, List.getElem?_cons_zero, List.getElem?_cons_succ, List.set_cons_zero, List.set_cons_succ, Option.some.injEq, List.cons.injEq, exists_eq_left', exists_eq_left, exists_and_left, V.int.injEq, V.bl.injEq, V.ref.injEq, if_true, if_false, Bool.not_true, Bool.not_false, true_and, and_true, Bool.false_eq_true, ite_true, ite_false, Nat.reduceAdd, Nat.reduceSub, reduceCtorEq, decide_false, decide_true, Int.toNat_natCast, false_and, exists_false, or_false, false_or]))
section
variable {P : Program} {w : World} {K : PySem.W.Frag} {mg : Str → Option Value} {base : Heap}
/-- places under which all ropes hold -/
structure Pl (n : Nat) (rs : List Rope) (pl : Nat → Int) : Prop where
  lo : ∀ i, 0 ≤ pl i
  hi : ∀ i, pl i ≤ 88
  holds : ∀ r ∈ rs, HoldsR pl r
theorem Pl.up {n : Nat} {rs : List Rope} {pl : Nat → Int} (h : Pl n rs pl) (M : Int) : ∀ r ∈ rs, HoldsR (fun i => pl i + M) r := fun r hr => by
  have := h.holds r hr
  unfold HoldsR at this ⊢
  show pl _ + M - (pl _ + M) ≤ _
  omega
theorem FleetV.but {H H' : Hp} {a : Addr} {ys : List V} {v : V} {n : Int} {rs : List Rope} (h : FleetV K H v n rs) (e : But a H H') (ha : H a = some (.lst ys)) : FleetV K H' v n rs := by
  obtain ⟨x, b, xs, rfl, h1, h2, hl, hx⟩ := h
  refine ⟨x, b, xs, rfl, sqt_but e ha h1, sqt_but e ha h2, hl, fun i r hr => ?_⟩
  obtain ⟨u, hu, hv⟩ := hx i r hr
  exact ⟨u, hu, hv.but e ha⟩
theorem IntsT.but {H H' : Hp} {a : Addr} {ys : List V} {v : V} {xs : List Int} (h : IntsT K H v xs) (e : But a H H') (ha : H a = some (.lst ys)) : IntsT K H' v xs := by
  obtain ⟨c, rfl, h⟩ := h
  exact ⟨c, rfl, sqt_but e ha h⟩
theorem OptsT.but {H H' : Hp} {a : Addr} {ys : List V} {v : V} {xs : List (Option Int)} (h : OptsT K H v xs) (e : But a H H') (ha : H a = some (.lst ys)) : OptsT K H' v xs := by
  obtain ⟨c, rfl, h⟩ := h
  exact ⟨c, rfl, sqt_but e ha h⟩
def s_law_positions : Stmt := topS 62
abbrev n_law_positions : List Str := ["_law_row", "_law_fleet_here", "_law_least", "_law_most", "_law_wishes", "_law_place"]
abbrev p_law_positions : List Str := ["_law_row", "_law_fleet_here", "_law_least"]
theorem sc_law_positions : FnScope n_law_positions p_law_positions (defScope s_law_positions) := ⟨rfl, rfl, rfl, by decide +kernel, rfl, by decide +kernel, by decide +kernel⟩
def sp_law_positions (K : PySem.W.Frag) : Sp := fun vs H Q _ => ∃ (a sc : Addr) (ns : List Int) (v : V) (l : Addr) (n : Nat) (rs : List Rope) (pl : Nat → Int) (ls : List Int) (lo hi : Int), vs = [.ref a, v, .ref l] ∧ RowAt K H a sc ns ∧ FleetV K H v n rs ∧ FleetOk n rs ∧ Pl n rs pl ∧
  H l = some (.lst (ls.map V.int)) ∧ ls.length = n ∧ (∀ x ∈ ls, lo ≤ x ∧ x ≤ hi) ∧
  ∀ H' r xs, RowAt K H' a sc ns → But a H H' → IntsT K H' r xs → xs.length = n → Valid xs rs → (∀ i, i < n → lo ≤ gd xs i ∧ gd xs i ≤ pl i + (hi + 199)) → Q r H'
theorem df_law_positions (T : Here K mg "_law_positions" s_law_positions) (B : Blt mg) (D_law_taken : Df P w K mg base CX0 "_law_taken" 1 p_law_taken (sp_law_taken K)) (D_law_settled : Df P w K mg base CX0 "_law_settled" 1 p_law_settled (sp_law_settled K)) :
    Df P w K mg base CX0 "_law_positions" 2 p_law_positions (sp_law_positions K) := by
  refine T.df sc_law_positions (fun _ _ _ _ _ _ us hl => match us, hl with | [_, _, _], _ => rfl) (fun vs H Q E h => by obtain ⟨_, _, _, _, _, _, _, _, _, _, _, rfl, _⟩ := h; rfl) (fun f cdv A outer s H vs Q E hr h => ?_)
  obtain ⟨a, sc, ns, v, l, n, rs, pl, ls, lo, hi, rfl, hrow, hv, hok, hpl, hL, hn, hb, q⟩ := h
  refine ⟨_, pss_cons (ps_set (i := 3) sc_law_positions.nd rfl (by first | exact Or.inl rfl | exact Or.inr rfl) (pe_ix (ixL K rfl) (pe_lst (pa_cons (pe_int) (pa_cons (pe_int) (pa_cons (pe_int) pa_nil)))) (D_law_taken.call (hr.mono (by decide)) (by rfl) (pa_cons (pv 0) (pa_cons (pe_int) pa_nil))) (fun _ _ => rfl)))
      (pss_cons (ps_setLc (i := 4) (own := [("_law_place", 5)]) rfl sc_law_positions.nd rfl rfl (sw_true rfl rfl rfl (by decide +kernel)) (piList K rfl (pv 2)) (blkOk_by (N := n_law_positions) (sc := defScope s_law_positions) (by decide +kernel)) (fun _ _ _ _ _ => pg_name (i := 5) sc_law_positions.nd rfl (by first | exact Or.inl rfl | exact Or.inr rfl)) (fun _ _ _ _ _ => pts_nil) (fun _ _ _ _ _ => pe_op op_add (pv 5) (pe_ix (ixL K rfl) (pe_lst (pa_cons (pe_int) (pa_cons (pe_int) (pa_cons (D_law_taken.call (hr.mono (by decide)) (by rfl) (pa_cons (pv 0) (pa_cons (pe_int) pa_nil))) (pa_cons (D_law_taken.call (hr.mono (by decide)) (by rfl) (pa_cons (pv 0) (pa_cons (pv 3) pa_nil))) pa_nil))))) (D_law_taken.call (hr.mono (by decide)) (by rfl) (pa_cons (pv 0) (pa_cons (pe_int) pa_nil))) (fun _ _ => rfl))))
      (pss_one (ps_ret (D_law_settled.call (hr.mono (by decide)) (by rfl) (pa_cons (pv 1) (pa_cons (pv 4) pa_nil)))))), ?_⟩
  have hz : 100 ≤ sizeLine := by decide
  have n8 : n ≤ 8 := by have := hok.2.1; omega
  have nla : l ≠ a := fun e => by
    obtain ⟨i, z, k, h1, _⟩ := hrow
    rw [e, h1] at hL
    have e := HO.lst.inj (Option.some.inj hL)
    cases ls with
    | nil => cases e
    | cons x r => cases e
  walk_at "rd"
  refine ⟨by show 3 ≤ sizeLine; omega, fun l1 hl1 => ?_⟩
  have s1 := same_upd (o := .lst [.int 25, .int 25, .int 200]) hl1
  have n1 := hrow.ne hl1
  refine ⟨a, sc, ns, 3, rfl, hrow.mono s1, by omega, by omega, fun r1 H1 h10 h11 row1 b1 => ?_⟩
  have h1 := b1 _ _ n1 (upd_same (H := H) (a := l1) (o := .lst [.int 25, .int 25, .int 200]))
  have b1 := (same_but s1).trans b1
  obtain ⟨mo, hmo, hmo2⟩ : ∃ mo : Int, atI [V.int 25, .int 25, .int 200] r1 = some (.int mo) ∧ 25 ≤ mo ∧ mo ≤ 200 := by
    have : r1 = 0 ∨ r1 = 1 ∨ r1 = 2 := by omega
    rcases this with rfl | rfl | rfl
    · exact ⟨25, rfl, by omega, by omega⟩
    · exact ⟨25, rfl, by omega, by omega⟩
    · exact ⟨200, rfl, by omega, by omega⟩
  refine ⟨l1, _, r1, .int mo, rfl, rfl, .of h1, hmo, ?_⟩
  have hL1 := b1 _ _ nla hL
  walk_at "rd"
  refine ⟨⟨_, .of hL1⟩, fun D hD => ?_⟩
  have nDa := row1.ne hD
  have nDl : l ≠ D := ne_of_none hL1 hD
  refine lcList (xs := ls.map V.int) (fun i H' => ∃ ws : List Int, ws.length = i ∧ H' D = some (.lst (ws.map V.int)) ∧ RowAt K H' a sc ns ∧ But a H1 H' ∧ ∀ x ∈ ws, lo ≤ x ∧ x ≤ hi + 199)
    ⟨[], rfl, upd_same, row1.mono (same_upd hD), same_but (same_upd hD), fun x h => (by cases h)⟩ (fun i H' _ hPv => ?_) (fun i x H' hx' hPv => ?_) (fun H3 hPv => ?_)
  · obtain ⟨_, _, _, _, e4, _⟩ := hPv
    exact .of (e4 _ _ nla hL1)
  · obtain ⟨ws, e1, e2, e3, e4, e5⟩ := hPv
    obtain ⟨hi', rfl⟩ := ints_at hx'
    have hx : lo ≤ ls.getD i 0 ∧ ls.getD i 0 ≤ hi := by
      rw [List.getD_eq_getElem?_getD, List.getElem?_eq_getElem hi']
      exact hb _ (List.getElem_mem hi')
    generalize ls.getD i 0 = pc at hx
    walk_at "rd"
    refine ⟨a, sc, ns, 4, rfl, e3, by omega, by omega, fun c1 H4 c10 c11 row4 b4 => ?_⟩
    have e2 := b4 _ _ nDa e2
    have e4 := e4.trans b4
    walk_at "rd"
    refine ⟨a, sc, ns, mo, rfl, row4, by omega, by omega, fun c2 H5 c20 c21 row5 b5 => ?_⟩
    have e2 := b5 _ _ nDa e2
    have e4 := e4.trans b5
    walk_at "rd"
    refine ⟨by show 4 ≤ sizeLine; omega, fun l2 hl2 => ?_⟩
    have s2 := same_upd (o := .lst [.int 0, .int 0, .int c1, .int c2]) hl2
    have e2 := s2 _ _ e2
    have e4 := e4.trans (same_but s2)
    have n2 := row5.ne hl2
    refine ⟨a, sc, ns, 4, rfl, row5.mono s2, by omega, by omega, fun c3 H6 c30 c31 row6 b6 => ?_⟩
    have e2 := b6 _ _ nDa e2
    have e4 := e4.trans b6
    have h2 := b6 _ _ n2 (upd_same (H := H5) (a := l2) (o := .lst [.int 0, .int 0, .int c1, .int c2]))
    obtain ⟨ad, had, had2⟩ : ∃ ad : Int, atI [V.int 0, .int 0, .int c1, .int c2] c3 = some (.int ad) ∧ 0 ≤ ad ∧ ad ≤ 199 := by
      have : c3 = 0 ∨ c3 = 1 ∨ c3 = 2 ∨ c3 = 3 := by omega
      rcases this with rfl | rfl | rfl | rfl
      · exact ⟨0, rfl, by omega, by omega⟩
      · exact ⟨0, rfl, by omega, by omega⟩
      · exact ⟨c1, rfl, by omega, by omega⟩
      · exact ⟨c2, rfl, by omega, by omega⟩
    refine ⟨l2, _, c3, .int ad, rfl, rfl, .of h2, had, ?_⟩
    walk_at "rd"
    refine ⟨_, e2, by rw [List.length_map, e1]; omega, ws ++ [pc + ad], ?_, ?_, ?_, ?_, ?_⟩
    · rw [List.length_append, e1]
      rfl
    · rw [upd_same, List.map_append]
      rfl
    · exact row1.put hD e4 row6
    · exact e4.put hD
    · intro x hx2
      rcases List.mem_append.mp hx2 with hx2 | hx2
      · exact e5 x hx2
      · cases List.mem_singleton.mp hx2
        omega
  · obtain ⟨ws, e1, e2, row3, e4, e5⟩ := hPv
    rw [List.length_map] at e1
    have b3 := b1.trans e4
    obtain ⟨ys, hys⟩ := hrow.lst
    have hwn : ws.length = n := by omega
    obtain ⟨g1, g2, g3⟩ := settle_spec hok.2.2.2 hpl.holds hwn
    walk_at "rd"
    refine ⟨v, .ref D, n, rs, ws, rfl, hv.but b3 hys, hok.2.2.2, n8, ⟨D, rfl, .inl (.of e2)⟩, hwn, fun _ H4 p s4 hp4 hp => ?_, fun hnv => absurd g1 hnv⟩
    have hws : ∀ i, i < n → lo ≤ gd ws i ∧ gd ws i ≤ hi + 199 := fun i hi' => by
      unfold gd
      rw [List.getD_eq_getElem?_getD, List.getElem?_eq_getElem (by omega)]
      exact e5 _ (List.getElem_mem _)
    refine q H4 (.ref p) _ (row3.mono s4) (b3.trans (same_but s4)) ⟨p, rfl, .of hp⟩ (by rw [settleN_len]; exact hwn) g1 fun i hi' => ⟨Int.le_trans (hws i hi').1 (g2 i hi'), ?_⟩
    exact g3 (fun i => pl i + (hi + 199)) (hpl.up _) (fun i hi2 => by
      have := hws i hi2
      have := hpl.lo i
      show gd ws i ≤ pl i + (hi + 199)
      omega) i hi'
def s_law_start : Stmt := topS 63
abbrev n_law_start : List Str := ["_law_row", "_law_fleet_here", "_law_barge"]
abbrev p_law_start : List Str := ["_law_row", "_law_fleet_here"]
theorem sc_law_start : FnScope n_law_start p_law_start (defScope s_law_start) := ⟨rfl, rfl, rfl, by decide +kernel, rfl, by decide +kernel, by decide +kernel⟩
def sp_law_start (K : PySem.W.Frag) : Sp := fun vs H Q _ => ∃ (a sc : Addr) (ns : List Int) (v : V) (n : Nat) (rs : List Rope) (pl : Nat → Int), vs = [.ref a, v] ∧ RowAt K H a sc ns ∧ FleetV K H v n rs ∧ FleetOk n rs ∧ Pl n rs pl ∧
  ∀ H' r xs, RowAt K H' a sc ns → But a H H' → IntsT K H' r xs → xs.length = n → Valid xs rs → (∀ i, i < n → -4 ≤ gd xs i ∧ gd xs i ≤ pl i + 203) → Q r H'
theorem df_law_start (T : Here K mg "_law_start" s_law_start) (B : Blt mg) (D_law_taken : Df P w K mg base CX0 "_law_taken" 1 p_law_taken (sp_law_taken K)) (D_law_positions : Df P w K mg base CX0 "_law_positions" 2 p_law_positions (sp_law_positions K)) :
    Df P w K mg base CX0 "_law_start" 3 p_law_start (sp_law_start K) := by
  refine T.df sc_law_start (fun _ _ _ _ _ _ us hl => match us, hl with | [_, _], _ => rfl) (fun vs H Q E h => by obtain ⟨_, _, _, _, _, _, _, rfl, _⟩ := h; rfl) (fun f cdv A outer s H vs Q E hr h => ?_)
  obtain ⟨a, sc, ns, v, n, rs, pl, rfl, hrow, hv, hok, hpl, q⟩ := h
  refine ⟨_, pss_one (ps_ret (D_law_positions.call (hr.mono (by decide)) (by rfl) (pa_cons (pv 0) (pa_cons (pv 1) (pa_cons (pe_lc (own := [("_law_barge", 2)]) rfl sc_law_start.nd (pi_range1 (by rfl) B.range (pa_cons (pe_ix (ixT K rfl) (pv 1) (pe_int) (fun _ _ => rfl)) pa_nil)) (blkOk_by (N := n_law_start) (sc := defScope s_law_start) (by decide +kernel)) (fun _ _ _ _ _ => pg_name (i := 2) sc_law_start.nd rfl (by first | exact Or.inl rfl | exact Or.inr rfl)) (fun _ _ _ _ _ => pts_nil) (fun _ _ _ _ _ => pe_op op_sub (D_law_taken.call (hr.mono (by decide)) (by rfl) (pa_cons (pv 0) (pa_cons (pe_int) pa_nil))) (pe_int))) pa_nil))))), ?_⟩
  have hz : 100 ≤ sizeLine := by decide
  have n8 : n ≤ 8 := by have := hok.2.1; omega
  obtain ⟨x, b, xs, rfl, hx, hx2⟩ := id hv
  walk_at "rd"
  refine ⟨x, _, 0, _, rfl, rfl, hx, atI_nat (j := 0) rfl, ?_⟩
  walk_at "rd"
  refine ⟨by omega, by omega, fun D hD => ?_⟩
  have nDa := hrow.ne hD
  refine lcRange (fun i H' => ∃ ws : List Int, ws.length = i ∧ H' D = some (.lst (ws.map V.int)) ∧ RowAt K H' a sc ns ∧ But a H H' ∧ ∀ x ∈ ws, -4 ≤ x ∧ x ≤ 4)
    ⟨[], rfl, upd_same, hrow.mono (same_upd hD), same_but (same_upd hD), fun x h => (by cases h)⟩ (fun i H' hi' hPv => ?_) (fun H3 hPv => ?_)
  · obtain ⟨ws, e1, e2, e3, e4, e5⟩ := hPv
    walk_at "rd"
    refine ⟨a, sc, ns, 9, rfl, e3, by omega, by omega, fun c1 H4 c10 c11 row4 b4 => ?_⟩
    have e2 := b4 _ _ nDa e2
    have e4 := e4.trans b4
    walk_at "rd"
    refine ⟨_, e2, by rw [List.length_map, e1]; omega, ws ++ [c1 - 4], ?_, ?_, ?_, ?_, ?_⟩
    · rw [List.length_append, e1]
      rfl
    · rw [upd_same, List.map_append]
      rfl
    · exact hrow.put hD e4 row4
    · exact e4.put hD
    · intro x hx2
      rcases List.mem_append.mp hx2 with hx2 | hx2
      · exact e5 x hx2
      · cases List.mem_singleton.mp hx2
        omega
  · obtain ⟨ws, e1, e2, e3, e4, e5⟩ := hPv
    obtain ⟨ys, hys⟩ := hrow.lst
    refine ⟨a, sc, ns, .ref x, D, n, rs, pl, ws, -4, 4, rfl, e3, hv.but e4 hys, hok, hpl, e2, e1, e5, fun H5 r ys r5 b5 i5 l5 v5 k5 => q H5 r ys r5 (e4.trans b5) i5 l5 v5 fun i hi => ⟨(k5 i hi).1, ?_⟩⟩
    have := (k5 i hi).2
    omega
end
end Hx

set_option Elab.async false
set_option linter.all false
set_option maxRecDepth 100000
set_option maxHeartbeats 4000000
namespace Hx
open PySem PySem.Spec PyProof.Rows L2
local macro_rules | `(tactic| walk_at "rd") => `(tactic| (try simp only [q_var, q_c, q_op, q_un, q_rI, q_rI0, q_rU, q_rEq, q_rNe, q_test, q_tB, q_and, q_or, q_not, q_andV, q_orV, q_notV, q_if, q_isN, q_notN, q_chain, q_next, q_seq, q_break, q_cont, q_drop, q_ret, q_retN, q_ifS, q_never, q_gN, q_gNil, q_gCons, q_gTup, q_gSub, q_asg, q_par, q_aug, q_nil, q_cons, q_tup, q_lst, q_call, q_cb, q_noPart, q_part, q_sl, q_bm0, q_bm, q_yes, q_for, q_lc, q_iList, q_iTup, q_iRng1, q_iEnumT, q_iEnum, q_iRng2, q_iZipA, q_iZipM, q_ipI, q_ckw, q_len, q_listOf, q_tupleOf, L2.start, cx_K, wipe, List.map_cons, List.map_nil, List.length_cons, List.length_nil, List.cons_append, List.nil_append, List.append_nil, List.replicate, List.getElem?_cons_zero, List.getElem?_cons_succ, List.set_cons_zero, List.set_cons_succ, Option.some.injEq, List.cons.injEq, exists_eq_left', exists_eq_left, exists_and_left, V.int.injEq, V.bl.injEq, V.ref.injEq, if_true, if_false, Bool.not_true, Bool.not_false, true_and, and_true, Bool.false_eq_true, ite_true, ite_false, Nat.reduceAdd, Nat.reduceSub, reduceCtorEq, decide_false, decide_true, Int.toNat_natCast, false_and, exists_false, or_false, false_or]))
section
variable {P : Program} {w : World} {K : PySem.W.Frag} {mg : Str → Option Value} {base : Heap}
end
end Hx

set_option Elab.async false
set_option linter.all false
set_option maxRecDepth 100000
set_option maxHeartbeats 4000000
namespace Hx
open PySem PySem.Spec PyProof.Rows L2
/-! data compared as a whole -/
section
variable {K : PySem.W.Frag} {H : Hp} {Q : VK} {x y : V} {d : PyData}
theorem eq_same (hx : Dp K H x d) (hy : Dp K H y d) (hs : SeqAt.shaped d = true) (q : Q (.bl true) H) : rEqD K x y H Q := ⟨d, d, hx, hy, hs, hs, by rw [SeqAt.eqv_refl d (SeqAt.canLay_of_shaped hs)]; exact q⟩
theorem ne_same (hx : Dp K H x d) (hy : Dp K H y d) (hs : SeqAt.shaped d = true) (q : Q (.bl false) H) : rNeD K x y H Q := ⟨d, d, hx, hy, hs, hs, by rw [SeqAt.eqv_refl d (SeqAt.canLay_of_shaped hs)]; exact q⟩
end
/-- flat data: None and ints -/
def ovP : Option Int → PyData
  | none => .none
  | some i => .int i
def ovX : Option Int → V
  | none => .non
  | some i => .int i
theorem dp_opts (K : PySem.W.Frag) (H : Hp) : ∀ es : List (Option Int), DpAll K H (es.map ovX) (es.map ovP)
  | [] => .nil
  | none :: r => .cons .non (dp_opts K H r)
  | some i :: r => .cons (.int i) (dp_opts K H r)
theorem lay_opts : ∀ es : List (Option Int), PyData.canLayAll0 (es.map ovP) = true
  | [] => rfl
  | none :: r => by
    rw [List.map_cons, PyData.canLayAll0, lay_opts r]
    rfl
  | some i :: r => by
    rw [List.map_cons, PyData.canLayAll0, lay_opts r]
    rfl
theorem depth_opts : ∀ es : List (Option Int), PyData.depthAll (es.map ovP) = 0
  | [] => rfl
  | none :: r => by
    have e := depth_opts r
    simp only [List.map_cons, PyData.depthAll, ovP, PyData.depth, e]
    rfl
  | some i :: r => by
    have e := depth_opts r
    simp only [List.map_cons, PyData.depthAll, ovP, PyData.depth, e]
    rfl
theorem shaped_opts_t (es : List (Option Int)) : SeqAt.shaped (.tuple (es.map ovP)) = true := by
  unfold SeqAt.shaped
  rw [PyData.canLay0, lay_opts, PyData.depth, depth_opts]
  rfl
theorem shaped_opts_l (es : List (Option Int)) : SeqAt.shaped (.list (es.map ovP)) = true := by
  unfold SeqAt.shaped
  rw [PyData.canLay0, lay_opts, PyData.depth, depth_opts]
  rfl
theorem dp_ints_t {K : PySem.W.Frag} {H : Hp} {a : Addr} {xs : List Int} (h : SqT K H a (xs.map V.int)) : Dp K H (.ref a) (.tuple ((xs.map some).map ovP)) := by
  have e := dp_opts K H (xs.map some)
  rw [List.map_map] at e
  exact .tup h e
theorem dp_ints_l {K : PySem.W.Frag} {H : Hp} {a : Addr} {xs : List Int} (h : SqL K H a (xs.map V.int)) : Dp K H (.ref a) (.list ((xs.map some).map ovP)) := by
  have e := dp_opts K H (xs.map some)
  rw [List.map_map] at e
  exact .lst h e
end Hx

set_option Elab.async false
set_option linter.all false
set_option maxRecDepth 100000
set_option maxHeartbeats 4000000
namespace Hx
open PySem PySem.Spec PyProof.Rows L2
local macro_rules | `(tactic| walk_at "rd") => `(tactic| (try simp only [q_var, q_c, q_op, q_un, q_rI, q_rI0, q_rU, q_rEq, q_rNe, q_test, q_tB, q_and, q_or, q_not, q_andV, q_orV, q_notV, q_if, q_isN, q_notN, q_chain, q_next, q_seq, q_break, q_cont, q_drop, q_ret, q_retN, q_ifS, q_never, q_gN, q_gNil, q_gCons, q_gTup, q_gSub, q_asg, q_par, q_aug, q_nil, q_cons, q_tup, q_lst, q_call, q_cb, q_noPart, q_part, q_sl, q_bm0, q_bm, q_yes, q_for, q_lc, q_iList, q_iTup, q_iRng1, q_iEnumT, q_iEnum, q_iRng2, q_iZipA, q_iZipM, q_ipI, q_ckw, q_len, q_listOf, q_tupleOf, L2.start, cx_K, wipe, List.map_cons, List.map_nil, List.length_cons, List.length_nil, List.cons_append, List.nil_append, List.append_nil, List.replicate, List.getElem?_cons_zero, List.getElem?_cons_succ, List.set_cons_zero, List.set_cons_succ, Option.some.injEq, List.cons.injEq, exists_eq_left', exists_eq_left, exists_and_left, V.int.injEq, V.bl.injEq, V.ref.injEq, if_true, if_false, Bool.not_true, Bool.not_false, true_and, and_true, Bool.false_eq_true, ite_true, ite_false, Nat.reduceAdd, Nat.reduceSub, reduceCtorEq, decide_false, decide_true, Int.toNat_natCast, false_and, exists_false, or_false, false_or]))
section
variable {P : Program} {w : World} {K : PySem.W.Frag} {mg : Str → Option Value} {base : Heap}
theorem TabAt.but {H H' : Hp} {a t : Addr} {as : List Addr} {n : Nat} {d : Tab} (h : TabAt H t as n d) (e : But a H H') (n1 : t ≠ a) (n2 : a ∉ as) : TabAt H' t as n d :=
  ⟨e _ _ n1 h.top, h.len, h.nd, h.nt, fun i b hb => e _ _ (fun z => n2 (by rw [← z]; exact List.mem_of_getElem? hb)) (h.row i b hb)⟩
theorem HaulV.but {H H' : Hp} {a : Addr} {ys : List V} {v : V} {h : Nat × Int} (k : HaulV K H v h) (e : But a H H') (ha : H a = some (.lst ys)) : HaulV K H' v h := by
  obtain ⟨c, rfl, k⟩ := k
  exact ⟨c, rfl, sqt_but e ha k⟩
theorem natV_ints (ks : List Nat) : natV ks = (ks.map fun (k : Nat) => (k : Int)).map V.int := by
  unfold natV
  rw [List.map_map]
  rfl
/-- cur is within the law's bounds -/
def Bnd (n : Nat) (pl : Nat → Int) (xs : List Int) (M : Int) : Prop := ∀ i, i < n → -4 ≤ gd xs i ∧ gd xs i ≤ pl i + M
theorem Bnd.range {n : Nat} {rs : List Rope} {pl : Nat → Int} {xs : List Int} {M : Int} (h : Bnd n pl xs M) (hp : Pl n rs pl) (hl : xs.length = n) (hM : M ≤ 5000) : InRange xs := fun x hx => by
  obtain ⟨i, hi, rfl⟩ := List.getElem_of_mem hx
  have h1 := h i (by omega)
  have h2 := hp.hi i
  unfold gd at h1
  rw [List.getD_eq_getElem?_getD, List.getElem?_eq_getElem hi] at h1
  simp only [Option.getD_some] at h1
  omega
theorem Bnd.move {n : Nat} {rs : List Rope} {pl : Nat → Int} {xs : List Int} {M p : Int} (h : Bnd n pl xs M) (hp : Pl n rs pl) (hl : xs.length = n) {b : Nat} (hb : b < n) (h1 : gd xs b ≤ p) (h2 : p ≤ gd xs b + 39) : Bnd n pl (moveD (chainTab n rs) xs b p) (M + 39) := fun i hi => by
  refine ⟨Int.le_trans (h i hi).1 (move_ge _ _ _ _ (by omega)), ?_⟩
  exact move_least (y := fun i => pl i + (M + 39)) hl (hp.up _) (fun j hj => by
    have := (h j hj).2
    show gd xs j ≤ pl j + (M + 39)
    omega) (by
    have := (h b hb).2
    show p ≤ pl b + (M + 39)
    omega) i hi
/-- hauls at refs -/
def HaulsX (K : PySem.W.Frag) (H : Hp) (xs : List V) (hs : List (Nat × Int)) : Prop := xs.length = hs.length ∧ ∀ (i : Nat) x, xs[i]? = some x → ∃ h, hs[i]? = some h ∧ HaulV K H x h
theorem HaulsX.same {H H' : Hp} {xs : List V} {hs : List (Nat × Int)} (h : HaulsX K H xs hs) (e : Same H H') : HaulsX K H' xs hs :=
  ⟨h.1, fun i x hx => let ⟨k, k1, k2⟩ := h.2 i x hx; ⟨k, k1, k2.mono e⟩⟩
theorem HaulsX.but {H H' : Hp} {a : Addr} {ys xs : List V} {hs : List (Nat × Int)} (h : HaulsX K H xs hs) (e : But a H H') (ha : H a = some (.lst ys)) : HaulsX K H' xs hs :=
  ⟨h.1, fun i x hx => let ⟨k, k1, k2⟩ := h.2 i x hx; ⟨k, k1, k2.but e ha⟩⟩
theorem HaulsX.snoc {H : Hp} {xs : List V} {hs : List (Nat × Int)} {v : V} {r : Nat × Int} (h : HaulsX K H xs hs) (k : HaulV K H v r) : HaulsX K H (xs ++ [v]) (hs ++ [r]) := by
  refine ⟨by rw [List.length_append, List.length_append, h.1]; rfl, fun i x hx => ?_⟩
  by_cases hi : i < xs.length
  · rw [List.getElem?_append_left hi] at hx
    obtain ⟨u, hu, ku⟩ := h.2 i x hx
    exact ⟨u, by rw [List.getElem?_append_left (by rw [← h.1]; exact hi)]; exact hu, ku⟩
  · rw [List.getElem?_append_right (by omega)] at hx
    have e : i - xs.length = 0 := by
      cases hz : i - xs.length with
      | zero => rfl
      | succ k =>
        rw [hz] at hx
        cases hx
    rw [e] at hx
    cases hx
    refine ⟨r, ?_, k⟩
    rw [List.getElem?_append_right (by rw [← h.1]; omega), ← h.1, e]
    rfl
/-- the state of the loop that hauls -/
structure HS (K : PySem.W.Frag) (a sc : Addr) (ns : List Int) (v : V) (t : Addr) (as : List Addr) (u : V) (n : Nat) (rs : List Rope) (xs : List Int) (L : Addr) (H : Hp) (c : V) (hX : List V) (hs : List (Nat × Int)) : Prop where
  row : RowAt K H a sc ns
  fleet : FleetV K H v n rs
  tab : TabAt H t as n (chainTab n rs)
  start : IntsT K H u xs
  cur : IntsT K H c (runD (chainTab n rs) xs hs)
  lst : H L = some (.lst hX)
  hx : HaulsX K H hX hs
section
variable {a sc t L : Addr} {ns : List Int} {v u c : V} {as : List Addr} {n : Nat} {rs : List Rope} {xs : List Int} {H H' H0 : Hp} {hX : List V} {hs : List (Nat × Int)}
theorem HS.call (h : HS K a sc ns v t as u n rs xs L H c hX hs) (nta : t ≠ a) (naa : a ∉ as) (nL : L ≠ a) (r : RowAt K H' a sc ns) (b : But a H H') : HS K a sc ns v t as u n rs xs L H' c hX hs := by
  obtain ⟨_, k⟩ := h.row.lst
  exact ⟨r, h.fleet.but b k, h.tab.but b nta naa, h.start.but b k, h.cur.but b k, b _ _ nL h.lst, h.hx.but b k⟩
theorem HS.new (h : HS K a sc ns v t as u n rs xs L H c hX hs) (e : Same H H') : HS K a sc ns v t as u n rs xs L H' c hX hs :=
  ⟨h.row.mono e, h.fleet.mono e, h.tab.mono e, h.start.mono e, h.cur.mono e, e _ _ h.lst, h.hx.same e⟩
theorem HS.app (h : HS K a sc ns v t as u n rs xs L H c hX hs) (h0 : H0 L = none) (r0 : RowAt K H0 a sc ns) (t0 : TabAt H0 t as n (chainTab n rs)) (b0 : But a H0 H) {y c' : V} {r : Nat × Int} (hy : HaulV K H y r) (hc : IntsT K H c' (runD (chainTab n rs) xs (hs ++ [r]))) :
    HS K a sc ns v t as u n rs xs L (upd H L (.lst (hX ++ [y]))) c' (hX ++ [y]) (hs ++ [r]) := by
  have b : But L H (upd H L (.lst (hX ++ [y]))) := but_upd
  refine ⟨r0.put h0 b0 h.row, h.fleet.but b h.lst, h.tab.but b (ne_of_none t0.top h0) (fun m => ?_), h.start.but b h.lst, hc.but b h.lst, upd_same, (h.hx.but b h.lst).snoc (hy.but b h.lst)⟩
  obtain ⟨i, hi, e⟩ := List.getElem_of_mem m
  have := t0.row i L (by rw [List.getElem?_eq_getElem hi, e])
  rw [h0] at this
  cases this
end
end
end Hx

set_option Elab.async false
set_option linter.all false
set_option maxRecDepth 100000
set_option maxHeartbeats 4000000
namespace Hx
open PySem PySem.Spec PyProof.Rows L2
local macro_rules | `(tactic| walk_at "rd") => `(tactic| (try simp only [q_var, q_c, q_op, q_un, q_rI, q_rI0, q_rU, q_rEq, q_rNe, q_test, q_tB, q_and, q_or, q_not, q_andV, q_orV, q_notV, q_if, q_isN, q_notN, q_chain, q_next, q_seq, q_break, q_cont, q_drop, q_ret, q_retN, q_ifS, q_never, q_gN, q_gNil, q_gCons, q_gTup, q_gSub, q_asg, q_par, q_aug, q_nil, q_cons, q_tup, q_lst, q_call, q_cb, q_noPart, q_part, q_sl, q_bm0, q_bm, q_yes, q_for, q_lc, q_iList, q_iTup, q_iRng1, q_iEnumT, q_iEnum, q_iRng2, q_iZipA, q_iZipM, q_ipI, q_ckw, q_len, q_listOf, q_tupleOf, L2.start, cx_K, wipe, List.map_cons, List.map_nil, List.length_cons, List.length_nil, List.cons_append, List.nil_append, List.append_nil, List.replicate, List.getElem?_cons_zero, List.getElem?_cons_succ, List.set_cons_zero, List.set_cons_succ, Option.some.injEq, List.cons.injEq, exists_eq_left', exists_eq_left, exists_and_left, V.int.injEq, V.bl.injEq, V.ref.injEq, if_true, if_false, Bool.not_true, Bool.not_false, true_and, and_true, Bool.false_eq_true, ite_true, ite_false, Nat.reduceAdd, Nat.reduceSub, reduceCtorEq, decide_false, decide_true, Int.toNat_natCast, false_and, exists_false, or_false, false_or]))
section
variable {P : Program} {w : World} {K : PySem.W.Frag} {mg : Str → Option Value} {base : Heap}
/-- the bounds that limits give a barge -/
def bnds (d : Tab) (ls : List (Option Int)) (b k : Nat) : List Int := (List.range k).filterMap fun i => match ls.getD i none, d b i with
  | some l, some x => some (l + x)
  | _, _ => none
def minO : List Int → Option Int
  | [] => none
  | n :: r => some (r.foldl min n)
def greatD (d : Tab) (ls : List (Option Int)) (b n : Nat) : Option Int := minO (bnds d ls b n)
theorem bnds_succ (d : Tab) (ls : List (Option Int)) (b k : Nat) : bnds d ls b (k + 1) = bnds d ls b k ++ (match ls.getD k none, d b k with | some l, some x => [l + x] | _, _ => []) := by
  unfold bnds
  rw [List.range_succ, List.filterMap_append]
  congr 1
  rw [List.filterMap_cons, List.filterMap_nil]
  cases ls.getD k none <;> cases d b k <;> rfl
theorem bnds_none1 {d : Tab} {ls : List (Option Int)} {b k : Nat} (h : ls.getD k none = none) : bnds d ls b (k + 1) = bnds d ls b k := by
  rw [bnds_succ, h]
  exact List.append_nil _
theorem bnds_none2 {d : Tab} {ls : List (Option Int)} {b k : Nat} (h : d b k = none) : bnds d ls b (k + 1) = bnds d ls b k := by
  rw [bnds_succ, h]
  cases ls.getD k none <;> exact List.append_nil _
theorem bnds_some {d : Tab} {ls : List (Option Int)} {b k : Nat} {l x : Int} (h : ls.getD k none = some l) (h2 : d b k = some x) : bnds d ls b (k + 1) = bnds d ls b k ++ [l + x] := by
  rw [bnds_succ, h, h2]
theorem bnds_len (d : Tab) (ls : List (Option Int)) (b k : Nat) : (bnds d ls b k).length ≤ k := by
  unfold bnds
  have := List.length_filterMap_le (fun i => match ls.getD i none, d b i with
    | some l, some x => some (l + x)
    | _, _ => none) (List.range k)
  rw [List.length_range] at this
  exact this
theorem foldmin_mem : ∀ (r : List Int) (n : Int), (r.foldl min n = n ∨ r.foldl min n ∈ r) ∧ r.foldl min n ≤ n ∧ ∀ x ∈ r, r.foldl min n ≤ x
  | [], n => ⟨.inl rfl, Int.le_refl n, fun x h => by cases h⟩
  | y :: r, n => by
    obtain ⟨h1, h2, h3⟩ := foldmin_mem r (min n y)
    show (r.foldl min (min n y) = n ∨ r.foldl min (min n y) ∈ y :: r) ∧ r.foldl min (min n y) ≤ n ∧ ∀ x ∈ y :: r, r.foldl min (min n y) ≤ x
    refine ⟨?_, by omega, fun x hx => ?_⟩
    · rcases h1 with e | e
      · by_cases h : n ≤ y
        · exact .inl (by omega)
        · exact .inr (List.mem_cons.mpr (.inl (by omega)))
      · exact .inr (List.mem_cons_of_mem _ e)
    · rcases List.mem_cons.mp hx with rfl | hx
      · omega
      · exact h3 x hx
theorem minO_is {ns : List Int} {m : Int} (h : m ∈ ns) (h2 : ∀ y ∈ ns, m ≤ y) : minO ns = some m := by
  cases ns with
  | nil => cases h
  | cons n r =>
    obtain ⟨k1, k2, k3⟩ := foldmin_mem r n
    have a : r.foldl min n ≤ m := by
      rcases List.mem_cons.mp h with rfl | h
      · exact k2
      · exact k3 m h
    have b : m ≤ r.foldl min n := by
      rcases k1 with e | e
      · rw [e]
        exact h2 n List.mem_cons_self
      · exact h2 _ (List.mem_cons_of_mem _ e)
    exact congrArg some (by omega)
end
end Hx

set_option Elab.async false
set_option linter.all false
set_option maxRecDepth 100000
set_option maxHeartbeats 4000000
namespace Hx
open PySem PySem.Spec PyProof.Rows L2
local macro_rules | `(tactic| walk_at "rd") => `(tactic| (try simp only [q_var, q_c, q_op, q_un, q_rI, q_rI0, q_rU, q_rEq, q_rNe, q_test, q_tB, q_and, q_or, q_not, q_andV, q_orV, q_notV, q_if, q_isN, q_notN, q_chain, q_next, q_seq, q_break, q_cont, q_drop, q_ret, q_retN, q_ifS, q_never, q_gN, q_gNil, q_gCons, q_gTup, q_gSub, q_asg, q_par, q_aug, q_nil, q_cons, q_tup, q_lst, q_call, q_cb, q_noPart, q_part, q_sl, q_bm0, q_bm, q_yes, q_for, q_lc, q_iList, q_iTup, q_iRng1, q_iEnumT, q_iEnum, q_iRng2, q_iZipA, q_iZipM, q_ipI, q_ckw, q_len, q_listOf, q_tupleOf, L2.start, cx_K, wipe, List.map_cons, List.map_nil, List.length_cons, List.length_nil, List.cons_append, List.nil_append, List.append_nil, List.replicate, List.getElem?_cons_zero, List.getElem?_cons_succ, List.set_cons_zero, List.set_cons_succ, Option.some.injEq, List.cons.injEq, exists_eq_left', exists_eq_left, exists_and_left, V.int.injEq, V.bl.injEq, V.ref.injEq, if_true, if_false, Bool.not_true, Bool.not_false, true_and, and_true, Bool.false_eq_true, ite_true, ite_false, Nat.reduceAdd, Nat.reduceSub, reduceCtorEq, decide_false, decide_true, Int.toNat_natCast, false_and, exists_false, or_false, false_or]))
section
variable {P : Program} {w : World} {K : PySem.W.Frag} {mg : Str → Option Value} {base : Heap}
def greatL (d : Tab) (ls : List (Option Int)) (n : Nat) : List (Option Int) := (List.range n).map fun b => greatD d ls b n
theorem greatL_len (d : Tab) (ls : List (Option Int)) (n : Nat) : (greatL d ls n).length = n := by
  unfold greatL
  rw [List.length_map, List.length_range]
theorem greatL_at {d : Tab} {ls : List (Option Int)} {n i : Nat} (h : i < n) : (greatL d ls n)[i]? = some (greatD d ls i n) := by
  unfold greatL
  rw [List.getElem?_map, List.getElem?_range h]
  rfl
theorem greatL_next {d : Tab} {ls : List (Option Int)} {n i : Nat} (h : i < n) : ((greatL d ls n).take i).map ovV ++ [ovV (greatD d ls i n)] = ((greatL d ls n).take (i + 1)).map ovV := by
  rw [List.take_add_one, greatL_at h, List.map_append]
  rfl
end
end Hx

set_option Elab.async false
set_option linter.all false
set_option maxRecDepth 100000
set_option maxHeartbeats 4000000
/-! list(zip(t, u)) of two tuples -/
namespace Hx
open PySem PySem.Spec PyProof.Rows L2
section
variable {prog : Program} {w : World} {A : Around} {E : Value → Shared → Prop} {s : Shared}
variable {z TI TO i1 i2 a b : Addr} {xs ys : Array Value}
theorem zh_item {T : Addr} {f : Bool} {oT : Obj} {k : Nat} {x y : Value} {Q : Option Value → Shared → Prop} (D : ZipApart z TI TO i1 i2 a b) (hz : IsZipHeld s.heap z TI TO T f) (hT : s.heap.get? T = some oT) (hTI : IsPair s.heap TI (.ref i1) (.ref i2))
    (h1 : s.heap.IsTupleIter i1 a k) (h2 : s.heap.IsTupleIter i2 b k) (ha : s.heap.IsTuple a xs) (hb : s.heap.IsTuple b ys) (hx : xs[k]? = some x) (hy : ys[k]? = some y)
    (hQ : ∀ h', IsZipHeld h' z TI TO T true → h'.IsTupleIter i1 a (k + 1) → h'.IsTupleIter i2 b (k + 1) → IsPair h' s.heap.objs.size x y → h'.objs.size = s.heap.objs.size + 1 →
      (∀ c o, c ≠ z → c ≠ i1 → c ≠ i2 → s.heap.get? c = some o → h'.get? c = some o) → Q (some (.ref s.heap.objs.size)) { s with heap := h' }) : wpAny (model prog w) A (pyNext (.ref z)) Q E s := by
  have hTy : s.TypeIs (.ref z) "zip" := ⟨_, hz, rfl⟩
  unfold pyNext
  refine wpAny_bind (wpAny_attempt (wpAny_callSpecial?_slot (name := Str.ofString "__next__") hTy F.slot_zip_next (wpAny_call_entry F.slot_zip_next hTy F.entry_zip_next ?_ (F.args_zip_next_1 _))))
  show wpAny _ _ (field (.ref z) 2 >>= _) _ _ _
  refine wpAny_bind (wpAny_field hz rfl (x := .bool false) rfl ?_)
  show wpAny _ _ (field (.ref z) 3 >>= _) _ _ _
  refine wpAny_bind (wpAny_field hz rfl (x := .ref TI) rfl ?_)
  refine wpAny_bind (wpAny_seqItems hTI rfl ?_)
  show wpAny _ _ (Builtin.SmallTypes.ownedTupleIsFree (.ref z) >>= _) _ _ _
  refine wpAny_bind (wpAny_tupleHeld_zip hz hT fun g1 z1 c1 => ?_)
  simp only [Bool.false_eq_true, if_false]
  refine wpAny_bind ?_
  rw [← Array.forIn_toList]
  simp only [List.forIn_cons, List.forIn_nil]
  refine wpAny_bind (wpAny_bind (wpAny_holding ?_))
  show wpAny _ _ (Builtin.SmallTypes.nextOf (.ref i1) >>= _) _ _ _
  have e1 := c1.extBut
  refine wpAny_bind (wpAny_nextOf_tuple_item (s := { s with heap := g1 }) (h1.extBut e1 D.i1z) (ha.extBut e1 D.l1z) hx fun g2 j2 c2 => wpAny_pure ?_)
  refine wpAny_pure ?_
  refine wpAny_bind (wpAny_bind (wpAny_holding ?_))
  show wpAny _ _ (Builtin.SmallTypes.nextOf (.ref i2) >>= _) _ _ _
  have e2 := c2.extBut
  refine wpAny_bind (wpAny_nextOf_tuple_item (s := { s with heap := g2 }) ((h2.extBut e1 D.i2z).extBut e2 D.i12.symm) ((hb.extBut e1 D.l2z).extBut e2 D.l2i1) hy fun g3 j3 c3 => wpAny_pure ?_)
  refine wpAny_pure (wpAny_pure ?_)
  show wpAny _ _ (newTuple [x, y] >>= _) _ _ _
  refine wpAny_bind (wpAny_newTuple ?_)
  have e3 := c3.extBut
  have sz : g3.objs.size = s.heap.objs.size := by rw [c3.1, c2.1, c1.1]
  have z3 : IsZipHeld g3 z TI TO T true := e3 _ _ D.i2z.symm (e2 _ _ D.i1z.symm z1)
  have kp : ∀ c o, c ≠ z → c ≠ i1 → c ≠ i2 → s.heap.get? c = some o → g3.get? c = some o := fun c o n1 n2 n3 e => e3 _ _ n3 (e2 _ _ n2 (e1 _ _ n1 e))
  have j2' : g3.IsTupleIter i1 a (k + 1) := j2.extBut e3 D.i12
  refine wpAny_pure ⟨_, rfl, wpAny_pure ?_⟩
  show Q (some (.ref g3.objs.size)) _
  generalize hto : ({ cls := .type "tuple", data := .seq #[x, y] } : Obj) = to
  have hp : (g3.push to).get? g3.objs.size = some to := Heap.get?_push_size _ (by rw [← hto]; rfl)
  have hs4 : (g3.push to).objs.size = g3.objs.size + 1 := Heap.size_push ..
  rw [sz] at hp hs4 ⊢
  refine hQ _ (Heap.get?_push_of_some _ z3) (j2'.at fun o e => Heap.get?_push_of_some _ e) (j3.at fun o e => Heap.get?_push_of_some _ e) ?_ hs4 fun c o n1 n2 n3 e => Heap.get?_push_of_some _ (kp c o n1 n2 n3 e)
  exact hp.trans (congrArg some hto.symm)
theorem zh_end {T : Addr} {f : Bool} {oT : Obj} {k : Nat} {Q : Option Value → Shared → Prop} (hh : A.handled = none) (D : ZipApart z TI TO i1 i2 a b) (hz : IsZipHeld s.heap z TI TO T f) (hT : s.heap.get? T = some oT) (hTI : IsPair s.heap TI (.ref i1) (.ref i2))
    (h1 : s.heap.IsTupleIter i1 a k) (ha : s.heap.IsTuple a xs) (hx : xs[k]? = none)
    (hQ : ∀ h', (∀ c o, c ≠ z → c ≠ i1 → c ≠ i2 → s.heap.get? c = some o → h'.get? c = some o) → Q none { s with heap := h' }) : wpAny (model prog w) A (pyNext (.ref z)) Q E s := by
  have hTy : s.TypeIs (.ref z) "zip" := ⟨_, hz, rfl⟩
  unfold pyNext
  refine wpAny_bind (wpAny_attempt (wpAny_callSpecial?_slot (name := Str.ofString "__next__") hTy F.slot_zip_next (wpAny_call_entry F.slot_zip_next hTy F.entry_zip_next ?_ (F.args_zip_next_1 _))))
  show wpAny _ _ (field (.ref z) 2 >>= _) _ _ _
  refine wpAny_bind (wpAny_field hz rfl (x := .bool false) rfl ?_)
  show wpAny _ _ (field (.ref z) 3 >>= _) _ _ _
  refine wpAny_bind (wpAny_field hz rfl (x := .ref TI) rfl ?_)
  refine wpAny_bind (wpAny_seqItems hTI rfl ?_)
  show wpAny _ _ (Builtin.SmallTypes.ownedTupleIsFree (.ref z) >>= _) _ _ _
  refine wpAny_bind (wpAny_tupleHeld_zip hz hT fun g1 z1 c1 => ?_)
  simp only [Bool.false_eq_true, if_false]
  refine wpAny_bind ?_
  rw [← Array.forIn_toList]
  simp only [List.forIn_cons, List.forIn_nil]
  refine wpAny_bind (wpAny_bind (wpAny_holding ?_))
  show wpAny _ _ (Builtin.SmallTypes.nextOf (.ref i1) >>= _) _ _ _
  have e1 := c1.extBut
  refine wpAny_bind (wpAny_nextOf_tuple_end (s := { s with heap := g1 }) hh (h1.extBut e1 D.i1z) (ha.extBut e1 D.l1z) hx fun g2 e c2 he => ?_)
  obtain ⟨o, ho, hc⟩ := he
  refine wpAny_bind (wpAny_isInstance (T := "StopIteration") (b := true) ⟨o, ho, hc⟩ isSubtype_stop ?_)
  exact wpAny_pure (hQ _ fun c o n1 n2 _ q => c2 _ _ n2 (e1 _ _ n1 q))
/-- a zip that is walked with its pairs kept: fresh, or its last pair stands at T -/
def ZS (h : Heap) (z TI TO : Addr) : Prop := (IsZip h z TI TO .none ∧ ∃ x y, IsPair h TO x y) ∨ ∃ T f oT, IsZipHeld h z TI TO T f ∧ h.get? T = some oT ∧ T ≠ z
theorem zs_item {k : Nat} {x y : Value} {Q : Option Value → Shared → Prop} (D : ZipApart z TI TO i1 i2 a b) (hz : ZS s.heap z TI TO) (hTI : IsPair s.heap TI (.ref i1) (.ref i2))
    (h1 : s.heap.IsTupleIter i1 a k) (h2 : s.heap.IsTupleIter i2 b k) (ha : s.heap.IsTuple a xs) (hb : s.heap.IsTuple b ys) (hx : xs[k]? = some x) (hy : ys[k]? = some y)
    (hQ : ∀ h', ZS h' z TI TO → h'.IsTupleIter i1 a (k + 1) → h'.IsTupleIter i2 b (k + 1) → IsPair h' s.heap.objs.size x y →
      (∀ c o, c ≠ z → c ≠ TO → c ≠ i1 → c ≠ i2 → s.heap.get? c = some o → h'.get? c = some o) → Q (some (.ref s.heap.objs.size)) { s with heap := h' }) : wpAny (model prog w) A (pyNext (.ref z)) Q E s := by
  rcases hz with ⟨hz, x0, y0, hTO⟩ | ⟨T, f, oT, hz, hT, hn⟩
  · refine RZ.pyNext_zipT_item D hz hTI hTO h1 h2 ha hb hx hy fun h' a1 a2 a3 a4 a5 a6 a7 => hQ h' (.inr ⟨s.heap.objs.size, false, _, a1, a5, Nat.ne_of_gt (Heap.lt_size hz)⟩) a3 a4 a5 a7
  · refine zh_item D hz hT hTI h1 h2 ha hb hx hy fun h' a1 a3 a4 a5 a6 a7 => hQ h' (.inr ⟨T, true, ?_⟩) a3 a4 a5 fun c o n1 _ n3 n4 e => a7 c o n1 n3 n4 e
    by_cases t1 : T = i1
    · obtain ⟨o, ho, _⟩ := id a3
      exact ⟨o, a1, by rw [t1]; exact ho, hn⟩
    · by_cases t2 : T = i2
      · obtain ⟨o, ho, _⟩ := id a4
        exact ⟨o, a1, by rw [t2]; exact ho, hn⟩
      · exact ⟨oT, a1, a7 T _ hn t1 t2 hT, hn⟩
theorem zs_end {k : Nat} {Q : Option Value → Shared → Prop} (hh : A.handled = none) (D : ZipApart z TI TO i1 i2 a b) (hz : ZS s.heap z TI TO) (hTI : IsPair s.heap TI (.ref i1) (.ref i2))
    (h1 : s.heap.IsTupleIter i1 a k) (h2 : s.heap.IsTupleIter i2 b k) (ha : s.heap.IsTuple a xs) (hb : s.heap.IsTuple b ys) (hx : xs[k]? = none)
    (hQ : ∀ h', (∀ c o, c ≠ z → c ≠ TO → c ≠ i1 → c ≠ i2 → s.heap.get? c = some o → h'.get? c = some o) → Q none { s with heap := h' }) : wpAny (model prog w) A (pyNext (.ref z)) Q E s := by
  rcases hz with ⟨hz, x0, y0, hTO⟩ | ⟨T, f, oT, hz, hT, hn⟩
  · exact RZ.pyNext_zipT_end hh D hz hTI hTO h1 h2 ha hb (.inl hx) hQ
  · exact zh_end hh D hz hT hTI h1 ha hx fun h' k => hQ h' fun c o n1 _ n3 n4 e => k c o n1 n3 n4 e
end
end Hx

set_option Elab.async false
set_option linter.all false
set_option maxRecDepth 100000
set_option maxHeartbeats 4000000
/-! list(zip(t, u)): the walk, the list, the reading -/
namespace Hx
open PySem PySem.Calls PySem.Spec PyProof.Rows L2
theorem zl_nolen : typeLookup (.type "zip") "__len__" = pure none := by rw [typeLookup_type, builtinLookup_eq_fast]; kernel_rfl
theorem zl_nohint : typeLookup (.type "zip") "__length_hint__" = pure none := by rw [typeLookup_type, builtinLookup_eq_fast]; kernel_rfl
/-- the pairs made so far, rising above lo -/
structure ZG (xs ys : Array Value) (lo : Addr) (h : Heap) (as : List Addr) : Prop where
  up : as.Pairwise (· < ·)
  hi : ∀ a ∈ as, lo < a
  at' : ∀ (j : Nat) (a : Addr), as[j]? = some a → ∃ x y, xs[j]? = some x ∧ ys[j]? = some y ∧ IsPair h a x y
theorem ZG.lt {xs ys : Array Value} {lo : Addr} {h : Heap} {as : List Addr} (g : ZG xs ys lo h as) {a : Addr} (ha : a ∈ as) : a < h.objs.size := by
  obtain ⟨j, hj⟩ := List.mem_iff_getElem?.mp ha
  obtain ⟨_, _, _, _, e⟩ := g.at' j a hj
  exact Heap.lt_size e
theorem ZG.keep {xs ys : Array Value} {lo : Addr} {h h' : Heap} {as : List Addr} (g : ZG xs ys lo h as) (k : ∀ b o, lo < b → h.get? b = some o → h'.get? b = some o) : ZG xs ys lo h' as :=
  ⟨g.up, g.hi, fun j a hj => let ⟨x, y, e1, e2, e3⟩ := g.at' j a hj; ⟨x, y, e1, e2, k a _ (g.hi a (List.mem_of_getElem? hj)) e3⟩⟩
theorem ZG.low {xs ys : Array Value} {lo lo' : Addr} {h : Heap} {as : List Addr} (g : ZG xs ys lo h as) (hl : lo' ≤ lo) : ZG xs ys lo' h as := ⟨g.up, fun a ha => Nat.lt_of_le_of_lt hl (g.hi a ha), g.at'⟩
theorem ZG.snoc {xs ys : Array Value} {lo : Addr} {h : Heap} {as : List Addr} {x y : Value} {b : Addr} (g : ZG xs ys lo h as) (hb : ∀ a ∈ as, a < b) (hl : lo < b) (hx : xs[as.length]? = some x) (hy : ys[as.length]? = some y) (hp : IsPair h b x y) : ZG xs ys lo h (as ++ [b]) := by
  refine ⟨List.pairwise_append.mpr ⟨g.up, List.pairwise_singleton _ _, fun a ha c hc => by rw [List.mem_singleton.mp hc]; exact hb a ha⟩, fun a ha => ?_, fun j a hj => ?_⟩
  · rcases List.mem_append.mp ha with q | q
    · exact g.hi a q
    · rw [List.mem_singleton.mp q]; exact hl
  · rcases Nat.lt_or_ge j as.length with q | q
    · exact g.at' j a ((List.getElem?_append_left q).symm.trans hj)
    · rw [List.getElem?_append_right q] at hj
      rcases Nat.eq_or_lt_of_le q with q2 | q2
      · rw [← q2, Nat.sub_self] at hj
        cases hj
        rw [← q2]
        exact ⟨x, y, hx, hy, hp⟩
      · rw [List.getElem?_eq_none (by simp; omega)] at hj
        cases hj
theorem ZS.keep {h h' : Heap} {z TI TO S : Addr} {o' : Obj} (q : ZS h z TI TO) (k : ∀ b o, b ≠ S → h.get? b = some o → h'.get? b = some o) (hS : h'.get? S = some o') (hz : z ≠ S) (hT : TO ≠ S) : ZS h' z TI TO := by
  rcases q with ⟨hz', x, y, t⟩ | ⟨T, f, oT, hz', t, n⟩
  · exact .inl ⟨k _ _ hz hz', x, y, k _ _ hT t⟩
  · by_cases e : T = S
    · exact .inr ⟨T, f, o', k _ _ hz hz', by rw [e]; exact hS, n⟩
    · exact .inr ⟨T, f, oT, k _ _ hz hz', k _ _ e t, n⟩
section
variable {prog : Program} {w : World} {A : Around} {s : Shared} {R : Result → Shared → Prop} {z TI TO i1 i2 a b : Addr} {xs ys : Array Value}
/-- what the walk keeps -/
structure ZI (h : Heap) (z TI TO i1 i2 a b : Addr) (xs ys : Array Value) (i : Nat) : Prop where
  zs : ZS h z TI TO
  ti : IsPair h TI (.ref i1) (.ref i2)
  h1 : h.IsTupleIter i1 a i
  h2 : h.IsTupleIter i2 b i
  ha : h.IsTuple a xs
  hb : h.IsTuple b ys
theorem ZI.keep {h h' : Heap} {S : Addr} {o' : Obj} {i : Nat} (q : ZI h z TI TO i1 i2 a b xs ys i) (k : ∀ c o, c ≠ S → h.get? c = some o → h'.get? c = some o) (hS : h'.get? S = some o') (n : ∀ c ∈ [z, TI, TO, i1, i2, a, b], c ≠ S) : ZI h' z TI TO i1 i2 a b xs ys i :=
  ⟨q.zs.keep k hS (n z (by simp)) (n TO (by simp)), k _ _ (n TI (by simp)) q.ti, q.h1.at fun o e => k _ _ (n i1 (by simp)) e, q.h2.at fun o e => k _ _ (n i2 (by simp)) e,
    let ⟨o, e, r⟩ := q.ha; ⟨o, k _ _ (n a (by simp)) e, r⟩, let ⟨o, e, r⟩ := q.hb; ⟨o, k _ _ (n b (by simp)) e, r⟩⟩
theorem zl_loop {S : Addr} (hh : A.handled = none) (D : ZipApart z TI TO i1 i2 a b) (n : ∀ c ∈ [z, TI, TO, i1, i2, a, b], c ≠ S) (lo : ∀ c ∈ [z, TO, i1, i2], c < S) (hl : ys.size = xs.size) (hn : xs.size ≤ sizeLine) (res : Value) {h₁ : Heap}
    (hR : ∀ h' acc c as, (∀ b o, b ∉ [S, z, TO, i1, i2] → h₁.get? b = some o → h'.get? b = some o) → h'.get? S = some { cls := .type "list", dict := none, data := .seq acc c, slots := #[] } → as.length = xs.size → ZG xs ys S h' as → acc.toList = as.map Value.ref → R (.ok (.ret res)) { s with heap := h' }) :
    ∀ (k i : Nat) (h : Heap) (c : Nat) (acc : Array Value) (as : List Addr), xs.size - i = k → i ≤ xs.size → ZI h z TI TO i1 i2 a b xs ys i → (∀ b o, b ∉ [S, z, TO, i1, i2] → h₁.get? b = some o → h.get? b = some o) →
      h.get? S = some { cls := .type "list", dict := none, data := .seq acc c, slots := #[] } → acc.toList = as.map Value.ref → as.length = i → ZG xs ys S h as → codeAny (model prog w) A (.builtin "list.extend.loop" ⟨[.ref S, .ref z, res], []⟩) R { s with heap := h } := by
  have lo' : ∀ (h h' : Heap), (∀ c o, c ≠ z → c ≠ TO → c ≠ i1 → c ≠ i2 → h.get? c = some o → h'.get? c = some o) → ∀ c o, S ≤ c → h.get? c = some o → h'.get? c = some o := fun h h' q c o hc e =>
    q c o (Nat.ne_of_gt (Nat.lt_of_lt_of_le (lo z (by simp)) hc)) (Nat.ne_of_gt (Nat.lt_of_lt_of_le (lo TO (by simp)) hc)) (Nat.ne_of_gt (Nat.lt_of_lt_of_le (lo i1 (by simp)) hc)) (Nat.ne_of_gt (Nat.lt_of_lt_of_le (lo i2 (by simp)) hc)) e
  have off : ∀ (c : Addr), c ∉ [S, z, TO, i1, i2] → c ≠ S ∧ c ≠ z ∧ c ≠ TO ∧ c ≠ i1 ∧ c ≠ i2 := fun c hc => by
    simpa only [List.mem_cons, List.not_mem_nil, or_false, not_or] using hc
  intro k
  induction k with
  | zero =>
    intro i h c acc as hk hi q hk1 hS hacc hal hG
    refine codeAny_builtin F.entry_extend_loop ?_
    rw [Around.under_plainId F.plain_extend_loop _]
    show wpAny _ A.in1 (pyNext (.ref z) >>= _) _ _ _
    refine wpAny_bind (zs_end (s := { s with heap := h }) (A := A.in1) hh D q.zs q.ti q.h1 q.h2 q.ha q.hb (by simp; omega) fun h' kk => ?_)
    refine wpAny_pure (hR h' acc c as (fun b o hb e => ?_) (lo' _ _ kk _ _ (Nat.le_refl _) hS) (by omega) (hG.keep fun b o hb e => lo' _ _ kk _ _ (Nat.le_of_lt hb) e) hacc)
    obtain ⟨_, e2, e3, e4, e5⟩ := off b hb
    exact kk b o e2 e3 e4 e5 (hk1 b o hb e)
  | succ k ih =>
    intro i h c acc as hk hi q hk1 hS hacc hal hG
    have hlt : i < xs.size := by omega
    have hsz : acc.size = i := by rw [← Array.length_toList, hacc, List.length_map, hal]
    refine codeAny_builtin F.entry_extend_loop ?_
    rw [Around.under_plainId F.plain_extend_loop _]
    show wpAny _ A.in1 (pyNext (.ref z) >>= _) _ _ _
    refine wpAny_bind (zs_item (s := { s with heap := h }) D q.zs q.ti q.h1 q.h2 q.ha q.hb (Array.getElem?_eq_getElem hlt) (Array.getElem?_eq_getElem (by omega)) fun h' q' g1 g2 hp kk => ?_)
    dsimp only at hp kk ⊢
    have hS' := lo' _ _ kk S _ (Nat.le_refl _) hS
    have hSl : S < h.objs.size := Heap.lt_size hS
    have up : ∀ b o, b ≠ S → h'.get? b = some o → (h'.update S (Obj.mapSeq (·.push (Value.ref h.objs.size)))).get? b = some o := fun b o hb e => (Heap.get?_update_other _ _ (Ne.symm hb)).trans e
    have q2 : ZI h' z TI TO i1 i2 a b xs ys (i + 1) := ⟨q', kk _ _ D.TIz D.TITO D.TIi1 D.TIi2 q.ti, g1, g2, let ⟨o, e, r⟩ := q.ha; ⟨o, kk _ _ D.l1z D.l1TO D.l1i1 D.l1i2 e, r⟩, let ⟨o, e, r⟩ := q.hb; ⟨o, kk _ _ D.l2z D.l2TO D.l2i1 D.l2i2 e, r⟩⟩
    have hS3 := Heap.get?_update_self (Obj.mapSeq (·.push (Value.ref h.objs.size))) hS' rfl
    show wpAny _ A.in1 (updateSeq S (·.push (Value.ref h.objs.size)) >>= _) _ _ _
    refine wpAny_bind (wpAny_updateSeq hS' rfl (wpAny_pure ⟨plainId_quiet F.plain_extend_loop _, ih (i + 1) _ _ (acc.push (Value.ref h.objs.size)) (as ++ [h.objs.size]) (by omega) hlt (q2.keep up hS3 n) (fun b o hb e => ?_) hS3 (by rw [Array.toList_push, hacc, List.map_append]; rfl) (by rw [List.length_append, hal]; rfl) ?_⟩) (by rw [hsz]; omega) (by show (acc.push (Value.ref h.objs.size)).size ≤ sizeLine + 1; rw [Array.size_push, hsz]; omega))
    · obtain ⟨e1, e2, e3, e4, e5⟩ := off b hb
      exact up b o e1 (kk b o e2 e3 e4 e5 (hk1 b o hb e))
    · refine ZG.snoc (hG.keep fun b o hb e => up b o (Nat.ne_of_gt hb) (lo' _ _ kk b o (Nat.le_of_lt hb) e)) (fun c hc => hG.lt hc) hSl (by rw [hal]; exact Array.getElem?_eq_getElem hlt) (by rw [hal]; exact Array.getElem?_eq_getElem (by omega)) (up _ _ (Nat.ne_of_gt hSl) hp)
theorem zl_hint {E : Value → Shared → Prop} (hT : s.TypeIs (.ref z) "zip") {Q : Bool → Shared → Prop} (h : Q true s) : wpAny (model prog w) A (Builtin.List.listLengthHint (.ref z)) Q E s := by
  unfold Builtin.List.listLengthHint
  refine wpAny_bind (wpAny_specialOf hT zl_nolen ?_)
  show wpAny _ _ (specialOf (Value.ref z) (Str.ofString "__length_hint__") >>= _) _ _ _
  exact wpAny_bind (wpAny_specialOf hT zl_nohint (wpAny_pure h))
def ZFresh (h : Heap) (z TI TO i1 i2 a b : Addr) (xs ys : Array Value) : Prop := IsZip h z TI TO .none ∧ (∃ x y, IsPair h TO x y) ∧ IsPair h TI (.ref i1) (.ref i2) ∧ h.IsTupleIter i1 a 0 ∧ h.IsTupleIter i2 b 0 ∧ h.IsTuple a xs ∧ h.IsTuple b ys
theorem ZFresh.keep {h h' : Heap} {S : Addr} (q : ZFresh h z TI TO i1 i2 a b xs ys) (k : ∀ c o, c ≠ S → h.get? c = some o → h'.get? c = some o) (n : ∀ c ∈ [z, TI, TO, i1, i2, a, b], c ≠ S) : ZFresh h' z TI TO i1 i2 a b xs ys := by
  obtain ⟨p1, ⟨x, y, p2⟩, p3, p4, p5, ⟨o1, e1, r1⟩, ⟨o2, e2, r2⟩⟩ := q
  exact ⟨k _ _ (n z (by simp)) p1, ⟨x, y, k _ _ (n TO (by simp)) p2⟩, k _ _ (n TI (by simp)) p3, p4.at fun o e => k _ _ (n i1 (by simp)) e, p5.at fun o e => k _ _ (n i2 (by simp)) e, ⟨o1, k _ _ (n a (by simp)) e1, r1⟩, ⟨o2, k _ _ (n b (by simp)) e2, r2⟩⟩
theorem ZFresh.zi {h : Heap} (q : ZFresh h z TI TO i1 i2 a b xs ys) : ZI h z TI TO i1 i2 a b xs ys 0 :=
  ⟨.inl ⟨q.1, q.2.1⟩, q.2.2.1, q.2.2.2.1, q.2.2.2.2.1, q.2.2.2.2.2.1, q.2.2.2.2.2.2⟩
theorem zl_extend {S : Addr} (hh : A.handled = none) (D : ZipApart z TI TO i1 i2 a b) (n : ∀ c ∈ [z, TI, TO, i1, i2, a, b], c ≠ S) (lo : ∀ c ∈ [z, TO, i1, i2], c < S) (hl : ys.size = xs.size) (hn : xs.size ≤ sizeLine) (res : Value) (c₀ : Nat)
    (q : ZFresh s.heap z TI TO i1 i2 a b xs ys) (hS : s.heap.get? S = some { cls := .type "list", data := .seq #[] c₀ })
    (hR : ∀ h' acc c as, (∀ b o, b ∉ [S, z, TO, i1, i2] → s.heap.get? b = some o → h'.get? b = some o) → h'.get? S = some { cls := .type "list", dict := none, data := .seq acc c, slots := #[] } → as.length = xs.size → ZG xs ys S h' as → acc.toList = as.map Value.ref → R (.ok (.ret res)) { s with heap := h' }) :
    wpAny (model prog w) A.in1 (Builtin.List.listExtendWith (.ref S) (.ref z) res)
      (fun fin t => match fin with | .done f => R (.ok f) t | .again d => d.quiet = true ∧ codeAny (model prog w) A d R t) (fun e t => R (.error e) t) s := by
  have hT : s.TypeIs (.ref z) "zip" := ⟨_, q.1, rfl⟩
  unfold Builtin.List.listExtendWith
  refine wpAny_bind (wpAny_typeOf (T := "zip") hT ?_)
  have n1 : Builtin.List.listSameRef (.ref S) (.ref z) = false := by simp [Builtin.List.listSameRef, Ne.symm (n z (by simp))]
  have n2 : (Value.type "zip" == Value.type "list") = false := by decide
  have n3 : (Value.type "zip" == Value.type "tuple") = false := by decide
  simp only [n1, n2, n3, Bool.or_false, Bool.false_eq_true, if_false]
  refine wpAny_bind (wpAny_pyIter_zip q.1 ?_)
  refine wpAny_bind (wpAny_holding (zl_hint hT ?_))
  refine wpAny_bind (wpAny_rule (wpAny_bind ?_))
  show wpAny _ _ (updateSeq S (·.push .none) >>= fun _ => updateSeq S (·.pop)) _ _ _
  refine wpAny_bind (wpAny_updateSeq hS rfl ?_)
  have g2 := Heap.get?_update_self (Obj.mapSeq (·.push Value.none)) hS rfl
  refine wpAny_updateSeq (hz := by seq_fits) g2 rfl ?_
  have g3 := Heap.get?_update_self (Obj.mapSeq (·.pop)) g2 rfl
  have k3 : ∀ c o, c ≠ S → s.heap.get? c = some o → ((s.heap.update S (Obj.mapSeq (·.push Value.none))).update S (Obj.mapSeq (·.pop))).get? c = some o := fun c o hc e =>
    (Heap.get?_update_other _ _ (Ne.symm hc)).trans ((Heap.get?_update_other _ _ (Ne.symm hc)).trans e)
  exact wpAny_pure ⟨plainId_quiet F.plain_extend_loop _, zl_loop (s := s) (h₁ := s.heap) hh D n lo hl hn res hR xs.size 0 _ _ #[] [] (Nat.sub_zero _) (Nat.zero_le _) (q.keep k3 n).zi (fun c o hc e => k3 c o (fun z => hc (by simp [z])) e) g3 rfl rfl ⟨.nil, fun _ z => (List.not_mem_nil z).elim, fun j a z => by simp at z⟩⟩
theorem zl_init {S : Addr} (hh : A.handled = none) (D : ZipApart z TI TO i1 i2 a b) (n : ∀ c ∈ [z, TI, TO, i1, i2, a, b], c ≠ S) (lo : ∀ c ∈ [z, TO, i1, i2], c < S) (hl : ys.size = xs.size) (hn : xs.size ≤ sizeLine)
    (q : ZFresh s.heap z TI TO i1 i2 a b xs ys) (hS : s.heap.get? S = some { cls := .type "list", data := .seq #[] })
    (hR : ∀ h' acc c as, (∀ b o, b ∉ [S, z, TO, i1, i2] → s.heap.get? b = some o → h'.get? b = some o) → h'.get? S = some { cls := .type "list", dict := none, data := .seq acc c, slots := #[] } → as.length = xs.size → ZG xs ys S h' as → acc.toList = as.map Value.ref → R (.ok (.ret .none)) { s with heap := h' }) :
    wpAny (model prog w) A.in1 (Builtin.«list.__init__» ⟨[.ref S, .ref z], []⟩)
      (fun fin t => match fin with | .done f => R (.ok f) t | .again d => d.quiet = true ∧ codeAny (model prog w) A d R t) (fun e t => R (.error e) t) s := by
  show wpAny _ _ (Builtin.List.listItems (.ref S) >>= fun old => Builtin.List.listUpdate (.ref S) (fun _ => #[]) >>= fun _ => letGo old.toList.reverse >>= fun _ => Builtin.List.listExtendWith (.ref S) (.ref z) .none) _ _ s
  refine wpAny_bind ?_
  unfold Builtin.List.listItems
  refine wpAny_bind (wpAny_seqItems hS rfl (wpAny_pure ?_))
  show wpAny _ _ (updateSeq S (fun _ => #[]) >>= fun _ => letGo (#[] : Array Value).toList.reverse >>= fun _ => Builtin.List.listExtendWith (.ref S) (.ref z) .none) _ _ s
  refine wpAny_bind (wpAny_updateSeq hS rfl ?_)
  have g2 := Heap.get?_update_self (Obj.mapSeq (fun _ => (#[] : Array Value))) hS rfl
  have k2 : ∀ c o, c ≠ S → s.heap.get? c = some o → (s.heap.update S (Obj.mapSeq (fun _ => (#[] : Array Value)))).get? c = some o := fun c o hc e => (Heap.get?_update_other _ _ (Ne.symm hc)).trans e
  refine wpAny_bind (wpAny_letGo ?_)
  exact zl_extend hh D n lo hl hn .none _ (q.keep k2 n) g2 fun h' acc c as k g l G e => hR h' acc c as (fun b o hb e => k b o hb (k2 b o (fun z => hb (by simp [z])) e)) g l G e
theorem zl_call {E : Value → Shared → Prop} {Q : Value → Shared → Prop} (hh : A.handled = none) (D : ZipApart z TI TO i1 i2 a b) (hl : ys.size = xs.size) (hn : xs.size ≤ sizeLine) (q : ZFresh s.heap z TI TO i1 i2 a b xs ys)
    (hQ : ∀ h' acc c as, (∀ b o, b ∉ [z, TO, i1, i2] → s.heap.get? b = some o → h'.get? b = some o) → h'.get? s.heap.objs.size = some { cls := .type "list", dict := none, data := .seq acc c, slots := #[] } → as.length = xs.size → ZG xs ys s.heap.objs.size h' as → acc.toList = as.map Value.ref → Q (.ref s.heap.objs.size) { s with heap := h' }) :
    wpAny (model prog w) A (call (.type "list") [.ref z]) Q E s := by
  refine callType_codes (Q₁ := fun obj t => obj = .ref s.heap.objs.size ∧ t = { s with heap := s.heap.push { cls := .type "list", data := .seq #[] } }) F.called_list (F.typeCall_list_1 _) F.entry_list_init (code_list_new _ ⟨rfl, rfl⟩) fun obj t ht => ?_
  obtain ⟨rfl, rfl⟩ := ht
  have hS : (s.heap.push { cls := .type "list", data := .seq #[] }).get? s.heap.objs.size = some { cls := .type "list", data := .seq #[] } := Heap.get?_push_size _ rfl
  obtain ⟨p1, ⟨x, y, p2⟩, p3, ⟨o4, e4, _⟩, ⟨o5, e5, _⟩, ⟨o6, e6, _⟩, ⟨o7, e7, _⟩⟩ := id q
  have lt : ∀ c ∈ [z, TI, TO, i1, i2, a, b], c < s.heap.objs.size := fun c hc => by
    simp only [List.mem_cons, List.not_mem_nil, or_false] at hc
    rcases hc with rfl | rfl | rfl | rfl | rfl | rfl | rfl
    · exact Heap.lt_size p1
    · exact Heap.lt_size p3
    · exact Heap.lt_size p2
    · exact Heap.lt_size e4
    · exact Heap.lt_size e5
    · exact Heap.lt_size e6
    · exact Heap.lt_size e7
  have kp : ∀ c o, s.heap.get? c = some o → (s.heap.push { cls := .type "list", data := .seq #[] }).get? c = some o := fun c o e => Heap.get?_push_of_some _ e
  refine ⟨⟨_, hS, rfl⟩, F.args_list_init_2 _ _, zl_init (A := A.in1) hh D (fun c hc => Nat.ne_of_lt (lt c hc)) (fun c hc => lt c (by simp at hc ⊢; rcases hc with h | h | h | h <;> simp [h])) hl hn (q.keep (S := s.heap.objs.size) (fun c o _ e => kp c o e) (fun c hc => Nat.ne_of_lt (lt c hc))) hS fun h' acc c as k g l G e => ?_⟩
  exact ⟨rfl, hQ h' acc c as (fun b o hb e => k b o (fun z => by
    rcases List.mem_cons.mp z with z | z
    · exact absurd (Heap.lt_size e) (by rw [z]; exact Nat.lt_irrefl _)
    · exact hb z) (kp b o e)) g l G e⟩
end
end Hx

set_option Elab.async false
set_option linter.all false
set_option maxRecDepth 100000
set_option maxHeartbeats 4000000
/-! list(zip(t, u)): the reading -/
namespace Hx
open PySem PySem.Calls PySem.Spec PyProof.Rows L2
def putZ : Hp → List Addr → List (V × V) → Hp
  | H, a :: as, p :: ps => putZ (upd H a (.tup [p.1, p.2])) as ps
  | H, _, _ => H
theorem putZ_off {b : Addr} : ∀ (as : List Addr) (ps : List (V × V)) (H : Hp), b ∉ as → putZ H as ps b = H b := by
  intro as
  induction as with
  | nil => intro ps H _; cases ps <;> rfl
  | cons a as ih =>
    intro ps H hb
    cases ps with
    | nil => rfl
    | cons p ps =>
      show putZ (upd H a (.tup [p.1, p.2])) as ps b = H b
      rw [ih ps _ (fun z => hb (.tail _ z)), upd_ne (fun z => hb (by rw [z]; exact .head _))]
theorem putZ_at : ∀ (as : List Addr) (ps : List (V × V)) (H : Hp) (j : Nat) (a : Addr) (p : V × V), as.Nodup → as[j]? = some a → ps[j]? = some p → putZ H as ps a = some (.tup [p.1, p.2]) := by
  intro as
  induction as with
  | nil => intro ps H j a p _ h; simp at h
  | cons a0 as ih =>
    intro ps H j a p nd h1 h2
    have nd' := List.nodup_cons.mp nd
    cases ps with
    | nil => simp at h2
    | cons p0 ps =>
      show putZ (upd H a0 (.tup [p0.1, p0.2])) as ps a = _
      cases j with
      | zero =>
        cases h1
        cases h2
        rw [putZ_off _ _ _ nd'.1, upd_same]
      | succ j => exact ih ps _ j a p nd'.2 h1 h2
theorem zl_refs : ∀ as : List Addr, Vals (as.map V.ref) (as.map Value.ref)
  | [] => .nil
  | _ :: as => .cons rfl (zl_refs as)
/-- list(zip(t, u)) of two tuples of one length -/
def rZipL (K : PySem.W.Frag) : List V → Hp → VK → Prop := fun vs H Q => ∃ a b xs ys, vs = [.ref a, .ref b] ∧ SqT K H a xs ∧ SqT K H b ys ∧ ys.length = xs.length ∧
  ∀ (H' : Hp) (p : Addr) (ts : List Addr), (∀ c o, H c = some o → H' c = some o) → H p = none → ts.length = xs.length → H' p = some (.lst (ts.map V.ref)) → (∀ (j : Nat) (t : Addr), ts[j]? = some t → ∃ x y, xs[j]? = some x ∧ ys[j]? = some y ∧ H' t = some (.tup [x, y])) → Q (.ref p) H'
def tZipL (K : PySem.W.Frag) (ta : TA) : TE := fun σ H Q => ta σ H fun vs H1 => rZipL K vs H1 Q
theorem q_tZipL {K : PySem.W.Frag} {ta : TA} {σ : L2.St} {H : Hp} {Q : VK} : tZipL K ta σ H Q = ta σ H fun vs H1 => rZipL K vs H1 Q := rfl
section
variable {X : Cx} {e e2 : Expr} {ta : TA} {p p2 pos pos2 : Pos}
theorem zl_laid {pins : List (Addr × Obj)} {σ : L2.St} {H : Hp} {s : Shared} {h' : Heap} {S : Addr} {xs ys : List V} {ixs iys acc : Array Value} {c : Nat} {as : List Addr} (I : Inv X pins σ H s) (hz : xs.length ≤ sizeLine) (rx : Vals xs ixs.toList) (ry : Vals ys iys.toList)
    (hk : ∀ b o, s.heap.get? b = some o → h'.get? b = some o) (hlo : s.heap.objs.size ≤ S) (hS : h'.get? S = some { cls := .type "list", dict := none, data := .seq acc c, slots := #[] }) (hl : as.length = xs.length) (hly : ys.length = xs.length) (hG : ZG ixs iys S h' as) (hacc : acc.toList = as.map Value.ref) :
    ∃ H' : Hp, (∀ b o, H b = some o → H' b = some o) ∧ H S = none ∧ H' S = some (.lst (as.map V.ref)) ∧ (∀ (j : Nat) (t : Addr), as[j]? = some t → ∃ x y, xs[j]? = some x ∧ ys[j]? = some y ∧ H' t = some (.tup [x, y])) ∧ Inv X pins σ H' { s with heap := h' } := by
  have hSn : S ∉ as := fun z => Nat.lt_irrefl _ (hG.hi _ z)
  have nd : as.Nodup := List.Pairwise.imp (fun {a b} (h : a < b) => Nat.ne_of_lt h) hG.up
  have new : ∀ t ∈ as, H t = none := fun t ht => I.hok.fresh (Nat.le_trans hlo (Nat.le_of_lt (hG.hi t ht)))
  have newS : H S = none := I.hok.fresh hlo
  have low : ∀ b o, s.heap.get? b = some o → b ∉ as ∧ b ≠ S := fun b o q => by
    have q := Heap.lt_size q
    exact ⟨fun z => absurd (Nat.lt_of_le_of_lt hlo (hG.hi b z)) (Nat.lt_asymm q), fun z => by subst z; exact absurd hlo (Nat.not_le.mpr q)⟩
  have off : ∀ b, b ∉ as → b ≠ S → putZ (upd H S (.lst (as.map V.ref))) as (xs.zip ys) b = H b := fun b h1 h2 => by rw [putZ_off as _ _ h1, upd_ne h2]
  have kp : ∀ b u, H b = some u → (putZ (upd H S (.lst (as.map V.ref))) as (xs.zip ys)) b = some u := fun b u q => by
    rw [off b (fun z => by rw [new b z] at q; cases q) (fun z => by rw [z, newS] at q; cases q)]
    exact q
  have eS : putZ (upd H S (.lst (as.map V.ref))) as (xs.zip ys) S = some (.lst (as.map V.ref)) := by rw [putZ_off as _ _ hSn, upd_same]
  have atP : ∀ (j : Nat) (t : Addr), as[j]? = some t → ∃ x y, xs[j]? = some x ∧ ys[j]? = some y ∧ putZ (upd H S (.lst (as.map V.ref))) as (xs.zip ys) t = some (.tup [x, y]) := fun j t hj => by
    have hjl : j < as.length := by
      rcases Nat.lt_or_ge j as.length with q | q
      · exact q
      · rw [List.getElem?_eq_none q] at hj; cases hj
    have e1 : xs[j]? = some xs[j] := List.getElem?_eq_getElem (by omega)
    have e2 : ys[j]? = some ys[j] := List.getElem?_eq_getElem (by omega)
    refine ⟨_, _, e1, e2, putZ_at as _ _ j t (xs[j], ys[j]) nd hj ?_⟩
    rw [List.getElem?_zip_eq_some]
    exact ⟨e1, e2⟩
  refine ⟨_, kp, newS, eS, atP, ?_⟩
  refine I.call' (ch := []) rfl ⟨fun b o q _ _ _ => hk b o q, fun b o q _ _ _ => ⟨o.slots, hk b o q⟩, fun b o q n _ => ?_, fun b o q _ => ⟨o, hk b o q⟩, fun b xs q => kp b _ q, fun b o u q => kp b _ q, fun b ps q => ⟨#[], by rw [kp b _ q]; simp⟩⟩ (fun b u q => ?_) I.bare fun b z => by simp at z
  · obtain ⟨z1, z2⟩ := low b o q
    exact (off b z1 z2).trans n
  · by_cases hb : b ∈ as
    · obtain ⟨j, hj⟩ := List.mem_iff_getElem?.mp hb
      obtain ⟨x, y, e1, e2, e3⟩ := atP j b hj
      rw [e3] at q
      cases q
      obtain ⟨v1, v2, f1, f2, f3⟩ := hG.at' j b hj
      obtain ⟨u1, g1, r1⟩ := rx.get e1
      obtain ⟨u2, g2, r2⟩ := ry.get e2
      rw [Array.getElem?_toList, f1] at g1
      rw [Array.getElem?_toList, f2] at g2
      cases g1
      cases g2
      exact ⟨by show 2 ≤ sizeLine; decide, [v1, v2], .cons r1 (.cons r2 .nil), ⟨_, f3, rfl, _, rfl⟩⟩
    · by_cases hb2 : b = S
      · subst hb2
        rw [eS] at q
        cases q
        exact ⟨by rw [List.length_map]; omega, acc.toList, c, by rw [hacc]; exact zl_refs as, by rw [Array.toArray_toList]; exact hS⟩
      · rw [off b hb hb2] at q
        exact (I.hok b u q).stay (fun d v _ y => hk d v y) (fun d y => kp d _ y) fun d xs y => kp d _ y
theorem pe_listZip (hc : X.calm = true) (hg : Gl X "list") (hm : X.mg "list" = none) (hv : bootBuiltins "list" = some (.type "list")) (hg2 : Gl X "zip") (hm2 : X.mg "zip" = none) (ha : PA X [e, e2] ta)
    (hs : starEach [e, e2] X.env = (false, eval e X.env) :: starEach [e2] X.env := by rfl) (hpl : (backTo pos2 (starEach [e2] X.env)).any (·.1) = false := by rfl)
    (hs2 : starEach [.Call (.Name "zip" p2) [e, e2] [] pos2] X.env = (false, eval (.Call (.Name "zip" p2) [e, e2] [] pos2) X.env) :: starEach [] X.env := by rfl) :
    PE X (.Call (.Name "list" p) [.Call (.Name "zip" p2) [e, e2] [] pos2] [] pos) (tZipL X.K ta) := by
  refine ⟨fun pins s σ H Q I hq => ?_⟩
  refine wpAny_Call_Name_kw (ld_blt I hg hm hv ?_)
  refine PyProof.Rows.callWith_type1 ?_ hs2 rfl
  rw [hs2]
  show wpAny _ _ (spliced ((false, eval (.Call (.Name "zip" p2) [e, e2] [] pos2) X.env) :: backTo pos (starEach [] X.env))) _ _ s
  refine Calls.spliced_cons ?_
  refine Call_ (ld_blt I hg2 hm2 PyProof.Rows.boot_zip (PyProof.Rows.callWith_type1 (thn (ha.run pos2 pins s σ H _ I hq) ?_) hs hpl))
  rintro us s1 ⟨vs, H1, I1, r1, a, b, xs, ys, rfl, hq1, hq2, hly, q⟩
  cases r1 with
  | cons r rr =>
    cases rr with
    | cons r' rr =>
      cases rr
      cases r
      cases r'
      obtain ⟨its1, rv1, pt1, hz⟩ := I1.tuple hq1
      obtain ⟨its2, rv2, pt2, _⟩ := I1.tuple hq2
      have l1 := rv1.length
      have l2 := rv2.length
      obtain ⟨o1, ho1, _⟩ := id pt1
      obtain ⟨o2, ho2, _⟩ := id pt2
      refine RZ.call_zipT (show s1.heap.IsTuple a its1.toArray from pt1) (show s1.heap.IsTuple b its2.toArray from pt2) fun h' hz' hTI hTO h1 h2 hsz hk => ?_
      refine Calls.spliced_nil ?_
      have kt : ∀ (d : Addr) (zs : Array Value), s1.heap.IsTuple d zs → h'.IsTuple d zs := fun d zs ⟨o, e, r⟩ => ⟨o, hk _ _ e, r⟩
      refine zl_call (s := { s1 with heap := h' }) (I1.ok.hd hc) (PySem.W.ktu_apart s1.heap.objs.size a b (Heap.lt_size ho1) (Heap.lt_size ho2)) (by simp; omega) (by simp; omega) (q := ⟨hz', ⟨_, _, hTO⟩, hTI, h1, h2, kt _ _ pt1, kt _ _ pt2⟩) fun h'' acc c as k g l G e => ?_
      have kk : ∀ d o, s1.heap.get? d = some o → h''.get? d = some o := fun d o e => k d o (fun z => by
        have q := Heap.lt_size e
        simp only [List.mem_cons, List.not_mem_nil, or_false] at z
        have ge : s1.heap.objs.size ≤ d := by
          rcases z with rfl | rfl | rfl | rfl
          · exact Nat.le_add_right _ _
          · exact Nat.le_add_right _ _
          · exact Nat.le_refl _
          · exact Nat.le_add_right _ _
        exact absurd q (Nat.not_lt.mpr ge)) (hk d o e)
      obtain ⟨H', k1, k2, k3, k4, J⟩ := zl_laid (S := h'.objs.size) I1 hz (by simpa using rv1) (by simpa using rv2) kk (by rw [hsz]; exact Nat.le_add_right _ _) g (by simp at l; omega) hly G e
      exact ⟨.ref _, H', J, rfl, q H' _ as k1 k2 (by simp at l; omega) k3 k4⟩
theorem peListZip (K : PySem.W.Frag) (h : X.K = K) (hc : X.calm = true) (hg : Gl X "list") (hm : X.mg "list" = none) (hg2 : Gl X "zip") (hm2 : X.mg "zip" = none) (ha : PA X [e, e2] ta)
    (hs : starEach [e, e2] X.env = (false, eval e X.env) :: starEach [e2] X.env := by rfl) (hpl : (backTo pos2 (starEach [e2] X.env)).any (·.1) = false := by rfl)
    (hs2 : starEach [.Call (.Name "zip" p2) [e, e2] [] pos2] X.env = (false, eval (.Call (.Name "zip" p2) [e, e2] [] pos2) X.env) :: starEach [] X.env := by rfl) :
    PE X (.Call (.Name "list" p) [.Call (.Name "zip" p2) [e, e2] [] pos2] [] pos) (tZipL K ta) := by
  subst h
  exact pe_listZip hc hg hm rfl hg2 hm2 ha hs hpl hs2
theorem piZipA {tpos : Pos} {es : List Expr} {kk : Nat} (K : PySem.W.Frag) (h : X.K = K) (hg : Gl X "zip") (hm : X.mg "zip" = none) (ha : PA X [e, e2] ta)
    (hs : starEach [e, e2] X.env = (false, eval e X.env) :: starEach [e2] X.env := by rfl) (hpl : (backTo pos (starEach [e2] X.env)).any (·.1) = false := by rfl) :
    PI X (.Tuple es kk tpos) (.Call (.Name "zip" p) [e, e2] [] pos) (RZ.iZipA K ta) := by
  subst h
  exact RZ.pi_zipA hg hm ha hs hpl
end
end Hx

set_option Elab.async false
set_option linter.all false
set_option maxRecDepth 100000
set_option maxHeartbeats 4000000
/-! a list made within a list; data of pairs -/
namespace Hx
open PySem PySem.Spec PyProof.Rows L2
theorem relabel_at {sc : Scope} {en : Env} {S : Scope} (h : en.scope = S) : relabel sc en = relabel sc ⟨S, 0, 0, [], Str.empty, none, .none, none, 0⟩ := by
  subst h
  rfl
theorem pe_lcIn {S : Scope} {X : Cx} {s0 : Shared} {H0 : Hp} {sc0 : Scope} {cl0 : List (Str × Addr)} {C0 : Addr} {en : Env} {fp0 : List Addr} {elt tg iter : Expr} {ifs : List Expr} {scope : Scope} {own : List (Str × Nat)} {pos : Pos} {wi : TI} {g : TG} {tt : TT} {te : TE} (hc : X.calm = true) (hN : X.N.Nodup) (hS : en.scope = S)
    (hi : PI (X.blk s0 H0 sc0 (compEnvC sc0 cl0 C0 en) fp0) tg iter wi) (ok : BlkOk X.N (relabel sc0 ⟨S, 0, 0, [], Str.empty, none, .none, none, 0⟩) scope own)
    (hg : ∀ (s : Shared) (H : Hp) (C : Addr) (cl : List (Str × Addr)) (fp : List Addr), PG ((X.blk s0 H0 sc0 (compEnvC sc0 cl0 C0 en) fp0).blk s H scope (compEnvC scope cl C (compEnvC sc0 cl0 C0 en)) fp) tg g)
    (ht : ∀ (s : Shared) (H : Hp) (C : Addr) (cl : List (Str × Addr)) (fp : List Addr), PTs ((X.blk s0 H0 sc0 (compEnvC sc0 cl0 C0 en) fp0).blk s H scope (compEnvC scope cl C (compEnvC sc0 cl0 C0 en)) fp) ifs tt)
    (he : ∀ (s : Shared) (H : Hp) (C : Addr) (cl : List (Str × Addr)) (fp : List Addr), PE ((X.blk s0 H0 sc0 (compEnvC sc0 cl0 C0 en) fp0).blk s H scope (compEnvC scope cl C (compEnvC sc0 cl0 C0 en)) fp) elt te) (hs : ∀ x, foldedSetIterable iter (compEnvC sc0 cl0 C0 en) x = pure x := by intro _; rfl) :
    PE (X.blk s0 H0 sc0 (compEnvC sc0 cl0 C0 en) fp0) (.ListComp elt [⟨tg, iter, ifs, 0⟩] scope pos) (tLc wi g tt te (own.map (·.2))) := by
  refine pe_lc (X := X.blk s0 H0 sc0 (compEnvC sc0 cl0 C0 en) fp0) hc hN hi ?_ hg ht he hs
  show BlkOk X.N (relabel sc0 en) scope own
  rw [relabel_at hS]
  exact ok
/-! pairs as data -/
def prP (x : Int) (y : Option Int) : PyData := .tuple [.int x, ovP y]
theorem lay_prs : ∀ ps : List (Int × Option Int), PyData.canLayAll0 (ps.map fun p => prP p.1 p.2) = true
  | [] => rfl
  | (x, none) :: r => by
    rw [List.map_cons, PyData.canLayAll0, lay_prs r]
    rfl
  | (x, some i) :: r => by
    rw [List.map_cons, PyData.canLayAll0, lay_prs r]
    rfl
theorem depth_prs : ∀ ps : List (Int × Option Int), PyData.depthAll (ps.map fun p => prP p.1 p.2) ≤ 1
  | [] => by
    show PyData.depthAll [] ≤ 1
    simp [PyData.depthAll]
  | (x, none) :: r => by
    have e := depth_prs r
    simp only [List.map_cons, PyData.depthAll, prP, ovP, PyData.depth] at e ⊢
    omega
  | (x, some i) :: r => by
    have e := depth_prs r
    simp only [List.map_cons, PyData.depthAll, prP, ovP, PyData.depth] at e ⊢
    omega
theorem shaped_prs (ps : List (Int × Option Int)) : SeqAt.shaped (.list (ps.map fun p => prP p.1 p.2)) = true := by
  unfold SeqAt.shaped
  have e := depth_prs ps
  rw [PyData.canLay0, lay_prs, PyData.depth]
  simp only [Bool.true_and, decide_eq_true_eq]
  omega
theorem dp_prs {K : PySem.W.Frag} {H : Hp} : ∀ (ts : List Addr) (ps : List (Int × Option Int)), ts.length = ps.length → (∀ (j : Nat) (t : Addr) (p : Int × Option Int), ts[j]? = some t → ps[j]? = some p → Dp K H (.ref t) (prP p.1 p.2)) → DpAll K H (ts.map V.ref) (ps.map fun p => prP p.1 p.2)
  | [], [], _, _ => .nil
  | [], _ :: _, h, _ => by cases h
  | _ :: _, [], h, _ => by cases h
  | t :: ts, p :: ps, h, k => .cons (k 0 t p rfl rfl) (dp_prs ts ps (Nat.succ.inj h) fun j t' p' e1 e2 => k (j + 1) t' p' e1 e2)
end Hx

set_option Elab.async false
set_option linter.all false
set_option maxRecDepth 100000
set_option maxHeartbeats 4000000
/-! Defs that raise, own errors without fields, in over lists of ints. -/
namespace Hx
open PySem PySem.Spec PyProof.Rows L2
section
variable {P : Program} {w : World} {K : PySem.W.Frag} {mg : Str → Option Value} {base : Heap}
theorem Here.dfX {x : Str} {st : Stmt} {N ps : List Str} {k : Nat} {sp : Sp} (T : Here K mg x st) (S : FnScope N ps (defScope st))
    (hb : ∀ (kV doc pm : Value) (an : Option Addr) (cdv ct : Value) (us : List Value), us.length = ps.length → bindArgs (PySem.W.fnOf x x (defArgs st) (defBody st) (defScope st) .none kV doc pm an cdv ct) ⟨us, []⟩ = pure (ps.zip us))
    (len : ∀ vs H Q E, sp vs H Q E → vs.length = ps.length)
    (body : ∀ (f : Addr) (cdv : Value) (A : Around) (outer : List Env) (s : Shared) (H : Hp) (vs : List V) (Q : VK) (E : XK), Room k (A.deeper (envOfC x (defScope st) s.heap.objs.size f cdv)) → sp vs H Q E →
      ∃ t, PSs (cxOf (L2.CX P w) P w K mg base N x (defScope st) f cdv A outer s H E) (defBody st) t ∧ t { nx := fun _ H' => Q .non H', rt := Q } (L2.start N vs) H) :
    Df P w K mg base (L2.CX P w) x (k + 1) ps sp := by
  obtain ⟨f, fd, F, g⟩ := T.ex
  exact ⟨f, fd, F.okX S len (body f), g, F.kp, F.binds hb⟩
end
section
variable {X : Cx} {x : Str} {k : Nat} {ps : List Str} {sp : Sp} {e : Expr} {es : List Expr} {p pos : Pos} {t : TA}
theorem Df.callX {E : XK} (D : Df X.prog X.w X.K X.mg X.base (L2.CX X.prog X.w) x k ps sp) (hr : Room k X.A) (hg : Gl X x) (tk : Takes X (fun cls d _ H => E cls d H)) (ha : PA X (e :: es) t) (hdb : (x == ("__debug__" : Str)) = false := by decide)
    (he : starEach (e :: es) X.env = (false, eval e X.env) :: starEach es X.env := by rfl) (hpl : (backTo pos (starEach es X.env)).any (·.1) = false := by rfl) : PE X (.Call (.Name x p) (e :: es) [] pos) (tCall sp [] E t) := by
  obtain ⟨f, fd, F, g, kp, b⟩ := D.ex
  exact pe_call F hr hg g kp b .nil (passes_call tk fun _ _ _ _ h => h) ha hdb he hpl
theorem Df.callS {W : WX} (D : Df X.prog X.w X.K X.mg X.base (L2.CX X.prog X.w) x k ps sp) (hr : Room k X.A) (hg : Gl X x) (tk : Takes X W) (ha : PA X (e :: es) t) (hdb : (x == ("__debug__" : Str)) = false := by decide)
    (he : starEach (e :: es) X.env = (false, eval e X.env) :: starEach es X.env := by rfl) (hpl : (backTo pos (starEach es X.env)).any (·.1) = false := by rfl) : PE X (.Call (.Name x p) (e :: es) [] pos) (tCallS sp (WE W) t) := by
  obtain ⟨f, fd, F, g, kp, b⟩ := D.ex
  exact pe_callS F hr hg g kp b (fun σ => passAt tk σ) ha hdb he hpl
theorem q_callS {E : L2.St → XK} {σ : L2.St} {H : Hp} {Q : VK} : tCallS sp E t σ H Q = t σ H fun vs H1 => sp vs H1 Q (E σ) := rfl
end
/-- an own error class over HaulError, without own __init__ -/
structure ErrC (K : PySem.W.Frag) (mg : Str → Option Value) (x : Str) (C : Addr) : Prop where
  g : mg x = some (.ref C)
  ex : PySem.W.excIn K C [.type "ValueError", .type "Exception", .type "BaseException", .type "object"] "ValueError.__new__" = true
  kp : PySem.W.keepIn K (.ref C) = true
  sb : PySem.W.subIn K (.ref C) (.type "BaseException") = some true
  ty : PySem.W.typeIn K (.ref C) = some (.type "type")
  te : PySem.W.exmOne K (.ref C) (.ref C) = some true
theorem ErrC.make {X : Cx} {x m : Str} {C : Addr} {j : Nat} {p p2 pos : Pos} (T : ErrC X.K X.mg x C) (hg : Gl X x) (hdb : (x == ("__debug__" : Str)) = false := by decide) : PMk X (.Call (.Name x p) [.Constant (.str m) j p2] [] pos) (fun _ H Q => Q (.ref C) none H) :=
  pmk_own PySem.F.excBase_ValueError T.ex T.g T.kp (raises_own T.sb T.ty) hg hdb
theorem exm_self {K : PySem.W.Frag} {S : Addr} (h1 : PySem.W.subIn K (.ref S) (.type "BaseException") = some true) (h2 : PySem.W.isClsIn K S = true) (h3 : PySem.W.typeIn K (.ref S) = some (.type "type")) (h4 : PySem.W.subIn K (.ref S) (.ref S) = some true) :
    PySem.W.exmOne K (.ref S) (.ref S) = some true := by
  have e1 : (PySem.W.subIn K (.ref S) (.type "BaseException") == some true) = true := by rw [h1] <;> rfl
  have e2 : ((PySem.W.clsIn K S).isSome && PySem.W.typeIn K (.ref S) == some (.type "type")) = true := by
    have h2' : (PySem.W.clsIn K S).isSome = true := h2
    rw [h2', h3] <;> rfl
  show (if (PySem.W.subIn K (.ref S) (.type "BaseException") == some true) = true then (if ((PySem.W.clsIn K S).isSome && PySem.W.typeIn K (.ref S) == some (.type "type")) = true then PySem.W.subIn K (.ref S) (.ref S) else none) else none) = some true
  rw [if_pos e1, if_pos e2]
  exact h4
section
variable {X : Cx} (K : PySem.W.Frag)
theorem inQ (h : X.K = K) : OpR X (compareOp .In) (rIn K false) := by subst h; exact op_in_seq
theorem notInQ (h : X.K = K) : OpR X (compareOp .NotIn) (rIn K true) := by subst h; exact op_notIn_seq
end
theorem flat_ints (xs : List Int) : (xs.map V.int).all flatV = true := by
  rw [List.all_map]
  exact List.all_eq_true.mpr fun _ _ => rfl
theorem inV_ints (x : Int) (xs : List Int) : inV (.int x) (xs.map V.int) = decide (x ∈ xs) := by
  unfold inV
  rw [List.any_map]
  rw [Bool.eq_iff_iff, List.any_eq_true, decide_eq_true_iff]
  constructor
  · rintro ⟨y, hy, e⟩
    have e : decide (y = x) = true := by simpa [eqV] using e
    rw [← of_decide_eq_true e]
    exact hy
  · intro h
    exact ⟨x, h, by simp [eqV]⟩
end Hx

set_option linter.all false
set_option maxHeartbeats 1000000
/-! Knots: who leads whom. No Python here. -/
namespace Hx
abbrev Links2 := List (Nat × Nat)
/-- links (front, rear) lead from a to b -/
inductive Rch (ls : Links2) : Nat → Nat → Prop
  | refl (a : Nat) : Rch ls a a
  | step {a b c : Nat} (h : (a, b) ∈ ls) (k : Rch ls b c) : Rch ls a c
theorem Rch.trans {ls : Links2} {a b : Nat} (h : Rch ls a b) : ∀ {c : Nat}, Rch ls b c → Rch ls a c := by
  induction h with
  | refl a => exact fun k => k
  | step h _ ih => exact fun k => .step h (ih k)
theorem Rch.one {ls : Links2} {a b : Nat} (h : (a, b) ∈ ls) : Rch ls a b := .step h (.refl b)
theorem Rch.snoc {ls : Links2} {a b c : Nat} (h : Rch ls a b) (k : (b, c) ∈ ls) : Rch ls a c := h.trans (.one k)
/-- a set into which no link leads holds all that lead to one of it -/
theorem Rch.back {ls : Links2} {F : Nat → Prop} (hF : ∀ p ∈ ls, F p.2 → F p.1) {a b : Nat} (h : Rch ls a b) : F b → F a := by
  induction h with
  | refl a => exact fun k => k
  | step h _ ih => exact fun k => hF _ h (ih k)
theorem Rch.fore {ls : Links2} {F : Nat → Prop} (hF : ∀ p ∈ ls, F p.1 → F p.2) {a b : Nat} (h : Rch ls a b) : F a → F b := by
  induction h with
  | refl a => exact fun k => k
  | step h _ ih => exact fun k => ih (hF _ h k)
theorem Rch.inN {ls : Links2} {bs : List Nat} (hin : ∀ p ∈ ls, p.1 ∈ bs ∧ p.2 ∈ bs) {a b : Nat} (h : Rch ls a b) : b ∈ bs → a ∈ bs := h.back (F := fun x => x ∈ bs) fun p hp _ => (hin p hp).1
theorem Rch.inF {ls : Links2} {bs : List Nat} (hin : ∀ p ∈ ls, p.1 ∈ bs ∧ p.2 ∈ bs) {a b : Nat} (h : Rch ls a b) : a ∈ bs → b ∈ bs := h.fore (F := fun x => x ∈ bs) fun p hp _ => (hin p hp).2
noncomputable def rB (ls : Links2) (a b : Nat) : Bool := @decide (Rch ls a b) (Classical.propDecidable _)
theorem rB_iff {ls : Links2} {a b : Nat} : rB ls a b = true ↔ Rch ls a b := by
  unfold rB
  exact @decide_eq_true_iff _ (Classical.propDecidable _)
/-! ascending lists -/
abbrev Asc (l : List Nat) : Prop := l.Pairwise (· < ·)
theorem asc_ext : ∀ {a b : List Nat}, Asc a → Asc b → (∀ x, x ∈ a ↔ x ∈ b) → a = b
  | [], [], _, _, _ => rfl
  | [], y :: b, _, _, h => by
    have := (h y).mpr List.mem_cons_self
    cases this
  | x :: a, [], _, _, h => by
    have := (h x).mp List.mem_cons_self
    cases this
  | x :: a, y :: b, ha, hb, h => by
    obtain ⟨ha1, ha2⟩ := List.pairwise_cons.mp ha
    obtain ⟨hb1, hb2⟩ := List.pairwise_cons.mp hb
    have e : x = y := by
      have h1 := (h x).mp List.mem_cons_self
      have h2 := (h y).mpr List.mem_cons_self
      rcases List.mem_cons.mp h1 with e | h1
      · exact e
      · rcases List.mem_cons.mp h2 with e | h2
        · exact e.symm
        · have := ha1 y h2
          have := hb1 x h1
          omega
    subst e
    congr 1
    refine asc_ext ha2 hb2 fun z => ⟨fun hz => ?_, fun hz => ?_⟩
    · rcases List.mem_cons.mp ((h z).mp (List.mem_cons_of_mem _ hz)) with e | q
      · have := ha1 z hz
        omega
      · exact q
    · rcases List.mem_cons.mp ((h z).mpr (List.mem_cons_of_mem _ hz)) with e | q
      · have := hb1 z hz
        omega
      · exact q
theorem asc_range (n : Nat) : Asc (List.range n) := List.pairwise_lt_range
theorem asc_filter {l : List Nat} (p : Nat → Bool) (h : Asc l) : Asc (l.filter p) := h.filter p
theorem asc_nodup {l : List Nat} (h : Asc l) : l.Nodup := h.imp fun h => Nat.ne_of_lt h
/-! knots -/
noncomputable def sccL (ls : Links2) (bs : List Nat) (b : Nat) : List Nat := bs.filter fun o => rB ls o b && rB ls b o
theorem mem_scc {ls : Links2} {bs : List Nat} {b o : Nat} : o ∈ sccL ls bs b ↔ o ∈ bs ∧ Rch ls o b ∧ Rch ls b o := by
  unfold sccL
  rw [List.mem_filter, Bool.and_eq_true, rB_iff, rB_iff]
noncomputable def knotsF (ls : Links2) (bs cs : List Nat) : List (List Nat) := (cs.filter fun b => (sccL ls bs b).head? == some b).map (sccL ls bs)
def ledB (ls : Links2) (k : List Nat) : Bool := ls.any fun p => decide (p.2 ∈ k) && !decide (p.1 ∈ k)
noncomputable def srcL (ls : Links2) (bs : List Nat) : List (List Nat) := (knotsF ls bs bs).filter fun k => !ledB ls k
theorem knotsF_snoc (ls : Links2) (bs cs : List Nat) (b : Nat) : knotsF ls bs (cs ++ [b]) = knotsF ls bs cs ++ if (sccL ls bs b).head? == some b then [sccL ls bs b] else [] := by
  unfold knotsF
  rw [List.filter_append, List.map_append]
  congr 1
  by_cases h : ((sccL ls bs b).head? == some b) = true
  · rw [if_pos h, List.filter_cons, if_pos h]
    rfl
  · rw [if_neg h, List.filter_cons, if_neg h]
    rfl
theorem scc_same {ls : Links2} {bs : List Nat} {b o : Nat} (h : o ∈ sccL ls bs b) : sccL ls bs o = sccL ls bs b := by
  obtain ⟨_, h1, h2⟩ := mem_scc.mp h
  unfold sccL
  refine List.filter_congr fun x _ => ?_
  rw [Bool.eq_iff_iff, Bool.and_eq_true, Bool.and_eq_true, rB_iff, rB_iff, rB_iff, rB_iff]
  exact ⟨fun ⟨a, c⟩ => ⟨a.trans h1, h2.trans c⟩, fun ⟨a, c⟩ => ⟨a.trans h2, h1.trans c⟩⟩
theorem mem_knots {ls : Links2} {bs : List Nat} {k : List Nat} : k ∈ knotsF ls bs bs ↔ ∃ b, b ∈ bs ∧ (sccL ls bs b).head? = some b ∧ k = sccL ls bs b := by
  unfold knotsF
  rw [List.mem_map]
  constructor
  · rintro ⟨b, hb, rfl⟩
    obtain ⟨h1, h2⟩ := List.mem_filter.mp hb
    exact ⟨b, h1, by simpa using h2, rfl⟩
  · rintro ⟨b, h1, h2, rfl⟩
    exact ⟨b, List.mem_filter.mpr ⟨h1, by simpa using h2⟩, rfl⟩
theorem scc_self {ls : Links2} {bs : List Nat} {b : Nat} (h : b ∈ bs) : b ∈ sccL ls bs b := mem_scc.mpr ⟨h, .refl b, .refl b⟩
/-- the knot of a barge is in the list -/
theorem scc_in {ls : Links2} {bs : List Nat} {b : Nat} (h : b ∈ bs) : sccL ls bs b ∈ knotsF ls bs bs := by
  have hs := scc_self (ls := ls) h
  cases e : sccL ls bs b with
  | nil =>
    rw [e] at hs
    cases hs
  | cons x r =>
    have hx : x ∈ sccL ls bs b := by rw [e]; exact List.mem_cons_self
    have e2 := scc_same hx
    rw [← e, ← e2]
    exact mem_knots.mpr ⟨x, (mem_scc.mp hx).1, by rw [e2, e]; rfl, rfl⟩
theorem knot_ne {ls : Links2} {bs : List Nat} {k : List Nat} (h : k ∈ knotsF ls bs bs) : k ≠ [] := by
  obtain ⟨b, h1, h2, rfl⟩ := mem_knots.mp h
  intro e
  rw [e] at h2
  cases h2
theorem knot_sub {ls : Links2} {bs : List Nat} {k : List Nat} (h : k ∈ knotsF ls bs bs) : ∀ x ∈ k, x ∈ bs := by
  obtain ⟨b, h1, h2, rfl⟩ := mem_knots.mp h
  exact fun x hx => (mem_scc.mp hx).1
theorem ledB_iff {ls : Links2} {k : List Nat} : ledB ls k = true ↔ ∃ p ∈ ls, p.2 ∈ k ∧ p.1 ∉ k := by
  unfold ledB
  rw [List.any_eq_true]
  constructor
  · rintro ⟨p, h1, h2⟩
    obtain ⟨a, b⟩ := Bool.and_eq_true_iff.mp h2
    exact ⟨p, h1, of_decide_eq_true a, by simpa using b⟩
  · rintro ⟨p, h1, h2, h3⟩
    exact ⟨p, h1, Bool.and_eq_true_iff.mpr ⟨decide_eq_true h2, by simpa using h3⟩⟩
theorem mem_src {ls : Links2} {bs : List Nat} {k : List Nat} : k ∈ srcL ls bs ↔ k ∈ knotsF ls bs bs ∧ ∀ p ∈ ls, p.2 ∈ k → p.1 ∈ k := by
  unfold srcL
  rw [List.mem_filter, Bool.not_eq_true']
  refine and_congr_right fun _ => ?_
  rw [Bool.eq_false_iff, Ne, ledB_iff]
  constructor
  · intro h p hp h2
    exact Classical.byContradiction fun h3 => h ⟨p, hp, h2, h3⟩
  · rintro h ⟨p, hp, h2, h3⟩
    exact h3 (h p hp h2)
/-- each barge is led by a source knot -/
theorem src_of {ls : Links2} {bs : List Nat} (hin : ∀ p ∈ ls, p.1 ∈ bs ∧ p.2 ∈ bs) : ∀ (N : Nat) (b : Nat), b ∈ bs → (bs.filter fun o => rB ls o b).length ≤ N → ∃ k ∈ srcL ls bs, ∃ x ∈ k, Rch ls x b
  | 0, b, hb, h => by
    have : b ∈ bs.filter fun o => rB ls o b := List.mem_filter.mpr ⟨hb, rB_iff.mpr (.refl b)⟩
    rw [List.length_eq_zero_iff.mp (Nat.le_zero.mp h)] at this
    cases this
  | N + 1, b, hb, h => by
    by_cases hs : sccL ls bs b ∈ srcL ls bs
    · exact ⟨_, hs, b, scc_self hb, .refl b⟩
    · have hn : ¬ ∀ p ∈ ls, p.2 ∈ sccL ls bs b → p.1 ∈ sccL ls bs b := fun z => hs (mem_src.mpr ⟨scc_in hb, z⟩)
      obtain ⟨p, hp, h2, h1⟩ : ∃ p ∈ ls, p.2 ∈ sccL ls bs b ∧ p.1 ∉ sccL ls bs b := Classical.byContradiction fun z => hn fun p hp h2 => Classical.byContradiction fun h1 => z ⟨p, hp, h2, h1⟩
      obtain ⟨_, g1, g2⟩ := mem_scc.mp h2
      have f1 := (hin p hp).1
      have r1 : Rch ls p.1 b := .step hp g1
      have nr : ¬ Rch ls b p.1 := fun z => h1 (mem_scc.mpr ⟨f1, r1, z⟩)
      have hlt : (bs.filter fun o => rB ls o p.1).length < (bs.filter fun o => rB ls o b).length := by
        have sub : ∀ o, rB ls o p.1 = true → rB ls o b = true := fun o ho => rB_iff.mpr ((rB_iff.mp ho).trans r1)
        have key : ∀ (l : List Nat), b ∈ l → (l.filter fun o => rB ls o p.1).length < (l.filter fun o => rB ls o b).length := by
          have le : ∀ l : List Nat, (l.filter fun o => rB ls o p.1).length ≤ (l.filter fun o => rB ls o b).length := fun l => by
            induction l with
            | nil => exact Nat.le_refl _
            | cons x l ih =>
              rw [List.filter_cons, List.filter_cons]
              by_cases hx : rB ls x p.1 = true
              · rw [if_pos hx, if_pos (sub x hx)]
                exact Nat.succ_le_succ ih
              · rw [if_neg hx]
                split
                · exact Nat.le_succ_of_le ih
                · exact ih
          intro l
          induction l with
          | nil => exact fun z => by cases z
          | cons x l ih =>
            intro hm
            rw [List.filter_cons, List.filter_cons]
            rcases List.mem_cons.mp hm with e | hm
            · subst e
              rw [if_neg (fun z => nr (rB_iff.mp z)), if_pos (rB_iff.mpr (.refl b))]
              exact Nat.lt_succ_of_le (le l)
            · by_cases hx : rB ls x p.1 = true
              · rw [if_pos hx, if_pos (sub x hx)]
                exact Nat.succ_lt_succ (ih hm)
              · rw [if_neg hx]
                split
                · exact Nat.lt_succ_of_lt (ih hm)
                · exact ih hm
        exact key bs hb
      obtain ⟨k, hk, x, hx, r⟩ := src_of hin N p.1 f1 (by omega)
      exact ⟨k, hk, x, hx, r.trans r1⟩
theorem src_leads {ls : Links2} {bs : List Nat} (hin : ∀ p ∈ ls, p.1 ∈ bs ∧ p.2 ∈ bs) {b : Nat} (hb : b ∈ bs) : ∃ k ∈ srcL ls bs, ∃ x ∈ k, Rch ls x b := src_of hin _ b hb (Nat.le_refl _)
theorem knot_rch {ls : Links2} {bs : List Nat} {k : List Nat} (h : k ∈ knotsF ls bs bs) {x y : Nat} (hx : x ∈ k) (hy : y ∈ k) : Rch ls x y := by
  obtain ⟨b, h1, h2, rfl⟩ := mem_knots.mp h
  exact (mem_scc.mp hx).2.1.trans (mem_scc.mp hy).2.2
theorem pw_of_nodup {α β : Type} (g : α → β) {l : List α} (hi : ∀ x ∈ l, ∀ y ∈ l, g x = g y → x = y) (h : l.Nodup) : (l.map g).Nodup := by
  induction l with
  | nil => exact .nil
  | cons x l ih =>
    obtain ⟨h1, h2⟩ := List.nodup_cons.mp h
    rw [List.map_cons]
    refine List.nodup_cons.mpr ⟨fun hm => ?_, ih (fun a ha b hb => hi a (List.mem_cons_of_mem _ ha) b (List.mem_cons_of_mem _ hb)) h2⟩
    obtain ⟨y, hy, e⟩ := List.mem_map.mp hm
    have := hi y (List.mem_cons_of_mem _ hy) x List.mem_cons_self e
    exact h1 (this ▸ hy)
/-- the knots are different lists -/
theorem knots_nodup {ls : Links2} {bs : List Nat} (h : bs.Nodup) : (knotsF ls bs bs).Nodup := by
  unfold knotsF
  refine pw_of_nodup _ (fun x hx y hy e => ?_) (h.filter _)
  have h1 := (List.mem_filter.mp hx).2
  have h2 := (List.mem_filter.mp hy).2
  have h1 : (sccL ls bs x).head? = some x := by simpa using h1
  have h2 : (sccL ls bs y).head? = some y := by simpa using h2
  rw [e, h2] at h1
  exact (Option.some.inj h1).symm
theorem src_nodup {ls : Links2} {bs : List Nat} (h : bs.Nodup) : (srcL ls bs).Nodup := (knots_nodup h).filter _
/-- different knots share no barge -/
theorem knots_apart {ls : Links2} {bs : List Nat} {k k' : List Nat} (h : k ∈ knotsF ls bs bs) (h' : k' ∈ knotsF ls bs bs) {x : Nat} (hx : x ∈ k) (hx' : x ∈ k') : k = k' := by
  obtain ⟨b, h1, h2, rfl⟩ := mem_knots.mp h
  obtain ⟨b', h1', h2', rfl⟩ := mem_knots.mp h'
  rw [← scc_same hx, ← scc_same hx']
end Hx

set_option Elab.async false
set_option linter.all false
set_option maxRecDepth 100000
set_option maxHeartbeats 4000000
namespace Hx
open PySem PySem.Spec PyProof.Rows L2
local macro_rules | `(tactic| walk_at "rd") => `(tactic| (try simp only [q_var, q_c, q_op, q_un, q_rI, q_rI0, q_rU, q_rEq, q_rNe, q_test, q_tB, q_and, q_or, q_not, q_andV, q_orV, q_notV, q_if, q_isN, q_notN, q_chain, q_next, q_seq, q_break, q_cont, q_drop, q_ret, q_retN, q_ifS, q_never, q_gN, q_gNil, q_gCons, q_gTup, q_gSub, q_asg, q_par, q_aug, q_nil, q_cons, q_tup, q_lst, q_call, q_cb, q_noPart, q_part, q_sl, q_bm0, q_bm, q_yes, q_for, q_lc, q_iList, q_iTup, q_iRng1, q_iEnumT, q_iEnum, q_iRng2, q_iZipA, q_iZipM, q_ipI, q_ckw, q_len, q_listOf, q_tupleOf, L2.start, cx_K, wipe, List.map_cons, List.map_nil, List.length_cons, List.length_nil, List.cons_append, List.nil_append, List.append_nil, List.replicate, List.getElem?_cons_zero, List.getElem?_cons_succ, List.set_cons_zero, List.set_cons_succ, Option.some.injEq, List.cons.injEq, exists_eq_left', exists_eq_left, exists_and_left, V.int.injEq, V.bl.injEq, V.ref.injEq, if_true, if_false, Bool.not_true, Bool.not_false, true_and, and_true, Bool.false_eq_true, ite_true, ite_false, Nat.reduceAdd, Nat.reduceSub, reduceCtorEq, decide_false, decide_true, Int.toNat_natCast, false_and, exists_false, or_false, false_or]))
/-- more built-in names that the text leaves alone -/
structure Blt2 (mg : Str → Option Value) : Prop where
  sum : mg "sum" = none
  sorted : mg "sorted" = none
  dict : mg "dict" = none
  set : mg "set" = none
  abs : mg "abs" = none
  reversed : mg "reversed" = none
  str : mg "str" = none
theorem sortedQ {X : Cx} (K : PySem.W.Frag) (h : X.K = K) : CallR X (.builtin "sorted") (rSorted K) := by subst h; exact cr_sorted
section
variable {K : PySem.W.Frag} {g : TG} {tb : TS} {D : Ends} {σ : L2.St} {H : Hp} {a b : Addr} {xs ys : List V} {tt : TT} {te : TE} {vs : List Nat} {p : Addr} {Qd : Hp → Prop}
theorem lcEnumT (Pv : Nat → Hp → Prop) (h0 : Pv 0 (upd H p (.lst []))) (hG : ∀ i H, i ≤ xs.length → Pv i H → SqT K H a xs)
    (hs : ∀ (i : Nat) x T H, xs[i]? = some x → Pv i H → H T = none → g (.ref T) (wipe σ vs) (upd H T (.tup [.int i, x])) fun σ2 H2 => wipe σ2 vs = wipe σ vs ∧ tt σ2 H2 fun b H3 =>
      if b = true then te σ2 H3 fun y H4 => ∃ acc, H4 p = some (.lst acc) ∧ acc.length < sizeLine ∧ Pv (i + 1) (upd H4 p (.lst (acc ++ [y]))) else Pv (i + 1) H3) (hd : ∀ H, Pv xs.length H → Qd H) : LcW (IteT K a) g tt te vs p σ H Qd :=
  lcW walk_enumT Pv h0 hG (fun i x H H' _ p y => by
    obtain ⟨T, u, v, rfl, hT, rfl, e1, e2⟩ := y
    cases Option.some.inj e1
    exact hs i v T H e2 p hT) hd
/-- a list at l of objects at ts, what each holds told by o of xs -/
structure ObjsTs {α : Type} (o : α → HO) (H : Hp) (l : Addr) (ts : List Addr) (xs : List α) : Prop where
  top : H l = some (.lst (ts.map V.ref))
  len : ts.length = xs.length
  out : l ∉ ts
  obj : ∀ (i : Nat) t x, ts[i]? = some t → xs[i]? = some x → H t = some (o x)
def ObjsAt {α : Type} (o : α → HO) (H : Hp) (l : Addr) (xs : List α) : Prop := ∃ ts, ObjsTs o H l ts xs
theorem ObjsTs.mono {α : Type} {o : α → HO} {H H' : Hp} {l : Addr} {ts : List Addr} {xs : List α} (h : ObjsTs o H l ts xs) (e : Same H H') : ObjsTs o H' l ts xs := ⟨e _ _ h.top, h.len, h.out, fun i t x a b => e _ _ (h.obj i t x a b)⟩
theorem ObjsAt.mono {α : Type} {o : α → HO} {H H' : Hp} {l : Addr} {xs : List α} (h : ObjsAt o H l xs) (e : Same H H') : ObjsAt o H' l xs := by
  obtain ⟨ts, h⟩ := h
  exact ⟨ts, h.mono e⟩
theorem ObjsTs.nil {α : Type} {o : α → HO} {H : Hp} {l : Addr} (h : H l = some (.lst [])) : ObjsTs o H l [] [] := ⟨h, rfl, List.not_mem_nil, fun i t x a => by simp at a⟩
theorem ObjsTs.snoc {α : Type} {o : α → HO} {H : Hp} {l T : Addr} {ts : List Addr} {xs : List α} {x : α} (h : ObjsTs o H l ts xs) (hT : H T = some (o x)) (n : T ≠ l) : ObjsTs o (upd H l (.lst (ts.map V.ref ++ [.ref T]))) l (ts ++ [T]) (xs ++ [x]) := by
  refine ⟨by rw [upd_same, List.map_append]; rfl, by rw [List.length_append, List.length_append, h.len]; rfl, fun z => ?_, fun i t y a b => ?_⟩
  · rcases List.mem_append.mp z with z | z
    · exact h.out z
    · exact n (List.mem_singleton.mp z).symm
  · have nt : t ≠ l := by
      rintro rfl
      rcases List.mem_append.mp (List.mem_of_getElem? a) with z | z
      · exact h.out z
      · exact n (List.mem_singleton.mp z).symm
    rw [upd_ne nt]
    rcases Nat.lt_or_ge i ts.length with q | q
    · rw [List.getElem?_append_left q] at a
      rw [List.getElem?_append_left (by rw [← h.len]; exact q)] at b
      exact h.obj i t y a b
    · rw [List.getElem?_append_right q] at a
      rw [List.getElem?_append_right (by rw [← h.len]; exact q)] at b
      have e : i - ts.length = 0 := by
        have := (List.getElem?_eq_some_iff.mp a).1
        simp at this
        omega
      rw [e] at a
      rw [← h.len, e] at b
      cases a
      cases b
      exact hT
theorem ObjsTs.get {α : Type} {o : α → HO} {H : Hp} {l : Addr} {ts : List Addr} {xs : List α} (h : ObjsTs o H l ts xs) {i : Nat} {v : V} (hv : (ts.map V.ref)[i]? = some v) : ∃ t x, v = .ref t ∧ ts[i]? = some t ∧ xs[i]? = some x ∧ H t = some (o x) := by
  rw [List.getElem?_map] at hv
  cases e : ts[i]? with
  | none =>
    rw [e] at hv
    cases hv
  | some t =>
    rw [e] at hv
    cases hv
    have hi : i < xs.length := by
      rw [← h.len]
      exact (List.getElem?_eq_some_iff.mp e).1
    exact ⟨t, xs[i], rfl, rfl, List.getElem?_eq_getElem hi, h.obj i t _ e (List.getElem?_eq_getElem hi)⟩
def oPair (p : Nat × Nat) : HO := .tup [.int (p.1 : Nat), .int (p.2 : Nat)]
def oNats (k : List Nat) : HO := .lst (natV k)
abbrev LinksAt (H : Hp) (l : Addr) (ls : Links2) : Prop := ObjsAt oPair H l ls
abbrev KnotsAt (H : Hp) (l : Addr) (ks : List (List Nat)) : Prop := ObjsAt oNats H l ks
theorem natV_app (a b : List Nat) : natV (a ++ b) = natV a ++ natV b := by
  unfold natV
  rw [List.map_append]
theorem natV_len (a : List Nat) : (natV a).length = a.length := by
  unfold natV
  rw [List.length_map]
theorem natV_flat (a : List Nat) : (natV a).all flatV = true := by
  unfold natV
  rw [List.all_map]
  exact List.all_eq_true.mpr fun _ _ => rfl
theorem inV_nat (x : Nat) (a : List Nat) : inV (.int (x : Nat)) (natV a) = decide (x ∈ a) := by
  have e : natV a = (a.map fun (k : Nat) => (k : Int)).map V.int := by
    unfold natV
    rw [List.map_map]
    rfl
  rw [e, inV_ints]
  refine decide_eq_decide.mpr ⟨fun h => ?_, fun h => List.mem_map.mpr ⟨x, h, rfl⟩⟩
  obtain ⟨y, hy, e⟩ := List.mem_map.mp h
  have e : (y : Int) = x := e
  have e : y = x := by omega
  rw [← e]
  exact hy
theorem in_nat {Q : VK} {l : Addr} {k : List Nat} {x : Nat} (h : H l = some (.lst (natV k))) (q : Q (.bl (decide (x ∈ k))) H) : rIn K false (.int (x : Nat)) (.ref l) H Q :=
  ⟨l, _, rfl, .inl (.of h), rfl, natV_flat k, by rw [inV_nat]; exact q⟩
theorem notIn_nat {Q : VK} {l : Addr} {k : List Nat} {x : Nat} (h : H l = some (.lst (natV k))) (q : Q (.bl (!decide (x ∈ k))) H) : rIn K true (.int (x : Nat)) (.ref l) H Q :=
  ⟨l, _, rfl, .inl (.of h), rfl, natV_flat k, by rw [inV_nat]; exact q⟩
theorem natV_get {k : List Nat} {i : Nat} {v : V} (h : (natV k)[i]? = some v) : ∃ x : Nat, k[i]? = some x ∧ v = .int (x : Nat) := by
  unfold natV at h
  rw [List.getElem?_map] at h
  cases e : k[i]? with
  | none =>
    rw [e] at h
    cases h
  | some x =>
    rw [e] at h
    exact ⟨x, rfl, (Option.some.inj h).symm⟩
end
def movB (xs ys : List Int) (i : Nat) : Bool := decide (xs.getD i 0 < ys.getD i 0)
def movL (xs ys : List Int) : List Nat := (List.range xs.length).filter (movB xs ys)
def leadB (xs ys : List Int) (r : Rope) : Bool := decide (r.f.toNat ∈ movL xs ys) && (decide (r.r.toNat ∈ movL xs ys) && decide (ys.getD r.f.toNat 0 - ys.getD r.r.toNat 0 = r.l))
def linkL (xs ys : List Int) (rs : List Rope) : Links2 := (rs.filter (leadB xs ys)).map fun r => (r.f.toNat, r.r.toNat)
theorem mem_mov {xs ys : List Int} {i : Nat} : i ∈ movL xs ys ↔ i < xs.length ∧ xs.getD i 0 < ys.getD i 0 := by
  unfold movL movB
  rw [List.mem_filter, List.mem_range, decide_eq_true_iff]
theorem mem_link {xs ys : List Int} {rs : List Rope} {p : Nat × Nat} : p ∈ linkL xs ys rs ↔ ∃ r ∈ rs, r.f.toNat = p.1 ∧ r.r.toNat = p.2 ∧ p.1 ∈ movL xs ys ∧ p.2 ∈ movL xs ys ∧ ys.getD p.1 0 - ys.getD p.2 0 = r.l := by
  unfold linkL
  rw [List.mem_map]
  constructor
  · rintro ⟨r, hr, rfl⟩
    obtain ⟨h1, h2⟩ := List.mem_filter.mp hr
    unfold leadB at h2
    rw [Bool.and_eq_true, Bool.and_eq_true, decide_eq_true_iff, decide_eq_true_iff, decide_eq_true_iff] at h2
    exact ⟨r, h1, rfl, rfl, h2.1, h2.2.1, h2.2.2⟩
  · rintro ⟨r, hr, h1, h2, h3, h4, h5⟩
    refine ⟨r, List.mem_filter.mpr ⟨hr, ?_⟩, by rw [h1, h2]⟩
    unfold leadB
    rw [Bool.and_eq_true, Bool.and_eq_true, decide_eq_true_iff, decide_eq_true_iff, decide_eq_true_iff, h1, h2]
    exact ⟨h3, h4, h5⟩
theorem link_in {xs ys : List Int} {rs : List Rope} : ∀ p ∈ linkL xs ys rs, p.1 ∈ movL xs ys ∧ p.2 ∈ movL xs ys := fun p hp => by
  obtain ⟨r, _, _, _, h1, h2, _⟩ := mem_link.mp hp
  exact ⟨h1, h2⟩
theorem linkL_len (xs ys : List Int) (rs : List Rope) : (linkL xs ys rs).length ≤ rs.length := by
  unfold linkL
  rw [List.length_map]
  exact List.length_filter_le _ _
theorem mov_len (xs ys : List Int) : (movL xs ys).length ≤ xs.length := by
  unfold movL
  exact Nat.le_trans (List.length_filter_le _ _) (by rw [List.length_range]; exact Nat.le_refl _)
theorem nodup_le : ∀ (n : Nat) (l : List Nat), l.Nodup → (∀ x ∈ l, x < n) → l.length ≤ n
  | 0, l, _, h => by
    cases l with
    | nil => exact Nat.le_refl _
    | cons x l => exact absurd (h x List.mem_cons_self) (Nat.not_lt_zero _)
  | n + 1, l, hn, h => by
    have h1 := nodup_le n (l.erase n) (hn.erase n) fun x hx => by
      have h2 := (hn.mem_erase_iff).mp hx
      have := h x h2.2
      omega
    rw [List.length_erase] at h1
    split at h1 <;> omega
section
variable {P : Program} {w : World} {K : PySem.W.Frag} {mg : Str → Option Value} {base : Heap}
end
end Hx

set_option Elab.async false
set_option linter.all false
set_option maxRecDepth 100000
set_option maxHeartbeats 4000000
namespace Hx
open PySem PySem.Spec PyProof.Rows L2
local macro_rules | `(tactic| walk_at "rd") => `(tactic| (try simp only [q_var, q_c, q_op, q_un, q_rI, q_rI0, q_rU, q_rEq, q_rNe, q_test, q_tB, q_and, q_or, q_not, q_andV, q_orV, q_notV, q_if, q_isN, q_notN, q_chain, q_next, q_seq, q_break, q_cont, q_drop, q_ret, q_retN, q_ifS, q_never, q_gN, q_gNil, q_gCons, q_gTup, q_gSub, q_asg, q_par, q_aug, q_nil, q_cons, q_tup, q_lst, q_call, q_cb, q_noPart, q_part, q_sl, q_bm0, q_bm, q_yes, q_for, q_lc, q_iList, q_iTup, q_iRng1, q_iEnumT, q_iEnum, q_iRng2, q_iZipA, q_iZipM, q_ipI, q_ckw, q_len, q_listOf, q_tupleOf, L2.start, cx_K, wipe, List.map_cons, List.map_nil, List.length_cons, List.length_nil, List.cons_append, List.nil_append, List.append_nil, List.replicate, List.getElem?_cons_zero, List.getElem?_cons_succ, List.set_cons_zero, List.set_cons_succ, Option.some.injEq, List.cons.injEq, exists_eq_left', exists_eq_left, exists_and_left, V.int.injEq, V.bl.injEq, V.ref.injEq, if_true, if_false, Bool.not_true, Bool.not_false, true_and, and_true, Bool.false_eq_true, ite_true, ite_false, Nat.reduceAdd, Nat.reduceSub, reduceCtorEq, decide_false, decide_true, Int.toNat_natCast, false_and, exists_false, or_false, false_or]))
theorem asc_of {ns : List Int} {F : List Nat} (hp : ns.Perm (F.map fun (k : Nat) => (k : Int))) (hs : ns.Pairwise (· ≤ ·)) (hF : F.Nodup) : ∃ L : List Nat, ns.map V.int = natV L ∧ Asc L ∧ ∀ x, x ∈ L ↔ x ∈ F := by
  have hpos : ∀ x ∈ ns, ∃ k : Nat, x = k ∧ k ∈ F := fun x hx => by
    obtain ⟨k, hk, e⟩ := List.mem_map.mp (hp.mem_iff.mp hx)
    exact ⟨k, e.symm, hk⟩
  have hnd : ns.Nodup := hp.nodup_iff.mpr (by
    have key : ∀ l : List Nat, l.Nodup → (l.map fun (k : Nat) => (k : Int)).Nodup := fun l => by
      induction l with
      | nil => exact fun _ => .nil
      | cons x l ih =>
        intro h
        obtain ⟨h1, h2⟩ := List.nodup_cons.mp h
        rw [List.map_cons]
        refine List.nodup_cons.mpr ⟨fun hm => ?_, ih h2⟩
        obtain ⟨y, hy, e⟩ := List.mem_map.mp hm
        have e : (y : Int) = x := e
        have : y = x := by omega
        exact h1 (this ▸ hy)
    exact key F hF)
  have hns : ns = (ns.map Int.toNat).map fun (k : Nat) => (k : Int) := by
    rw [List.map_map]
    have : ∀ l : List Int, (∀ x ∈ l, 0 ≤ x) → l = l.map ((fun (k : Nat) => (k : Int)) ∘ Int.toNat) := fun l => by
      induction l with
      | nil => exact fun _ => rfl
      | cons x l ih =>
        intro h
        rw [List.map_cons, ← ih fun y hy => h y (List.mem_cons_of_mem _ hy)]
        congr 1
        exact (Int.toNat_of_nonneg (h x List.mem_cons_self)).symm
    refine this ns fun x hx => ?_
    obtain ⟨k, rfl, _⟩ := hpos x hx
    omega
  refine ⟨ns.map Int.toNat, ?_, ?_, fun x => ⟨fun h => ?_, fun h => ?_⟩⟩
  · unfold natV
    conv => lhs; rw [hns]
    rw [List.map_map]
    rfl
  · have lt : ns.Pairwise (· < ·) := by
      refine (hs.and hnd).imp fun h => ?_
      have := h.2
      have := h.1
      omega
    refine List.pairwise_map.mpr ?_
    refine lt.imp_of_mem fun {a b} ha hb h => ?_
    obtain ⟨k, rfl, _⟩ := hpos _ ha
    obtain ⟨k', rfl, _⟩ := hpos _ hb
    omega
  · obtain ⟨y, hy, rfl⟩ := List.mem_map.mp h
    obtain ⟨k, rfl, hk⟩ := hpos y hy
    exact hk
  · refine List.mem_map.mpr ⟨(x : Int), hp.mem_iff.mpr (List.mem_map.mpr ⟨x, h, rfl⟩), Int.toNat_natCast x⟩
section
variable {P : Program} {w : World} {K : PySem.W.Frag} {mg : Str → Option Value} {base : Heap}
end
end Hx

set_option Elab.async false
set_option linter.all false
set_option maxRecDepth 100000
set_option maxHeartbeats 4000000
namespace Hx
open PySem PySem.Spec PyProof.Rows L2
local macro_rules | `(tactic| walk_at "rd") => `(tactic| (try simp only [q_var, q_c, q_op, q_un, q_rI, q_rI0, q_rU, q_rEq, q_rNe, q_test, q_tB, q_and, q_or, q_not, q_andV, q_orV, q_notV, q_if, q_isN, q_notN, q_chain, q_next, q_seq, q_break, q_cont, q_drop, q_ret, q_retN, q_ifS, q_never, q_gN, q_gNil, q_gCons, q_gTup, q_gSub, q_asg, q_par, q_aug, q_nil, q_cons, q_tup, q_lst, q_call, q_cb, q_noPart, q_part, q_sl, q_bm0, q_bm, q_yes, q_for, q_lc, q_iList, q_iTup, q_iRng1, q_iEnumT, q_iEnum, q_iRng2, q_iZipA, q_iZipM, q_ipI, q_ckw, q_len, q_listOf, q_tupleOf, L2.start, cx_K, wipe, List.map_cons, List.map_nil, List.length_cons, List.length_nil, List.cons_append, List.nil_append, List.append_nil, List.replicate, List.getElem?_cons_zero, List.getElem?_cons_succ, List.set_cons_zero, List.set_cons_succ, Option.some.injEq, List.cons.injEq, exists_eq_left', exists_eq_left, exists_and_left, V.int.injEq, V.bl.injEq, V.ref.injEq, if_true, if_false, Bool.not_true, Bool.not_false, true_and, and_true, Bool.false_eq_true, ite_true, ite_false, Nat.reduceAdd, Nat.reduceSub, reduceCtorEq, decide_false, decide_true, Int.toNat_natCast, false_and, exists_false, or_false, false_or]))
/-- what a dict comprehension asks of a walk, its new dict at p -/
def DcW (J : It) (g : TG) (tt : TT) (tk tv : TE) (vs : List Nat) (p : Addr) (σ : L2.St) (H1 : Hp) (Qd : Hp → Prop) : Prop := ∃ W : Nat → Nat → Hp → Prop, (∃ m, W 0 m (upd H1 p (.dK []))) ∧ ∀ i m H, W i m H →
  (J.stop i H ∧ Qd H) ∨ (J.go i H ∧ ∃ Nx : Hp → Prop, (∀ H', Nx H' → ∃ m', m' < m ∧ W (i + 1) m' H') ∧ ∀ x H', J.yld i H x H' → g x (wipe σ vs) H' fun σ2 H2 => wipe σ2 vs = wipe σ vs ∧ tt σ2 H2 fun b H3 =>
    if b = true then tk σ2 H3 fun y H4 => tv σ2 H4 fun z H5 => ∃ kvs k, y = kV k ∧ H5 p = some (.dK kvs) ∧ kvs.length < sizeLine ∧ Nx (upd H5 p (.dK (putK kvs k z))) else Nx H3)
section
variable {K : PySem.W.Frag} {J : It} {n : Nat} {G : Hp → Prop} {Y : Nat → Hp → V → Hp → Prop} {g : TG} {wi : TI} {σ : L2.St} {H : Hp} {a : Addr} {xs : List V} {tt : TT} {tk tv ty td : TE} {vs : List Nat} {p : Addr} {Qd : Hp → Prop} {Q : VK}
theorem q_dc : tDc wi g tt tk tv vs σ H Q = wi σ H fun J H1 => ∀ D, H1 D = none → DcW J g tt tk tv vs D σ H1 (Q (.ref D)) := rfl
theorem q_dget : tDGet td ty σ H Q = td σ H fun x H1 => ty σ H1 fun y H2 => ∃ a v, x = .ref a ∧ DGet H2 a y (some v) ∧ Q v H2 := rfl
theorem dcW (wk : Walk J n G Y) (Pv : Nat → Hp → Prop) (h0 : Pv 0 (upd H p (.dK []))) (hG : ∀ i H, i ≤ n → Pv i H → G H)
    (hs : ∀ i x H H', i < n → Pv i H → Y i H x H' → g x (wipe σ vs) H' fun σ2 H2 => wipe σ2 vs = wipe σ vs ∧ tt σ2 H2 fun b H3 =>
      if b = true then tk σ2 H3 fun y H4 => tv σ2 H4 fun z H5 => ∃ kvs k, y = kV k ∧ H5 p = some (.dK kvs) ∧ kvs.length < sizeLine ∧ Pv (i + 1) (upd H5 p (.dK (putK kvs k z))) else Pv (i + 1) H3) (hd : ∀ H, Pv n H → Qd H) : DcW J g tt tk tv vs p σ H Qd := by
  refine ⟨fun i m H => i + m = n ∧ Pv i H, ⟨n, Nat.zero_add n, h0⟩, fun i m H w => ?_⟩
  obtain ⟨em, pv⟩ := w
  have hg := hG i H (by omega) pv
  cases m with
  | zero =>
    have ei : i = n := by omega
    rw [ei] at pv ⊢
    exact .inl ⟨wk.stops H hg, hd H pv⟩
  | succ m => exact .inr ⟨wk.goes i H (by omega) hg, fun H' => Pv (i + 1) H', fun H' k => ⟨m, Nat.lt_succ_self m, by omega, k⟩, fun x H' y => hs i x H H' (by omega) pv (wk.yields i H x H' (by omega) hg y)⟩
theorem dcList (Pv : Nat → Hp → Prop) (h0 : Pv 0 (upd H p (.dK []))) (hG : ∀ i H, i ≤ xs.length → Pv i H → SqL K H a xs)
    (hs : ∀ (i : Nat) x H, xs[i]? = some x → Pv i H → g x (wipe σ vs) H fun σ2 H2 => wipe σ2 vs = wipe σ vs ∧ tt σ2 H2 fun b H3 =>
      if b = true then tk σ2 H3 fun y H4 => tv σ2 H4 fun z H5 => ∃ kvs k, y = kV k ∧ H5 p = some (.dK kvs) ∧ kvs.length < sizeLine ∧ Pv (i + 1) (upd H5 p (.dK (putK kvs k z))) else Pv (i + 1) H3) (hd : ∀ H, Pv xs.length H → Qd H) : DcW (Itl K a) g tt tk tv vs p σ H Qd :=
  dcW walk_list Pv h0 hG (fun i x H H' _ p y => by
    obtain ⟨rfl, e⟩ := y
    exact hs i x H' e p) hd
end
section
variable {P : Program} {w : World} {K : PySem.W.Frag} {mg : Str → Option Value} {base : Heap}
/-- the dict of leaders at d: for each of bs a list of who leads to it -/
structure LeadsAt (no : Addr) (H : Hp) (d : Addr) (ls : Links2) (bs : List Nat) : Prop where
  ex : ∃ kvs : List (Key × V), H d = some (.dK kvs) ∧ kvs.length ≤ bs.length ∧ ∀ b ∈ bs, ∃ a L, valV kvs (Sum.inl (b : Int)) = some (.ref a) ∧ H a = some (.lst (natV L)) ∧ a ≠ d ∧ a ≠ no ∧ Asc L ∧ ∀ x, x ∈ L ↔ Rch ls x b
theorem LeadsAt.mono {no : Addr} {H H' : Hp} {d : Addr} {ls : Links2} {bs : List Nat} (h : LeadsAt no H d ls bs) (e : Same H H') : LeadsAt no H' d ls bs := by
  obtain ⟨kvs, h1, h2, h3⟩ := h.ex
  refine ⟨kvs, e _ _ h1, h2, fun b hb => ?_⟩
  obtain ⟨a, L, g1, g2, g3⟩ := h3 b hb
  exact ⟨a, L, g1, e _ _ g2, g3⟩
theorem LeadsAt.away {no L : Addr} {H : Hp} {d : Addr} {ls : Links2} {bs : List Nat} (h : LeadsAt no H d ls bs) (hL : H L = none) : LeadsAt L H d ls bs := by
  obtain ⟨kvs, h1, h2, h3⟩ := h.ex
  refine ⟨kvs, h1, h2, fun b hb => ?_⟩
  obtain ⟨a, L', g1, g2, g3, _, g4⟩ := h3 b hb
  exact ⟨a, L', g1, g2, g3, ne_of_none g2 hL, g4⟩
theorem LeadsAt.get {no : Addr} {H : Hp} {d : Addr} {ls : Links2} {bs : List Nat} (h : LeadsAt no H d ls bs) {b : Nat} (hb : b ∈ bs) : ∃ a L, DGet H d (.int (b : Nat)) (some (.ref a)) ∧ H a = some (.lst (natV L)) ∧ Asc L ∧ ∀ x, x ∈ L ↔ Rch ls x b := by
  obtain ⟨kvs, h1, h2, h3⟩ := h.ex
  obtain ⟨a, L, g1, g2, g3, _, g4, g5⟩ := h3 b hb
  refine ⟨a, L, ?_, g2, g4, g5⟩
  rw [← g1]
  exact DGet.k (k := Sum.inl (b : Int)) h1
end
end Hx

set_option Elab.async false
set_option linter.all false
set_option maxRecDepth 100000
set_option maxHeartbeats 4000000
namespace Hx
open PySem PySem.Spec PyProof.Rows L2
local macro_rules | `(tactic| walk_at "rd") => `(tactic| (try simp only [q_var, q_c, q_op, q_un, q_rI, q_rI0, q_rU, q_rEq, q_rNe, q_test, q_tB, q_and, q_or, q_not, q_andV, q_orV, q_notV, q_if, q_isN, q_notN, q_chain, q_next, q_seq, q_break, q_cont, q_drop, q_ret, q_retN, q_ifS, q_never, q_gN, q_gNil, q_gCons, q_gTup, q_gSub, q_asg, q_par, q_aug, q_nil, q_cons, q_tup, q_lst, q_call, q_cb, q_noPart, q_part, q_sl, q_bm0, q_bm, q_yes, q_for, q_lc, q_iList, q_iTup, q_iRng1, q_iEnumT, q_iEnum, q_iRng2, q_iZipA, q_iZipM, q_ipI, q_ckw, q_len, q_listOf, q_tupleOf, L2.start, cx_K, wipe, List.map_cons, List.map_nil, List.length_cons, List.length_nil, List.cons_append, List.nil_append, List.append_nil, List.replicate, List.getElem?_cons_zero, List.getElem?_cons_succ, List.set_cons_zero, List.set_cons_succ, Option.some.injEq, List.cons.injEq, exists_eq_left', exists_eq_left, exists_and_left, V.int.injEq, V.bl.injEq, V.ref.injEq, if_true, if_false, Bool.not_true, Bool.not_false, true_and, and_true, Bool.false_eq_true, ite_true, ite_false, Nat.reduceAdd, Nat.reduceSub, reduceCtorEq, decide_false, decide_true, Int.toNat_natCast, false_and, exists_false, or_false, false_or]))
theorem knotsF_len (ls : Links2) (bs cs : List Nat) : (knotsF ls bs cs).length ≤ cs.length := by
  unfold knotsF
  rw [List.length_map]
  exact List.length_filter_le _ _
theorem srcL_len (ls : Links2) (bs : List Nat) : (srcL ls bs).length ≤ bs.length := by
  unfold srcL
  exact Nat.le_trans (List.length_filter_le _ _) (knotsF_len ls bs bs)
theorem asc_mov (xs ys : List Int) : Asc (movL xs ys) := asc_filter _ (asc_range _)
theorem mov_lt {xs ys : List Int} : ∀ x ∈ movL xs ys, x < xs.length := fun x hx => (mem_mov.mp hx).1
theorem knot_small {xs ys : List Int} {ls : Links2} {k : List Nat} (h : k ∈ knotsF ls (movL xs ys) (movL xs ys)) : k.length ≤ xs.length := by
  obtain ⟨b, _, _, rfl⟩ := mem_knots.mp h
  unfold sccL
  exact Nat.le_trans (List.length_filter_le _ _) (mov_len xs ys)
section
variable {P : Program} {w : World} {K : PySem.W.Frag} {mg : Str → Option Value} {base : Heap}
end
end Hx

set_option Elab.async false
set_option linter.all false
set_option maxRecDepth 100000
set_option maxHeartbeats 4000000
namespace Hx
open PySem PySem.Spec PyProof.Rows L2
local macro_rules | `(tactic| walk_at "rd") => `(tactic| (try simp only [q_var, q_c, q_op, q_un, q_rI, q_rI0, q_rU, q_rEq, q_rNe, q_test, q_tB, q_and, q_or, q_not, q_andV, q_orV, q_notV, q_if, q_isN, q_notN, q_chain, q_next, q_seq, q_break, q_cont, q_drop, q_ret, q_retN, q_ifS, q_never, q_gN, q_gNil, q_gCons, q_gTup, q_gSub, q_asg, q_par, q_aug, q_nil, q_cons, q_tup, q_lst, q_call, q_cb, q_noPart, q_part, q_sl, q_bm0, q_bm, q_yes, q_for, q_lc, q_iList, q_iTup, q_iRng1, q_iEnumT, q_iEnum, q_iRng2, q_iZipA, q_iZipM, q_ipI, q_ckw, q_len, q_listOf, q_tupleOf, L2.start, cx_K, wipe, List.map_cons, List.map_nil, List.length_cons, List.length_nil, List.cons_append, List.nil_append, List.append_nil, List.replicate, List.getElem?_cons_zero, List.getElem?_cons_succ, List.set_cons_zero, List.set_cons_succ, Option.some.injEq, List.cons.injEq, exists_eq_left', exists_eq_left, exists_and_left, V.int.injEq, V.bl.injEq, V.ref.injEq, if_true, if_false, Bool.not_true, Bool.not_false, true_and, and_true, Bool.false_eq_true, ite_true, ite_false, Nat.reduceAdd, Nat.reduceSub, reduceCtorEq, decide_false, decide_true, Int.toNat_natCast, false_and, exists_false, or_false, false_or]))
/-- a way: valid positions, a goal that is not behind them -/
structure GoalOk (n : Nat) (rs : List Rope) (xs ys : List Int) : Prop where
  start : WayOk n rs xs
  goal : WayOk n rs ys
  le : ∀ i, i < n → xs.getD i 0 ≤ ys.getD i 0
def oHaul (h : Nat × Int) : HO := .tup [.int (h.1 : Nat), .int h.2]
abbrev HaulsAt (H : Hp) (l : Addr) (hs : List (Nat × Int)) : Prop := ObjsAt oHaul H l hs
def planL (ys : List Int) (ks : List (List Nat)) : List (Nat × Int) := ks.map fun k => (k.headD 0, ys.getD (k.headD 0) 0)
def prodL (ks : List (List Nat)) : Int := ks.foldl (fun a k => a * (k.length : Int)) 1
/-- a def with defaults that keeps a promise, for callers that leave the defaults -/
structure DfN (P : Program) (w : World) (K : PySem.W.Frag) (mg : Str → Option Value) (base : Heap) (CX : CXT) (x : Str) (k : Nat) (ps : List Str) (sp : Sp) (dvs : List V) : Prop where
  ex : ∃ (f : Addr) (fd : FuncData) (ds : List Value), FnOk P w K mg base CX k f fd ps sp ∧ mg x = some (.ref f) ∧ PySem.W.keepIn K (.ref f) = true ∧ Vals dvs ds ∧ Binds K fd ps ds
theorem DfN.call {X : Cx} {x : Str} {k : Nat} {ps : List Str} {sp : Sp} {e : Expr} {es : List Expr} {p pos : Pos} {t : TA} {dvs : List V} (D : DfN X.prog X.w X.K X.mg X.base CX0 x k ps sp dvs) (hr : Room k X.A) (hg : Gl X x) (ha : PA X (e :: es) t) (hdb : (x == ("__debug__" : Str)) = false := by decide)
    (he : starEach (e :: es) X.env = (false, eval e X.env) :: starEach es X.env := by rfl) (hpl : (backTo pos (starEach es X.env)).any (·.1) = false := by rfl) : PE X (.Call (.Name x p) (e :: es) [] pos) (tCall sp dvs E0 t) := by
  obtain ⟨f, fd, ds, F, g, kp, hv, b⟩ := D.ex
  exact pe_call F hr hg g kp b hv pass0 ha hdb he hpl
section
variable {P : Program} {w : World} {K : PySem.W.Frag} {mg : Str → Option Value} {base : Heap}
def tautB (ys : List Int) (r : Rope) : Bool := decide (ys.getD r.f.toNat 0 - ys.getD r.r.toNat 0 = r.l)
def tautI (ys : List Int) (rs : List Rope) : List Nat := (List.range rs.length).filter fun i => match rs[i]? with
  | some r => tautB ys r
  | none => false
end
end Hx

set_option Elab.async false
set_option linter.all false
set_option maxRecDepth 100000
set_option maxHeartbeats 4000000
/-! Texts of fleets and plans: rows of words. -/
namespace Hx
open PySem PySem.Spec PyProof.Rows L2 TL
local macro_rules | `(tactic| walk_at "rd") => `(tactic| (try simp (maxSteps := 3000000) only [q_var, q_c, q_op, q_un, q_rI, q_rI0, q_rU, q_rEq, q_rNe, q_test, q_tB, q_and, q_or, q_not, q_andV, q_orV, q_notV, q_if, q_isN, q_notN, q_chain, q_next, q_seq, q_break, q_cont, q_drop, q_ret, q_retN, q_ifS, q_never, q_gN, q_gNil, q_gCons, q_gTup, q_gSub, q_asg, q_par, q_aug, q_nil, q_cons, q_tup, q_lst, q_call, q_cb, q_noPart, q_part, q_sl, q_bm0, q_bm, q_yes, q_for, q_lc, q_iList, q_iTup, q_iRng1, q_iEnumT, q_iEnum, q_iRng2, q_iZipA, q_iZipM, q_ipI, q_ckw, q_len, q_listOf, q_tupleOf, L2.start, cx_K, wipe, List.map_cons, List.map_nil, List.length_cons, List.length_nil, List.cons_append, List.nil_append, List.append_nil, List.replicate, List.getElem?_cons_zero, List.getElem?_cons_succ, List.set_cons_zero, List.set_cons_succ, Option.some.injEq, List.cons.injEq, exists_eq_left', exists_eq_left, exists_and_left, V.int.injEq, V.bl.injEq, V.ref.injEq, if_true, if_false, Bool.not_true, Bool.not_false, true_and, and_true, Bool.false_eq_true, ite_true, ite_false, Nat.reduceAdd, Nat.reduceSub, reduceCtorEq, decide_false, decide_true, Int.toNat_natCast, false_and, exists_false, or_false, false_or]))
section
variable {r : V → List V → Hp → VK → Prop} {to te : TE} {σ : L2.St} {H : Hp} {Q : VK}
theorem q_m0 : tM0 r to σ H Q = to σ H fun x H1 => (∃ a, x = .str a) ∧ r x [] H1 Q := rfl
theorem q_m1 : tM1 r to te σ H Q = to σ H fun x H1 => (∃ a, x = .str a) ∧ te σ H1 fun y H2 => r x [y] H2 Q := rfl
end
theorem pgLst {X : Cx} (K : PySem.W.Frag) (h : X.K = K) {es : List Expr} {k : Nat} {t : TGs} {n : Nat} {pos : Pos} (hc : X.calm = true) (hp : PGs X es t)
    (hn : (assignEach es X.env).length = n := by rfl) (hst : (assignEach es X.env).findIdx? (·.1) = none := by rfl) : PG X (.Tuple es k pos) (gUnl K n t) := by
  subst h; exact pg_unl hc hp hn hst
theorem q_gUnl {K : PySem.W.Frag} {n : Nat} {t : TGs} {v : V} {σ : L2.St} {H : Hp} {Q : L2.St → Hp → Prop} : gUnl K n t v σ H Q = ∃ a xs, v = .ref a ∧ SqL K H a xs ∧ xs.length = n ∧ t xs σ H Q := rfl
theorem none_back {H H' : Hp} {p : Addr} (e : Same H H') (h : H' p = none) : H p = none := by
  cases hp : H p with
  | none => rfl
  | some o => rw [e _ _ hp] at h; cases h
section
variable {g : TG} {tb : TS} {D : Ends} {σ : L2.St} {H : Hp} {lo : Int} {n : Nat}
theorem forRangeL (Pv : Nat → L2.St → Hp → Prop) (h0 : Pv 0 σ H) (hs : ∀ (i : Nat) σ H, i < n → Pv i σ H → g (.int (lo + (i : Int))) σ H fun σ2 H2 => tb { D with nx := Pv (i + 1), ct := Pv (i + 1), bk := D.nx } σ2 H2)
    (hd : ∀ σ H, Pv n σ H → D.nx σ H) : ForW (Itr lo n) g tb D σ H :=
  forW walk_range Pv h0 (fun _ _ _ _ _ => trivial) (fun i x σ H H' hi p y => by
    obtain ⟨rfl, rfl⟩ := y
    exact hs i σ H' hi p) hd
end
section
variable {P : Program} {w : World} {K : PySem.W.Frag} {mg : Str → Option Value} {base : Heap}
def Small (ns : List Int) : Prop := ∀ i ∈ ns, i.natAbs < 10 ^ 9
def s_format_row : Stmt := topS 54
abbrev n_format_row : List Str := ["word", "numbers", "number"]
abbrev p_format_row : List Str := ["word", "numbers"]
theorem sc_format_row : FnScope n_format_row p_format_row (defScope s_format_row) := ⟨rfl, rfl, rfl, by decide +kernel, rfl, by decide +kernel, by decide +kernel⟩
def sp_format_row (K : PySem.W.Frag) : Sp := fun vs H Q _ => ∃ (z : Str) (u : V) (ns : List Int), vs = [.str z, u] ∧ IntsT K H u ns ∧ ns.length ≤ 100 ∧ Small ns ∧ z.length ≤ 20 ∧ ∀ H', Same H H' → Q (.str (rowT z ns)) H'
theorem df_format_row (T : Here K mg "format_row" s_format_row) (B2 : Blt2 mg) : Df P w K mg base CX0 "format_row" 1 p_format_row (sp_format_row K) := by
  refine T.df sc_format_row (fun _ _ _ _ _ _ us hl => match us, hl with | [_, _], _ => rfl) (fun vs H Q E h => by obtain ⟨_, _, _, rfl, _⟩ := h; rfl) (fun f cdv A outer s H vs Q E hr h => ?_)
  obtain ⟨z, u, ns, rfl, ⟨c, rfl, hc⟩, hl, hsm, hz20, q⟩ := h
  refine ⟨_, pss_one (ps_ret (pe_join (pe_str) (pe_op op_cat (pe_lst (pa_cons (pv 0) pa_nil)) (pe_lc (own := [("number", 2)]) rfl sc_format_row.nd (piTup K rfl (pv 1)) (blkOk_by (N := n_format_row) (sc := defScope s_format_row) (by decide +kernel)) (fun _ _ _ _ _ => pg_name (i := 2) sc_format_row.nd rfl (by first | exact Or.inl rfl | exact Or.inr rfl)) (fun _ _ _ _ _ => pts_nil) (fun _ _ _ _ _ => pe_callTy call_str_int (by rfl) B2.str (by decide +kernel) (pa_cons (pv 2) pa_nil)))))), ?_⟩
  have hz : 1000 ≤ sizeLine := by decide
  walk_at "rd"
  simp only [q_m1]
  walk_at "rd"
  refine ⟨⟨_, rfl⟩, by omega, fun p1 hp1 => ?_⟩
  have s1 := same_upd (o := .lst [V.str z]) hp1
  have hp1' : (upd H p1 (.lst [V.str z])) p1 = some (.lst [V.str z]) := upd_same
  refine ⟨⟨_, sqt_same s1 hc⟩, fun p2 hp2 => ?_⟩
  refine lcTup (xs := ns.map V.int) (fun i H' => Same (upd H p1 (.lst [V.str z])) H' ∧ H' p2 = some (.lst ((ns.take i).map fun j => V.str (numT j)))) ⟨same_upd hp2, upd_same⟩ (fun i H' _ hPv => sqt_same (s1.trans hPv.1) hc) (fun i x H' hx hPv => ?_) (fun H3 hPv => ?_)
  · obtain ⟨e, hA⟩ := hPv
    rw [List.getElem?_map] at hx
    cases hj : ns[i]? with
    | none => rw [hj] at hx; cases hx
    | some j =>
      rw [hj] at hx
      cases hx
      have hjs := hsm j (List.mem_of_getElem? hj)
      have hi : i < ns.length := (List.getElem?_eq_some_iff.mp hj).1
      have hlog : j.natAbs.log2 < 1920 := log_small hjs
      walk_at "rd"
      refine ⟨hlog, _, hA, by rw [List.length_map, List.length_take]; omega, fun q o hq => ?_, ?_⟩
      · rw [upd_ne (ne_of_none hq hp2)]
        exact e q o hq
      · rw [upd_same, List.take_add_one, hj, List.map_append]
        rfl
  · obtain ⟨e, hA⟩ := hPv
    rw [List.length_map, List.take_length] at hA
    refine ⟨p1, p2, _, _, rfl, rfl, e _ _ hp1', hA, by rw [List.length_map]; show 1 + ns.length ≤ sizeLine; omega, fun p3 hp3 => ?_⟩
    have s3 := same_upd (o := .lst ([V.str z] ++ ns.map fun j => V.str (numT j))) hp3
    refine ⟨_, rfl, p3, rfl, z :: ns.map numT, .inl (.of (by rw [upd_same, List.map_cons, List.map_map]; rfl)), ?_, q _ ((s1.trans e).trans s3)⟩
    have h1 := sum_len (z :: ns.map numT) (k := 20) fun p hp => by
      rcases List.mem_cons.mp hp with rfl | hp
      · exact hz20
      · obtain ⟨i, hi, rfl⟩ := List.mem_map.mp hp
        have := numT_len (k := 9) (by decide) (hsm i hi)
        omega
    have h2 := sp_len
    show _ + (z :: ns.map numT).length * sp1.length ≤ 16777216
    rw [List.length_cons, List.length_map] at h1 ⊢
    rw [h2]
    omega
def s_split_rows : Stmt := topS 47
abbrev n_split_rows : List Str := ["text"]
abbrev p_split_rows : List Str := ["text"]
theorem sc_split_rows : FnScope n_split_rows p_split_rows (defScope s_split_rows) := ⟨rfl, rfl, rfl, by decide +kernel, rfl, by decide +kernel, by decide +kernel⟩
def rowsS (z : Str) : List Str := if z = Str.ofString "" then [] else Txt.split z nl1
def sp_split_rows (K : PySem.W.Frag) : Sp := fun vs H Q _ => ∃ (z : Str), vs = [.str z] ∧ z.length ≤ 100000 ∧ ∀ H' p, Same H H' → H p = none → H' p = some (.lst ((rowsS z).map V.str)) → Q (.ref p) H'
theorem df_split_rows (T : Here K mg "split_rows" s_split_rows) : Df P w K mg base CX0 "split_rows" 1 p_split_rows (sp_split_rows K) := by
  refine T.df sc_split_rows (fun _ _ _ _ _ _ us hl => match us, hl with | [_], _ => rfl) (fun vs H Q E h => by obtain ⟨_, rfl, _⟩ := h; rfl) (fun f cdv A outer s H vs Q E hr h => ?_)
  obtain ⟨z, rfl, hzl, q⟩ := h
  refine ⟨_, pss_cons (ps_if (pt_cmpR op_eq (pv 0) (pe_str) (nomark _)) (pss_one (ps_ret (pe_lst (pa_nil)))) (pss_nil))
      (pss_one (ps_ret (pe_split (pv 0) (pe_str)))), ?_⟩
  have hz : 1000000 ≤ sizeLine := by decide
  walk_at "rd"
  simp only [q_m1]
  walk_at "rd"
  refine ⟨rfl, ?_⟩
  by_cases e : z = Str.ofString ""
  · rw [if_pos (decide_eq_true (by rw [e]))]
    refine ⟨by omega, fun p hp => q _ p (same_upd hp) hp ?_⟩
    rw [upd_same]
    unfold rowsS
    rw [if_pos e]
    rfl
  · rw [if_neg (fun h => e (by have h := of_decide_eq_true h; injection h))]
    refine ⟨⟨_, rfl⟩, z, rfl, _, rfl, by decide +kernel, by omega, ?_⟩
    intro p hp
    refine q _ p (same_upd hp) hp ?_
    rw [upd_same]
    unfold rowsS
    rw [if_neg e]
    rfl
def s_read_integer : Stmt := topS 48
abbrev n_read_integer : List Str := ["word", "digits"]
abbrev p_read_integer : List Str := ["word"]
theorem sc_read_integer : FnScope n_read_integer p_read_integer (defScope s_read_integer) := ⟨rfl, rfl, rfl, by decide +kernel, rfl, by decide +kernel, by decide +kernel⟩
def optV : Option Int → V
  | none => .non
  | some i => .int i
def sp_read_integer (K : PySem.W.Frag) : Sp := fun vs H Q _ => ∃ (z : Str), vs = [.str z] ∧ z.length ≤ 100000 ∧ Q (optV (readI z)) H
theorem df_read_integer (T : Here K mg "read_integer" s_read_integer) (B : Blt mg) (C_MOST_DIGITS : ∃ u, mg "MOST_DIGITS" = some (.int 4 u)) : Df P w K mg base CX0 "read_integer" 1 p_read_integer (sp_read_integer K) := by
  refine T.df sc_read_integer (fun _ _ _ _ _ _ us hl => match us, hl with | [_], _ => rfl) (fun vs H Q E h => by obtain ⟨_, rfl, _⟩ := h; rfl) (fun f cdv A outer s H vs Q E hr h => ?_)
  obtain ⟨z, rfl, hzl, q⟩ := h
  refine ⟨_, pss_cons (ps_set (i := 1) sc_read_integer.nd rfl (by first | exact Or.inl rfl | exact Or.inr rfl) (pe_m1 PySem.F.slot_str_removeprefix PySem.F.type_str_removeprefix mt_removeprefix (pv 0) (pe_str)))
      (pss_cons (ps_if (PW.pt (pw_or (pt_cmpR op_gt (pe_callB call_len_str (by rfl) B.len (by decide +kernel) (pa_cons (pv 1) pa_nil)) (pe_gi (by rfl) C_MOST_DIGITS) (nomark _)) (pw_or (pt_not (pt_val (pe_m0 PySem.F.slot_str_isascii PySem.F.type_str_isascii mt_isascii (pv 1)))) (pw_or1 (pt_not (pt_val (pe_m0 PySem.F.slot_str_isdigit PySem.F.type_str_isdigit mt_isdigit (pv 1)))))))) (pss_one (ps_ret (pe_non))) (pss_nil))
      (pss_cons (ps_if (PW.pt (pw_and (pt_cmpR op_eq (pe_item_str (pv 1) (pe_int) (fun _ _ => rfl)) (pe_str) (nomark _)) (pw_and1 (pt_cmpR op_ne (pv 0) (pe_str) (nomark _))))) (pss_one (ps_ret (pe_non))) (pss_nil))
      (pss_one (ps_ret (pe_callTy call_int_str (by rfl) B.int (by decide +kernel) (pa_cons (pv 0) pa_nil)))))), ?_⟩
  have hz : 1000000 ≤ sizeLine := by decide
  walk_at "rd"
  simp only [q_m1, q_m0]
  walk_at "rd"
  obtain ⟨dd, hdd⟩ : ∃ dd, Txt.removeprefix z dash1 = dd := ⟨_, rfl⟩
  have hdl : dd.length ≤ z.length := by
    rw [← hdd, len_tl, tl_rem, len_tl z]
    unfold cutD
    split
    · rename_i r e
      rw [e, List.length_cons]
      omega
    · exact Nat.le_refl _
  have hri := readI_int (w := z)
  have hq : Q (optV (readI z)) H := q
  unfold readI at hq
  rw [hdd] at hri hq
  refine ⟨⟨_, rfl⟩, z, rfl, _, rfl, by omega, dd, congrArg V.str hdd, by omega, ?_⟩
  by_cases c1 : 4 < dd.length
  · rw [if_pos (decide_eq_true (by omega))]
    rw [decide_eq_true c1, Bool.true_or, Bool.true_or, if_pos rfl] at hq
    exact hq
  rw [if_neg (by rw [decide_eq_true_iff]; omega)]
  rw [decide_eq_false c1, Bool.false_or] at hri hq
  refine ⟨⟨_, rfl⟩, dd, congrArg V.str hdd, ?_⟩
  cases c2 : Txt.isascii dd with
  | false =>
    rw [c2] at hq
    exact hq
  | true =>
  rw [c2] at hri hq
  rw [if_neg (by decide)]
  refine ⟨⟨_, rfl⟩, dd, congrArg V.str hdd, ?_⟩
  cases c3 : Txt.isdigit dd with
  | false =>
    rw [c3] at hq
    exact hq
  | true =>
  rw [c3] at hri hq
  rw [if_neg (by decide)] at hq ⊢
  obtain ⟨nn, hnn, hlen⟩ := hri rfl
  rw [isdigit_tl, Bool.and_eq_true, decide_eq_true_iff] at c3
  have hdl2 := len_tl dd
  have hc0 : ∃ c0, (tl dd).head? = some c0 ∧ dd.cps[Int.toNat 0]? = some c0 := by
    cases hx : tl dd with
    | nil => rw [hx] at c3; exact absurd c3.1 (Nat.lt_irrefl 0)
    | cons c0 r =>
      refine ⟨c0, rfl, ?_⟩
      show dd.cps[0]? = some c0
      rw [← Array.getElem?_toList]
      show (tl dd)[0]? = some c0
      rw [hx]
      rfl
  obtain ⟨c0, hh, hcc⟩ := hc0
  refine ⟨dd, congrArg V.str hdd, by decide, by decide, by omega, c0, hcc, rfl, ?_⟩
  rw [hh] at hq
  have h48 : decide (V.str ⟨#[c0]⟩ = V.str (Str.ofString "0")) = decide (c0 = 48) := by
    have e0 : Str.ofString "0" = ⟨#[48]⟩ := by decide +kernel
    rw [e0]
    refine decide_eq_decide.mpr ⟨fun h => ?_, fun h => by rw [h]⟩
    injection h with h
    injection h with h
    have h := congrArg Array.toList h
    injection h
  rw [h48]
  by_cases hz0 : c0 = 48
  · rw [if_pos (decide_eq_true hz0)]
    refine ⟨rfl, ?_⟩
    by_cases hw : z = zero1
    · rw [if_neg (by rw [decide_eq_true (show V.str z = V.str (Str.ofString "0") by rw [hw]; rfl)]; decide)]
      rw [if_neg (fun h => h.2 hw), hnn] at hq
      exact ⟨z, rfl, nn, hnn, hlen, hq⟩
    · rw [if_pos (by rw [decide_eq_false (fun h => hw (by injection h))]; rfl)]
      rw [if_pos ⟨by rw [hz0], hw⟩] at hq
      exact hq
  · rw [if_neg (by rw [decide_eq_true_iff]; exact hz0)]
    rw [if_neg (fun h => hz0 (Option.some.inj h.1)), hnn] at hq
    exact ⟨z, rfl, nn, hnn, hlen, hq⟩
def oWords (ws : List Str) : HO := .lst (ws.map V.str)
def s_split_words : Stmt := topS 55
abbrev n_split_words : List Str := ["text", "row"]
abbrev p_split_words : List Str := ["text"]
theorem sc_split_words : FnScope n_split_words p_split_words (defScope s_split_words) := ⟨rfl, rfl, rfl, by decide +kernel, rfl, by decide +kernel, by decide +kernel⟩
def sp_split_words (K : PySem.W.Frag) : Sp := fun vs H Q _ => ∃ (z : Str), vs = [.str z] ∧ z.length ≤ 100000 ∧ (rowsS z).length ≤ 1000 ∧ (∀ r ∈ rowsS z, r.length ≤ 100000) ∧ ∀ H' p, Same H H' → H p = none → ObjsAt oWords H' p ((rowsS z).map fun r => Txt.split r sp1) → Q (.ref p) H'
theorem df_split_words (T : Here K mg "split_words" s_split_words) (B : Blt mg) (B2 : Blt2 mg) (D_split_rows : Df P w K mg base CX0 "split_rows" 1 p_split_rows (sp_split_rows K)) : Df P w K mg base CX0 "split_words" 2 p_split_words (sp_split_words K) := by
  refine T.df sc_split_words (fun _ _ _ _ _ _ us hl => match us, hl with | [_], _ => rfl) (fun vs H Q E h => by obtain ⟨_, rfl, _⟩ := h; rfl) (fun f cdv A outer s H vs Q E hr h => ?_)
  obtain ⟨z, rfl, hzl, h1000, hrl, q⟩ := h
  refine ⟨_, pss_cons (ps_if (pt_not (pt_val (pe_callB (isi K rfl) (by rfl) B.isinstance (by decide +kernel) (pa_cons (pv 0) (pa_cons ((pe_bltn (v := .ty "str") (by rfl) B2.str (by decide +kernel) rfl)) pa_nil))))) (pss_one (ps_never)) (pss_nil))
      (pss_one (ps_ret (pe_lc (own := [("row", 1)]) rfl sc_split_words.nd (piList K rfl (D_split_rows.call (hr.mono (by decide)) (by rfl) (pa_cons (pv 0) pa_nil))) (blkOk_by (N := n_split_words) (sc := defScope s_split_words) (by decide +kernel)) (fun _ _ _ _ _ => pg_name (i := 1) sc_split_words.nd rfl (by first | exact Or.inl rfl | exact Or.inr rfl)) (fun _ _ _ _ _ => pts_nil) (fun _ _ _ _ _ => pe_split (pv 1) (pe_str))))), ?_⟩
  have hz : 1000000 ≤ sizeLine := by decide
  walk_at "rd"
  refine isi_yes (.base (.str z)) (by decide +kernel) ⟨true, rfl, ?_⟩
  rw [if_neg (by decide)]
  refine ⟨z, rfl, hzl, fun H1 p1 s1 _ hp1 => ⟨p1, rfl, ⟨_, .of hp1⟩, fun p2 hp2 => ?_⟩⟩
  refine lcList (xs := (rowsS z).map V.str) (fun i H' => Same H1 H' ∧ ∃ ts, ObjsTs oWords H' p2 ts (((rowsS z).take i).map fun r => Txt.split r sp1)) ⟨same_upd hp2, [], ObjsTs.nil upd_same⟩ (fun i H' _ hPv => .of (hPv.1 _ _ hp1)) (fun i x H' hx hPv => ?_) (fun H3 hPv => ?_)
  · obtain ⟨e, ts, ot⟩ := hPv
    rw [List.getElem?_map] at hx
    cases hj : (rowsS z)[i]? with
    | none => rw [hj] at hx; cases hx
    | some r =>
      rw [hj] at hx
      cases hx
      have hrs := hrl r (List.mem_of_getElem? hj)
      have hi : i < (rowsS z).length := (List.getElem?_eq_some_iff.mp hj).1
      walk_at "rd"
      simp only [q_m1]
      walk_at "rd"
      refine ⟨⟨_, rfl⟩, r, rfl, sp1, rfl, by decide +kernel, by omega, ?_⟩
      intro t ht
      have sT := same_upd (o := .lst ((Txt.split r sp1).map V.str)) ht
      have nt : t ≠ p2 := fun z => by have := ot.top; rw [← z, ht] at this; cases this
      have ou := (ot.mono sT).snoc (x := Txt.split r sp1) (T := t) (by exact upd_same) nt
      refine ⟨_, (ot.mono sT).top, by rw [List.length_map, ot.len, List.length_map, List.length_take]; omega, fun q o hq => ?_, ts ++ [t], ?_⟩
      · rw [upd_ne (ne_of_none hq hp2)]
        exact sT _ _ (e q o hq)
      · rw [List.take_add_one, hj, List.map_append]
        exact ou
  · obtain ⟨e, ts, ot⟩ := hPv
    rw [List.length_map, List.take_length] at ot
    exact q _ p2 (s1.trans e) (none_back s1 hp2) ⟨ts, ot⟩
def s_read_numbers : Stmt := topS 56
abbrev n_read_numbers : List Str := ["table", "row", "word", "many", "words", "numbers", "index", "number"]
abbrev p_read_numbers : List Str := ["table", "row", "word", "many"]
theorem sc_read_numbers : FnScope n_read_numbers p_read_numbers (defScope s_read_numbers) := ⟨rfl, rfl, rfl, by decide +kernel, rfl, by decide +kernel, by decide +kernel⟩
def sp_read_numbers (K : PySem.W.Frag) : Sp := fun vs H Q _ => ∃ (p : Addr) (m : V) (i : Nat) (z : Str) (rows : List (List Str)) (ws : List Str) (ns : List Int), vs = [.ref p, .int (i : Nat), .str z, m] ∧ ObjsAt oWords H p rows ∧ rows[i]? = some (z :: ws) ∧ ws.map readI = ns.map some ∧ (∀ x ∈ ws, x.length ≤ 100000) ∧ ws.length ≤ 1000 ∧ (m = .non ∨ m = .int (ns.length : Nat)) ∧
  ∀ H' l, Same H H' → H l = none → H' l = some (.lst (ns.map V.int)) → Q (.ref l) H'
theorem df_read_numbers (T : Here K mg "read_numbers" s_read_numbers) (B : Blt mg) (D_read_integer : Df P w K mg base CX0 "read_integer" 1 p_read_integer (sp_read_integer K)) : Df P w K mg base CX0 "read_numbers" 2 p_read_numbers (sp_read_numbers K) := by
  refine T.df sc_read_numbers (fun _ _ _ _ _ _ us hl => match us, hl with | [_, _, _, _], _ => rfl) (fun vs H Q E h => by obtain ⟨_, _, _, _, _, _, _, rfl, _⟩ := h; rfl) (fun f cdv A outer s H vs Q E hr h => ?_)
  obtain ⟨p, m, i, z, rows, ws, ns, rfl, ⟨ts, ot⟩, hri, hw, hwl, h1000, hm, q⟩ := h
  refine ⟨_, pss_cons (ps_set (i := 4) sc_read_numbers.nd rfl (by first | exact Or.inl rfl | exact Or.inr rfl) (pe_ix (ixL K rfl) (pv 0) (pv 1) (fun _ _ => rfl)))
      (pss_cons (ps_if (pt_cmpR op_ne (pe_ix (ixL K rfl) (pv 4) (pe_int) (fun _ _ => rfl)) (pv 2) (nomark _)) (pss_one (ps_never)) (pss_nil))
      (pss_cons (ps_set (i := 5) sc_read_numbers.nd rfl (by first | exact Or.inl rfl | exact Or.inr rfl) (pe_lst (pa_nil)))
      (pss_cons (ps_for PassesOwn.never rfl (pi_range2 (by rfl) B.range (pa_cons (pe_int) (pa_cons (pe_callB (lenQ K rfl) (by rfl) B.len (by decide +kernel) (pa_cons (pv 4) pa_nil)) pa_nil))) (pg_name (i := 6) sc_read_numbers.nd rfl (by first | exact Or.inl rfl | exact Or.inr rfl)) (pss_cons (ps_set (i := 7) sc_read_numbers.nd rfl (by first | exact Or.inl rfl | exact Or.inr rfl) (D_read_integer.call (hr.mono (by decide)) (by rfl) (pa_cons (pe_ix (ixL K rfl) (pv 4) (pv 6) (fun _ _ => rfl)) pa_nil)))
      (pss_cons (ps_if (PW.pt (pw_or (pt_cmpR op_isN (pv 7) (pe_non) (nomark _)) (pw_or1 (pt_cmpR op_eq (pe_callB (lenQ K rfl) (by rfl) B.len (by decide +kernel) (pa_cons (pv 5) pa_nil)) (pv 3) (nomark _))))) (pss_one (ps_never)) (pss_nil))
      (pss_one (ps_expr (pe_bm PySem.F.plainAttrs_list PySem.F.slot_list_append PySem.F.type_list_append mt_append (pv 5) (pa_cons (pv 7) pa_nil)))))))
      (pss_cons (ps_if (PW.pt (pw_and (pt_cmpR op_notN (pv 3) (pe_non) (nomark _)) (pw_and1 (pt_cmpR op_lt (pe_callB (lenQ K rfl) (by rfl) B.len (by decide +kernel) (pa_cons (pv 5) pa_nil)) (pv 3) (nomark _))))) (pss_one (ps_never)) (pss_nil))
      (pss_one (ps_ret (pv 5))))))), ?_⟩
  have hz : 1000000 ≤ sizeLine := by decide
  walk_at "rd"
  have hil : i < rows.length := (List.getElem?_eq_some_iff.mp hri).1
  have hti : ts[i]? = some (ts[i]'(by rw [ot.len]; exact hil)) := List.getElem?_eq_getElem _
  generalize ts[i]'(by rw [ot.len]; exact hil) = t at hti
  have hto : H t = some (.lst ((z :: ws).map V.str)) := ot.obj i t _ hti hri
  have hvi : (ts.map V.ref)[i]? = some (.ref t) := by rw [List.getElem?_map, hti]; rfl
  have hwn : ws.length = ns.length := by have := congrArg List.length hw; rw [List.length_map, List.length_map] at this; exact this
  refine ⟨p, _, i, _, rfl, rfl, .of ot.top, atI_nat hvi, ?_⟩
  refine ⟨t, _, 0, .str z, rfl, rfl, .of hto, atI_nat (j := 0) rfl, rfl, ?_⟩
  rw [decide_eq_true rfl, if_neg (by decide)]
  refine ⟨by omega, fun l hl => ?_⟩
  have s1 := same_upd (o := .lst []) hl
  have hto1 := s1 _ _ hto
  refine ⟨t, _, rfl, .inl (.of hto1), _, _, ⟨rfl, rfl⟩, by rw [List.length_map, List.length_cons]; omega, ?_⟩
  rw [List.length_map, List.length_cons, show (((ws.length + 1 : Nat) : Int) - 1).toNat = ws.length by omega]
  obtain ⟨W, eW⟩ : ∃ W : Nat → L2.St → Hp → Prop, W = fun j σ H' => ∃ x6 x7, σ = [some (.ref p), some (.int (i : Nat)), some (.str z), some m, some (.ref t), some (.ref l), x6, x7] ∧ Same H H' ∧ H' l = some (.lst ((ns.take j).map V.int)) := ⟨_, rfl⟩
  refine forRangeL W (by rw [eW]; exact ⟨_, _, rfl, s1, upd_same⟩) (fun j σ H' hj hPv => ?_) (fun σ H' hPv => ?_) <;> rw [eW] at hPv
  · obtain ⟨x6, x7, rfl, e, hA⟩ := hPv
    have hwj : ws[j]? = some ws[j] := List.getElem?_eq_getElem hj
    have hnj : ns[j]? = some (ns[j]'(by omega)) := List.getElem?_eq_getElem _
    have hrd : readI ws[j] = some (ns[j]'(by omega)) := by
      have h1 := congrArg (fun l => l[j]?) hw
      simp only [List.getElem?_map, hwj, hnj, Option.map_some] at h1
      exact Option.some.inj h1
    have hw5 := hwl _ (List.mem_of_getElem? hwj)
    generalize ns[j]'(by omega) = nj at hnj hrd
    generalize ws[j] = wj at hwj hrd hw5
    have hvj : ((z :: ws).map V.str)[j + 1]? = some (.str wj) := by rw [List.getElem?_map, List.getElem?_cons_succ, hwj]; rfl
    walk_at "rd"
    have e1 : (1 : Int) + (j : Int) = ((j + 1 : Nat) : Int) := by omega
    rw [e1]
    refine ⟨t, _, ((j + 1 : Nat) : Int), .str wj, rfl, rfl, .of (e _ _ hto), atI_nat hvj, wj, rfl, hw5, ?_⟩
    rw [hrd]
    show (if decide (V.int nj = V.non) = true then _ else _)
    rw [if_neg (by simp)]
    refine ⟨_, .inl (.of hA), ?_⟩
    have hjl : ((ns.take j).map V.int).length = j := by rw [List.length_map, List.length_take]; omega
    rw [hjl]
    have hstep : W (j + 1) [some (.ref p), some (.int (i : Nat)), some (.str z), some m, some (.ref t), some (.ref l), some (.int ((j + 1 : Nat) : Int)), some (.int nj)] (upd H' l (.lst ((ns.take j).map V.int ++ [V.int nj]))) := by
      rw [eW]
      refine ⟨_, _, rfl, fun q o hq => ?_, ?_⟩
      · rw [upd_ne (ne_of_none hq hl)]
        exact e q o hq
      · rw [upd_same, List.take_add_one, hnj, List.map_append]
        rfl
    rcases hm with rfl | rfl
    · refine ⟨rfl, ?_⟩
      rw [if_neg (by simp)]
      exact ⟨.inl ⟨rfl, _, .of hA⟩, l, _, _, rfl, rfl, hA, by rw [hjl]; omega, hstep⟩
    · refine ⟨rfl, ?_⟩
      rw [if_neg (by rw [decide_eq_true_iff]; intro h; injection h with h; omega)]
      exact ⟨.inl ⟨rfl, _, .of hA⟩, l, _, _, rfl, rfl, hA, by rw [hjl]; omega, hstep⟩
  · obtain ⟨x6, x7, rfl, e, hA⟩ := hPv
    rw [hwn, List.take_length] at hA
    walk_at "rd"
    rcases hm with rfl | rfl
    · rw [if_neg (by simp)]
      exact q _ l e hl hA
    · rw [if_pos (by simp)]
      refine ⟨_, .inl (.of hA), _, _, rfl, rfl, ?_⟩
      refine ⟨false, ?_, ?_⟩
      · show V.bl (decide _) = V.bl false
        rw [List.length_map, decide_eq_false (Int.lt_irrefl _)]
      · rw [if_neg (by decide)]
        exact q _ l e hl hA
def s_is_planned : Stmt := topS 57
abbrev n_is_planned : List Str := ["value", "barge", "position"]
abbrev p_is_planned : List Str := ["value"]
theorem sc_is_planned : FnScope n_is_planned p_is_planned (defScope s_is_planned) := ⟨rfl, rfl, rfl, by decide +kernel, rfl, by decide +kernel, by decide +kernel⟩
def sp_is_planned (K : PySem.W.Frag) : Sp := fun vs H Q _ => ∃ (t : Addr) (b p : Int), vs = [.ref t] ∧ SqT K H t [.int b, .int p] ∧ 0 ≤ b ∧ b < 8 ∧ -9999 ≤ p ∧ p ≤ 9999 ∧ Q (.bl true) H
theorem df_is_planned (T : Here K mg "is_planned" s_is_planned) (B : Blt mg) (C_MOST_BARGES : ∃ u, mg "MOST_BARGES" = some (.int 8 u)) (C_FARTHEST : ∃ u, mg "FARTHEST" = some (.int 9999 u)) (D_is_barge : Df P w K mg base CX0 "is_barge" 2 p_is_barge (sp_is_barge K)) (D_is_number : Df P w K mg base CX0 "is_number" 1 p_is_number (sp_is_number K)) : Df P w K mg base CX0 "is_planned" 3 p_is_planned (sp_is_planned K) := by
  refine T.df sc_is_planned (fun _ _ _ _ _ _ us hl => match us, hl with | [_], _ => rfl) (fun vs H Q E h => by obtain ⟨_, _, _, rfl, _⟩ := h; rfl) (fun f cdv A outer s H vs Q E hr h => ?_)
  obtain ⟨t, b, p, rfl, ht, h0, h1, h2, h3, q⟩ := h
  refine ⟨_, pss_cons (ps_if (PW.pt (pw_or (pt_not (pt_val (pe_callB (isi K rfl) (by rfl) B.isinstance (by decide +kernel) (pa_cons (pv 0) (pa_cons ((pe_bltn (v := .ty "tuple") (by rfl) B.tuple (by decide +kernel) rfl)) pa_nil))))) (pw_or1 (pt_cmpR op_ne (pe_callB (lenQ K rfl) (by rfl) B.len (by decide +kernel) (pa_cons (pv 0) pa_nil)) (pe_int) (nomark _))))) (pss_one (ps_ret (pe_bl))) (pss_nil))
      (pss_cons (ps_asg (pv 0) (pgTup K rfl (n := 2) rfl (pgs_cons (pg_name (i := 1) sc_is_planned.nd rfl (by first | exact Or.inl rfl | exact Or.inr rfl)) (pgs_cons (pg_name (i := 2) sc_is_planned.nd rfl (by first | exact Or.inl rfl | exact Or.inr rfl)) pgs_nil))))
      (pss_one (ps_ret (pe_and (D_is_barge.call (hr.mono (by decide)) (by rfl) (pa_cons (pv 1) (pa_cons (pe_gi (by rfl) C_MOST_BARGES) pa_nil))) (pe_one (D_is_number.call (hr.mono (by decide)) (by rfl) (pa_cons (pv 2) (pa_cons (pe_un un_neg (pe_gi (by rfl) C_FARTHEST)) (pa_cons (pe_gi (by rfl) C_FARTHEST) pa_nil))))))))), ?_⟩
  have hz : 1000000 ≤ sizeLine := by decide
  walk_at "rd"
  refine isi_yes (tyx_tup ht) (by decide +kernel) ⟨true, rfl, ?_⟩
  rw [if_neg (by decide)]
  refine ⟨_, .inr ht, rfl, ?_⟩
  rw [if_neg (by simp)]
  refine ⟨_, ht, rfl, ?_⟩
  walk_at "rd"
  refine ⟨b, 8, rfl, ?_⟩
  rw [decide_eq_true ⟨h0, h1⟩]
  refine ⟨true, rfl, ?_⟩
  rw [if_pos rfl]
  refine ⟨p, _, _, rfl, ?_⟩
  rw [decide_eq_true ⟨h2, h3⟩]
  exact q
end
end Hx

set_option Elab.async false
set_option linter.all false
set_option maxRecDepth 100000
set_option maxHeartbeats 4000000
/-! Texts of plans and of fleets at positions. -/
namespace Hx
open PySem PySem.Spec PyProof.Rows L2 TL
local macro_rules | `(tactic| walk_at "rd") => `(tactic| (try simp (maxSteps := 3000000) only [q_var, q_c, q_op, q_un, q_rI, q_rI0, q_rU, q_rEq, q_rNe, q_test, q_tB, q_and, q_or, q_not, q_andV, q_orV, q_notV, q_if, q_isN, q_notN, q_chain, q_next, q_seq, q_break, q_cont, q_drop, q_ret, q_retN, q_ifS, q_never, q_gN, q_gNil, q_gCons, q_gTup, q_gSub, q_asg, q_par, q_aug, q_nil, q_cons, q_tup, q_lst, q_call, q_cb, q_noPart, q_part, q_sl, q_bm0, q_bm, q_yes, q_for, q_lc, q_iList, q_iTup, q_iRng1, q_iEnumT, q_iEnum, q_iRng2, q_iZipA, q_iZipM, q_ipI, q_ckw, q_len, q_listOf, q_tupleOf, L2.start, cx_K, wipe, List.map_cons, List.map_nil, List.length_cons, List.length_nil, List.cons_append, List.nil_append, List.append_nil, List.replicate, List.getElem?_cons_zero, List.getElem?_cons_succ, List.set_cons_zero, List.set_cons_succ, Option.some.injEq, List.cons.injEq, exists_eq_left', exists_eq_left, exists_and_left, V.int.injEq, V.bl.injEq, V.ref.injEq, if_true, if_false, Bool.not_true, Bool.not_false, true_and, and_true, Bool.false_eq_true, ite_true, ite_false, Nat.reduceAdd, Nat.reduceSub, reduceCtorEq, decide_false, decide_true, Int.toNat_natCast, false_and, exists_false, or_false, false_or]))
def haulW : Str := "haul"
def bargesW : Str := "barges"
def ropeW : Str := "rope"
def atW : Str := "at"
def haulR (h : Nat × Int) : Str := rowT haulW [(h.1 : Int), h.2]
/-- the text of hauls -/
def planT (hs : List (Nat × Int)) : Str := Txt.join nl1 (hs.map haulR)
def ropeR (r : Rope) : Str := rowT ropeW [r.f, r.r, r.l]
def rowsOf (n : Nat) (rs : List Rope) (xs : List Int) : List Str := rowT bargesW [(n : Int)] :: (rs.map ropeR ++ [rowT atW xs])
def stateT (n : Nat) (rs : List Rope) (xs : List Int) : Str := Txt.join nl1 (rowsOf n rs xs)
theorem split_nil_sp : Txt.split (Str.ofString "") sp1 = [Str.ofString ""] := by decide +kernel
theorem split_nil_nl : Txt.split (Str.ofString "") nl1 = [Str.ofString ""] := by decide +kernel
theorem row_ne {w : Str} {ns : List Int} (hw : 32 ∉ tl w) (hn : w ≠ Str.ofString "") : rowT w ns ≠ Str.ofString "" := fun h => by
  have h1 := row_words (w := w) (ns := ns) hw
  rw [h, split_nil_sp] at h1
  injection h1 with h1
  exact hn h1.symm
theorem rowsS_join {rows : List Str} (h : ∀ r ∈ rows, 10 ∉ tl r ∧ r ≠ Str.ofString "") : rowsS (Txt.join nl1 rows) = rows := by
  cases hr : rows with
  | nil => rfl
  | cons r rest =>
    have hsp := rows_split (rows := rows) (by rw [hr]; exact List.cons_ne_nil _ _) fun x hx => (h x hx).1
    rw [← hr]
    unfold rowsS
    rw [if_neg fun e => ?_]
    · exact hsp
    · rw [e, split_nil_nl, hr] at hsp
      injection hsp with h1
      exact (h r (by rw [hr]; exact List.mem_cons_self)).2 h1.symm
theorem haulR_ok (h : Nat × Int) : 10 ∉ tl (haulR h) ∧ haulR h ≠ Str.ofString "" := ⟨row_nl (by decide +kernel), row_ne (by decide +kernel) (by decide +kernel)⟩
theorem ropeR_ok (r : Rope) : 10 ∉ tl (ropeR r) ∧ ropeR r ≠ Str.ofString "" := ⟨row_nl (by decide +kernel), row_ne (by decide +kernel) (by decide +kernel)⟩
theorem rowsOf_ok (n : Nat) (rs : List Rope) (xs : List Int) : ∀ r ∈ rowsOf n rs xs, 10 ∉ tl r ∧ r ≠ Str.ofString "" := fun r hr => by
  rcases List.mem_cons.mp hr with rfl | hr
  · exact ⟨row_nl (by decide +kernel), row_ne (by decide +kernel) (by decide +kernel)⟩
  · rcases List.mem_append.mp hr with hr | hr
    · obtain ⟨x, _, rfl⟩ := List.mem_map.mp hr
      exact ropeR_ok x
    · rw [List.mem_singleton.mp hr]
      exact ⟨row_nl (by decide +kernel), row_ne (by decide +kernel) (by decide +kernel)⟩
theorem row_len {w : Str} {ns : List Int} (hw : w.length ≤ 20) (hs : Small ns) : (rowT w ns).length ≤ (ns.length + 1) * 21 := by
  have h1 := join_len sp1 (w :: ns.map numT) (k := 20) fun p hp => by
    rcases List.mem_cons.mp hp with rfl | hp
    · exact hw
    · obtain ⟨i, hi, rfl⟩ := List.mem_map.mp hp
      have := numT_len (k := 9) (by decide) (hs i hi)
      omega
  rw [sp_len, List.length_cons, List.length_map] at h1
  exact h1
section
variable {P : Program} {w : World} {K : PySem.W.Frag} {mg : Str → Option Value} {base : Heap}
def s_format_plan : Stmt := topS 52
abbrev n_format_plan : List Str := ["hauls", "index", "step"]
abbrev p_format_plan : List Str := ["hauls"]
theorem sc_format_plan : FnScope n_format_plan p_format_plan (defScope s_format_plan) := ⟨rfl, rfl, rfl, by decide +kernel, rfl, by decide +kernel, by decide +kernel⟩
def PlanOk (hs : List (Nat × Int)) : Prop := ∀ h ∈ hs, h.1 < 8 ∧ -9999 ≤ h.2 ∧ h.2 ≤ 9999
def sp_format_plan (K : PySem.W.Frag) : Sp := fun vs H Q _ => ∃ (l : Addr) (hs : List (Nat × Int)), vs = [.ref l] ∧ HaulsAt H l hs ∧ hs.length ≤ 1000 ∧ PlanOk hs ∧ ∀ H', Same H H' → Q (.str (planT hs)) H'
theorem df_format_plan (T : Here K mg "format_plan" s_format_plan) (B : Blt mg) (B2 : Blt2 mg) (D_is_planned : Df P w K mg base CX0 "is_planned" 3 p_is_planned (sp_is_planned K)) (D_format_row : Df P w K mg base CX0 "format_row" 1 p_format_row (sp_format_row K)) : Df P w K mg base CX0 "format_plan" 4 p_format_plan (sp_format_plan K) := by
  refine T.df sc_format_plan (fun _ _ _ _ _ _ us hl => match us, hl with | [_], _ => rfl) (fun vs H Q E h => by obtain ⟨_, _, rfl, _⟩ := h; rfl) (fun f cdv A outer s H vs Q E hr h => ?_)
  obtain ⟨l, hs, rfl, ⟨ts, ot⟩, hl, hok, q⟩ := h
  refine ⟨_, pss_cons (ps_if (pt_not (pt_val (pe_callB (isi K rfl) (by rfl) B.isinstance (by decide +kernel) (pa_cons (pv 0) (pa_cons ((pe_bltn (v := .ty "list") (by rfl) B.list (by decide +kernel) rfl)) pa_nil))))) (pss_one (ps_never)) (pss_nil))
      (pss_cons (ps_for PassesOwn.never rfl (pi_enum (by rfl) B.enumerate (pa_cons (pv 0) pa_nil)) (pgTup K rfl (n := 2) rfl (pgs_cons (pg_name (i := 1) sc_format_plan.nd rfl (by first | exact Or.inl rfl | exact Or.inr rfl)) (pgs_cons (pg_name (i := 2) sc_format_plan.nd rfl (by first | exact Or.inl rfl | exact Or.inr rfl)) pgs_nil))) (pss_one (ps_if (pt_not (pt_val (D_is_planned.call (hr.mono (by decide)) (by rfl) (pa_cons (pv 2) pa_nil)))) (pss_one (ps_never)) (pss_nil))))
      (pss_one (ps_ret (pe_join (pe_str) (pe_lc (own := [("step", 2)]) rfl sc_format_plan.nd (piList K rfl (pv 0)) (blkOk_by (N := n_format_plan) (sc := defScope s_format_plan) (by decide +kernel)) (fun _ _ _ _ _ => pg_name (i := 2) sc_format_plan.nd rfl (by first | exact Or.inl rfl | exact Or.inr rfl)) (fun _ _ _ _ _ => pts_nil) (fun _ _ _ _ _ => D_format_row.call (hr.mono (by decide)) (by rfl) (pa_cons (pe_str) (pa_cons (pv 2) pa_nil)))))))), ?_⟩
  have hz : 1000000 ≤ sizeLine := by decide
  walk_at "rd"
  refine isi_yes (tyx_lst (.of ot.top)) (by decide +kernel) ⟨true, rfl, ?_⟩
  rw [if_neg (by decide)]
  refine ⟨_, .of ot.top, ?_⟩
  obtain ⟨W, eW⟩ : ∃ W : Nat → L2.St → Hp → Prop, W = fun _ σ H' => ∃ x1 x2, σ = [some (.ref l), x1, x2] ∧ Same H H' := ⟨_, rfl⟩
  refine forEnumL (xs := ts.map V.ref) W (by rw [eW]; exact ⟨_, _, rfl, .refl _⟩) (fun i σ H' _ hPv => ?_) (fun i x T σ H' hx hPv hT => ?_) (fun σ H' hPv => ?_) <;> rw [eW] at hPv
  · obtain ⟨_, _, _, e⟩ := hPv
    exact .of (e _ _ ot.top)
  · obtain ⟨x1, x2, rfl, e⟩ := hPv
    obtain ⟨t, h, rfl, ht, hh, hto⟩ := (ot.mono e).get hx
    have sT := same_upd (o := .tup [.int (i : Nat), .ref t]) hT
    have hto : H' t = some (.tup [.int (h.1 : Nat), .int h.2]) := hto
    obtain ⟨k1, k2, k3⟩ := hok h (List.mem_of_getElem? hh)
    walk_at "rd"
    refine ⟨_, .of upd_same, rfl, ?_⟩
    walk_at "rd"
    refine ⟨t, _, _, rfl, .of (sT _ _ hto), by omega, by omega, k2, k3, ?_⟩
    walk_at "rd"
    rw [eW]
    exact ⟨_, _, rfl, e.trans sT⟩
  · obtain ⟨x1, x2, rfl, e⟩ := hPv
    walk_at "rd"
    simp only [q_m1]
    walk_at "rd"
    refine ⟨⟨_, rfl⟩, ⟨_, .of (e _ _ ot.top)⟩, fun p hp => ?_⟩
    refine lcList (xs := ts.map V.ref) (fun i G => Same H' G ∧ G p = some (.lst (((hs.take i).map haulR).map V.str))) ⟨same_upd hp, upd_same⟩ (fun i G _ hPv => .of ((e.trans hPv.1) _ _ ot.top)) (fun i x G hx hPv => ?_) (fun G hPv => ?_)
    · obtain ⟨e1, hA⟩ := hPv
      obtain ⟨t, h, rfl, ht, hh, hto⟩ := (ot.mono (e.trans e1)).get hx
      have hto : G t = some (.tup [.int (h.1 : Nat), .int h.2]) := hto
      obtain ⟨k1, k2, k3⟩ := hok h (List.mem_of_getElem? hh)
      have hi : i < hs.length := (List.getElem?_eq_some_iff.mp hh).1
      walk_at "rd"
      refine ⟨haulW, .ref t, [(h.1 : Int), h.2], rfl, ⟨t, rfl, .of hto⟩, by show 2 ≤ 100; omega, fun j hj => ?_, by decide +kernel, fun G2 s2 => ?_⟩
      · rcases List.mem_cons.mp hj with rfl | hj
        · omega
        · rw [List.mem_singleton.mp hj]
          omega
      · refine ⟨_, s2 _ _ hA, by rw [List.length_map, List.length_map, List.length_take]; omega, fun q o hq => ?_, ?_⟩
        · rw [upd_ne (ne_of_none hq hp)]
          exact s2 _ _ (e1 q o hq)
        · rw [upd_same, List.take_add_one, hh, List.map_append, List.map_append]
          rfl
    · obtain ⟨e1, hA⟩ := hPv
      rw [List.length_map, ot.len, List.take_length] at hA
      refine ⟨_, rfl, hs.map haulR, .inl (.of hA), ?_, q _ (e.trans e1)⟩
      have h1 := sum_len (hs.map haulR) (k := 63) fun x hx => by
        obtain ⟨h, hh, rfl⟩ := List.mem_map.mp hx
        obtain ⟨k1, k2, k3⟩ := hok h hh
        exact row_len (ns := [(h.1 : Int), h.2]) (by decide +kernel) fun j hj => by
          rcases List.mem_cons.mp hj with rfl | hj
          · omega
          · rw [List.mem_singleton.mp hj]
            omega
      have h2 := nl_len
      show _ + (hs.map haulR).length * nl1.length ≤ 16777216
      rw [List.length_map] at h1 ⊢
      rw [h2]
      omega
def s_parse_plan : Stmt := topS 53
abbrev n_parse_plan : List Str := ["text", "table", "hauls", "row", "barge", "position"]
abbrev p_parse_plan : List Str := ["text"]
theorem sc_parse_plan : FnScope n_parse_plan p_parse_plan (defScope s_parse_plan) := ⟨rfl, rfl, rfl, by decide +kernel, rfl, by decide +kernel, by decide +kernel⟩
def sp_parse_plan (K : PySem.W.Frag) : Sp := fun vs H Q _ => ∃ (hs : List (Nat × Int)), vs = [.str (planT hs)] ∧ hs.length ≤ 1000 ∧ PlanOk hs ∧ ∀ H' l, Same H H' → H l = none → HaulsAt H' l hs → Q (.ref l) H'
theorem df_parse_plan (T : Here K mg "parse_plan" s_parse_plan) (B : Blt mg) (C_MOST_BARGES : ∃ u, mg "MOST_BARGES" = some (.int 8 u)) (D_split_words : Df P w K mg base CX0 "split_words" 2 p_split_words (sp_split_words K)) (D_read_numbers : Df P w K mg base CX0 "read_numbers" 2 p_read_numbers (sp_read_numbers K)) (D_is_barge : Df P w K mg base CX0 "is_barge" 2 p_is_barge (sp_is_barge K)) : Df P w K mg base CX0 "parse_plan" 3 p_parse_plan (sp_parse_plan K) := by
  refine T.df sc_parse_plan (fun _ _ _ _ _ _ us hl => match us, hl with | [_], _ => rfl) (fun vs H Q E h => by obtain ⟨_, rfl, _⟩ := h; rfl) (fun f cdv A outer s H vs Q E hr h => ?_)
  obtain ⟨hs, rfl, hl, hok, q⟩ := h
  refine ⟨_, pss_cons (ps_set (i := 1) sc_parse_plan.nd rfl (by first | exact Or.inl rfl | exact Or.inr rfl) (D_split_words.call (hr.mono (by decide)) (by rfl) (pa_cons (pv 0) pa_nil)))
      (pss_cons (ps_set (i := 2) sc_parse_plan.nd rfl (by first | exact Or.inl rfl | exact Or.inr rfl) (pe_lst (pa_nil)))
      (pss_cons (ps_for PassesOwn.never rfl (pi_range1 (by rfl) B.range (pa_cons (pe_callB (lenQ K rfl) (by rfl) B.len (by decide +kernel) (pa_cons (pv 1) pa_nil)) pa_nil)) (pg_name (i := 3) sc_parse_plan.nd rfl (by first | exact Or.inl rfl | exact Or.inr rfl)) (pss_cons (ps_asg (D_read_numbers.call (hr.mono (by decide)) (by rfl) (pa_cons (pv 1) (pa_cons (pv 3) (pa_cons (pe_str) (pa_cons (pe_int) pa_nil))))) (pgLst K rfl (n := 2) rfl (pgs_cons (pg_name (i := 4) sc_parse_plan.nd rfl (by first | exact Or.inl rfl | exact Or.inr rfl)) (pgs_cons (pg_name (i := 5) sc_parse_plan.nd rfl (by first | exact Or.inl rfl | exact Or.inr rfl)) pgs_nil))))
      (pss_cons (ps_if (pt_not (pt_val (D_is_barge.call (hr.mono (by decide)) (by rfl) (pa_cons (pv 4) (pa_cons (pe_gi (by rfl) C_MOST_BARGES) pa_nil))))) (pss_one (ps_never)) (pss_nil))
      (pss_one (ps_expr (pe_bm PySem.F.plainAttrs_list PySem.F.slot_list_append PySem.F.type_list_append mt_append (pv 2) (pa_cons (pe_tup (pa_cons (pv 4) (pa_cons (pv 5) pa_nil))) pa_nil)))))))
      (pss_one (ps_ret (pv 2))))), ?_⟩
  have hz : 1000000 ≤ sizeLine := by decide
  walk_at "rd"
  have hsm : ∀ h ∈ hs, Small [(h.1 : Int), h.2] := fun h hh j hj => by
    obtain ⟨k1, k2, k3⟩ := hok h hh
    rcases List.mem_cons.mp hj with rfl | hj
    · omega
    · rw [List.mem_singleton.mp hj]
      omega
  have erows : rowsS (planT hs) = hs.map haulR := rowsS_join fun r hr => by
    obtain ⟨h, _, rfl⟩ := List.mem_map.mp hr
    exact haulR_ok h
  have hrl : ∀ r ∈ hs.map haulR, r.length ≤ 63 := fun r hr => by
    obtain ⟨h, hh, rfl⟩ := List.mem_map.mp hr
    exact row_len (ns := [(h.1 : Int), h.2]) (by decide +kernel) (hsm h hh)
  have hpl : (planT hs).length ≤ 100000 := by
    have h1 := join_len nl1 (hs.map haulR) hrl
    rw [nl_len, List.length_map] at h1
    show (Txt.join nl1 (hs.map haulR)).length ≤ 100000
    omega
  refine ⟨planT hs, rfl, hpl, by rw [erows, List.length_map]; exact hl, fun r hr => by rw [erows] at hr; have := hrl r hr; omega, fun H1 p1 s1 _ hp1 => ?_⟩
  rw [erows, List.map_map] at hp1
  have ewords : hs.map ((fun r => Txt.split r sp1) ∘ haulR) = hs.map fun h => haulW :: [numT (h.1 : Int), numT h.2] := List.map_congr_left fun h _ => row_words (w := haulW) (ns := [(h.1 : Int), h.2]) (by decide +kernel)
  rw [ewords] at hp1
  refine ⟨by omega, fun l hl0 => ?_⟩
  have s2 := same_upd (o := .lst []) hl0
  have hp2 := hp1.mono s2
  obtain ⟨ts, ot⟩ := hp2
  refine ⟨p1, _, rfl, .inl (.of ot.top), _, rfl, by rw [List.length_map, ot.len, List.length_map]; omega, by rw [List.length_map, ot.len, List.length_map]; omega, ?_⟩
  rw [List.length_map, ot.len, List.length_map, Int.toNat_natCast]
  have hl1 := none_back s1 hl0
  obtain ⟨W, eW⟩ : ∃ W : Nat → L2.St → Hp → Prop, W = fun i σ H' => ∃ x3 x4 x5, σ = [some (.str (planT hs)), some (.ref p1), some (.ref l), x3, x4, x5] ∧ Same H1 H' ∧ ∃ us, ObjsTs oHaul H' l us (hs.take i) := ⟨_, rfl⟩
  refine forRange W (by rw [eW]; exact ⟨_, _, _, rfl, s2, [], ObjsTs.nil upd_same⟩) (fun i σ H' hi hPv => ?_) (fun σ H' hPv => ?_) <;> rw [eW] at hPv
  · obtain ⟨x3, x4, x5, rfl, e, us, ou⟩ := hPv
    have hhi : hs[i]? = some hs[i] := List.getElem?_eq_getElem hi
    generalize hs[i] = h at hhi
    obtain ⟨k1, k2, k3⟩ := hok h (List.mem_of_getElem? hhi)
    walk_at "rd"
    refine ⟨p1, _, i, haulW, _, [numT (h.1 : Int), numT h.2], [(h.1 : Int), h.2], rfl, hp1.mono e, by rw [List.getElem?_map, hhi]; rfl, ?_, fun x hx => ?_, by show 2 ≤ 1000; omega, .inr rfl, fun H2 r s3 hr hr2 => ?_⟩
    · show [readI (numT (h.1 : Int)), readI (numT h.2)] = [some (h.1 : Int), some h.2]
      rw [readI_num (by omega) (by omega), readI_num k2 k3]
    · rcases List.mem_cons.mp hx with rfl | hx
      · have := numT_len (i := (h.1 : Int)) (k := 9) (by decide) (by omega)
        omega
      · rw [List.mem_singleton.mp hx]
        have := numT_len (i := h.2) (k := 9) (by decide) (by omega)
        omega
    · refine ⟨r, _, rfl, .of hr2, rfl, ?_⟩
      walk_at "rd"
      refine ⟨_, _, rfl, ?_⟩
      rw [decide_eq_true (show 0 ≤ (h.1 : Int) ∧ (h.1 : Int) < 8 by omega)]
      have e2 := e.trans s3
      have ou2 := ou.mono s3
      refine ⟨true, rfl, ?_⟩
      rw [if_neg (by decide)]
      refine ⟨.inl ⟨rfl, _, .of ou2.top⟩, by omega, fun t ht => ?_⟩
      have sT := same_upd (o := .tup [.int (h.1 : Int), .int h.2]) ht
      have nt : t ≠ l := fun z => by have := ou2.top; rw [← z, ht] at this; cases this
      have ou3 := (ou2.mono sT).snoc (x := h) (T := t) (by exact upd_same) nt
      refine ⟨l, _, _, rfl, rfl, (ou2.mono sT).top, by rw [List.length_map, ou.len, List.length_take]; omega, ?_⟩
      rw [eW]
      refine ⟨_, _, _, rfl, fun q o hq => ?_, us ++ [t], ?_⟩
      · rw [upd_ne (ne_of_none hq hl0)]
        exact sT _ _ (e2 q o hq)
      · rw [List.take_add_one, hhi]
        exact ou3
  · obtain ⟨x3, x4, x5, rfl, e, us, ou⟩ := hPv
    rw [List.take_length] at ou
    walk_at "rd"
    exact q _ l (s1.trans e) hl1 ⟨us, ou⟩
end
end Hx

set_option Elab.async false
set_option linter.all false
set_option maxRecDepth 100000
set_option maxHeartbeats 4000000
/-! Texts of fleets at positions: format_state, parse_state. -/
namespace Hx
open PySem PySem.Spec PyProof.Rows L2 TL
local macro_rules | `(tactic| walk_at "rd") => `(tactic| (try simp (maxSteps := 3000000) only [q_var, q_c, q_op, q_un, q_rI, q_rI0, q_rU, q_rEq, q_rNe, q_test, q_tB, q_and, q_or, q_not, q_andV, q_orV, q_notV, q_if, q_isN, q_notN, q_chain, q_next, q_seq, q_break, q_cont, q_drop, q_ret, q_retN, q_ifS, q_never, q_gN, q_gNil, q_gCons, q_gTup, q_gSub, q_asg, q_par, q_aug, q_nil, q_cons, q_tup, q_lst, q_call, q_cb, q_noPart, q_part, q_sl, q_bm0, q_bm, q_yes, q_for, q_lc, q_iList, q_iTup, q_iRng1, q_iEnumT, q_iEnum, q_iRng2, q_iZipA, q_iZipM, q_ipI, q_ckw, q_len, q_listOf, q_tupleOf, L2.start, cx_K, wipe, List.map_cons, List.map_nil, List.length_cons, List.length_nil, List.cons_append, List.nil_append, List.append_nil, List.replicate, List.getElem?_cons_zero, List.getElem?_cons_succ, List.set_cons_zero, List.set_cons_succ, Option.some.injEq, List.cons.injEq, exists_eq_left', exists_eq_left, exists_and_left, V.int.injEq, V.bl.injEq, V.ref.injEq, if_true, if_false, Bool.not_true, Bool.not_false, true_and, and_true, Bool.false_eq_true, ite_true, ite_false, Nat.reduceAdd, Nat.reduceSub, reduceCtorEq, decide_false, decide_true, Int.toNat_natCast, false_and, exists_false, or_false, false_or]))
def oRope (r : Rope) : HO := .tup [.int r.f, .int r.r, .int r.l]
theorem rope_small {n : Int} {r : Rope} (hn : n ≤ 8) (h : RopeOk n r) : (∀ i ∈ [r.f, r.r, r.l], -9999 ≤ i ∧ i ≤ 9999) := fun i hi => by
  obtain ⟨a1, a2, a3, a4, _, a6, a7⟩ := h
  rcases List.mem_cons.mp hi with rfl | hi
  · omega
  · rcases List.mem_cons.mp hi with rfl | hi
    · omega
    · rw [List.mem_singleton.mp hi]
      omega
theorem small_of {ns : List Int} (h : ∀ i ∈ ns, -9999 ≤ i ∧ i ≤ 9999) : Small ns := fun i hi => by
  have := h i hi
  omega
theorem read_all {ns : List Int} (h : ∀ i ∈ ns, -9999 ≤ i ∧ i ≤ 9999) : (ns.map numT).map readI = ns.map some := by
  rw [List.map_map]
  exact List.map_congr_left fun i hi => readI_num (h i hi).1 (h i hi).2
theorem num_lens {ns : List Int} (h : ∀ i ∈ ns, -9999 ≤ i ∧ i ≤ 9999) : ∀ x ∈ ns.map numT, x.length ≤ 100000 := fun x hx => by
  obtain ⟨i, hi, rfl⟩ := List.mem_map.mp hx
  have := h i hi
  have := numT_len (i := i) (k := 9) (by decide) (by omega)
  omega
theorem rowsOf_len (n : Nat) (rs : List Rope) (xs : List Int) : (rowsOf n rs xs).length = rs.length + 2 := by
  unfold rowsOf
  rw [List.length_cons, List.length_append, List.length_map]
  rfl
theorem rowsOf_short {n : Nat} {rs : List Rope} {xs : List Int} (h : WayOk n rs xs) : ∀ r ∈ rowsOf n rs xs, r.length ≤ 200 := fun r hr => by
  have h8 := h.fleet.2.1
  have hl := h.len
  rcases List.mem_cons.mp hr with rfl | hr
  · have := row_len (w := bargesW) (ns := [(n : Int)]) (by decide +kernel) fun i hi => by
      rw [List.mem_singleton.mp hi]
      omega
    exact Nat.le_trans this (by show 2 * 21 ≤ 200; omega)
  · rcases List.mem_append.mp hr with hr | hr
    · obtain ⟨x, hx, rfl⟩ := List.mem_map.mp hr
      have := row_len (w := ropeW) (ns := [x.f, x.r, x.l]) (by decide +kernel) (small_of (rope_small h8 (h.fleet.2.2.2 x hx)))
      exact Nat.le_trans this (by show 4 * 21 ≤ 200; omega)
    · rw [List.mem_singleton.mp hr]
      have := row_len (w := atW) (ns := xs) (by decide +kernel) (small_of h.range)
      exact Nat.le_trans this (by omega)
section
variable {P : Program} {w : World} {K : PySem.W.Frag} {mg : Str → Option Value} {base : Heap}
def s_format_state : Stmt := topS 50
abbrev n_format_state : List Str := ["fleet", "positions", "count", "ropes", "rows", "rope"]
abbrev p_format_state : List Str := ["fleet", "positions"]
theorem sc_format_state : FnScope n_format_state p_format_state (defScope s_format_state) := ⟨rfl, rfl, rfl, by decide +kernel, rfl, by decide +kernel, by decide +kernel⟩
def sp_format_state (K : PySem.W.Frag) : Sp := fun vs H Q _ => ∃ (v u : V) (n : Nat) (rs : List Rope) (xs : List Int), vs = [v, u] ∧ FleetV K H v n rs ∧ IntsT K H u xs ∧ WayOk n rs xs ∧ ∀ H', Same H H' → Q (.str (stateT n rs xs)) H'
theorem df_format_state (T : Here K mg "format_state" s_format_state) (B2 : Blt2 mg) (D_check_fleet : Df P w K mg base CX0 "check_fleet" 4 p_check_fleet (sp_check_fleet K)) (D_check_valid : Df P w K mg base CX0 "check_valid" 4 p_check_valid (sp_check_valid K)) (D_format_row : Df P w K mg base CX0 "format_row" 1 p_format_row (sp_format_row K)) : Df P w K mg base CX0 "format_state" 5 p_format_state (sp_format_state K) := by
  refine T.df sc_format_state (fun _ _ _ _ _ _ us hl => match us, hl with | [_, _], _ => rfl) (fun vs H Q E h => by obtain ⟨_, _, _, _, _, rfl, _⟩ := h; rfl) (fun f cdv A outer s H vs Q E hr h => ?_)
  obtain ⟨v, u, n, rs, xs, rfl, hv, hu, hw, q⟩ := h
  refine ⟨_, pss_cons (ps_expr (D_check_fleet.call (hr.mono (by decide)) (by rfl) (pa_cons (pv 0) pa_nil)))
      (pss_cons (ps_expr (D_check_valid.call (hr.mono (by decide)) (by rfl) (pa_cons (pv 0) (pa_cons (pv 1) pa_nil))))
      (pss_cons (ps_asg (pv 0) (pgTup K rfl (n := 2) rfl (pgs_cons (pg_name (i := 2) sc_format_state.nd rfl (by first | exact Or.inl rfl | exact Or.inr rfl)) (pgs_cons (pg_name (i := 3) sc_format_state.nd rfl (by first | exact Or.inl rfl | exact Or.inr rfl)) pgs_nil))))
      (pss_cons (ps_set (i := 4) sc_format_state.nd rfl (by first | exact Or.inl rfl | exact Or.inr rfl) (pe_lst (pa_cons (D_format_row.call (hr.mono (by decide)) (by rfl) (pa_cons (pe_str) (pa_cons (pe_tup (pa_cons (pv 2) pa_nil)) pa_nil))) pa_nil)))
      (pss_cons (ps_for PassesOwn.never rfl (piTup K rfl (pv 3)) (pg_name (i := 5) sc_format_state.nd rfl (by first | exact Or.inl rfl | exact Or.inr rfl)) (pss_one (ps_expr (pe_bm PySem.F.plainAttrs_list PySem.F.slot_list_append PySem.F.type_list_append mt_append (pv 4) (pa_cons (D_format_row.call (hr.mono (by decide)) (by rfl) (pa_cons (pe_str) (pa_cons (pv 5) pa_nil))) pa_nil)))))
      (pss_cons (ps_expr (pe_bm PySem.F.plainAttrs_list PySem.F.slot_list_append PySem.F.type_list_append mt_append (pv 4) (pa_cons (D_format_row.call (hr.mono (by decide)) (by rfl) (pa_cons (pe_str) (pa_cons (pv 1) pa_nil))) pa_nil)))
      (pss_one (ps_ret (pe_join (pe_str) (pv 4))))))))), ?_⟩
  have hz : 1000000 ≤ sizeLine := by decide
  have h8 := hw.fleet.2.1
  have h40 := hw.fleet.2.2.1
  walk_at "rd"
  refine ⟨v, n, rs, rfl, hv, hw.fleet, fun H1 s1 => ?_⟩
  refine ⟨v, u, n, rs, xs, rfl, hv.mono s1, hu.mono s1, by rw [hw.len], hw.range, hw.fleet.2.2.2, hw.valid, fun H2 s2 => ?_⟩
  have e2 := s1.trans s2
  have hu2 := hu.mono e2
  obtain ⟨a, b, zs, rfl, ha, hb, hzl, hzi⟩ := hv.mono e2
  refine ⟨a, rfl, _, ha, rfl, ?_⟩
  walk_at "rd"
  refine ⟨by omega, fun t1 ht1 => ?_⟩
  have s3 := same_upd (o := .tup [.int (n : Int)]) ht1
  refine ⟨bargesW, .ref t1, [(n : Int)], rfl, ⟨t1, rfl, .of upd_same⟩, by show 1 ≤ 100; omega, fun i hi => by rw [List.mem_singleton.mp hi]; omega, by decide +kernel, fun H3 s4 => ⟨by omega, fun L hL => ?_⟩⟩
  have s5 := same_upd (o := .lst [.str (rowT bargesW [(n : Int)])]) hL
  have e5 := (s3.trans s4).trans s5
  have hL0 : H2 L = none := none_back (s3.trans s4) hL
  refine ⟨⟨_, sqt_same e5 hb⟩, ?_⟩
  obtain ⟨W, eW⟩ : ∃ W : Nat → L2.St → Hp → Prop, W = fun i σ H' => ∃ x5, σ = [some (.ref a), some u, some (.int (n : Int)), some (.ref b), some (.ref L), x5] ∧ Same H2 H' ∧ H' L = some (.lst ((rowT bargesW [(n : Int)] :: (rs.take i).map ropeR).map V.str)) := ⟨_, rfl⟩
  refine forTup (xs := zs) W (by rw [eW]; exact ⟨_, rfl, e5, upd_same⟩) (fun i σ H' _ hPv => ?_) (fun i x σ H' hx hPv => ?_) (fun σ H' hPv => ?_) <;> rw [eW] at hPv
  · obtain ⟨_, _, e, _⟩ := hPv
    exact sqt_same e hb
  · obtain ⟨x5, rfl, e, hA⟩ := hPv
    have hi : i < rs.length := by
      rw [← hzl]
      exact (List.getElem?_eq_some_iff.mp hx).1
    have hri : rs[i]? = some rs[i] := List.getElem?_eq_getElem hi
    obtain ⟨y, hy, c, rfl, hc⟩ := hzi i _ hri
    cases hx.symm.trans hy
    have hro := hw.fleet.2.2.2 _ (List.getElem_mem hi)
    generalize rs[i] = r at hri hc hro
    walk_at "rd"
    refine ⟨.inl ⟨rfl, _, .of hA⟩, ?_⟩
    refine ⟨ropeW, .ref c, [r.f, r.r, r.l], rfl, ⟨c, rfl, sqt_same e hc⟩, by show 3 ≤ 100; omega, small_of (rope_small h8 hro), by decide +kernel, fun H4 s4 => ?_⟩
    refine ⟨L, _, _, rfl, rfl, s4 _ _ hA, by rw [List.length_map, List.length_cons, List.length_map, List.length_take]; omega, ?_⟩
    rw [eW]
    refine ⟨_, rfl, fun q o hq => ?_, ?_⟩
    · rw [upd_ne (ne_of_none hq hL0)]
      exact s4 _ _ (e q o hq)
    · rw [upd_same, List.take_add_one, hri, List.map_append, List.map_cons, List.map_cons, List.map_append]
      rfl
  · obtain ⟨x5, rfl, e, hA⟩ := hPv
    rw [hzl, List.take_length] at hA
    walk_at "rd"
    refine ⟨.inl ⟨rfl, _, .of hA⟩, ?_⟩
    refine ⟨atW, u, xs, rfl, hu2.mono e, by have := hw.len; omega, small_of hw.range, by decide +kernel, fun H4 s4 => ?_⟩
    refine ⟨L, _, _, rfl, rfl, s4 _ _ hA, by rw [List.length_map, List.length_cons, List.length_map]; omega, ?_⟩
    walk_at "rd"
    simp only [q_m1]
    walk_at "rd"
    have sL : Same H2 (upd H4 L (.lst ((rowT bargesW [(n : Int)] :: rs.map ropeR).map V.str ++ [V.str (rowT atW xs)]))) := fun q o hq => by
      rw [upd_ne (ne_of_none hq hL0)]
      exact s4 _ _ (e q o hq)
    refine ⟨⟨_, rfl⟩, _, rfl, rowsOf n rs xs, .inl (.of (by rw [upd_same]; unfold rowsOf; simp)), ?_, q _ (e2.trans sL)⟩
    have h1 := sum_len (rowsOf n rs xs) (rowsOf_short hw)
    have h2 := nl_len
    have h3 := rowsOf_len n rs xs
    show _ + (rowsOf n rs xs).length * nl1.length ≤ 16777216
    rw [h2]
    rw [h3] at h1 ⊢
    omega
def s_parse_state : Stmt := topS 51
abbrev n_parse_state : List Str := ["text", "table", "count", "last", "ropes", "positions", "fleet"]
abbrev p_parse_state : List Str := ["text"]
theorem sc_parse_state : FnScope n_parse_state p_parse_state (defScope s_parse_state) := ⟨rfl, rfl, rfl, by decide +kernel, rfl, by decide +kernel, by decide +kernel⟩
def sp_parse_state (K : PySem.W.Frag) : Sp := fun vs H Q _ => ∃ (n : Nat) (rs : List Rope) (xs : List Int), vs = [.str (stateT n rs xs)] ∧ WayOk n rs xs ∧ ∀ H' t v u, Same H H' → H t = none → H' t = some (.tup [v, u]) → FleetV K H' v n rs → IntsT K H' u xs → Q (.ref t) H'
theorem df_parse_state (T : Here K mg "parse_state" s_parse_state) (B : Blt mg) (D_split_words : Df P w K mg base CX0 "split_words" 2 p_split_words (sp_split_words K)) (D_read_numbers : Df P w K mg base CX0 "read_numbers" 2 p_read_numbers (sp_read_numbers K)) (D_check_fleet : Df P w K mg base CX0 "check_fleet" 4 p_check_fleet (sp_check_fleet K)) (D_check_valid : Df P w K mg base CX0 "check_valid" 4 p_check_valid (sp_check_valid K)) : Df P w K mg base CX0 "parse_state" 5 p_parse_state (sp_parse_state K) := by
  refine T.df sc_parse_state (fun _ _ _ _ _ _ us hl => match us, hl with | [_], _ => rfl) (fun vs H Q E h => by obtain ⟨_, _, _, rfl, _⟩ := h; rfl) (fun f cdv A outer s H vs Q E hr h => ?_)
  obtain ⟨n, rs, xs, rfl, hw, q⟩ := h
  refine ⟨_, pss_cons (ps_set (i := 1) sc_parse_state.nd rfl (by first | exact Or.inl rfl | exact Or.inr rfl) (D_split_words.call (hr.mono (by decide)) (by rfl) (pa_cons (pv 0) pa_nil)))
      (pss_cons (ps_if (pt_cmpR op_eq (pe_callB (lenQ K rfl) (by rfl) B.len (by decide +kernel) (pa_cons (pv 1) pa_nil)) (pe_int) (nomark _)) (pss_one (ps_never)) (pss_nil))
      (pss_cons (ps_set (i := 2) sc_parse_state.nd rfl (by first | exact Or.inl rfl | exact Or.inr rfl) (pe_ix (ixL K rfl) (D_read_numbers.call (hr.mono (by decide)) (by rfl) (pa_cons (pv 1) (pa_cons (pe_int) (pa_cons (pe_str) (pa_cons (pe_int) pa_nil))))) (pe_int) (fun _ _ => rfl)))
      (pss_cons (ps_set (i := 3) sc_parse_state.nd rfl (by first | exact Or.inl rfl | exact Or.inr rfl) (pe_int))
      (pss_cons (ps_set (i := 4) sc_parse_state.nd rfl (by first | exact Or.inl rfl | exact Or.inr rfl) (pe_lst (pa_nil)))
      (pss_cons (ps_while PassesOwn.never (PW.pt (pw_and (pt_cmpR op_lt (pv 3) (pe_callB (lenQ K rfl) (by rfl) B.len (by decide +kernel) (pa_cons (pv 1) pa_nil)) (nomark _)) (pw_and1 (pt_cmpR op_ne (pe_ix (ixL K rfl) (pe_ix (ixL K rfl) (pv 1) (pv 3) (fun _ _ => rfl)) (pe_int) (fun _ _ => rfl)) (pe_str) (nomark _))))) (pss_cons (ps_expr (pe_bm PySem.F.plainAttrs_list PySem.F.slot_list_append PySem.F.type_list_append mt_append (pv 4) (pa_cons (pe_callTy (tupleOf K rfl) (by rfl) B.tuple (by decide +kernel) (pa_cons (D_read_numbers.call (hr.mono (by decide)) (by rfl) (pa_cons (pv 1) (pa_cons (pv 3) (pa_cons (pe_str) (pa_cons (pe_int) pa_nil))))) pa_nil)) pa_nil)))
      (pss_one (ps_aug (i := 3) sc_parse_state.nd rfl (by first | exact Or.inl rfl | exact Or.inr rfl) (pe_int) ip_add))))
      (pss_cons (ps_if (pt_cmpR op_eq (pv 3) (pe_callB (lenQ K rfl) (by rfl) B.len (by decide +kernel) (pa_cons (pv 1) pa_nil)) (nomark _)) (pss_one (ps_never)) (pss_nil))
      (pss_cons (ps_set (i := 5) sc_parse_state.nd rfl (by first | exact Or.inl rfl | exact Or.inr rfl) (pe_callTy (tupleOf K rfl) (by rfl) B.tuple (by decide +kernel) (pa_cons (D_read_numbers.call (hr.mono (by decide)) (by rfl) (pa_cons (pv 1) (pa_cons (pv 3) (pa_cons (pe_str) (pa_cons (pe_non) pa_nil))))) pa_nil)))
      (pss_cons (ps_if (pt_cmpR op_lt (pe_op op_add (pv 3) (pe_int)) (pe_callB (lenQ K rfl) (by rfl) B.len (by decide +kernel) (pa_cons (pv 1) pa_nil)) (nomark _)) (pss_one (ps_never)) (pss_nil))
      (pss_cons (ps_set (i := 6) sc_parse_state.nd rfl (by first | exact Or.inl rfl | exact Or.inr rfl) (pe_tup (pa_cons (pv 2) (pa_cons (pe_callTy (tupleOf K rfl) (by rfl) B.tuple (by decide +kernel) (pa_cons (pv 4) pa_nil)) pa_nil))))
      (pss_cons (ps_expr (D_check_fleet.call (hr.mono (by decide)) (by rfl) (pa_cons (pv 6) pa_nil)))
      (pss_cons (ps_expr (D_check_valid.call (hr.mono (by decide)) (by rfl) (pa_cons (pv 6) (pa_cons (pv 5) pa_nil))))
      (pss_one (ps_ret (pe_tup (pa_cons (pv 6) (pa_cons (pv 5) pa_nil)))))))))))))))), ?_⟩
  have hz : 1000000 ≤ sizeLine := by decide
  have h8 := hw.fleet.2.1
  have h40 := hw.fleet.2.2.1
  walk_at "rd"
  have erows : rowsS (stateT n rs xs) = rowsOf n rs xs := rowsS_join (rowsOf_ok n rs xs)
  have hrl := rowsOf_short hw
  have hpl : (stateT n rs xs).length ≤ 100000 := by
    have h1 := join_len nl1 (rowsOf n rs xs) hrl
    rw [nl_len, rowsOf_len] at h1
    show (Txt.join nl1 (rowsOf n rs xs)).length ≤ 100000
    omega
  refine ⟨stateT n rs xs, rfl, hpl, by rw [erows, rowsOf_len]; omega, fun r hr => by rw [erows] at hr; have := hrl r hr; omega, fun H1 p1 s1 hp0 hp1 => ?_⟩
  rw [erows] at hp1
  have ewords : (rowsOf n rs xs).map (fun r => Txt.split r sp1) = (bargesW :: [(n : Int)].map numT) :: (rs.map (fun r => ropeW :: [r.f, r.r, r.l].map numT) ++ [atW :: xs.map numT]) := by
    have e1 := row_words (w := bargesW) (ns := [(n : Int)]) (by decide +kernel)
    have e2 := row_words (w := atW) (ns := xs) (by decide +kernel)
    have e3 : rs.map ((fun r => Txt.split r sp1) ∘ ropeR) = rs.map fun r => ropeW :: [r.f, r.r, r.l].map numT := List.map_congr_left fun r _ => row_words (w := ropeW) (ns := [r.f, r.r, r.l]) (by decide +kernel)
    show Txt.split (rowT bargesW [(n : Int)]) sp1 :: (rs.map ropeR ++ [rowT atW xs]).map (fun r => Txt.split r sp1) = _
    rw [List.map_append, List.map_map, e1, e3]
    show _ :: (_ ++ [Txt.split (rowT atW xs) sp1]) = _
    rw [e2]
  rw [ewords] at hp1
  walk_at "rd"
  obtain ⟨rows, hrows⟩ : ∃ rows, (bargesW :: [(n : Int)].map numT) :: (rs.map (fun r => ropeW :: [r.f, r.r, r.l].map numT) ++ [atW :: xs.map numT]) = rows := ⟨_, rfl⟩
  have hlen : rows.length = rs.length + 2 := by
    rw [← hrows, List.length_cons, List.length_append, List.length_map]
    rfl
  have hr0 : rows[0]? = some (bargesW :: [(n : Int)].map numT) := by rw [← hrows]; rfl
  have hrr : ∀ (i : Nat) r, rs[i]? = some r → rows[i + 1]? = some (ropeW :: [r.f, r.r, r.l].map numT) := fun i r hi => by
    have hil : i < (rs.map (fun r => ropeW :: [r.f, r.r, r.l].map numT)).length := by rw [List.length_map]; exact (List.getElem?_eq_some_iff.mp hi).1
    rw [← hrows, List.getElem?_cons_succ, List.getElem?_append_left hil, List.getElem?_map, hi]
    rfl
  have hra : rows[rs.length + 1]? = some (atW :: xs.map numT) := by
    rw [← hrows, List.getElem?_cons_succ, List.getElem?_append_right (by rw [List.length_map]; exact Nat.le_refl _), List.length_map, Nat.sub_self]
    rfl
  rw [hrows] at hp1
  clear hrows ewords erows hrl hpl
  obtain ⟨ts, ot⟩ := id hp1
  refine ⟨_, .inl (.of ot.top), rfl, ?_⟩
  rw [if_neg (by rw [List.length_map, ot.len, hlen, decide_eq_true_iff]; omega)]
  have hn1 : ∀ i ∈ [(n : Int)], -9999 ≤ i ∧ i ≤ 9999 := fun i hi => by
    rw [List.mem_singleton.mp hi]
    omega
  refine ⟨p1, .int 1, 0, bargesW, rows, [(n : Int)].map numT, [(n : Int)], rfl, hp1, hr0, read_all hn1, num_lens hn1, by show 1 ≤ 1000; omega, .inr rfl, fun H2 l2 s2 _ hl2 => ?_⟩
  refine ⟨l2, _, 0, .int (n : Int), rfl, rfl, .of hl2, atI_nat (j := 0) rfl, by omega, fun L hL => ?_⟩
  have s3 := same_upd (o := .lst []) hL
  have hL1 : H1 L = none := none_back s2 hL
  have ot3 := ot.mono (s2.trans s3)
  obtain ⟨W, eW⟩ : ∃ W : Nat → L2.St → Hp → Prop, W = fun m σ H' => ∃ (i : Nat) (us : List Addr), m = rs.length - i ∧ i ≤ rs.length ∧ σ = [some (.str (stateT n rs xs)), some (.ref p1), some (.int (n : Int)), some (.int ((i : Int) + 1)), some (.ref L), none, none] ∧ Same H1 H' ∧ ObjsTs oRope H' L us (rs.take i) := ⟨_, rfl⟩
  refine ⟨W, ⟨_, by rw [eW]; exact ⟨0, [], rfl, Nat.zero_le _, rfl, s2.trans s3, ObjsTs.nil upd_same⟩⟩, fun m σ H4 hW => ?_⟩
  rw [eW] at hW
  obtain ⟨i, us, hm, hi, rfl, e4, ou⟩ := hW
  have e14 := e4
  have otH := ot.mono e4
  have hp4 := hp1.mono e4
  have hil : i + 1 < rows.length := by omega
  have hti : ts[i + 1]? = some (ts[i + 1]'(by rw [ot.len]; exact hil)) := List.getElem?_eq_getElem _
  generalize ts[i + 1]'(by rw [ot.len]; exact hil) = t at hti
  have hvi : (ts.map V.ref)[i + 1]? = some (.ref t) := by rw [List.getElem?_map, hti]; rfl
  have ei : (i : Int) + 1 = ((i + 1 : Nat) : Int) := by omega
  walk_at "rd"
  refine ⟨_, .inl (.of otH.top), ?_⟩
  rw [List.length_map, ot.len, hlen, if_pos (decide_eq_true (by omega)), ei]
  by_cases hlt : i < rs.length
  · have hri : rs[i]? = some rs[i] := List.getElem?_eq_getElem hlt
    have hro := hw.fleet.2.2.2 _ (List.getElem_mem hlt)
    generalize rs[i] = r at hri hro
    have hrow := hrr i r hri
    have hto : H4 t = some (.lst ((ropeW :: [r.f, r.r, r.l].map numT).map V.str)) := otH.obj _ t _ hti hrow
    refine ⟨p1, _, ((i + 1 : Nat) : Int), .ref t, rfl, rfl, .of otH.top, atI_nat hvi, t, _, 0, .str ropeW, rfl, rfl, .of hto, atI_nat (j := 0) rfl, rfl, ?_⟩
    rw [if_pos (by decide +kernel)]
    refine ⟨fun σ' H' => W (rs.length - (i + 1)) σ' H', fun σ' H' hN => ⟨_, by omega, hN⟩, .inl ⟨rfl, _, .of ou.top⟩, ?_⟩
    have hsm := rope_small h8 hro
    refine ⟨p1, .int 3, i + 1, ropeW, rows, [r.f, r.r, r.l].map numT, [r.f, r.r, r.l], rfl, hp4, hrow, read_all hsm, num_lens hsm, by show 3 ≤ 1000; omega, .inr rfl, fun H5 l5 s5 _ hl5 => ?_⟩
    refine ⟨l5, _, rfl, .inl ⟨.of hl5, fun t6 ht6 => ?_⟩⟩
    have sT := same_upd (o := .tup ([r.f, r.r, r.l].map V.int)) ht6
    have e6 := (e4.trans s5).trans sT
    have ou5 := (ou.mono s5).mono sT
    have nt : t6 ≠ L := fun z => by have := (ou.mono s5).top; rw [← z, ht6] at this; cases this
    have ou6 := ou5.snoc (x := r) (T := t6) (by exact upd_same) nt
    refine ⟨L, _, _, rfl, rfl, ou5.top, by rw [List.length_map, ou.len, List.length_take]; omega, ?_⟩
    rw [eW]
    refine ⟨i + 1, us ++ [t6], rfl, by omega, rfl, fun q o hq => ?_, ?_⟩
    · rw [upd_ne (ne_of_none hq hL1)]
      exact e6 q o hq
    · rw [List.take_add_one, hri]
      exact ou6
  · have hi2 : i = rs.length := by omega
    subst hi2
    rw [List.take_length] at ou
    have hto : H4 t = some (.lst ((atW :: xs.map numT).map V.str)) := otH.obj _ t _ hti hra
    refine ⟨p1, _, ((rs.length + 1 : Nat) : Int), .ref t, rfl, rfl, .of otH.top, atI_nat hvi, t, _, 0, .str atW, rfl, rfl, .of hto, atI_nat (j := 0) rfl, rfl, ?_⟩
    rw [if_neg (by decide +kernel)]
    refine ⟨_, .inl (.of otH.top), rfl, ?_⟩
    rw [List.length_map, ot.len, hlen, if_neg (by rw [decide_eq_true_iff]; omega)]
    refine ⟨p1, .non, rs.length + 1, atW, rows, xs.map numT, xs, rfl, hp4, hra, read_all hw.range, num_lens hw.range, by rw [List.length_map]; have := hw.len; omega, .inl rfl, fun H5 l5 s5 _ hl5 => ?_⟩
    refine ⟨l5, _, rfl, .inl ⟨.of hl5, fun t6 ht6 => ?_⟩⟩
    have sT := same_upd (o := .tup (xs.map V.int)) ht6
    have s56 := s5.trans sT
    have hu6 : (upd H5 t6 (.tup (xs.map V.int))) t6 = some (.tup (xs.map V.int)) := upd_same
    have e6 := e4.trans s56
    have ou6 := ou.mono s56
    have ot6 := otH.mono s56
    generalize upd H5 t6 (.tup (xs.map V.int)) = H6 at hu6 e6 ou6 ot6 ⊢
    refine ⟨_, .inl (.of ot6.top), ?_⟩
    rw [List.length_map, ot.len, hlen, if_neg (by rw [decide_eq_true_iff]; omega)]
    refine ⟨_, .inl ⟨.of ou6.top, fun t7 ht7 => ⟨by omega, fun t8 ht8 => ?_⟩⟩⟩
    have s7 := same_upd (o := .tup (us.map V.ref)) ht7
    have s8 := same_upd (o := .tup [.int (n : Int), .ref t7]) ht8
    have e8 := (e6.trans s7).trans s8
    have hv8 : FleetV K (upd (upd H6 t7 (.tup (us.map V.ref))) t8 (.tup [.int (n : Int), .ref t7])) (.ref t8) n rs := by
      refine ⟨t8, t7, us.map V.ref, rfl, .of upd_same, .of (s8 _ _ upd_same), by rw [List.length_map, ou.len], fun j r hj => ?_⟩
      have hjl : j < us.length := by rw [ou.len]; exact (List.getElem?_eq_some_iff.mp hj).1
      have huj : us[j]? = some us[j] := List.getElem?_eq_getElem hjl
      exact ⟨.ref us[j], by rw [List.getElem?_map, huj]; rfl, us[j], rfl, .of (s8 _ _ (s7 _ _ (ou6.obj j _ r huj hj)))⟩
    have hu8 := s8 _ _ (s7 _ _ hu6)
    have ht8n : H1 t8 = none := none_back (e6.trans s7) ht8
    generalize upd (upd H6 t7 (.tup (us.map V.ref))) t8 (.tup [.int (n : Int), .ref t7]) = H8 at e8 hv8 hu8 ⊢
    have hui : IntsT K H8 (.ref t6) xs := ⟨t6, rfl, .of hu8⟩
    refine ⟨.ref t8, n, rs, rfl, hv8, hw.fleet, fun H9 s9 => ?_⟩
    refine ⟨.ref t8, .ref t6, n, rs, xs, rfl, hv8.mono s9, hui.mono s9, by rw [hw.len], hw.range, hw.fleet.2.2.2, hw.valid, fun H10 s10 => ⟨by omega, fun t9 ht9 => ?_⟩⟩
    have s91 := s9.trans s10
    have s11 := same_upd (o := .tup [.ref t8, .ref t6]) ht9
    have eall := (s1.trans e8).trans s91
    exact q _ t9 (.ref t8) (.ref t6) (eall.trans s11) (none_back eall ht9) upd_same ((hv8.mono s91).mono s11) ((hui.mono s91).mono s11)
end
end Hx

set_option Elab.async false
set_option linter.all false
set_option maxRecDepth 100000
set_option maxHeartbeats 4000000
namespace Hx
open PySem PySem.Spec PyProof.Rows L2
local macro_rules | `(tactic| walk_at "rd") => `(tactic| (try simp only [q_var, q_c, q_op, q_un, q_rI, q_rI0, q_rU, q_rEq, q_rNe, q_test, q_tB, q_and, q_or, q_not, q_andV, q_orV, q_notV, q_if, q_isN, q_notN, q_chain, q_next, q_seq, q_break, q_cont, q_drop, q_ret, q_retN, q_ifS, q_never, q_gN, q_gNil, q_gCons, q_gTup, q_gSub, q_asg, q_par, q_aug, q_nil, q_cons, q_tup, q_lst, q_call, q_cb, q_noPart, q_part, q_sl, q_bm0, q_bm, q_yes, q_for, q_lc, q_iList, q_iTup, q_iRng1, q_iEnumT, q_iEnum, q_iRng2, q_iZipA, q_iZipM, q_ipI, q_ckw, q_len, q_listOf, q_tupleOf, L2.start, cx_K, wipe, List.map_cons, List.map_nil, List.length_cons, List.length_nil, List.cons_append, List.nil_append, List.append_nil, List.replicate, List.getElem?_cons_zero, List.getElem?_cons_succ, List.set_cons_zero, List.set_cons_succ, Option.some.injEq, List.cons.injEq, exists_eq_left', exists_eq_left, exists_and_left, V.int.injEq, V.bl.injEq, V.ref.injEq, if_true, if_false, Bool.not_true, Bool.not_false, true_and, and_true, Bool.false_eq_true, ite_true, ite_false, Nat.reduceAdd, Nat.reduceSub, reduceCtorEq, decide_false, decide_true, Int.toNat_natCast, false_and, exists_false, or_false, false_or]))
theorem dictP {X : Cx} (K : PySem.W.Frag) (h : X.K = K) (hc : X.calm = true) : CallR X (.type "dict") (fun xs H Q => ∃ (a : Addr) (ps : List Addr) (kvs : List (Key × V)), xs = [.ref a] ∧ SqL K H a (ps.map V.ref) ∧ Paired (fun p kv => SqT K H p [kV kv.1, kv.2]) ps kvs ∧
    ∀ p, H p = none → Q (.ref p) (upd H p (.dK (mergeK [] kvs)))) := by subst h; exact call_dictP hc
def linkR (rs : List Rope) : Links2 := rs.map fun r => (r.f.toNat, r.r.toNat)
theorem tautI_snoc (ys : List Int) (rs : List Rope) (i : Nat) (r : Rope) (h : rs[i]? = some r) : ((List.range (i + 1)).filter fun i => match rs[i]? with | some r => tautB ys r | none => false) = ((List.range i).filter fun i => match rs[i]? with | some r => tautB ys r | none => false) ++ if tautB ys r = true then [i] else [] := by
  rw [List.range_succ, List.filter_append]
  congr 1
  rw [List.filter_cons, h]
  rfl
section
variable {P : Program} {w : World} {K : PySem.W.Frag} {mg : Str → Option Value} {base : Heap}
/-- a list of ropes at l -/
def RopesLst (K : PySem.W.Frag) (H : Hp) (l : Addr) (rs : List Rope) : Prop := ∃ xs, H l = some (.lst xs) ∧ RopesX K H xs rs
theorem RopesLst.mono {H H' : Hp} {l : Addr} {rs : List Rope} (h : RopesLst K H l rs) (e : Same H H') : RopesLst K H' l rs := by
  obtain ⟨xs, h1, h2⟩ := h
  exact ⟨xs, e _ _ h1, h2.same e⟩
end
end Hx

set_option Elab.async false
set_option linter.all false
set_option maxRecDepth 100000
set_option maxHeartbeats 4000000
/-! Lists of lists of ints and None, as data. -/
namespace Hx
open PySem PySem.Spec PyProof.Rows L2
def rowP (es : List (Option Int)) : PyData := .list (es.map ovP)
theorem lay_rows : ∀ rows : List (List (Option Int)), PyData.canLayAll0 (rows.map rowP) = true
  | [] => rfl
  | es :: r => by
    rw [List.map_cons, PyData.canLayAll0, lay_rows r]
    unfold rowP
    rw [PyData.canLay0, lay_opts]
    rfl
theorem depth_rows : ∀ rows : List (List (Option Int)), PyData.depthAll (rows.map rowP) ≤ 1
  | [] => Nat.zero_le _
  | es :: r => by
    have e := depth_rows r
    have f := depth_opts es
    simp only [List.map_cons, PyData.depthAll, rowP, PyData.depth, f]
    omega
theorem shaped_rows (rows : List (List (Option Int))) : SeqAt.shaped (.list (rows.map rowP)) = true := by
  have h := depth_rows rows
  unfold SeqAt.shaped
  rw [PyData.canLay0, lay_rows, PyData.depth]
  simp
  omega
end Hx

set_option Elab.async false
set_option linter.all false
set_option maxRecDepth 100000
set_option maxHeartbeats 4000000
namespace Hx
open PySem PySem.Spec PyProof.Rows L2
local macro_rules | `(tactic| walk_at "rd") => `(tactic| (try simp only [q_var, q_c, q_op, q_un, q_rI, q_rI0, q_rU, q_rEq, q_rNe, q_test, q_tB, q_and, q_or, q_not, q_andV, q_orV, q_notV, q_if, q_isN, q_notN, q_chain, q_next, q_seq, q_break, q_cont, q_drop, q_ret, q_retN, q_ifS, q_never, q_gN, q_gNil, q_gCons, q_gTup, q_gSub, q_asg, q_par, q_aug, q_nil, q_cons, q_tup, q_lst, q_call, q_cb, q_noPart, q_part, q_sl, q_bm0, q_bm, q_yes, q_for, q_lc, q_iList, q_iTup, q_iRng1, q_iEnumT, q_iEnum, q_iRng2, q_iZipA, q_iZipM, q_ipI, q_ckw, q_len, q_listOf, q_tupleOf, L2.start, cx_K, wipe, List.map_cons, List.map_nil, List.length_cons, List.length_nil, List.cons_append, List.nil_append, List.append_nil, List.replicate, List.getElem?_cons_zero, List.getElem?_cons_succ, List.set_cons_zero, List.set_cons_succ, Option.some.injEq, List.cons.injEq, exists_eq_left', exists_eq_left, exists_and_left, V.int.injEq, V.bl.injEq, V.ref.injEq, if_true, if_false, Bool.not_true, Bool.not_false, true_and, and_true, Bool.false_eq_true, ite_true, ite_false, Nat.reduceAdd, Nat.reduceSub, reduceCtorEq, decide_false, decide_true, Int.toNat_natCast, false_and, exists_false, or_false, false_or]))
theorem eqv_nil (xs : List PyData) : PyData.eqv (.list xs) (.list []) = xs.isEmpty := by
  rw [PyData.eqv]
  cases xs with
  | nil => rw [PyData.eqvAll]; rfl
  | cons x xs => rw [PyData.eqvAll]; rfl; all_goals (intro h; cases h)
/-! data -/
def ropeP (r : Rope) : PyData := .tuple (([r.f, r.r, r.l].map some).map ovP)
theorem lay_ropes : ∀ rs : List Rope, PyData.canLayAll0 (rs.map ropeP) = true
  | [] => rfl
  | r :: rs => by
    rw [List.map_cons, PyData.canLayAll0, lay_ropes rs]
    rfl
theorem depth_ropes : ∀ rs : List Rope, PyData.depthAll (rs.map ropeP) ≤ 1
  | [] => Nat.zero_le _
  | r :: rs => by
    have e := depth_ropes rs
    have f : PyData.depth (ropeP r) ≤ 1 := by
      unfold ropeP
      rw [PyData.depth, depth_opts]
      omega
    rw [List.map_cons, PyData.depthAll]
    omega
theorem shaped_ropes (rs : List Rope) : SeqAt.shaped (.list (rs.map ropeP)) = true := by
  have h := depth_ropes rs
  unfold SeqAt.shaped
  rw [PyData.canLay0, lay_ropes, PyData.depth]
  simp
  omega
def natO (k : List Nat) : List (Option Int) := k.map fun (i : Nat) => some (i : Int)
theorem natO_V (k : List Nat) : natV k = (natO k).map ovV := by
  unfold natV natO
  rw [List.map_map]
  rfl
section
variable {K : PySem.W.Frag} {H : Hp}
theorem dp_rowV : ∀ es : List (Option Int), DpAll K H (es.map ovV) (es.map ovP)
  | [] => .nil
  | none :: r => .cons .non (dp_rowV r)
  | some i :: r => .cons (.int i) (dp_rowV r)
theorem dp_nats {l : Addr} {k : List Nat} (h : H l = some (.lst (natV k))) : Dp K H (.ref l) (rowP (natO k)) := by
  rw [natO_V] at h
  exact .lst (.of h) (dp_rowV _)
theorem shaped_nats (k : List Nat) : SeqAt.shaped (rowP (natO k)) = true := shaped_opts_l _
theorem dp_ropes : ∀ {xs : List V} {rs : List Rope}, RopesX K H xs rs → DpAll K H xs (rs.map ropeP) := by
  intro xs
  induction xs with
  | nil =>
    intro rs h
    cases rs with
    | nil => exact .nil
    | cons r rs => cases h.1
  | cons x xs ih =>
    intro rs h
    cases rs with
    | nil => cases h.1
    | cons r rs =>
      refine .cons ?_ (ih ⟨Nat.succ.inj h.1, fun i q hq => ?_⟩)
      · obtain ⟨v, hv, c, rfl, hc⟩ := h.2 0 r rfl
        cases hv
        exact dp_ints_t (xs := [r.f, r.r, r.l]) hc
      · obtain ⟨v, hv, k⟩ := h.2 (i + 1) q hq
        exact ⟨v, hv, k⟩
end
theorem shaped_ropes_t (rs : List Rope) : SeqAt.shaped (.tuple (rs.map ropeP)) = true := by
  have h := depth_ropes rs
  unfold SeqAt.shaped
  rw [PyData.canLay0, lay_ropes, PyData.depth]
  simp
  omega
theorem shaped_rope (r : Rope) : SeqAt.shaped (ropeP r) = true := shaped_opts_t _
end Hx

set_option Elab.async false
set_option linter.all false
set_option maxRecDepth 100000
set_option maxHeartbeats 4000000
namespace Hx
open PySem PySem.Spec PyProof.Rows L2
local macro_rules | `(tactic| walk_at "rd") => `(tactic| (try simp only [q_var, q_c, q_op, q_un, q_rI, q_rI0, q_rU, q_rEq, q_rNe, q_test, q_tB, q_and, q_or, q_not, q_andV, q_orV, q_notV, q_if, q_isN, q_notN, q_chain, q_next, q_seq, q_break, q_cont, q_drop, q_ret, q_retN, q_ifS, q_never, q_gN, q_gNil, q_gCons, q_gTup, q_gSub, q_asg, q_par, q_aug, q_nil, q_cons, q_tup, q_lst, q_call, q_cb, q_noPart, q_part, q_sl, q_bm0, q_bm, q_yes, q_for, q_lc, q_iList, q_iTup, q_iRng1, q_iEnumT, q_iEnum, q_iRng2, q_iZipA, q_iZipM, q_ipI, q_ckw, q_len, q_listOf, q_tupleOf, L2.start, cx_K, wipe, List.map_cons, List.map_nil, List.length_cons, List.length_nil, List.cons_append, List.nil_append, List.append_nil, List.replicate, List.getElem?_cons_zero, List.getElem?_cons_succ, List.set_cons_zero, List.set_cons_succ, Option.some.injEq, List.cons.injEq, exists_eq_left', exists_eq_left, exists_and_left, V.int.injEq, V.bl.injEq, V.ref.injEq, if_true, if_false, Bool.not_true, Bool.not_false, true_and, and_true, Bool.false_eq_true, ite_true, ite_false, Nat.reduceAdd, Nat.reduceSub, reduceCtorEq, decide_false, decide_true, Int.toNat_natCast, false_and, exists_false, or_false, false_or]))
theorem rch_congr {a b : Links2} (h : ∀ p, p ∈ a ↔ p ∈ b) {x y : Nat} : Rch a x y ↔ Rch b x y := by
  have one : ∀ {a b : Links2}, (∀ p, p ∈ a → p ∈ b) → ∀ {x y}, Rch a x y → Rch b x y := fun {a b} h {x y} k => by
    induction k with
    | refl a => exact .refl a
    | step hm _ ih => exact .step (h _ hm) ih
  exact ⟨one fun p => (h p).mp, one fun p => (h p).mpr⟩
theorem led_congr {a b : Links2} (h : ∀ p, p ∈ a ↔ p ∈ b) (k : List Nat) : ledB a k = ledB b k := by
  rw [Bool.eq_iff_iff, ledB_iff, ledB_iff]
  exact ⟨fun ⟨p, h1, h2⟩ => ⟨p, (h p).mp h1, h2⟩, fun ⟨p, h1, h2⟩ => ⟨p, (h p).mpr h1, h2⟩⟩
theorem rB_congr {a b : Links2} (h : ∀ p, p ∈ a ↔ p ∈ b) (x y : Nat) : rB a x y = rB b x y := by
  rw [Bool.eq_iff_iff, rB_iff, rB_iff]
  exact rch_congr h
theorem scc_congr {a b : Links2} (h : ∀ p, p ∈ a ↔ p ∈ b) (bs : List Nat) (x : Nat) : sccL a bs x = sccL b bs x := by
  unfold sccL
  refine List.filter_congr fun y _ => ?_
  rw [rB_congr h, rB_congr h]
theorem knotsF_congr {a b : Links2} (h : ∀ p, p ∈ a ↔ p ∈ b) (bs cs : List Nat) : knotsF a bs cs = knotsF b bs cs := by
  unfold knotsF
  rw [show sccL a bs = sccL b bs from funext (scc_congr h bs)]
theorem srcL_congr {a b : Links2} (h : ∀ p, p ∈ a ↔ p ∈ b) (bs : List Nat) : srcL a bs = srcL b bs := by
  unfold srcL
  rw [knotsF_congr h]
  exact List.filter_congr fun k _ => by rw [led_congr h]
def outR (k : List Nat) (r : Rope) : Bool := decide (r.r.toNat ∈ k) && !decide (r.f.toNat ∈ k)
theorem out_led (k : List Nat) : ∀ rs : List Rope, (rs.filter (outR k)).isEmpty = !ledB (linkR rs) k
  | [] => rfl
  | r :: rs => by
    have ih := out_led k rs
    have e : ledB (linkR (r :: rs)) k = (outR k r || ledB (linkR rs) k) := rfl
    rw [e, List.filter_cons]
    cases outR k r with
    | true => rfl
    | false => exact ih
def tautR (ys : List Int) (rs : List Rope) : List Rope := (tautI ys rs).filterMap fun i => rs[i]?
theorem mem_tautR {ys : List Int} {rs : List Rope} {r : Rope} : r ∈ tautR ys rs ↔ r ∈ rs ∧ tautB ys r = true := by
  unfold tautR tautI
  rw [List.mem_filterMap]
  constructor
  · rintro ⟨i, hi, hr⟩
    obtain ⟨_, h2⟩ := List.mem_filter.mp hi
    rw [hr] at h2
    exact ⟨List.mem_of_getElem? hr, h2⟩
  · rintro ⟨h1, h2⟩
    obtain ⟨i, hi⟩ := List.mem_iff_getElem?.mp h1
    refine ⟨i, List.mem_filter.mpr ⟨List.mem_range.mpr (List.getElem?_eq_some_iff.mp hi).1, ?_⟩, hi⟩
    rw [hi]
    exact h2
def inMov (xs ys : List Int) (r : Rope) : Bool := decide (r.f.toNat ∈ movL xs ys) && decide (r.r.toNat ∈ movL xs ys)
def leadR (xs ys : List Int) (rs : List Rope) : List Rope := (tautR ys rs).filter (inMov xs ys)
theorem mem_leadR {xs ys : List Int} {rs : List Rope} {r : Rope} (h : r ∈ leadR xs ys rs) : r ∈ rs := (mem_tautR.mp (List.mem_filter.mp h).1).1
theorem link_leadR {xs ys : List Int} {rs : List Rope} (p : Nat × Nat) : p ∈ linkR (leadR xs ys rs) ↔ p ∈ linkL xs ys rs := by
  rw [mem_link]
  unfold linkR leadR inMov
  rw [List.mem_map]
  constructor
  · rintro ⟨r, hr, rfl⟩
    obtain ⟨h1, h2⟩ := List.mem_filter.mp hr
    obtain ⟨h3, h4⟩ := mem_tautR.mp h1
    rw [Bool.and_eq_true, decide_eq_true_iff, decide_eq_true_iff] at h2
    exact ⟨r, h3, rfl, rfl, h2.1, h2.2, of_decide_eq_true h4⟩
  · rintro ⟨r, hr, h1, h2, h3, h4, h5⟩
    refine ⟨r, List.mem_filter.mpr ⟨mem_tautR.mpr ⟨hr, decide_eq_true (by rw [h1, h2]; exact h5)⟩, ?_⟩, by rw [h1, h2]⟩
    rw [Bool.and_eq_true, decide_eq_true_iff, decide_eq_true_iff, h1, h2]
    exact ⟨h3, h4⟩
section
variable {K : PySem.W.Frag} {H : Hp}
theorem dp_objs {α : Type} {o : α → HO} {f : α → PyData} (hf : ∀ t x, H t = some (o x) → Dp K H (.ref t) (f x)) {l : Addr} {ts : List Addr} {xs : List α} (h : ObjsTs o H l ts xs) : Dp K H (.ref l) (.list (xs.map f)) := by
  refine .lst (.of h.top) ?_
  have key : ∀ (ts : List Addr) (xs : List α), ts.length = xs.length → (∀ (i : Nat) t x, ts[i]? = some t → xs[i]? = some x → H t = some (o x)) → DpAll K H (ts.map V.ref) (xs.map f) := by
    intro ts
    induction ts with
    | nil =>
      intro xs hl _
      cases xs with
      | nil => exact .nil
      | cons x xs => cases hl
    | cons t ts ih =>
      intro xs hl h
      cases xs with
      | nil => cases hl
      | cons x xs => exact .cons (hf t x (h 0 t x rfl rfl)) (ih xs (Nat.succ.inj hl) fun i t' x' h1 h2 => h (i + 1) t' x' h1 h2)
  exact key ts xs h.len h.obj
theorem dp_knots {l : Addr} {ks : List (List Nat)} (h : KnotsAt H l ks) : Dp K H (.ref l) (.list ((ks.map natO).map rowP)) := by
  obtain ⟨ts, h⟩ := h
  rw [List.map_map]
  exact dp_objs (fun t x ht => dp_nats ht) h
end
/-! a dict of pairs -/
theorem valV_keep {k : Key} : ∀ (kvs acc : List (Key × V)), (∀ kv ∈ kvs, kv.1 ≠ k) → valV (mergeK acc kvs) k = valV acc k
  | [], _, _ => rfl
  | x :: r, acc, h => by
    have e : mergeK acc (x :: r) = mergeK (putK acc x.1 x.2) r := rfl
    rw [e, valV_keep r _ fun kv hkv => h kv (List.mem_cons_of_mem _ hkv), valV_put, if_neg fun z => h x List.mem_cons_self z.symm]
theorem valV_merge : ∀ (kvs acc : List (Key × V)), (∀ kv ∈ kvs, ∀ kv' ∈ kvs, kv.1 = kv'.1 → kv.2 = kv'.2) → ∀ kv ∈ kvs, valV (mergeK acc kvs) kv.1 = some kv.2
  | [], _, _, kv, hm => by cases hm
  | x :: r, acc, h, kv, hm => by
    have e : mergeK acc (x :: r) = mergeK (putK acc x.1 x.2) r := rfl
    rw [e]
    by_cases hr : ∃ kv' ∈ r, kv'.1 = kv.1
    · obtain ⟨kv', h1, h2⟩ := hr
      have := valV_merge r (putK acc x.1 x.2) (fun a ha b hb => h a (List.mem_cons_of_mem _ ha) b (List.mem_cons_of_mem _ hb)) kv' h1
      rw [h2] at this
      rw [this, h kv' (List.mem_cons_of_mem _ h1) kv hm h2]
    · have hx : kv = x := by
        rcases List.mem_cons.mp hm with z | z
        · exact z
        · exact absurd ⟨kv, z, rfl⟩ hr
      subst hx
      rw [valV_keep r _ fun kv' hkv z => hr ⟨kv', hkv, z⟩, valV_put, if_pos rfl]
theorem mergeK_len : ∀ (kvs acc : List (Key × V)), (mergeK acc kvs).length ≤ acc.length + kvs.length
  | [], acc => Nat.le_refl _
  | x :: r, acc => by
    have e : mergeK acc (x :: r) = mergeK (putK acc x.1 x.2) r := rfl
    have h1 := mergeK_len r (putK acc x.1 x.2)
    have h2 := length_putK acc x.1 x.2
    rw [e, List.length_cons]
    omega
/-- what each leads, in a dict at d -/
structure LedAt (no : Addr) (H : Hp) (d : Addr) (ls : Links2) (bs : List Nat) : Prop where
  ex : ∃ kvs : List (Key × V), H d = some (.dK kvs) ∧ ∀ b : Nat, b ∈ bs → ∃ (a : Addr) (L : List Nat), valV kvs (Sum.inl (b : Int)) = some (.ref a) ∧ H a = some (.lst (natV L)) ∧ a ≠ no ∧ L.length ≤ 8 ∧ ∀ x, x ∈ L ↔ Rch ls b x
theorem LedAt.mono {no : Addr} {H H' : Hp} {d : Addr} {ls : Links2} {bs : List Nat} (h : LedAt no H d ls bs) (e : Same H H') : LedAt no H' d ls bs := by
  obtain ⟨kvs, h1, h3⟩ := h.ex
  refine ⟨kvs, e _ _ h1, fun b hb => ?_⟩
  obtain ⟨a, L, g1, g2, g3⟩ := h3 b hb
  exact ⟨a, L, g1, e _ _ g2, g3⟩
theorem LedAt.get {no : Addr} {H : Hp} {d : Addr} {ls : Links2} {bs : List Nat} (h : LedAt no H d ls bs) {b : Nat} (hb : b ∈ bs) : ∃ a L, DGet H d (.int (b : Nat)) (some (.ref a)) ∧ H a = some (.lst (natV L)) ∧ ∀ x, x ∈ L ↔ Rch ls b x := by
  obtain ⟨kvs, h1, h3⟩ := h.ex
  obtain ⟨a, L, g1, g2, g3, g4, g5⟩ := h3 b hb
  refine ⟨a, L, ?_, g2, g5⟩
  rw [← g1]
  exact DGet.k (k := Sum.inl (b : Int)) h1
theorem LedAt.put {no : Addr} {H : Hp} {d : Addr} {ls : Links2} {bs : List Nat} {o : HO} (h : LedAt no H d ls bs) (hd : d ≠ no) : LedAt no (upd H no o) d ls bs := by
  obtain ⟨kvs, h1, h3⟩ := h.ex
  refine ⟨kvs, by rw [upd_ne hd]; exact h1, fun b hb => ?_⟩
  obtain ⟨a, L, g1, g2, g3, g4⟩ := h3 b hb
  exact ⟨a, L, g1, by rw [upd_ne g3]; exact g2, g3, g4⟩
/-- pairs of a barge and a list of whom it leads -/
structure LedList (R : Addr) (H : Hp) (ls : Links2) (bs : List Nat) (i : Nat) : Prop where
  ex : ∃ (ps : List Addr) (kvs : List (Key × V)), H R = some (.lst (ps.map V.ref)) ∧ ps.length ≤ i ∧ Paired (fun p kv => H p = some (.tup [kV kv.1, kv.2]) ∧ p ≠ R) ps kvs ∧ kvs.length = i ∧
    ∀ (j : Nat) (kv : Key × V), kvs[j]? = some kv → ∃ (b : Nat) (a : Addr) (L : List Nat), bs[j]? = some b ∧ kv = (Sum.inl (b : Int), V.ref a) ∧ H a = some (.lst (natV L)) ∧ a ≠ R ∧ L.length ≤ 8 ∧ ∀ x, x ∈ L ↔ Rch ls b x
theorem nodup_at {l : List Nat} (h : l.Nodup) : ∀ {i j : Nat} {x : Nat}, l[i]? = some x → l[j]? = some x → i = j := by
  induction l with
  | nil => exact fun {i j x} a => by cases a
  | cons y l ih =>
    obtain ⟨h1, h2⟩ := List.nodup_cons.mp h
    intro i j x a b
    cases i with
    | zero =>
      have a : y = x := Option.some.inj a
      cases j with
      | zero => rfl
      | succ j => exact absurd (List.mem_of_getElem? (l := l) b) (a ▸ h1)
    | succ i =>
      cases j with
      | zero =>
        have b : y = x := Option.some.inj b
        exact absurd (List.mem_of_getElem? (l := l) a) (b ▸ h1)
      | succ j => exact congrArg Nat.succ (ih h2 a b)
section
variable {P : Program} {w : World} {K : PySem.W.Frag} {mg : Str → Option Value} {base : Heap}
theorem paired_snoc {α β : Type} {R : α → β → Prop} {a : List α} {b : List β} (h : Paired R a b) {x : α} {y : β} (k : R x y) : Paired R (a ++ [x]) (b ++ [y]) := by
  induction h with
  | nil => exact .cons k .nil
  | cons r _ ih => exact .cons r ih
theorem paired_imp {α β : Type} {R R' : α → β → Prop} {a : List α} {b : List β} (h : Paired R a b) (f : ∀ x y, R x y → R' x y) : Paired R' a b := by
  induction h with
  | nil => exact .nil
  | cons r _ ih => exact .cons (f _ _ r) ih
end
end Hx

set_option Elab.async false
set_option linter.all false
set_option maxRecDepth 100000
set_option maxHeartbeats 4000000
namespace Hx
open PySem PySem.Spec PyProof.Rows L2
local macro_rules | `(tactic| walk_at "rd") => `(tactic| (try simp only [q_var, q_c, q_op, q_un, q_rI, q_rI0, q_rU, q_rEq, q_rNe, q_test, q_tB, q_and, q_or, q_not, q_andV, q_orV, q_notV, q_if, q_isN, q_notN, q_chain, q_next, q_seq, q_break, q_cont, q_drop, q_ret, q_retN, q_ifS, q_never, q_gN, q_gNil, q_gCons, q_gTup, q_gSub, q_asg, q_par, q_aug, q_nil, q_cons, q_tup, q_lst, q_call, q_cb, q_noPart, q_part, q_sl, q_bm0, q_bm, q_yes, q_for, q_lc, q_iList, q_iTup, q_iRng1, q_iEnumT, q_iEnum, q_iRng2, q_iZipA, q_iZipM, q_ipI, q_ckw, q_len, q_listOf, q_tupleOf, L2.start, cx_K, wipe, List.map_cons, List.map_nil, List.length_cons, List.length_nil, List.cons_append, List.nil_append, List.append_nil, List.replicate, List.getElem?_cons_zero, List.getElem?_cons_succ, List.set_cons_zero, List.set_cons_succ, Option.some.injEq, List.cons.injEq, exists_eq_left', exists_eq_left, exists_and_left, V.int.injEq, V.bl.injEq, V.ref.injEq, if_true, if_false, Bool.not_true, Bool.not_false, true_and, and_true, Bool.false_eq_true, ite_true, ite_false, Nat.reduceAdd, Nat.reduceSub, reduceCtorEq, decide_false, decide_true, Int.toNat_natCast, false_and, exists_false, or_false, false_or]))
/-! hauling one barge of each source knot. No Python here. -/
/-- the hauls of barges bs to their goals ys -/
def goalH (ys : List Int) (bs : List Nat) : List (Nat × Int) := bs.map fun b => (b, ys.getD b 0)
theorem run_goal {n : Nat} {rs : List Rope} (F : Fit n rs) {ys : List Int} (hyv : ∀ r ∈ rs, HoldsR (gd ys) r) (h9 : ∀ i, i < n → gd ys i ≤ 9999) : ∀ (bs : List Nat) (cs : List Int), (∀ b ∈ bs, b < n) → cs.length = n → Valid cs rs → (∀ i, i < n → gd cs i ≤ gd ys i) →
    HaulsOk (chainTab n rs) cs (goalH ys bs) ∧ Valid (runD (chainTab n rs) cs (goalH ys bs)) rs ∧ (∀ i, i < n → gd cs i ≤ gd (runD (chainTab n rs) cs (goalH ys bs)) i ∧ gd (runD (chainTab n rs) cs (goalH ys bs)) i ≤ gd ys i) ∧ ∀ b ∈ bs, gd (runD (chainTab n rs) cs (goalH ys bs)) b = gd ys b
  | [], cs, _, _, hv, hle => ⟨trivial, hv, fun i hi => ⟨Int.le_refl _, hle i hi⟩, fun b hb => by cases hb⟩
  | b :: bs, cs, hb, hl, hv, hle => by
    have hbn := hb b List.mem_cons_self
    have hm := move_valid F hl hv hbn (gd ys b)
    have hl2 : (moveD (chainTab n rs) cs b (gd ys b)).length = n := by rw [moveD_len, hl]
    have hle2 := move_least (n := n) hl (b := b) (p := gd ys b) (y := gd ys) hyv hle (Int.le_refl _)
    obtain ⟨g1, g2, g3, g4⟩ := run_goal F hyv h9 bs (moveD (chainTab n rs) cs b (gd ys b)) (fun x hx => hb x (List.mem_cons_of_mem _ hx)) hl2 hm hle2
    have hge : ∀ i, i < n → gd cs i ≤ gd (moveD (chainTab n rs) cs b (gd ys b)) i := fun i hi => move_ge _ _ _ _ (by omega)
    have e : runD (chainTab n rs) cs (goalH ys (b :: bs)) = runD (chainTab n rs) (moveD (chainTab n rs) cs b (gd ys b)) (goalH ys bs) := rfl
    rw [e]
    refine ⟨⟨by rw [hl]; exact hbn, hle b hbn, h9 b hbn, g1⟩, g2, fun i hi => ⟨Int.le_trans (hge i hi) (g3 i hi).1, (g3 i hi).2⟩, fun x hx => ?_⟩
    rcases List.mem_cons.mp hx with z | z
    · subst z
      have h1 := move_at F hl hbn (gd ys x)
      have h2 := g3 x hbn
      omega
    · exact g4 x z
/-- what stays at or below y -/
theorem run_below {n : Nat} {rs : List Rope} {ys : List Int} {y : Nat → Int} (hy : ∀ r ∈ rs, HoldsR y r) : ∀ (bs : List Nat) (cs : List Int), cs.length = n → (∀ b ∈ bs, gd ys b ≤ y b) → (∀ i, i < n → gd cs i ≤ y i) → ∀ i, i < n → gd (runD (chainTab n rs) cs (goalH ys bs)) i ≤ y i
  | [], cs, _, _, hle => hle
  | b :: bs, cs, hl, hb, hle => run_below hy bs (moveD (chainTab n rs) cs b (gd ys b)) (by rw [moveD_len, hl]) (fun x hx => hb x (List.mem_cons_of_mem _ hx)) (move_least (n := n) hl hy hle (hb b List.mem_cons_self))
theorem ext_gd {a b : List Int} {n : Nat} (ha : a.length = n) (hb : b.length = n) (h : ∀ i, i < n → gd a i = gd b i) : a = b := by
  refine List.ext_getElem (by omega) fun i h1 h2 => ?_
  have := h i (by omega)
  unfold gd at this
  rw [List.getD_eq_getElem?_getD, List.getD_eq_getElem?_getD, List.getElem?_eq_getElem h1, List.getElem?_eq_getElem h2] at this
  exact this
section
variable {n : Nat} {rs : List Rope} {xs ys : List Int}
theorem GoalOk.holds (go : GoalOk n rs xs ys) : ∀ r ∈ rs, HoldsR (gd ys) r := fun r hr => go.goal.valid r hr
theorem GoalOk.fit (go : GoalOk n rs xs ys) : Fit n rs := Fit.of go.start.fleet.2.2.2 go.holds
theorem GoalOk.top (go : GoalOk n rs xs ys) : ∀ i, i < n → gd ys i ≤ 9999 := fun i hi => by
  have h := go.goal.len
  have : gd ys i = ys[i] := by
    unfold gd
    rw [List.getD_eq_getElem?_getD, List.getElem?_eq_getElem (by omega)]
    rfl
  rw [this]
  exact (go.goal.range _ (List.getElem_mem _)).2
theorem mov_n (go : GoalOk n rs xs ys) : ∀ x ∈ movL xs ys, x < n := fun x hx => by rw [← go.start.len]; exact mov_lt x hx
theorem src_mov {k : List Nat} (hk : k ∈ srcL (linkL xs ys rs) (movL xs ys)) : ∀ x ∈ k, x ∈ movL xs ys := knot_sub (mem_src.mp hk).1
/-- one of each source knot pulls all -/
theorem run_all (go : GoalOk n rs xs ys) {bs : List Nat} (hb : ∀ b ∈ bs, b < n) (hc : ∀ k ∈ srcL (linkL xs ys rs) (movL xs ys), ∃ b ∈ bs, b ∈ k) : runD (chainTab n rs) xs (goalH ys bs) = ys := by
  obtain ⟨_, hv, hbt, hat⟩ := run_goal go.fit go.holds go.top bs xs hb go.start.len go.start.valid go.le
  refine ext_gd (n := n) (by rw [runD_len, go.start.len]) go.goal.len fun i hi => ?_
  have h1 := hbt i hi
  by_cases hm : i ∈ movL xs ys
  · obtain ⟨k, hk, x, hx, hxi⟩ := src_leads (ls := linkL xs ys rs) link_in hm
    obtain ⟨b, hbm, hbk⟩ := hc k hk
    have hr : Rch (linkL xs ys rs) b i := (knot_rch (mem_src.mp hk).1 hbk hx).trans hxi
    refine hr.fore (F := fun z => gd (runD (chainTab n rs) xs (goalH ys bs)) z = gd ys z) (fun p hp e => ?_) (hat b hbm)
    obtain ⟨r, hr', h2, h3, h4, h5, h6⟩ := mem_link.mp hp
    have hh : gd (runD (chainTab n rs) xs (goalH ys bs)) r.f.toNat - gd (runD (chainTab n rs) xs (goalH ys bs)) r.r.toNat ≤ r.l := hv r hr'
    rw [h2, h3] at hh
    have h7 := hbt p.2 (mov_n go _ h5)
    have h6 : gd ys p.1 - gd ys p.2 = r.l := h6
    show gd _ p.2 = gd ys p.2
    omega
  · have : ¬ (i < xs.length ∧ gd xs i < gd ys i) := fun z => hm (mem_mov.mpr z)
    have h3 := go.le i hi
    have h4 := go.start.len
    have h3 : gd xs i ≤ gd ys i := h3
    have : ¬ gd xs i < gd ys i := fun z => this ⟨by omega, z⟩
    omega
/-- no barge of a source knot: its barges stay behind -/
theorem run_miss (go : GoalOk n rs xs ys) {bs : List Nat} {k : List Nat} (hk : k ∈ srcL (linkL xs ys rs) (movL xs ys)) (hb : ∀ b ∈ bs, b ∉ k) : runD (chainTab n rs) xs (goalH ys bs) ≠ ys := fun e => by
  have hmov := src_mov hk
  obtain ⟨hkn, hsrc⟩ := mem_src.mp hk
  have hy : ∀ r ∈ rs, HoldsR (fun i => if i ∈ k then gd ys i - 1 else gd ys i) r := fun r hr => by
    have h0 : gd ys r.f.toNat - gd ys r.r.toNat ≤ r.l := go.holds r hr
    have h1 : gd xs r.f.toNat - gd xs r.r.toNat ≤ r.l := go.start.valid r hr
    obtain ⟨i1, i2⟩ := (go.fit.ok r hr).ix
    have hle := go.le _ i1
    have hle : gd xs r.f.toNat ≤ gd ys r.f.toNat := hle
    show (if r.f.toNat ∈ k then gd ys r.f.toNat - 1 else gd ys r.f.toNat) - (if r.r.toNat ∈ k then gd ys r.r.toNat - 1 else gd ys r.r.toNat) ≤ r.l
    by_cases hf : r.f.toNat ∈ k
    · rw [if_pos hf]
      split <;> omega
    · rw [if_neg hf]
      by_cases hr2 : r.r.toNat ∈ k
      · rw [if_pos hr2]
        have hrm := hmov _ hr2
        have hlt : gd xs r.r.toNat < gd ys r.r.toNat := (mem_mov.mp hrm).2
        by_cases ht : gd ys r.f.toNat - gd ys r.r.toNat = r.l
        · by_cases hfm : r.f.toNat ∈ movL xs ys
          · exact absurd (hsrc (r.f.toNat, r.r.toNat) (mem_link.mpr ⟨r, hr, rfl, rfl, hfm, hrm, ht⟩) hr2) hf
          · have : ¬ (r.f.toNat < xs.length ∧ gd xs r.f.toNat < gd ys r.f.toNat) := fun z => hfm (mem_mov.mpr z)
            have h4 := go.start.len
            have : ¬ gd xs r.f.toNat < gd ys r.f.toNat := fun z => this ⟨by omega, z⟩
            omega
        · omega
      · rw [if_neg hr2]
        exact h0
  have hb2 := run_below (n := n) (ys := ys) hy bs xs go.start.len (fun b hbm => by rw [if_neg (hb b hbm)]; exact Int.le_refl _) (fun i hi => by
    have hle : gd xs i ≤ gd ys i := go.le i hi
    split
    · rename_i hik
      have : gd xs i < gd ys i := (mem_mov.mp (hmov i hik)).2
      omega
    · exact hle)
  rw [e] at hb2
  have hne := knot_ne hkn
  cases k with
  | nil => exact hne rfl
  | cons c k =>
    have := hb2 c (mov_n go c (hmov c List.mem_cons_self))
    rw [if_pos List.mem_cons_self] at this
    omega
theorem src_apart {k k' : List Nat} (hk : k ∈ srcL (linkL xs ys rs) (movL xs ys)) (hk' : k' ∈ srcL (linkL xs ys rs) (movL xs ys)) {x : Nat} (hx : x ∈ k) (hx' : x ∈ k') : k = k' := knots_apart (mem_src.mp hk).1 (mem_src.mp hk').1 hx hx'
end
/-- one of each of the lists -/
inductive Picks : List Nat → List (List Nat) → Prop
  | nil : Picks [] []
  | cons {b : Nat} {k : List Nat} {bs : List Nat} {ks : List (List Nat)} (h : b ∈ k) (t : Picks bs ks) : Picks (b :: bs) (k :: ks)
theorem Picks.snoc {bs : List Nat} {ks : List (List Nat)} (h : Picks bs ks) {b : Nat} {k : List Nat} (hb : b ∈ k) : Picks (bs ++ [b]) (ks ++ [k]) := by
  induction h with
  | nil => exact .cons hb .nil
  | cons h _ ih => exact .cons h ih
theorem Picks.len {bs : List Nat} {ks : List (List Nat)} (h : Picks bs ks) : bs.length = ks.length := by
  induction h with
  | nil => rfl
  | cons _ _ ih => exact congrArg Nat.succ ih
theorem Picks.cover {bs : List Nat} {ks : List (List Nat)} (h : Picks bs ks) : ∀ k ∈ ks, ∃ b ∈ bs, b ∈ k := by
  induction h with
  | nil => exact fun k z => by cases z
  | cons h _ ih =>
    intro k hk
    rcases List.mem_cons.mp hk with z | z
    · exact ⟨_, List.mem_cons_self, z ▸ h⟩
    · obtain ⟨b, h1, h2⟩ := ih k z
      exact ⟨b, List.mem_cons_of_mem _ h1, h2⟩
theorem Picks.own {bs : List Nat} {ks : List (List Nat)} (h : Picks bs ks) : ∀ b ∈ bs, ∃ k ∈ ks, b ∈ k := by
  induction h with
  | nil => exact fun k z => by cases z
  | cons h _ ih =>
    intro k hk
    rcases List.mem_cons.mp hk with z | z
    · exact ⟨_, List.mem_cons_self, z ▸ h⟩
    · obtain ⟨b, h1, h2⟩ := ih k z
      exact ⟨b, List.mem_cons_of_mem _ h1, h2⟩
/-- no two of one list -/
def Alone (ks : List (List Nat)) (x y : Nat) : Prop := ∀ k ∈ ks, ¬ (x ∈ k ∧ y ∈ k)
theorem Picks.alone {S : List (List Nat)} (hap : ∀ k ∈ S, ∀ k' ∈ S, ∀ x, x ∈ k → x ∈ k' → k = k') {bs : List Nat} {ks : List (List Nat)} (h : Picks bs ks) : ks.Nodup → (∀ k ∈ ks, k ∈ S) → bs.Pairwise (Alone S) := by
  induction h with
  | nil => exact fun _ _ => .nil
  | @cons b k bs ks hb t ih =>
    intro hn hs
    obtain ⟨n1, n2⟩ := List.nodup_cons.mp hn
    refine List.pairwise_cons.mpr ⟨fun b' hb' q hq ⟨h1, h2⟩ => ?_, ih n2 fun k hk => hs k (List.mem_cons_of_mem _ hk)⟩
    obtain ⟨k', hk', hbk'⟩ := t.own b' hb'
    have e1 := hap q hq k (hs k List.mem_cons_self) b h1 hb
    have e2 := hap q hq k' (hs k' (List.mem_cons_of_mem _ hk')) b' h2 hbk'
    exact n1 (e1 ▸ e2 ▸ hk')
theorem alone_symm {S : List (List Nat)} {x y : Nat} (h : Alone S x y) : Alone S y x := fun k hk z => h k hk ⟨z.2, z.1⟩
section
variable {n : Nat} {rs : List Rope} {xs ys : List Int}
theorem picks_goal (go : GoalOk n rs xs ys) {bs hs : List Nat} (hp : Picks bs (srcL (linkL xs ys rs) (movL xs ys))) (hm : hs.Perm bs) :
    HaulsOk (chainTab n rs) xs (goalH ys hs) ∧ runD (chainTab n rs) xs (goalH ys hs) = ys ∧ ∀ j, j < hs.length → HaulsOk (chainTab n rs) xs (goalH ys (hs.take j ++ hs.drop (j + 1))) ∧ runD (chainTab n rs) xs (goalH ys (hs.take j ++ hs.drop (j + 1))) ≠ ys := by
  have hown : ∀ b ∈ hs, ∃ k ∈ srcL (linkL xs ys rs) (movL xs ys), b ∈ k := fun b hb => hp.own b (hm.mem_iff.mp hb)
  have hn : ∀ b ∈ hs, b < n := fun b hb => by
    obtain ⟨k, hk, hbk⟩ := hown b hb
    exact mov_n go b (src_mov hk b hbk)
  have hal : hs.Pairwise (Alone (srcL (linkL xs ys rs) (movL xs ys))) := (hm.pairwise_iff fun h => alone_symm h).mpr (hp.alone (fun k hk k' hk' x h1 h2 => src_apart hk hk' h1 h2) (src_nodup (asc_nodup (asc_mov xs ys))) fun k hk => hk)
  refine ⟨(run_goal go.fit go.holds go.top hs xs hn go.start.len go.start.valid go.le).1, run_all go hn fun k hk => ?_, fun j hj => ?_⟩
  · obtain ⟨b, h1, h2⟩ := hp.cover k hk
    exact ⟨b, hm.mem_iff.mpr h1, h2⟩
  · have hsub : ∀ b ∈ hs.take j ++ hs.drop (j + 1), b ∈ hs := fun b hb => by
      rcases List.mem_append.mp hb with z | z
      · exact List.mem_of_mem_take z
      · exact List.mem_of_mem_drop z
    refine ⟨(run_goal go.fit go.holds go.top _ xs (fun b hb => hn b (hsub b hb)) go.start.len go.start.valid go.le).1, ?_⟩
    obtain ⟨k, hk, hjk⟩ := hown hs[j] (List.getElem_mem hj)
    refine run_miss go hk fun b hb hbk => ?_
    have hsplit : hs = hs.take j ++ hs[j] :: hs.drop (j + 1) := by
      rw [← List.drop_eq_getElem_cons hj, List.take_append_drop]
    rw [hsplit] at hal
    obtain ⟨p1, p2, p3⟩ := List.pairwise_append.mp hal
    rcases List.mem_append.mp hb with z | z
    · exact p3 b z hs[j] List.mem_cons_self k hk ⟨hbk, hjk⟩
    · exact (List.pairwise_cons.mp p2).1 b z k hk ⟨hjk, hbk⟩
end
end Hx

set_option Elab.async false
set_option linter.all false
set_option maxRecDepth 100000
set_option maxHeartbeats 4000000
namespace Hx
open PySem PySem.Spec PyProof.Rows L2
local macro_rules | `(tactic| walk_at "rd") => `(tactic| (try simp only [q_var, q_c, q_op, q_un, q_rI, q_rI0, q_rU, q_rEq, q_rNe, q_test, q_tB, q_and, q_or, q_not, q_andV, q_orV, q_notV, q_if, q_isN, q_notN, q_chain, q_next, q_seq, q_break, q_cont, q_drop, q_ret, q_retN, q_ifS, q_never, q_gN, q_gNil, q_gCons, q_gTup, q_gSub, q_asg, q_par, q_aug, q_nil, q_cons, q_tup, q_lst, q_call, q_cb, q_noPart, q_part, q_sl, q_bm0, q_bm, q_yes, q_for, q_lc, q_iList, q_iTup, q_iRng1, q_iEnumT, q_iEnum, q_iRng2, q_iZipA, q_iZipM, q_ipI, q_ckw, q_len, q_listOf, q_tupleOf, L2.start, cx_K, wipe, List.map_cons, List.map_nil, List.length_cons, List.length_nil, List.cons_append, List.nil_append, List.append_nil, List.replicate, List.getElem?_cons_zero, List.getElem?_cons_succ, List.set_cons_zero, List.set_cons_succ, Option.some.injEq, List.cons.injEq, exists_eq_left', exists_eq_left, exists_and_left, V.int.injEq, V.bl.injEq, V.ref.injEq, if_true, if_false, Bool.not_true, Bool.not_false, true_and, and_true, Bool.false_eq_true, ite_true, ite_false, Nat.reduceAdd, Nat.reduceSub, reduceCtorEq, decide_false, decide_true, Int.toNat_natCast, false_and, exists_false, or_false, false_or]))
section
variable {P : Program} {w : World} {K : PySem.W.Frag} {mg : Str → Option Value} {base : Heap}
/-! drawn positions above a tuple of positions -/
def sp_law_positionsT (K : PySem.W.Frag) : Sp := fun vs H Q _ => ∃ (a sc : Addr) (ns : List Int) (v : V) (u : V) (n : Nat) (rs : List Rope) (pl : Nat → Int) (ls : List Int) (hi : Int), vs = [.ref a, v, u] ∧ RowAt K H a sc ns ∧ FleetV K H v n rs ∧ FleetOk n rs ∧ Pl n rs pl ∧
  IntsT K H u ls ∧ ls.length = n ∧ (∀ x ∈ ls, x ≤ hi) ∧
  ∀ H' r xs, RowAt K H' a sc ns → But a H H' → IntsT K H' r xs → xs.length = n → Valid xs rs → (∀ i, i < n → gd ls i ≤ gd xs i ∧ gd xs i ≤ pl i + (hi + 199)) → Q r H'
theorem dx_law_positions (T : Here K mg "_law_positions" s_law_positions) (B : Blt mg) (D_law_taken : Df P w K mg base CX0 "_law_taken" 1 p_law_taken (sp_law_taken K)) (D_law_settled : Df P w K mg base CX0 "_law_settled" 1 p_law_settled (sp_law_settled K)) :
    Df P w K mg base CX0 "_law_positions" 2 p_law_positions (sp_law_positionsT K) := by
  refine T.df sc_law_positions (fun _ _ _ _ _ _ us hl => match us, hl with | [_, _, _], _ => rfl) (fun vs H Q E h => by obtain ⟨_, _, _, _, _, _, _, _, _, _, rfl, _⟩ := h; rfl) (fun f cdv A outer s H vs Q E hr h => ?_)
  obtain ⟨a, sc, ns, v, u, n, rs, pl, ls, hi, rfl, hrow, hv, hok, hpl, hu, hn, hb, q⟩ := h
  obtain ⟨l, rfl, hL⟩ := id hu
  obtain ⟨_, krow⟩ := hrow.lst
  refine ⟨_, pss_cons (ps_set (i := 3) sc_law_positions.nd rfl (by first | exact Or.inl rfl | exact Or.inr rfl) (pe_ix (ixL K rfl) (pe_lst (pa_cons (pe_int) (pa_cons (pe_int) (pa_cons (pe_int) pa_nil)))) (D_law_taken.call (hr.mono (by decide)) (by rfl) (pa_cons (pv 0) (pa_cons (pe_int) pa_nil))) (fun _ _ => rfl)))
      (pss_cons (ps_setLc (i := 4) (own := [("_law_place", 5)]) rfl sc_law_positions.nd rfl rfl (sw_true rfl rfl rfl (by decide +kernel)) (piTup K rfl (pv 2)) (blkOk_by (N := n_law_positions) (sc := defScope s_law_positions) (by decide +kernel)) (fun _ _ _ _ _ => pg_name (i := 5) sc_law_positions.nd rfl (by first | exact Or.inl rfl | exact Or.inr rfl)) (fun _ _ _ _ _ => pts_nil) (fun _ _ _ _ _ => pe_op op_add (pv 5) (pe_ix (ixL K rfl) (pe_lst (pa_cons (pe_int) (pa_cons (pe_int) (pa_cons (D_law_taken.call (hr.mono (by decide)) (by rfl) (pa_cons (pv 0) (pa_cons (pe_int) pa_nil))) (pa_cons (D_law_taken.call (hr.mono (by decide)) (by rfl) (pa_cons (pv 0) (pa_cons (pv 3) pa_nil))) pa_nil))))) (D_law_taken.call (hr.mono (by decide)) (by rfl) (pa_cons (pv 0) (pa_cons (pe_int) pa_nil))) (fun _ _ => rfl))))
      (pss_one (ps_ret (D_law_settled.call (hr.mono (by decide)) (by rfl) (pa_cons (pv 1) (pa_cons (pv 4) pa_nil)))))), ?_⟩
  have hz : 100 ≤ sizeLine := by decide
  have n8 : n ≤ 8 := by have := hok.2.1; omega
  walk_at "rd"
  refine ⟨by show 3 ≤ sizeLine; omega, fun l1 hl1 => ?_⟩
  have s1 := same_upd (o := .lst [.int 25, .int 25, .int 200]) hl1
  have n1 := hrow.ne hl1
  refine ⟨a, sc, ns, 3, rfl, hrow.mono s1, by omega, by omega, fun r1 H1 h10 h11 row1 b1 => ?_⟩
  have h1 := b1 _ _ n1 (upd_same (H := H) (a := l1) (o := .lst [.int 25, .int 25, .int 200]))
  have b1 := (same_but s1).trans b1
  obtain ⟨mo, hmo, hmo2⟩ : ∃ mo : Int, atI [V.int 25, .int 25, .int 200] r1 = some (.int mo) ∧ 25 ≤ mo ∧ mo ≤ 200 := by
    have : r1 = 0 ∨ r1 = 1 ∨ r1 = 2 := by omega
    rcases this with rfl | rfl | rfl
    · exact ⟨25, rfl, by omega, by omega⟩
    · exact ⟨25, rfl, by omega, by omega⟩
    · exact ⟨200, rfl, by omega, by omega⟩
  refine ⟨l1, _, r1, .int mo, rfl, rfl, .of h1, hmo, ?_⟩
  have hL1 := sqt_but b1 krow hL
  obtain ⟨_, krow1⟩ := row1.lst
  walk_at "rd"
  refine ⟨⟨_, hL1⟩, fun D hD => ?_⟩
  have nDa := row1.ne hD
  refine lcTup (xs := ls.map V.int) (fun i H' => ∃ ws : List Int, ws.length = i ∧ H' D = some (.lst (ws.map V.int)) ∧ RowAt K H' a sc ns ∧ But a H1 H' ∧ ∀ j, j < i → gd ls j ≤ gd ws j ∧ gd ws j ≤ hi + 199)
    ⟨[], rfl, upd_same, row1.mono (same_upd hD), same_but (same_upd hD), fun j h => absurd h (Nat.not_lt_zero j)⟩ (fun i H' _ hPv => ?_) (fun i x H' hx' hPv => ?_) (fun H3 hPv => ?_)
  · obtain ⟨_, _, _, _, e4, _⟩ := hPv
    exact sqt_but e4 krow1 hL1
  · obtain ⟨ws, e1, e2, e3, e4, e5⟩ := hPv
    obtain ⟨hi', rfl⟩ := ints_at hx'
    have hx : ls.getD i 0 ≤ hi := by
      rw [List.getD_eq_getElem?_getD, List.getElem?_eq_getElem hi']
      exact hb _ (List.getElem_mem hi')
    have hpc : gd ls i = ls.getD i 0 := rfl
    generalize ls.getD i 0 = pc at hx hpc
    walk_at "rd"
    refine ⟨a, sc, ns, 4, rfl, e3, by omega, by omega, fun c1 H4 c10 c11 row4 b4 => ?_⟩
    have e2 := b4 _ _ nDa e2
    have e4 := e4.trans b4
    walk_at "rd"
    refine ⟨a, sc, ns, mo, rfl, row4, by omega, by omega, fun c2 H5 c20 c21 row5 b5 => ?_⟩
    have e2 := b5 _ _ nDa e2
    have e4 := e4.trans b5
    walk_at "rd"
    refine ⟨by show 4 ≤ sizeLine; omega, fun l2 hl2 => ?_⟩
    have s2 := same_upd (o := .lst [.int 0, .int 0, .int c1, .int c2]) hl2
    have e2 := s2 _ _ e2
    have e4 := e4.trans (same_but s2)
    have n2 := row5.ne hl2
    refine ⟨a, sc, ns, 4, rfl, row5.mono s2, by omega, by omega, fun c3 H6 c30 c31 row6 b6 => ?_⟩
    have e2 := b6 _ _ nDa e2
    have e4 := e4.trans b6
    have h2 := b6 _ _ n2 (upd_same (H := H5) (a := l2) (o := .lst [.int 0, .int 0, .int c1, .int c2]))
    obtain ⟨ad, had, had2⟩ : ∃ ad : Int, atI [V.int 0, .int 0, .int c1, .int c2] c3 = some (.int ad) ∧ 0 ≤ ad ∧ ad ≤ 199 := by
      have : c3 = 0 ∨ c3 = 1 ∨ c3 = 2 ∨ c3 = 3 := by omega
      rcases this with rfl | rfl | rfl | rfl
      · exact ⟨0, rfl, by omega, by omega⟩
      · exact ⟨0, rfl, by omega, by omega⟩
      · exact ⟨c1, rfl, by omega, by omega⟩
      · exact ⟨c2, rfl, by omega, by omega⟩
    refine ⟨l2, _, c3, .int ad, rfl, rfl, .of h2, had, ?_⟩
    walk_at "rd"
    refine ⟨_, e2, by rw [List.length_map, e1]; omega, ws ++ [pc + ad], ?_, ?_, ?_, ?_, ?_⟩
    · rw [List.length_append, e1]
      rfl
    · rw [upd_same, List.map_append]
      rfl
    · exact row1.put hD e4 row6
    · exact e4.put hD
    · intro j hj
      by_cases hji : j < i
      · have := e5 j hji
        have e : gd (ws ++ [pc + ad]) j = gd ws j := by
          unfold gd
          rw [List.getD_eq_getElem?_getD, List.getElem?_append_left (by omega), List.getD_eq_getElem?_getD]
        rw [e]
        exact this
      · have hj : j = i := by omega
        subst hj
        have e : gd (ws ++ [pc + ad]) j = pc + ad := by
          unfold gd
          rw [List.getD_eq_getElem?_getD, List.getElem?_append_right (by omega), e1, Nat.sub_self]
          rfl
        rw [e, hpc]
        omega
  · obtain ⟨ws, e1, e2, row3, e4, e5⟩ := hPv
    rw [List.length_map] at e1
    have b3 := b1.trans e4
    obtain ⟨ys, hys⟩ := hrow.lst
    have hwn : ws.length = n := by omega
    obtain ⟨g1, g2, g3⟩ := settle_spec hok.2.2.2 hpl.holds hwn
    walk_at "rd"
    refine ⟨v, .ref D, n, rs, ws, rfl, hv.but b3 hys, hok.2.2.2, n8, ⟨D, rfl, .inl (.of e2)⟩, hwn, fun _ H4 p s4 hp4 hp => ?_, fun hnv => absurd g1 hnv⟩
    have hws : ∀ i, i < n → gd ls i ≤ gd ws i ∧ gd ws i ≤ hi + 199 := fun i hi' => e5 i (by rw [List.length_map]; omega)
    refine q H4 (.ref p) _ (row3.mono s4) (b3.trans (same_but s4)) ⟨p, rfl, .of hp⟩ (by rw [settleN_len]; exact hwn) g1 fun i hi' => ⟨Int.le_trans (hws i hi').1 (g2 i hi'), ?_⟩
    exact g3 (fun i => pl i + (hi + 199)) (hpl.up _) (fun i hi2 => by
      have := hws i hi2
      have := hpl.lo i
      show gd ws i ≤ pl i + (hi + 199)
      omega) i hi'
end
end Hx

set_option Elab.async false
set_option linter.all false
set_option maxRecDepth 100000
set_option maxHeartbeats 4000000
namespace Hx
open PySem PySem.Spec PyProof.Rows L2
local macro_rules | `(tactic| walk_at "rd") => `(tactic| (try simp only [q_var, q_c, q_op, q_un, q_rI, q_rI0, q_rU, q_rEq, q_rNe, q_test, q_tB, q_and, q_or, q_not, q_andV, q_orV, q_notV, q_if, q_isN, q_notN, q_chain, q_next, q_seq, q_break, q_cont, q_drop, q_ret, q_retN, q_ifS, q_never, q_gN, q_gNil, q_gCons, q_gTup, q_gSub, q_asg, q_par, q_aug, q_nil, q_cons, q_tup, q_lst, q_call, q_cb, q_noPart, q_part, q_sl, q_bm0, q_bm, q_yes, q_for, q_lc, q_iList, q_iTup, q_iRng1, q_iEnumT, q_iEnum, q_iRng2, q_iZipA, q_iZipM, q_ipI, q_ckw, q_len, q_listOf, q_tupleOf, L2.start, cx_K, wipe, List.map_cons, List.map_nil, List.length_cons, List.length_nil, List.cons_append, List.nil_append, List.append_nil, List.replicate, List.getElem?_cons_zero, List.getElem?_cons_succ, List.set_cons_zero, List.set_cons_succ, Option.some.injEq, List.cons.injEq, exists_eq_left', exists_eq_left, exists_and_left, V.int.injEq, V.bl.injEq, V.ref.injEq, if_true, if_false, Bool.not_true, Bool.not_false, true_and, and_true, Bool.false_eq_true, ite_true, ite_false, Nat.reduceAdd, Nat.reduceSub, reduceCtorEq, decide_false, decide_true, Int.toNat_natCast, false_and, exists_false, or_false, false_or]))
/-! hauls as data, cuts, different positions -/
def haulP (h : Nat × Int) : PyData := .tuple (([(h.1 : Int), h.2].map some).map ovP)
theorem lay_hauls : ∀ hs : List (Nat × Int), PyData.canLayAll0 (hs.map haulP) = true
  | [] => rfl
  | h :: hs => by
    rw [List.map_cons, PyData.canLayAll0, lay_hauls hs]
    rfl
theorem depth_hauls : ∀ hs : List (Nat × Int), PyData.depthAll (hs.map haulP) ≤ 1
  | [] => Nat.zero_le _
  | h :: hs => by
    have e := depth_hauls hs
    have f : PyData.depth (haulP h) ≤ 1 := by
      unfold haulP
      rw [PyData.depth, depth_opts]
      omega
    rw [List.map_cons, PyData.depthAll]
    omega
theorem shaped_hauls (hs : List (Nat × Int)) : SeqAt.shaped (.list (hs.map haulP)) = true := by
  have h := depth_hauls hs
  unfold SeqAt.shaped
  rw [PyData.canLay0, lay_hauls, PyData.depth]
  simp
  omega
theorem eqv_ints : ∀ xs ys : List Int, PyData.eqvAll ((xs.map some).map ovP) ((ys.map some).map ovP) = decide (xs = ys)
  | [], [] => by rw [List.map_nil, List.map_nil, PyData.eqvAll]; rfl
  | [], y :: ys => by
    rw [List.map_nil, List.map_nil, List.map_cons, List.map_cons, PyData.eqvAll]
    rfl
    all_goals (intros; simp_all)
  | x :: xs, [] => by
    rw [List.map_nil, List.map_nil, List.map_cons, List.map_cons, PyData.eqvAll]
    rfl
    all_goals (intros; simp_all)
  | x :: xs, y :: ys => by
    have e : PyData.eqv (ovP (some x)) (ovP (some y)) = (x == y) := by
      show PyData.eqv (.int x) (.int y) = (x == y)
      rw [PyData.eqv]
    rw [List.map_cons, List.map_cons, List.map_cons, List.map_cons, PyData.eqvAll, eqv_ints xs ys, e, Bool.eq_iff_iff]
    simp
section
variable {K : PySem.W.Frag} {H : Hp}
theorem dp_hauls {l : Addr} {hs : List (Nat × Int)} (h : HaulsAt H l hs) : Dp K H (.ref l) (.list (hs.map haulP)) := by
  obtain ⟨ts, h⟩ := h
  exact dp_objs (fun t x ht => dp_ints_t (xs := [(x.1 : Int), x.2]) (.of ht)) h
theorem HaulsAt.lst {l : Addr} {hs : List (Nat × Int)} (h : HaulsAt H l hs) : HaulsL K H l hs := by
  obtain ⟨ts, h⟩ := h
  refine ⟨_, .of h.top, by rw [List.length_map, h.len], fun i x hx => ?_⟩
  obtain ⟨t, k, rfl, ht, hk, ho⟩ := h.get hx
  exact ⟨k, hk, t, rfl, .of ho⟩
end
theorem free_but {a p : Addr} {H0 H : Hp} (b : But a H0 H) (n : p ≠ a) (h : H p = none) : H0 p = none := by
  cases e : H0 p with
  | none => rfl
  | some o =>
    rw [b _ _ n e] at h
    cases h
theorem natV_erase : ∀ (k : List Nat) (i : Nat), (natV k).eraseIdx i = natV (k.eraseIdx i)
  | [], i => by cases i <;> rfl
  | x :: k, 0 => rfl
  | x :: k, i + 1 => congrArg (V.int (x : Nat) :: ·) (natV_erase k i)
theorem erase_perm : ∀ (k : List Nat) (i x : Nat), k[i]? = some x → (x :: k.eraseIdx i).Perm k
  | [], i, x, h => by cases h
  | y :: k, 0, x, h => by
    cases h
    exact List.Perm.refl _
  | y :: k, i + 1, x, h => (List.Perm.swap y x _).trans ((erase_perm k i x h).cons y)
theorem objs_away {H : Hp} {l a : Addr} {ts : List Addr} {hs : List (Nat × Int)} {zs : List V} (h : ObjsTs oHaul H l ts hs) (ha : H a = some (.lst zs)) : a ∉ ts := fun m => by
  obtain ⟨j, hj⟩ := List.mem_iff_getElem?.mp m
  have hjl : j < hs.length := by rw [← h.len]; exact (List.getElem?_eq_some_iff.mp hj).1
  have h1 := h.obj j a _ hj (List.getElem?_eq_getElem hjl)
  rw [ha] at h1
  cases h1
theorem hauls_cut {K : PySem.W.Frag} {H : Hp} {l p : Addr} {ts : List Addr} {hs : List (Nat × Int)} (h : ObjsTs oHaul H l ts hs) (j : Nat) (hp : H p = some (.lst ((ts.map V.ref).take j ++ (ts.map V.ref).drop (j + 1)))) : HaulsL K H p (hs.take j ++ hs.drop (j + 1)) := by
  have hl := h.len
  refine ⟨_, .of hp, by simp [hl], fun i x hx => ?_⟩
  have key : ∀ (m : Nat) (x : V), (ts.map V.ref)[m]? = some x → ∃ q, hs[m]? = some q ∧ HaulV K H x q := fun m x hx => by
    obtain ⟨t, q, rfl, ht, hq, ho⟩ := h.get hx
    exact ⟨q, hq, t, rfl, .of ho⟩
  have lt : ((ts.map V.ref).take j).length = (hs.take j).length := by simp [hl]
  by_cases hi : i < ((ts.map V.ref).take j).length
  · have hij : i < j := by rw [List.length_take] at hi; omega
    rw [List.getElem?_append_left hi, List.getElem?_take_of_lt hij] at hx
    rw [List.getElem?_append_left (by omega), List.getElem?_take_of_lt hij]
    exact key i x hx
  · rw [List.getElem?_append_right (by omega), List.getElem?_drop] at hx
    rw [List.getElem?_append_right (by omega), List.getElem?_drop, ← lt]
    exact key _ x hx
theorem goal_cut (ys : List Int) (bs : List Nat) (j : Nat) : (goalH ys bs).take j ++ (goalH ys bs).drop (j + 1) = goalH ys (bs.take j ++ bs.drop (j + 1)) := by
  unfold goalH
  rw [List.map_append, List.map_take, List.map_drop]
theorem goal_snoc (ys : List Int) (bs : List Nat) (b : Nat) : goalH ys (bs ++ [b]) = goalH ys bs ++ [(b, ys.getD b 0)] := by
  unfold goalH
  rw [List.map_append]
  rfl
theorem cutL_to (xs : List V) {j : Nat} (h : j ≤ xs.length) : cutV xs none (some (j : Int)) = xs.take j := by
  have e : HT.sIx xs.length xs.length (some (j : Int)) = j := by
    rw [HT.sIx_nat]
    omega
  unfold cutV
  rw [e]
  rfl
theorem cutL_from (xs : List V) {j : Nat} (h : j ≤ xs.length) : cutV xs (some (j : Int)) none = xs.drop j := by
  have e : HT.sIx xs.length 0 (some (j : Int)) = j := by
    rw [HT.sIx_nat]
    omega
  have e2 : HT.sIx xs.length xs.length none = xs.length := rfl
  unfold cutV
  rw [e, e2]
  exact List.take_of_length_le (by rw [List.length_drop]; omega)
end Hx

set_option Elab.async false
set_option linter.all false
set_option maxRecDepth 100000
set_option maxHeartbeats 4000000
/-! x not in a tuple of data, a tuple times a number from 1, reversed(range), max of a list. -/
namespace Hx
open PySem PySem.Spec PyProof.Rows L2
section
variable {X : Cx} (K : PySem.W.Frag)
def rNotInT (K : PySem.W.Frag) : R2 := fun x y H Q => ∃ d ds, Dp K H x d ∧ Dp K H y (.tuple ds) ∧ SeqAt.shaped d = true ∧ SeqAt.shaped (.tuple ds) = true ∧ Q (.bl (!ds.any fun z => PyData.eqv z d)) H
theorem notInT (h : X.K = K) (hu : X.A.units + 65 < cLine) : OpR X (compareOp .NotIn) (rNotInT K) := by
  subst h
  intro pins s σ H x y v u Q I rx ry h
  obtain ⟨d, ds, hd, he, sd, se, q⟩ := h
  obtain ⟨as, r1⟩ := Dp.reads I d x v hd rx
  obtain ⟨bs, r2⟩ := Dp.reads I (.tuple ds) y u he ry
  exact SeqAt.notIn_tuple_reads r2 r1 (SeqAt.canLay_of_shaped se) (SeqAt.canLay_of_shaped sd) (room_in_shaped sd hu) ⟨.bl _, H, I, rfl, q⟩
theorem repT (h : X.K = K) : OpR X (binaryOp .Mult) (rRepT K) := by subst h; exact op_repT
theorem maxQ (h : X.K = K) (hc : X.calm = true) : CallR X (.builtin "max") (rMax K) := by subst h; exact cr_max hc
theorem sumQ (h : X.K = K) (hc : X.calm = true) : CallR X (.builtin "sum") (rSum K) := by subst h; exact cr_sum hc
theorem tuple_mul1 (l : Addr) (items : Array Value) (n : Nat) (dd : Option Addr) (sl : Array (Option Value)) (u : Tok) :
    Meets (Builtin.«tuple.__mul__» ⟨[.ref l, .int 1 u], []⟩) (fun _ R s => s.heap.get? l = some { cls := .type "tuple", dict := dd, data := .seq items n, slots := sl } ∧ R (.ok (.ret (Value.ref l))) s) :=
  .of_wp fun prog w A R s h => by
    obtain ⟨hp, g, d, tk, os⟩ := s
    obtain ⟨hl, h⟩ := h
    have f1 := AutoSeq1.idx_int
    have c1 : (items.isEmpty || (1 : Int) == 1) = true := by simp
    wp_walk using wpAny_loadPart' hl
    repeat (first
      | (refine wpAny_ite_true (decide_eq_true c1) ?_; wp_walk using wpAny_loadPart' hl)
      | (refine wpAny_ite_true c1 ?_; wp_walk using wpAny_loadPart' hl))
    exact ⟨_, rfl, h⟩
def rRepTA (K : PySem.W.Frag) : R2 := fun x y H Q => ∃ l k xs, x = .ref l ∧ y = .int k ∧ SqT K H l xs ∧ xs ≠ [] ∧ 1 ≤ k ∧ k ≤ 1000 ∧ xs.length ≤ 1000 ∧ (k = 1 → Q (.ref l) H) ∧ (2 ≤ k → ∀ p, H p = none → Q (.ref p) (upd H p (.tup (List.replicate k.toNat xs).flatten)))
theorem repTA (h : X.K = K) : OpR X (binaryOp .Mult) (rRepTA K) := by
  subst h
  intro pins s σ H x y v u Q I rx ry h
  obtain ⟨l, k, xs, rfl, rfl, hT, hne, h1, h2, hz, q1, q2⟩ := h
  by_cases hk : k = 1
  · subst hk
    cases rx
    obtain ⟨t, rfl⟩ := ry
    obtain ⟨its, r, ⟨⟨cls, dd, data, sl⟩, ho, hc, n, hd⟩, hs⟩ := I.tuple hT
    simp only at hc hd
    subst hc hd
    refine wpAny_binaryOp_repeat_ref (T := "tuple") (U := "int") (by decide) ⟨_, ho, rfl⟩ (fun s' => typeIs_int s' 1 t) noFill_tuple_mul F.fills_int_mul F.slot_int_rmul repeat_tuple F.slot_int_index.lookup
      (call_meets F.slot_int_rmul (typeIs_int s 1 t) F.entry_int_rmul (F.args_int_rmul_2 _ _) (int_rmul_tuple 1 t l its.toArray n dd sl)
        ⟨ho, rfl, ⟨_, ho, rfl⟩, call_meets F.slot_tuple_mul ⟨_, ho, rfl⟩ F.entry_tuple_mul (F.args_tuple_mul_2 _ _) (tuple_mul1 l its.toArray n dd sl t) ⟨ho, ?_⟩⟩)
    exact ⟨.ref l, H, I, rfl, q1 rfl⟩
  · exact op_repT pins s σ H _ _ v u Q I rx ry ⟨l, k, xs, rfl, rfl, hT, hne, by omega, h2, hz, q2 (by omega)⟩
end
theorem units65 {k : Nat} {A : Around} (r : Room k A) : A.units + 65 < cLine := by
  have := r.un
  omega
section
variable {H : Hp} {Q : VK} {K : PySem.W.Frag}
theorem cat_two {b p : Addr} {xs zs : List V} (hb : SqT K H b xs) (hp : SqT K H p zs) (hz : xs.length + zs.length ≤ sizeLine) (q : ∀ m H', Same H H' → SqT K H' m (xs ++ zs) → Q (.ref m) H') : rCatA K (.ref b) (.ref p) H Q := by
  refine ⟨b, p, xs, zs, rfl, rfl, hb, hp, hz, fun e => ?_, fun _ e => ?_, fun _ _ m hm => q m _ (same_upd hm) (.of upd_same)⟩
  · subst e
    exact q p H (.refl H) hp
  · subst e
    exact q b H (.refl H) (by rw [List.append_nil]; exact hb)
theorem sl_two {b : Addr} {xs zs : List V} {lo hi : Option Int} (hb : SqT K H b xs) (e : cutV xs lo hi = zs) (hw : HT.sIx xs.length 0 lo = 0 ∧ HT.sIx xs.length xs.length hi = xs.length → zs = xs) (q : ∀ m H', Same H H' → SqT K H' m zs → Q (.ref m) H') : rSlA K (.ref b) lo hi H Q := by
  subst e
  refine ⟨b, xs, rfl, hb, fun w => ?_, fun _ p hp => q p _ (same_upd hp) (.of upd_same)⟩
  have := hw w
  exact q b H (.refl H) (by rw [this]; exact hb)
theorem cut_to (xs : List V) {j : Nat} : cutV xs none (some (j : Int)) = xs.take j := by
  have e : HT.sIx xs.length xs.length (some (j : Int)) = min j xs.length := HT.sIx_nat _ _ _
  unfold cutV
  rw [e]
  show (xs.drop 0).take (min j xs.length - 0) = _
  rw [List.drop_zero, Nat.sub_zero]
  by_cases h : j ≤ xs.length
  · rw [Nat.min_eq_left h]
  · rw [Nat.min_eq_right (by omega), List.take_length, List.take_of_length_le (by omega)]
theorem cut_from (xs : List V) {j : Nat} : cutV xs (some (j : Int)) none = xs.drop j := by
  have e : HT.sIx xs.length 0 (some (j : Int)) = min j xs.length := HT.sIx_nat _ _ _
  have e2 : HT.sIx xs.length xs.length none = xs.length := rfl
  unfold cutV
  rw [e, e2]
  by_cases h : j ≤ xs.length
  · rw [Nat.min_eq_left h]
    exact List.take_of_length_le (by rw [List.length_drop]; omega)
  · rw [Nat.min_eq_right (by omega), List.drop_length, List.drop_of_length_le (by omega)]
    exact List.take_nil
/-- t[:j] -/
theorem sl_to {b : Addr} {xs : List V} {j : Nat} (hb : SqT K H b xs) (q : ∀ m H', Same H H' → SqT K H' m (xs.take j) → Q (.ref m) H') : rSlA K (.ref b) none (some (j : Int)) H Q := by
  refine sl_two hb (cut_to xs) (fun w => ?_) q
  have := w.2
  rw [HT.sIx_nat] at this
  exact List.take_of_length_le (by omega)
/-- t[j:] -/
theorem sl_from {b : Addr} {xs : List V} {j : Nat} (hb : SqT K H b xs) (q : ∀ m H', Same H H' → SqT K H' m (xs.drop j) → Q (.ref m) H') : rSlA K (.ref b) (some (j : Int)) none H Q := by
  refine sl_two hb (cut_from xs) (fun w => ?_) q
  have := w.1
  rw [HT.sIx_nat] at this
  rcases Nat.eq_zero_or_pos j with h | h
  · subst h
    exact List.drop_zero
  · have : xs.length = 0 := by omega
    rw [List.length_eq_zero_iff.mp this]
    exact List.drop_nil
end
end Hx

set_option Elab.async false
set_option linter.all false
set_option maxRecDepth 100000
set_option maxHeartbeats 4000000
/-! Texts and bytes of plans, as data (maths). -/
namespace Hx
open PySem PySem.Spec PyProof.Rows L2 TL Mh
set_option maxHeartbeats 400000
local macro_rules | `(tactic| walk_at "rd") => `(tactic| (try simp only [q_sfldV, q_make, q_par3, q_var, q_c, q_op, q_un, q_rI, q_rI0, q_rU, q_rEq, q_rNe, q_test, q_tB, q_and, q_or, q_not, q_andV, q_orV, q_notV, q_if, q_isN, q_notN, q_chain, q_next, q_seq, q_break, q_cont, q_drop, q_ret, q_retN, q_ifS, q_never, q_gN, q_gNil, q_gCons, q_gTup, q_gSub, q_asg, q_par, q_aug, q_nil, q_cons, q_tup, q_lst, q_call, q_cb, q_noPart, q_part, q_sl, q_bm0, q_bm, q_yes, q_for, q_lc, q_iList, q_iTup, q_iRng1, q_iEnumT, q_iEnum, q_iRng2, q_iZipA, q_iZipM, q_ipI, q_ckw, q_len, q_listOf, q_tupleOf, L2.start, cx_K, wipe, List.map_cons, List.map_nil, List.length_cons, List.length_nil, List.cons_append, List.nil_append, List.append_nil, List.replicate, List.getElem?_cons_zero, List.getElem?_cons_succ, List.set_cons_zero, List.set_cons_succ, Option.some.injEq, List.cons.injEq, exists_eq_left', exists_eq_left, exists_and_left, V.int.injEq, V.bl.injEq, V.ref.injEq, if_true, if_false, Bool.not_true, Bool.not_false, true_and, and_true, Bool.false_eq_true, ite_true, ite_false, Nat.reduceAdd, Nat.reduceSub, reduceCtorEq, decide_false, decide_true, Int.toNat_natCast, false_and, exists_false, or_false, false_or]))
theorem str_ext {x y : Str} (h : tl x = tl y) : x = y := by
  have := map_tl_inj (l := [x]) (m := [y]) (by rw [List.map_cons, List.map_cons, h]; try rfl)
  injection this
theorem join_two (y a b : Str) : tl (Txt.join y [a, b]) = tl a ++ (tl y ++ tl b) := by
  rw [join_eq, tl_join]
  rfl
theorem joinL_app (S : List Nat) : ∀ {a b : List (List Nat)}, a ≠ [] → b ≠ [] → joinL S (a ++ b) = joinL S a ++ (S ++ joinL S b)
  | [], _, h, _ => absurd rfl h
  | [p], [], _, h => absurd rfl h
  | [p], q :: r, _, _ => rfl
  | p :: q :: r, b, _, hb => by
    show p ++ (S ++ joinL S ((q :: r) ++ b)) = (p ++ (S ++ joinL S (q :: r))) ++ (S ++ joinL S b)
    rw [joinL_app S (a := q :: r) (by simp) hb, List.append_assoc, List.append_assoc]
theorem join_app (y : Str) {a b : List Str} (ha : a ≠ []) (hb : b ≠ []) : Txt.join y (a ++ b) = Txt.join y [Txt.join y a, Txt.join y b] := by
  refine str_ext ?_
  rw [join_two, join_eq, join_eq, join_eq, tl_join, tl_join, tl_join, List.map_append]
  exact joinL_app _ (by simpa using ha) (by simpa using hb)
theorem barges_row (n : Nat) : (Str.ofString "barges " ++ numT (n : Int)) = rowT bargesW [(n : Int)] := by
  refine str_ext ?_
  show _ = tl (Txt.join sp1 [bargesW, numT (n : Int)])
  rw [join_two, tl_append, ← List.append_assoc]
  congr 1
theorem at_row {xs : List Int} (h : xs ≠ []) : (Str.ofString "at " ++ Txt.join sp1 (xs.map numT)) = rowT atW xs := by
  refine str_ext ?_
  unfold rowT
  rw [show atW :: xs.map numT = [atW] ++ xs.map numT from rfl, join_app sp1 (by simp) (by simpa using h), join_two, tl_append, ← List.append_assoc]
  congr 1
theorem plan_app {hs ks : List (Nat × Int)} (h : hs ≠ []) (k : ks ≠ []) : planT (hs ++ ks) = Txt.join nl1 [planT hs, planT ks] := by
  unfold planT
  rw [List.map_append]
  exact join_app nl1 (by simpa using h) (by simpa using k)
theorem plan_nil : planT [] = Str.ofString "" := rfl
theorem join_nil (y : Str) : Txt.join y [] = Str.ofString "" := rfl
theorem join_one (y a : Str) : Txt.join y [a] = a := by
  refine str_ext ?_
  rw [join_eq, tl_join]
  rfl
/-- the texts of those plans that aren't empty -/
def partsT (ps : List (List (Nat × Int))) : List Str := (ps.filter fun p => !p.isEmpty).map planT
theorem parts_join (hs ks : List (Nat × Int)) : planT (hs ++ ks) = Txt.join nl1 (partsT [hs, ks]) := by
  cases hs with
  | nil =>
    cases ks with
    | nil => rfl
    | cons k ks => exact (join_one _ _).symm
  | cons h hs =>
    cases ks with
    | nil =>
      rw [List.append_nil]
      exact (join_one _ _).symm
    | cons k ks => exact plan_app (by simp) (by simp)
theorem haul_head (g : Nat × Int) : ∃ r, tl (haulR g) = [104, 97, 117, 108, 32] ++ r := by
  have e : tl haulW ++ tl sp1 = [104, 97, 117, 108, 32] := by decide +kernel
  unfold haulR rowT
  rw [join_eq, tl_join]
  refine ⟨joinL (tl sp1) (([(g.1 : Int), g.2].map numT).map tl), ?_⟩
  show tl haulW ++ (tl sp1 ++ _) = _
  rw [← List.append_assoc, e]
  rfl
theorem plan_head {hs : List (Nat × Int)} (h : hs ≠ []) : ∃ r, tl (planT hs) = [104, 97, 117, 108, 32] ++ r := by
  cases hs with
  | nil => exact absurd rfl h
  | cons g hs =>
    obtain ⟨r, e1⟩ := haul_head g
    unfold planT
    cases hs with
    | nil =>
      rw [List.map_cons, List.map_nil, join_one]
      exact ⟨r, e1⟩
    | cons k hs =>
      have e2 : (g :: k :: hs).map haulR = [haulR g] ++ (k :: hs).map haulR := rfl
      rw [e2, join_app nl1 (by simp) (by simp), join_two, join_one, e1, List.append_assoc]
      exact ⟨_, rfl⟩
theorem plan_cut {hs : List (Nat × Int)} (h : hs ≠ []) : cutS (planT hs) none (some 5) = Str.ofString "haul " := by
  obtain ⟨r, e⟩ := plan_head h
  refine str_ext ?_
  have hl : (planT hs).length = r.length + 5 := by rw [len_tl, e, List.length_append]; show 5 + r.length = _; omega
  have e1 : HT.sIx (planT hs).length (planT hs).length (some 5) = 5 := by
    rw [show (5 : Int) = ((5 : Nat) : Int) from rfl, HT.sIx_nat, hl]
    omega
  unfold cutS
  rw [tl_mk, e1]
  show ((tl (planT hs)).drop 0).take (5 - 0) = _
  rw [e]
  rfl
theorem plan_short {hs : List (Nat × Int)} (h : hs.length ≤ 20) (hok : PlanOk hs) : (planT hs).length ≤ 10000 := by
  have h1 := join_len nl1 (hs.map haulR) (k := 200) fun p hp => by
    obtain ⟨k, hk, rfl⟩ := List.mem_map.mp hp
    obtain ⟨a1, a2, a3⟩ := hok k hk
    have := row_len (w := haulW) (ns := [(k.1 : Int), k.2]) (by decide +kernel) (small_of fun i hi => by
      rcases List.mem_cons.mp hi with rfl | hi
      · omega
      · rw [List.mem_singleton.mp hi]; omega)
    show (rowT haulW _).length ≤ 200
    have e : ([(k.1 : Int), k.2]).length = 2 := rfl
    rw [e] at this
    omega
  rw [List.length_map, nl_len] at h1
  have : hs.length * (200 + 1) ≤ 20 * 201 := Nat.mul_le_mul_right _ h
  show (Txt.join nl1 (hs.map haulR)).length ≤ _
  omega
/-! as data -/
theorem ok_tl {x : Str} (h : ∀ c ∈ tl x, c < 1114112) : PyData.canLay0 (.str x) = true := by
  show x.cps.all (· < 1114112) = true
  rw [all_tl, List.all_eq_true]
  exact fun c hc => decide_eq_true (h c hc)
theorem joinL_mem {y : List Nat} {c : Nat} : ∀ {ps : List (List Nat)}, c ∈ joinL y ps → c ∈ y ∨ ∃ p ∈ ps, c ∈ p
  | [], h => nomatch h
  | [p], h => .inr ⟨p, List.mem_cons_self, h⟩
  | p :: q :: r, h => by
    have h : c ∈ p ++ (y ++ joinL y (q :: r)) := h
    rcases List.mem_append.mp h with h | h
    · exact .inr ⟨p, List.mem_cons_self, h⟩
    · rcases List.mem_append.mp h with h | h
      · exact .inl h
      · rcases joinL_mem h with h | ⟨z, hz, h⟩
        · exact .inl h
        · exact .inr ⟨z, List.mem_cons_of_mem _ hz, h⟩
theorem row_chars {w : Str} {ns : List Int} (hw : ∀ c ∈ tl w, c < 1114112) : ∀ c ∈ tl (rowT w ns), c < 1114112 := fun c hc => by
  unfold rowT at hc
  rw [join_eq, tl_join, tl_sp] at hc
  rcases joinL_mem hc with h | ⟨p, hp, h⟩
  · rw [List.mem_singleton.mp h]
    decide
  · rw [List.map_cons] at hp
    rcases List.mem_cons.mp hp with rfl | hp
    · exact hw c h
    · obtain ⟨z, hz, rfl⟩ := List.mem_map.mp hp
      obtain ⟨i, _, rfl⟩ := List.mem_map.mp hz
      refine Classical.byContradiction fun z => ?_
      exact numT_free (s := c) (by omega) h
theorem rows_lay {n : Nat} {rs : List Rope} {xs : List Int} : ∀ r ∈ rowsOf n rs xs, PyData.canLay0 (.str r) = true := fun r hr => by
  refine ok_tl ?_
  rcases List.mem_cons.mp hr with rfl | hr
  · exact row_chars (by decide +kernel)
  · rcases List.mem_append.mp hr with hr | hr
    · obtain ⟨k, _, rfl⟩ := List.mem_map.mp hr
      exact row_chars (by decide +kernel)
    · rw [List.mem_singleton.mp hr]
      exact row_chars (by decide +kernel)
theorem shaped_strs : ∀ {ss : List Str}, (∀ r ∈ ss, PyData.canLay0 (.str r) = true) → SeqAt.shaped (.list (ss.map PyData.str)) = true := fun {ss} h => by
  have h1 : PyData.canLayAll0 (ss.map PyData.str) = true := by
    induction ss with
    | nil => rfl
    | cons s ss ih =>
      rw [List.map_cons, PyData.canLayAll0, h s List.mem_cons_self, ih fun r hr => h r (List.mem_cons_of_mem _ hr)]
      rfl
  have h2 : PyData.depthAll (ss.map PyData.str) ≤ 1 := by
    clear h h1
    induction ss with
    | nil => exact Nat.zero_le _
    | cons s ss ih =>
      rw [List.map_cons, PyData.depthAll, PyData.depth]
      omega
  unfold SeqAt.shaped
  rw [PyData.canLay0, h1, PyData.depth]
  simp
  omega
def posP (xs : List Int) : PyData := .tuple ((xs.map some).map ovP)
def fleetP (n : Nat) (rs : List Rope) : PyData := .tuple [.int n, .tuple (rs.map ropeP)]
def stateP (n : Nat) (rs : List Rope) (xs : List Int) : PyData := .tuple [fleetP n rs, posP xs]
def wholeP (n : Nat) (rs : List Rope) (xs : List Int) (hs : List (Nat × Int)) : PyData := .tuple [fleetP n rs, posP xs, .list (hs.map haulP)]
theorem lay_pos (xs : List Int) : PyData.canLay0 (posP xs) = true := by
  have := shaped_opts_t (xs.map some)
  exact SeqAt.canLay_of_shaped this
theorem lay_fleet (n : Nat) (rs : List Rope) : PyData.canLay0 (fleetP n rs) = true := by
  unfold fleetP
  simp only [PyData.canLay0, PyData.canLayAll0, lay_ropes]
  rfl
theorem depth_pos (xs : List Int) : PyData.depth (posP xs) = 1 := by
  unfold posP
  rw [PyData.depth, depth_opts]
theorem depth_fleet (n : Nat) (rs : List Rope) : PyData.depth (fleetP n rs) ≤ 3 := by
  have h := depth_ropes rs
  unfold fleetP
  simp only [PyData.depth, PyData.depthAll]
  omega
theorem shaped_state (n : Nat) (rs : List Rope) (xs : List Int) : SeqAt.shaped (stateP n rs xs) = true := by
  have h1 := depth_fleet n rs
  have h2 := depth_pos xs
  unfold stateP SeqAt.shaped
  simp only [PyData.canLay0, PyData.canLayAll0, lay_pos, lay_fleet, PyData.depth, PyData.depthAll]
  simp
  omega
theorem shaped_whole (n : Nat) (rs : List Rope) (xs : List Int) (hs : List (Nat × Int)) : SeqAt.shaped (wholeP n rs xs hs) = true := by
  have h1 := depth_fleet n rs
  have h2 := depth_pos xs
  have h3 := depth_hauls hs
  unfold wholeP SeqAt.shaped
  simp only [PyData.canLay0, PyData.canLayAll0, lay_pos, lay_fleet, lay_hauls, PyData.depth, PyData.depthAll]
  simp
  omega
section
variable {K : PySem.W.Frag} {H : Hp}
theorem dp_strs {a : Addr} {ss : List Str} (h : SqL K H a (ss.map V.str)) : Dp K H (.ref a) (.list (ss.map PyData.str)) := by
  refine .lst h ?_
  clear h
  induction ss with
  | nil => exact .nil
  | cons s ss ih => exact .cons (.str s) ih
theorem dp_pos {v : V} {xs : List Int} (h : IntsT K H v xs) : Dp K H v (posP xs) := by
  obtain ⟨a, rfl, h⟩ := h
  exact dp_ints_t h
theorem dp_fleetZ {v : V} {n : Nat} {rs : List Rope} (h : FleetV K H v n rs) : Dp K H v (fleetP n rs) := by
  obtain ⟨a, b, xs, rfl, h1, h2, h3, h4⟩ := h
  exact .tup h1 (.cons (.int _) (.cons (.tup h2 (dp_ropes ⟨h3, h4⟩)) .nil))
theorem dp_state {t : Addr} {v u : V} {n : Nat} {rs : List Rope} {xs : List Int} (h : SqT K H t [v, u]) (hv : FleetV K H v n rs) (hu : IntsT K H u xs) : Dp K H (.ref t) (stateP n rs xs) := .tup h (.cons (dp_fleetZ hv) (.cons (dp_pos hu) .nil))
theorem dp_whole {t l : Addr} {v u : V} {n : Nat} {rs : List Rope} {xs : List Int} {hs : List (Nat × Int)} (h : SqT K H t [v, u, .ref l]) (hv : FleetV K H v n rs) (hu : IntsT K H u xs) (hl : HaulsAt H l hs) : Dp K H (.ref t) (wholeP n rs xs hs) := .tup h (.cons (dp_fleetZ hv) (.cons (dp_pos hu) (.cons (dp_hauls hl) .nil)))
end
/-! bytes of plans, cut -/
theorem code_nil (n : Nat) (rs : List Rope) (xs : List Int) : bodyB n rs xs [] = headB n rs xs ++ [0] := by
  unfold bodyB
  rw [show gN ([] : List (Nat × Int)).length = [0] from gN_lt (by decide)]
  exact List.append_nil _
theorem body_eq {n : Nat} {rs : List Rope} {xs : List Int} {hs : List (Nat × Int)} (h : hs.length < 128) : bodyB n rs xs hs = headB n rs xs ++ ((hs.length : Int) :: haulsB xs hs) := by
  unfold bodyB
  rw [gN_lt h, List.append_assoc]
  rfl
end Hx

set_option Elab.async false
set_option linter.all false
/-! join inside a list comprehension. -/
namespace Hx
open PySem PySem.Spec PyProof.Rows L2
theorem pe_joinK {K : PySem.W.Frag} {X : Cx} {o e : Expr} {to te : TE} {apos pos : Pos} (hK : X.K = K) (ho : PE X o to) (he : PE X e te) (hs : starEach [e] X.env = [(false, eval e X.env)] := by rfl) (hbase : attributeBase o "join" X.env (eval o X.env) = eval o X.env := by rfl) (hline : (apos.endLine == pos.line) = true := by rfl) :
    PE X (.Call (.Attribute o "join" apos) [e] [] pos) (tM1 (fun x xs H Q => ∃ a p, ∃ ys : List Str, x = .str a ∧ xs = [.ref p] ∧ (SqL K H p (ys.map V.str) ∨ SqT K H p (ys.map V.str)) ∧
      (ys.map (·.length)).sum + ys.length * a.length ≤ 16777216 ∧ Q (.str (Txt.join a ys)) H) to te) := by
  subst hK
  exact pe_join ho he hs hbase hline
end Hx

set_option Elab.async false
set_option linter.all false
set_option maxRecDepth 100000
set_option maxHeartbeats 4000000
/-! Bytes: packing, groups, encode_plan. -/
namespace Hx
open PySem PySem.Spec PyProof.Rows L2
local macro_rules | `(tactic| walk_at "rd") => `(tactic| (try simp (maxSteps := 3000000) only [q_var, q_c, q_op, q_un, q_rI, q_rI0, q_rU, q_rEq, q_rNe, q_test, q_tB, q_and, q_or, q_not, q_andV, q_orV, q_notV, q_if, q_isN, q_notN, q_chain, q_next, q_seq, q_break, q_cont, q_drop, q_ret, q_retN, q_ifS, q_never, q_gN, q_gNil, q_gCons, q_gTup, q_gSub, q_asg, q_par, q_aug, q_nil, q_cons, q_tup, q_lst, q_call, q_cb, q_noPart, q_part, q_sl, q_bm0, q_bm, q_yes, q_for, q_lc, q_iList, q_iTup, q_iRng1, q_iEnumT, q_iEnum, q_iRng2, q_iZipA, q_iZipM, q_ipI, q_ckw, q_len, q_listOf, q_tupleOf, L2.start, cx_K, wipe, List.map_cons, List.map_nil, List.length_cons, List.length_nil, List.cons_append, List.nil_append, List.append_nil, List.replicate, List.getElem?_cons_zero, List.getElem?_cons_succ, List.set_cons_zero, List.set_cons_succ, Option.some.injEq, List.cons.injEq, exists_eq_left', exists_eq_left, exists_and_left, V.int.injEq, V.bl.injEq, V.ref.injEq, if_true, if_false, Bool.not_true, Bool.not_false, true_and, and_true, Bool.false_eq_true, ite_true, ite_false, Nat.reduceAdd, Nat.reduceSub, reduceCtorEq, decide_false, decide_true, Int.toNat_natCast, false_and, exists_false, or_false, false_or]))
structure Blt3 (mg : Str → Option Value) : Prop where
  bytes : mg "bytes" = none
theorem none_backY {H H' : Hp} {p : Addr} (e : Same H H') (h : H' p = none) : H p = none := by
  cases hp : H p with
  | none => rfl
  | some o => rw [e _ _ hp] at h; cases h
theorem ixN_natY {n j : Nat} (hj : j < n) : ixN n (j : Int) = some j := by
  unfold ixN
  rw [if_pos (by omega), if_pos (by omega), Int.toNat_natCast]
theorem drop_ofY {α : Type} {l : List α} {j : Nat} {x : α} (h : l[j]? = some x) : l.drop j = x :: l.drop (j + 1) := by
  obtain ⟨hj, e⟩ := List.getElem?_eq_some_iff.mp h
  rw [List.drop_eq_getElem_cons hj, e]
section
variable {P : Program} {w : World} {K : PySem.W.Frag} {mg : Str → Option Value} {base : Heap}
def s_pack_bytes : Stmt := topS 36
abbrev n_pack_bytes : List Str := ["values", "value"]
abbrev p_pack_bytes : List Str := ["values"]
theorem sc_pack_bytes : FnScope n_pack_bytes p_pack_bytes (defScope s_pack_bytes) := ⟨rfl, rfl, rfl, by decide +kernel, rfl, by decide +kernel, by decide +kernel⟩
def sp_pack_bytes (K : PySem.W.Frag) : Sp := fun vs H Q _ => ∃ (l : Addr) (ns : List Int), vs = [.ref l] ∧ H l = some (.lst (ns.map V.int)) ∧ B8 ns ∧ ∀ H', Same H H' → Q (.byt (byteArr ns)) H'
theorem df_pack_bytes (T : Here K mg "pack_bytes" s_pack_bytes) (B : Blt mg) (B3 : Blt3 mg) (D_is_number : Df P w K mg base CX0 "is_number" 1 p_is_number (sp_is_number K)) : Df P w K mg base CX0 "pack_bytes" 2 p_pack_bytes (sp_pack_bytes K) := by
  refine T.df sc_pack_bytes (fun _ _ _ _ _ _ us hl => match us, hl with | [_], _ => rfl) (fun vs H Q E h => by obtain ⟨_, _, rfl, _⟩ := h; rfl) (fun f cdv A outer s H vs Q E hr h => ?_)
  obtain ⟨l, ns, rfl, hl, h8, q⟩ := h
  refine ⟨_, pss_cons (ps_if (pt_not (pt_val (pe_callB (isi K rfl) (by rfl) B.isinstance (by decide +kernel) (pa_cons (pv 0) (pa_cons ((pe_bltn (v := .ty "list") (by rfl) B.list (by decide +kernel) rfl)) pa_nil))))) (pss_one (ps_never)) (pss_nil))
      (pss_cons (ps_for PassesOwn.never rfl (piList K rfl (pv 0)) (pg_name (i := 1) sc_pack_bytes.nd rfl (by first | exact Or.inl rfl | exact Or.inr rfl)) (pss_one (ps_if (pt_not (pt_val (D_is_number.call (hr.mono (by decide)) (by rfl) (pa_cons (pv 1) (pa_cons (pe_int) (pa_cons (pe_int) pa_nil)))))) (pss_one (ps_never)) (pss_nil))))
      (pss_one (ps_ret (pe_callTy (call_bytes_list rfl) (by rfl) B3.bytes (by decide +kernel) (pa_cons (pv 0) pa_nil))))), ?_⟩
  have hz : 1000000 ≤ sizeLine := by decide
  walk_at "rd"
  refine isi_yes (tyx_lst (.of hl)) (by decide +kernel) ⟨true, rfl, ?_⟩
  rw [if_neg (by decide)]
  refine ⟨⟨_, .of hl⟩, ?_⟩
  obtain ⟨W, eW⟩ : ∃ W : Nat → L2.St → Hp → Prop, W = fun _ σ H' => ∃ x1, σ = [some (.ref l), x1] ∧ Same H H' := ⟨_, rfl⟩
  refine forList (xs := ns.map V.int) W (by rw [eW]; exact ⟨_, rfl, .refl _⟩) (fun i σ H' _ hPv => ?_) (fun i x σ H' hx hPv => ?_) (fun σ H' hPv => ?_) <;> rw [eW] at hPv
  · obtain ⟨_, _, e⟩ := hPv
    exact .of (e _ _ hl)
  · obtain ⟨x1, rfl, e⟩ := hPv
    rw [List.getElem?_map] at hx
    cases hj : ns[i]? with
    | none => rw [hj] at hx; cases hx
    | some k =>
      rw [hj] at hx
      cases hx
      have hk := h8 k (List.mem_of_getElem? hj)
      walk_at "rd"
      refine ⟨k, _, _, rfl, ?_⟩
      rw [decide_eq_true (show 0 ≤ k ∧ k ≤ 255 by omega)]
      refine ⟨true, rfl, ?_⟩
      rw [if_neg (by decide), eW]
      exact ⟨_, rfl, e⟩
  · obtain ⟨x1, rfl, e⟩ := hPv
    walk_at "rd"
    exact ⟨ns, .of (e _ _ hl), h8, q _ e⟩
def s_unpack_bytes : Stmt := topS 37
abbrev n_unpack_bytes : List Str := ["data"]
abbrev p_unpack_bytes : List Str := ["data"]
theorem sc_unpack_bytes : FnScope n_unpack_bytes p_unpack_bytes (defScope s_unpack_bytes) := ⟨rfl, rfl, rfl, by decide +kernel, rfl, by decide +kernel, by decide +kernel⟩
def sp_unpack_bytes (K : PySem.W.Frag) : Sp := fun vs H Q _ => ∃ (ns : List Int), vs = [.byt (byteArr ns)] ∧ B8 ns ∧ ns.length ≤ 100000 ∧ ∀ H' l, Same H H' → H l = none → H' l = some (.lst (ns.map V.int)) → Q (.ref l) H'
theorem df_unpack_bytes (T : Here K mg "unpack_bytes" s_unpack_bytes) (B : Blt mg) : Df P w K mg base CX0 "unpack_bytes" 1 p_unpack_bytes (sp_unpack_bytes K) := by
  refine T.df sc_unpack_bytes (fun _ _ _ _ _ _ us hl => match us, hl with | [_], _ => rfl) (fun vs H Q E h => by obtain ⟨_, rfl, _⟩ := h; rfl) (fun f cdv A outer s H vs Q E hr h => ?_)
  obtain ⟨ns, rfl, h8, hl, q⟩ := h
  refine ⟨_, pss_one (ps_ret (pe_callTy (call_list_byt rfl) (by rfl) B.list (by decide +kernel) (pa_cons (pv 0) pa_nil))), ?_⟩
  have hz : 1000000 ≤ sizeLine := by decide
  walk_at "rd"
  exact ⟨ns, rfl, h8, by omega, fun p hp => q _ p (same_upd hp) hp upd_same⟩
def s_natural_groups : Stmt := topS 40
abbrev n_natural_groups : List Str := ["number", "groups"]
abbrev p_natural_groups : List Str := ["number"]
theorem sc_natural_groups : FnScope n_natural_groups p_natural_groups (defScope s_natural_groups) := ⟨rfl, rfl, rfl, by decide +kernel, rfl, by decide +kernel, by decide +kernel⟩
def sp_natural_groups (K : PySem.W.Frag) : Sp := fun vs H Q _ => ∃ (n : Nat), vs = [.int (n : Nat)] ∧ n < 2097152 ∧ ∀ H' l, Same H H' → H l = none → H' l = some (.lst ((gN n).map V.int)) → Q (.ref l) H'
theorem df_natural_groups (T : Here K mg "natural_groups" s_natural_groups) : Df P w K mg base CX0 "natural_groups" 1 p_natural_groups (sp_natural_groups K) := by
  refine T.df sc_natural_groups (fun _ _ _ _ _ _ us hl => match us, hl with | [_], _ => rfl) (fun vs H Q E h => by obtain ⟨_, rfl, _⟩ := h; rfl) (fun f cdv A outer s H vs Q E hr h => ?_)
  obtain ⟨n, rfl, hn, q⟩ := h
  refine ⟨_, pss_cons (ps_set (i := 1) sc_natural_groups.nd rfl (by first | exact Or.inl rfl | exact Or.inr rfl) (pe_lst (pa_nil)))
      (pss_cons (ps_while PassesOwn.never (pt_cmpR op_ge (pv 0) (pe_int) (nomark _)) (pss_cons (ps_expr (pe_bm PySem.F.plainAttrs_list PySem.F.slot_list_append PySem.F.type_list_append mt_append (pv 1) (pa_cons (pe_op op_add (pe_int) (pe_op op_and (pv 0) (pe_int))) pa_nil)))
      (pss_one (ps_aug (i := 0) sc_natural_groups.nd rfl (by first | exact Or.inl rfl | exact Or.inr rfl) (pe_int) iop_fdiv))))
      (pss_cons (ps_expr (pe_bm PySem.F.plainAttrs_list PySem.F.slot_list_append PySem.F.type_list_append mt_append (pv 1) (pa_cons (pv 0) pa_nil)))
      (pss_one (ps_ret (pv 1))))), ?_⟩
  have hz : 1000000 ≤ sizeLine := by decide
  walk_at "rd"
  refine ⟨by omega, fun l hl => ?_⟩
  obtain ⟨W, eW⟩ : ∃ W : Nat → L2.St → Hp → Prop, W = fun m σ H' => ∃ (k : Nat) (gs : List Int), m = k ∧ k ≤ n ∧ σ = [some (.int (k : Nat)), some (.ref l)] ∧ Same H H' ∧ H' l = some (.lst (gs.map V.int)) ∧ gs ++ gN k = gN n := ⟨_, rfl⟩
  refine ⟨W, ⟨_, by rw [eW]; exact ⟨n, [], rfl, Nat.le_refl _, rfl, same_upd hl, upd_same, rfl⟩⟩, fun m σ H' hW => ?_⟩
  rw [eW] at hW
  obtain ⟨k, gs, hmk, hkn, rfl, e, hA, hg⟩ := hW
  have hgl : gs.length ≤ 3 := by
    have h1 := congrArg List.length hg
    have h2 := gN_len 2 n hn
    rw [List.length_append] at h1
    omega
  walk_at "rd"
  by_cases hk : 128 ≤ k
  · rw [if_pos (decide_eq_true (by omega))]
    refine ⟨fun σ' G => W (k / 128) σ' G, fun σ' G hN => ⟨_, by omega, hN⟩, .inl ⟨rfl, _, .of hA⟩, ?_⟩
    rw [and127]
    refine ⟨l, _, _, rfl, rfl, hA, by rw [List.length_map]; omega, ⟨by omega, by omega⟩, ?_⟩
    have ek : (k : Int) / 128 = ((k / 128 : Nat) : Int) := by omega
    rw [ek]
    show W (k / 128) _ _
    rw [eW]
    refine ⟨k / 128, gs ++ [128 + ((k % 128 : Nat) : Int)], rfl, by omega, rfl, fun x o hx => ?_, by rw [upd_same, List.map_append]; rfl, ?_⟩
    · rw [upd_ne (ne_of_none hx hl)]
      exact e x o hx
    · rw [List.append_assoc, ← hg, gN_ge hk]
      rfl
  · rw [if_neg (by rw [decide_eq_true_iff]; omega)]
    refine ⟨.inl ⟨rfl, _, .of hA⟩, l, _, _, rfl, rfl, hA, by rw [List.length_map]; omega, ?_⟩
    refine q _ l (fun x o hx => ?_) hl ?_
    · rw [upd_ne (ne_of_none hx hl)]
      exact e x o hx
    · rw [upd_same, ← hg, gN_lt (by omega), List.map_append]
      rfl
def s_integer_groups : Stmt := topS 41
abbrev n_integer_groups : List Str := ["number"]
abbrev p_integer_groups : List Str := ["number"]
theorem sc_integer_groups : FnScope n_integer_groups p_integer_groups (defScope s_integer_groups) := ⟨rfl, rfl, rfl, by decide +kernel, rfl, by decide +kernel, by decide +kernel⟩
def sp_integer_groups (K : PySem.W.Frag) : Sp := fun vs H Q _ => ∃ (d : Int), vs = [.int d] ∧ d.natAbs ≤ 100000 ∧ ∀ H' l, Same H H' → H l = none → H' l = some (.lst ((intG d).map V.int)) → Q (.ref l) H'
theorem df_integer_groups (T : Here K mg "integer_groups" s_integer_groups) (D_natural_groups : Df P w K mg base CX0 "natural_groups" 1 p_natural_groups (sp_natural_groups K)) : Df P w K mg base CX0 "integer_groups" 2 p_integer_groups (sp_integer_groups K) := by
  refine T.df sc_integer_groups (fun _ _ _ _ _ _ us hl => match us, hl with | [_], _ => rfl) (fun vs H Q E h => by obtain ⟨_, rfl, _⟩ := h; rfl) (fun f cdv A outer s H vs Q E hr h => ?_)
  obtain ⟨d, rfl, hd, q⟩ := h
  refine ⟨_, pss_cons (ps_if (pt_cmpR op_lt (pv 0) (pe_int) (nomark _)) (pss_one (ps_ret (D_natural_groups.call (hr.mono (by decide)) (by rfl) (pa_cons (pe_op op_sub (pe_op op_mul (pe_un un_neg (pe_int)) (pv 0)) (pe_int)) pa_nil)))) (pss_nil))
      (pss_one (ps_ret (D_natural_groups.call (hr.mono (by decide)) (by rfl) (pa_cons (pe_op op_mul (pe_int) (pv 0)) pa_nil)))), ?_⟩
  walk_at "rd"
  have hz := zz_lt hd
  by_cases h0 : d < 0
  · rw [if_pos (decide_eq_true h0)]
    have e : -2 * d - 1 = ((zz d : Nat) : Int) := by
      unfold zz
      rw [if_pos h0]
      omega
    rw [e]
    exact ⟨.inl ⟨by omega, by omega⟩, zz d, rfl, hz, q⟩
  · rw [if_neg (by rw [decide_eq_true_iff]; exact h0)]
    have e : 2 * d = ((zz d : Nat) : Int) := by
      unfold zz
      rw [if_neg h0]
      omega
    rw [e]
    exact ⟨.inl ⟨by omega, by omega⟩, zz d, rfl, hz, q⟩
def s_encode_plan : Stmt := topS 38
abbrev n_encode_plan : List Str := ["fleet", "positions", "hauls", "count", "ropes", "values", "front", "rear", "length", "position", "last", "barge"]
abbrev p_encode_plan : List Str := ["fleet", "positions", "hauls"]
theorem sc_encode_plan : FnScope n_encode_plan p_encode_plan (defScope s_encode_plan) := ⟨rfl, rfl, rfl, by decide +kernel, rfl, by decide +kernel, by decide +kernel⟩
def sp_encode_plan (K : PySem.W.Frag) : Sp := fun vs H Q _ => ∃ (v u : V) (l : Addr) (n : Nat) (rs : List Rope) (xs : List Int) (hs : List (Nat × Int)), vs = [v, u, .ref l] ∧ FleetV K H v n rs ∧ IntsT K H u xs ∧ WayOk n rs xs ∧ HaulsAt H l hs ∧ hs.length ≤ 200 ∧
  HaulsOk (chainTab n rs) xs hs ∧ StepsOk xs hs ∧ (∀ k ∈ hs, k.1 < n) ∧ ∀ H', Same H H' → Q (.byt (byteArr (codeB n rs xs hs))) H'
theorem df_encode_plan (T : Here K mg "encode_plan" s_encode_plan) (B : Blt mg) (B2 : Blt2 mg) (B3 : Blt3 mg) (C_MOST_HAULS : ∃ u, mg "MOST_HAULS" = some (.int 200 u)) (C_FIRST_BYTE : ∃ u, mg "FIRST_BYTE" = some (.int 72 u)) (C_CHECK_MODULUS : ∃ u, mg "CHECK_MODULUS" = some (.int 251 u))
    (D_haul_all : Df P w K mg base CX0 "haul_all" 6 p_haul_all (sp_haul_all K)) (D_integer_groups : Df P w K mg base CX0 "integer_groups" 2 p_integer_groups (sp_integer_groups K)) (D_natural_groups : Df P w K mg base CX0 "natural_groups" 1 p_natural_groups (sp_natural_groups K)) : Df P w K mg base CX0 "encode_plan" 7 p_encode_plan (sp_encode_plan K) := by
  refine T.df sc_encode_plan (fun _ _ _ _ _ _ us hl => match us, hl with | [_, _, _], _ => rfl) (fun vs H Q E h => by obtain ⟨_, _, _, _, _, _, _, rfl, _⟩ := h; rfl) (fun f cdv A outer s H vs Q E hr h => ?_)
  obtain ⟨v, u, l, n, rs, xs, hs, rfl, hv, hu, hw, hl, hl2, hok, hst, hbn, q⟩ := h
  refine ⟨_, pss_cons (ps_expr (D_haul_all.call (hr.mono (by decide)) (by rfl) (pa_cons (pv 0) (pa_cons (pv 1) (pa_cons (pv 2) pa_nil)))))
      (pss_cons (ps_if (pt_cmpR op_gt (pe_callB (lenQ K rfl) (by rfl) B.len (by decide +kernel) (pa_cons (pv 2) pa_nil)) (pe_gi (by rfl) C_MOST_HAULS) (nomark _)) (pss_one (ps_never)) (pss_nil))
      (pss_cons (ps_asg (pv 0) (pgTup K rfl (n := 2) rfl (pgs_cons (pg_name (i := 3) sc_encode_plan.nd rfl (by first | exact Or.inl rfl | exact Or.inr rfl)) (pgs_cons (pg_name (i := 4) sc_encode_plan.nd rfl (by first | exact Or.inl rfl | exact Or.inr rfl)) pgs_nil))))
      (pss_cons (ps_set (i := 5) sc_encode_plan.nd rfl (by first | exact Or.inl rfl | exact Or.inr rfl) (pe_lst (pa_cons (pe_gi (by rfl) C_FIRST_BYTE) (pa_cons (pv 3) (pa_cons (pe_callB (lenQ K rfl) (by rfl) B.len (by decide +kernel) (pa_cons (pv 4) pa_nil)) pa_nil)))))
      (pss_cons (ps_for PassesOwn.never rfl (piTup K rfl (pv 4)) (pgTup K rfl (n := 3) rfl (pgs_cons (pg_name (i := 6) sc_encode_plan.nd rfl (by first | exact Or.inl rfl | exact Or.inr rfl)) (pgs_cons (pg_name (i := 7) sc_encode_plan.nd rfl (by first | exact Or.inl rfl | exact Or.inr rfl)) (pgs_cons (pg_name (i := 8) sc_encode_plan.nd rfl (by first | exact Or.inl rfl | exact Or.inr rfl)) pgs_nil)))) (pss_one (ps_expr (pe_bm PySem.F.plainAttrs_list PySem.F.slot_list_extend PySem.F.type_list_extend mt_extend (pv 5) (pa_cons (pe_op op_cat (pe_lst (pa_cons (pv 6) (pa_cons (pv 7) pa_nil))) (D_integer_groups.call (hr.mono (by decide)) (by rfl) (pa_cons (pv 8) pa_nil))) pa_nil)))))
      (pss_cons (ps_for PassesOwn.never rfl (piTup K rfl (pv 1)) (pg_name (i := 9) sc_encode_plan.nd rfl (by first | exact Or.inl rfl | exact Or.inr rfl)) (pss_one (ps_expr (pe_bm PySem.F.plainAttrs_list PySem.F.slot_list_extend PySem.F.type_list_extend mt_extend (pv 5) (pa_cons (D_integer_groups.call (hr.mono (by decide)) (by rfl) (pa_cons (pv 9) pa_nil)) pa_nil)))))
      (pss_cons (ps_expr (pe_bm PySem.F.plainAttrs_list PySem.F.slot_list_extend PySem.F.type_list_extend mt_extend (pv 5) (pa_cons (D_natural_groups.call (hr.mono (by decide)) (by rfl) (pa_cons (pe_callB (lenQ K rfl) (by rfl) B.len (by decide +kernel) (pa_cons (pv 2) pa_nil)) pa_nil)) pa_nil)))
      (pss_cons (ps_set (i := 10) sc_encode_plan.nd rfl (by first | exact Or.inl rfl | exact Or.inr rfl) (pe_callTy (listOf K rfl) (by rfl) B.list (by decide +kernel) (pa_cons (pv 1) pa_nil)))
      (pss_cons (ps_for PassesOwn.never rfl (piList K rfl (pv 2)) (pgTup K rfl (n := 2) rfl (pgs_cons (pg_name (i := 11) sc_encode_plan.nd rfl (by first | exact Or.inl rfl | exact Or.inr rfl)) (pgs_cons (pg_name (i := 9) sc_encode_plan.nd rfl (by first | exact Or.inl rfl | exact Or.inr rfl)) pgs_nil))) (pss_cons (ps_expr (pe_bm PySem.F.plainAttrs_list PySem.F.slot_list_extend PySem.F.type_list_extend mt_extend (pv 5) (pa_cons (pe_op op_cat (pe_lst (pa_cons (pv 11) pa_nil)) (D_integer_groups.call (hr.mono (by decide)) (by rfl) (pa_cons (pe_op op_sub (pv 9) (pe_ix (ixL K rfl) (pv 10) (pv 11) (fun _ _ => rfl))) pa_nil))) pa_nil)))
      (pss_one (ps_asg (pv 9) (pg_sub (pv 10) (pv 11) set_list)))))
      (pss_cons (ps_expr (pe_bm PySem.F.plainAttrs_list PySem.F.slot_list_append PySem.F.type_list_append mt_append (pv 5) (pa_cons (pe_op op_modN (pe_callB (sumQ K rfl rfl) (by rfl) B2.sum (by decide +kernel) (pa_cons (pv 5) pa_nil)) (pe_gi (by rfl) C_CHECK_MODULUS)) pa_nil)))
      (pss_one (ps_ret (pe_callTy (call_bytes_list rfl) (by rfl) B3.bytes (by decide +kernel) (pa_cons (pv 5) pa_nil))))))))))))), ?_⟩
  have hz : 1000000 ≤ sizeLine := by decide
  have h8 := hw.fleet.2.1
  have h40 := hw.fleet.2.2.1
  walk_at "rd"
  refine ⟨v, u, l, n, rs, xs, hs, rfl, hv, hu, hw, HaulsAt.lst hl, by omega, hok, fun H1 r1 s1 _ => ?_⟩
  obtain ⟨ts, ot⟩ := hl.mono s1
  have hu1 := hu.mono s1
  obtain ⟨a, b, zs, rfl, ha, hb, hzl, hzi⟩ := hv.mono s1
  refine ⟨_, .inl (.of ot.top), ?_⟩
  rw [List.length_map, ot.len, if_neg (by rw [decide_eq_true_iff]; omega)]
  refine ⟨a, rfl, _, ha, rfl, ?_⟩
  walk_at "rd"
  refine ⟨_, .inr hb, by omega, fun L hL => ?_⟩
  rw [hzl]
  have s2 := same_upd (o := .lst [.int 72, .int (n : Int), .int (rs.length : Nat)]) hL
  refine ⟨⟨_, sqt_same s2 hb⟩, ?_⟩
  have hflat : ∀ i r, rs[i]? = some r → (rs.take (i + 1)).flatMap ropeB = (rs.take i).flatMap ropeB ++ ropeB r := fun i r hi => by
    rw [List.take_add_one, hi, List.flatMap_append]
    show _ ++ List.flatMap ropeB [r] = _
    rw [List.flatMap_singleton]
  have hflat2 : ∀ i x, xs[i]? = some x → (xs.take (i + 1)).flatMap intG = (xs.take i).flatMap intG ++ intG x := fun i x hi => by
    rw [List.take_add_one, hi, List.flatMap_append]
    show _ ++ List.flatMap intG [x] = _
    rw [List.flatMap_singleton]
  have hr5 : ∀ i, ((rs.take i).flatMap ropeB).length ≤ 200 := fun i => by
    have := flat_len (f := ropeB) (k := 5) (l := rs.take i) fun r hr => by
      obtain ⟨_, _, _, _, _, a6, a7⟩ := hw.fleet.2.2.2 r (List.mem_of_mem_take hr)
      have := intG_len (d := r.l) (by omega)
      show (intG r.l).length + 1 + 1 ≤ 5
      omega
    rw [List.length_take] at this
    omega
  have hx3 : ∀ i, ((xs.take i).flatMap intG).length ≤ 24 := fun i => by
    have := flat_len (f := intG) (k := 3) (l := xs.take i) fun x hx => intG_len (by have := hw.range x (List.mem_of_mem_take hx); omega)
    have := hw.len
    rw [List.length_take] at *
    omega
  obtain ⟨W, eW⟩ : ∃ W : Nat → L2.St → Hp → Prop, W = fun i σ H' => ∃ x6 x7 x8, σ = [some (.ref a), some u, some (.ref l), some (.int (n : Int)), some (.ref b), some (.ref L), x6, x7, x8, none, none, none] ∧ Same H1 H' ∧ H' L = some (.lst (([72, (n : Int), (rs.length : Int)] ++ (rs.take i).flatMap ropeB).map V.int)) := ⟨_, rfl⟩
  refine forTup (xs := zs) W (by rw [eW]; exact ⟨_, _, _, rfl, s2, upd_same⟩) (fun i σ H' _ hPv => ?_) (fun i x σ H' hx hPv => ?_) (fun σ H' hPv => ?_) <;> rw [eW] at hPv
  · obtain ⟨_, _, _, _, e, _⟩ := hPv
    exact sqt_same e hb
  · obtain ⟨x6, x7, x8, rfl, e, hA⟩ := hPv
    have hi : i < rs.length := by
      rw [← hzl]
      exact (List.getElem?_eq_some_iff.mp hx).1
    have hri : rs[i]? = some rs[i] := List.getElem?_eq_getElem hi
    obtain ⟨y, hy, c, rfl, hc⟩ := hzi i _ hri
    cases hx.symm.trans hy
    obtain ⟨_, _, _, _, _, a6, a7⟩ := hw.fleet.2.2.2 _ (List.getElem_mem hi)
    have hfl := hflat i _ hri
    generalize rs[i] = r at hri hc a6 a7 hfl
    walk_at "rd"
    refine ⟨_, sqt_same e hc, rfl, ?_⟩
    walk_at "rd"
    refine ⟨.inl ⟨rfl, _, .of hA⟩, by omega, fun p1 hp1 => ?_⟩
    have s3 := same_upd (o := .lst [.int r.f, .int r.r]) hp1
    refine ⟨r.l, rfl, by omega, fun H3 p2 s4 _ hp2 => ?_⟩
    have hp1' := s4 _ _ (show (upd H' p1 (.lst [.int r.f, .int r.r])) p1 = _ from upd_same)
    refine ⟨p1, p2, _, _, rfl, rfl, hp1', hp2, by have := intG_len (d := r.l) (by omega); rw [List.length_map]; show 2 + _ ≤ sizeLine; omega, fun p3 hp3 => ?_⟩
    have s5 := same_upd (o := .lst ([.int r.f, .int r.r] ++ (intG r.l).map V.int)) hp3
    have e5 := (s3.trans s4).trans s5
    have hil : (intG r.l).length ≤ 3 := intG_len (by omega)
    have h200 := hr5 i
    refine ⟨L, p3, _, _, rfl, rfl, e5 _ _ hA, upd_same, by rw [List.length_map, List.length_append, List.length_append, List.length_map]; show 3 + _ + (2 + _) ≤ sizeLine; omega, ?_⟩
    rw [eW]
    refine ⟨_, _, _, rfl, fun x o hx => ?_, ?_⟩
    · rw [upd_ne (ne_of_none hx hL)]
      exact e5 _ _ (e x o hx)
    · rw [upd_same, hfl]
      simp [ropeB]
  obtain ⟨x6, x7, x8, rfl, e, hA⟩ := hPv
  rw [hzl, List.take_length] at hA
  clear W eW
  obtain ⟨cu, rfl, hcu⟩ := id hu1
  walk_at "rd"
  refine ⟨⟨_, sqt_same e hcu⟩, ?_⟩
  obtain ⟨W, eW⟩ : ∃ W : Nat → L2.St → Hp → Prop, W = fun i σ H2 => ∃ x9, σ = [some (.ref a), some (.ref cu), some (.ref l), some (.int (n : Int)), some (.ref b), some (.ref L), x6, x7, x8, x9, none, none] ∧ Same H1 H2 ∧ H2 L = some (.lst (([72, (n : Int), (rs.length : Int)] ++ rs.flatMap ropeB ++ (xs.take i).flatMap intG).map V.int)) := ⟨_, rfl⟩
  refine forTup (xs := xs.map V.int) W (by rw [eW]; exact ⟨none, rfl, e, by rw [hA]; simp⟩) (fun i σ H2 _ hPv => ?_) (fun i x σ H2 hx hPv => ?_) (fun σ H2 hPv => ?_) <;> rw [eW] at hPv
  · obtain ⟨_, _, e, _⟩ := hPv
    exact sqt_same e hcu
  · obtain ⟨x9, rfl, e, hA⟩ := hPv
    rw [List.getElem?_map] at hx
    cases hj : xs[i]? with
    | none => rw [hj] at hx; cases hx
    | some d =>
      rw [hj] at hx
      cases hx
      have hd := hw.range d (List.mem_of_getElem? hj)
      have hfl := hflat2 i d hj
      have hil : (intG d).length ≤ 3 := intG_len (by omega)
      have h24 := hx3 i
      have h200 := hr5 rs.length
      rw [List.take_length] at h200
      walk_at "rd"
      refine ⟨.inl ⟨rfl, _, .of hA⟩, d, rfl, by omega, fun H3 p2 s4 _ hp2 => ?_⟩
      refine ⟨L, p2, _, _, rfl, rfl, s4 _ _ hA, hp2, by rw [List.length_map, List.length_map, List.length_append, List.length_append]; show 3 + _ + _ + _ ≤ sizeLine; omega, ?_⟩
      rw [eW]
      refine ⟨_, rfl, fun x o hx => ?_, ?_⟩
      · rw [upd_ne (ne_of_none hx hL)]
        exact s4 _ _ (e x o hx)
      · rw [upd_same, hfl]
        simp
  obtain ⟨x9, rfl, e, hA⟩ := hPv
  rw [List.length_map, List.take_length] at hA
  have hA : H2 L = some (.lst ((headB n rs xs).map V.int)) := hA
  have hhl := headB_len hw
  clear W eW
  walk_at "rd"
  refine ⟨.inl ⟨rfl, _, .of hA⟩, _, .inl (.of (e _ _ ot.top)), ?_⟩
  rw [List.length_map, ot.len]
  refine ⟨hs.length, rfl, by omega, fun H3 p2 s3 _ hp2 => ?_⟩
  have hgl := gN_len 2 hs.length (by show _ < 2097152; omega)
  refine ⟨L, p2, _, _, rfl, rfl, s3 _ _ hA, hp2, by rw [List.length_map, List.length_map]; omega, ?_⟩
  have e3 : Same H1 (upd H3 L (.lst ((headB n rs xs).map V.int ++ (gN hs.length).map V.int))) := fun x o hx => by
    rw [upd_ne (ne_of_none hx hL)]
    exact s3 _ _ (e x o hx)
  have hA3 : (upd H3 L (.lst ((headB n rs xs).map V.int ++ (gN hs.length).map V.int))) L = some (.lst ((headB n rs xs ++ gN hs.length).map V.int)) := by rw [upd_same, List.map_append]
  generalize upd H3 L (.lst ((headB n rs xs).map V.int ++ (gN hs.length).map V.int)) = H4 at e3 hA3 ⊢
  clear s3 hp2 hA e
  walk_at "rd"
  refine ⟨_, .inr (sqt_same e3 hcu), fun la hla => ?_⟩
  have nLa : la ≠ L := fun z => by rw [z, hA3] at hla; cases hla
  have hla1 := none_backY e3 hla
  have s4 := same_upd (o := .lst (xs.map V.int)) hla
  refine ⟨⟨_, .of (s4 _ _ (e3 _ _ ot.top))⟩, ?_⟩
  obtain ⟨W, eW⟩ : ∃ W : Nat → L2.St → Hp → Prop, W = fun i σ H5 => ∃ (x9 x11 : Option V) (last : List Int), σ = [some (.ref a), some (.ref cu), some (.ref l), some (.int (n : Int)), some (.ref b), some (.ref L), x6, x7, x8, x9, some (.ref la), x11] ∧ Same H1 H5 ∧ H5 la = some (.lst (last.map V.int)) ∧ last.length = n ∧ StepsOk last (hs.drop i) ∧
    (∃ acc, H5 L = some (.lst ((headB n rs xs ++ gN hs.length ++ acc).map V.int)) ∧ acc ++ haulsB last (hs.drop i) = haulsB xs hs) := ⟨_, rfl⟩
  refine forList (xs := ts.map V.ref) W (by rw [eW]; exact ⟨_, _, xs, rfl, e3.trans s4, upd_same, hw.len, hst, [], by rw [List.append_nil]; exact s4 _ _ hA3, rfl⟩) (fun i σ H5 _ hPv => ?_) (fun i x σ H5 hx hPv => ?_) (fun σ H5 hPv => ?_) <;> rw [eW] at hPv
  · obtain ⟨_, _, _, _, e, _⟩ := hPv
    exact .of (e _ _ ot.top)
  · obtain ⟨x9, x11, last, rfl, e, hla5, hll, hso, acc, hA5, hacc⟩ := hPv
    obtain ⟨t, h, rfl, ht, hh, hto⟩ := (ot.mono e).get hx
    have hto : H5 t = some (.tup [.int (h.1 : Nat), .int h.2]) := hto
    rw [drop_ofY hh] at hso hacc
    obtain ⟨k1, k2, k3⟩ := hso
    have hhn := hbn h (List.mem_of_getElem? hh)
    have hal : acc.length ≤ 800 := by
      have h1 := congrArg List.length hacc
      have h2 := haulsB_len hst
      rw [List.length_append] at h1
      omega
    have hvl : (last.map V.int)[h.1]? = some (.int (last.getD h.1 0)) := by
      rw [List.getElem?_map, List.getD_eq_getElem?_getD, List.getElem?_eq_getElem (by omega)]
      rfl
    walk_at "rd"
    refine ⟨_, .of hto, rfl, ?_⟩
    walk_at "rd"
    refine ⟨.inl ⟨rfl, _, .of hA5⟩, by omega, fun p1 hp1 => ?_⟩
    have s5 := same_upd (o := .lst [.int (h.1 : Nat)]) hp1
    refine ⟨la, _, h.1, _, rfl, rfl, .of (s5 _ _ hla5), atI_nat hvl, ?_⟩
    refine ⟨_, _, rfl, rfl, _, rfl, k2, fun H6 p2 s6 _ hp2 => ?_⟩
    have hp1' := s6 _ _ (show (upd H5 p1 (.lst [.int (h.1 : Nat)])) p1 = some (.lst [.int (h.1 : Nat)]) from upd_same)
    obtain ⟨dd, hdd⟩ : ∃ dd, h.2 - last.getD h.1 0 = dd := ⟨_, rfl⟩
    rw [hdd] at hp2 k2
    have hil := intG_len k2
    refine ⟨p1, p2, _, _, rfl, rfl, hp1', hp2, by rw [List.length_map]; show 1 + _ ≤ sizeLine; omega, fun p3 hp3 => ?_⟩
    have s7 := same_upd (o := .lst ([.int (h.1 : Nat)] ++ (intG dd).map V.int)) hp3
    have e7 := (s5.trans s6).trans s7
    refine ⟨L, p3, _, _, rfl, rfl, e7 _ _ hA5, upd_same, by rw [List.length_map, List.length_append, List.length_append, List.length_append, List.length_map]; show _ + (1 + _) ≤ sizeLine; omega, ?_⟩
    refine ⟨la, last.map V.int, _, h.1, rfl, rfl, by rw [upd_ne nLa]; exact e7 _ _ hla5, ixN_natY (by rw [List.length_map]; omega), ?_⟩
    rw [eW]
    refine ⟨_, _, last.set h.1 h.2, rfl, fun x o hx => ?_, by rw [upd_same, List.map_set], by rw [List.length_set]; exact hll, k3, acc ++ ((h.1 : Int) :: intG dd), ?_, ?_⟩
    · rw [upd_ne (ne_of_none hx hla1), upd_ne (ne_of_none hx hL)]
      exact e7 _ _ (e x o hx)
    · rw [upd_ne nLa.symm, upd_same]
      simp
    · rw [← hacc, List.append_assoc]
      show acc ++ ((h.1 : Int) :: intG dd ++ _) = acc ++ ((h.1 : Int) :: (intG (h.2 - last.getD h.1 0) ++ _))
      rw [hdd]
      rfl
  obtain ⟨x9, x11, last, rfl, e, hla5, hll, hso, acc, hA5, hacc⟩ := hPv
  rw [List.length_map, ot.len, List.drop_length] at hacc
  have hacc : acc ++ [] = haulsB xs hs := hacc
  rw [List.append_nil] at hacc
  subst hacc
  have hA5 : H5 L = some (.lst ((bodyB n rs xs hs).map V.int)) := hA5
  have hbl : (bodyB n rs xs hs).length ≤ 2000 := by
    have h2 := haulsB_len hst
    unfold bodyB
    rw [List.length_append, List.length_append]
    omega
  have hb8 := bodyB_8 (hs := hs) hw fun k hk => by have := hbn k hk; omega
  walk_at "rd"
  refine ⟨.inl ⟨rfl, _, .of hA5⟩, L, bodyB n rs xs hs, rfl, .of hA5, _, 251, rfl, rfl, (show (251 : Int) ≠ 0 by decide), L, _, _, rfl, rfl, hA5, by rw [List.length_map]; omega, codeB n rs xs hs, .of (by rw [upd_same]; unfold codeB; rw [List.map_append]; rfl), codeB_8 hw fun k hk => by have := hbn k hk; omega, q _ (s1.trans fun x o hx => ?_)⟩
  rw [upd_ne (ne_of_none hx hL)]
  exact e x o hx
end
end Hx

set_option Elab.async false
set_option linter.all false
set_option maxRecDepth 100000
set_option maxHeartbeats 4000000
/-! Own classes: a method that keeps a promise; making an instance. -/
namespace Hx
open PySem PySem.Spec PyProof.Rows L2
/-- a method m of the class at C, the statement st -/
structure HereM (K : PySem.W.Frag) (C : Addr) (x q : Str) (st : Stmt) : Prop where
  ex : ∃ (f : Addr) (fd : FuncData), Fun K x q st f fd ∧ Meth K C x f
structure DfM (P : Program) (w : World) (K : PySem.W.Frag) (mg : Str → Option Value) (base : Heap) (CX : CXT) (C : Addr) (x : Str) (k : Nat) (ps : List Str) (sp : Sp) : Prop where
  ex : ∃ (f : Addr) (fd : FuncData), FnOk P w K mg base CX k f fd ps sp ∧ Meth K C x f ∧ Binds K fd ps []
section
variable {P : Program} {w : World} {K : PySem.W.Frag} {mg : Str → Option Value} {base : Heap} {C : Addr}
theorem HereM.df {x q : Str} {st : Stmt} {N ps : List Str} {k : Nat} {sp : Sp} (T : HereM K C x q st) (S : FnScope N ps (defScope st))
    (hb : ∀ (kV doc pm : Value) (an : Option Addr) (cdv ct : Value) (us : List Value), us.length = ps.length → bindArgs (PySem.W.fnOf x q (defArgs st) (defBody st) (defScope st) .none kV doc pm an cdv ct) ⟨us, []⟩ = pure (ps.zip us))
    (len : ∀ vs H Q E, sp vs H Q E → vs.length = ps.length)
    (body : ∀ (f : Addr) (cdv : Value) (A : Around) (outer : List Env) (s : Shared) (H : Hp) (vs : List V) (Q : VK) (E : XK), Room k (A.deeper (envOfC q (defScope st) s.heap.objs.size f cdv)) → sp vs H Q E →
      ∃ t, PSs (cxOf CX0 P w K mg base N q (defScope st) f cdv A outer s H E).nox (defBody st) t ∧ t { nx := fun _ H' => Q .non H', rt := Q } (L2.start N vs) H) :
    DfM P w K mg base CX0 C x (k + 1) ps sp := by
  obtain ⟨f, fd, F, m⟩ := T.ex
  exact ⟨f, fd, F.ok S len (body f), m, F.binds hb⟩
end
section
variable {X : Cx} {x m : Str} {k : Nat} {f C : Addr} {ps : List Str} {sp : Sp} {o e : Expr} {es : List Expr} {apos pos p : Pos} {ta : TE} {t : TA}
theorem DfM.call {pl : Sem Bool} (D : DfM X.prog X.w X.K X.mg X.base CX0 C m k ps sp) (cl : Cls X.K C) (hr : Room k X.A) (he : PE X o ta) (ha : PA X (e :: es) t)
    (hst : starEach (e :: es) X.env = (false, eval e X.env) :: starEach es X.env := by rfl) (hpl : (backTo pos (starEach es X.env)).any (·.1) = false := by rfl)
    (ht : eval (.Call (.Attribute o m apos) (e :: es) [] pos) X.env = (do
      let ov ← eval o X.env
      standAt apos.atName
      let (f, first) ← holding [ov] (getMethod ov m pl)
      callWith pos f first (backTo pos (starEach (e :: es) X.env)) (backToKw pos (keywordEach [] X.env))) := by rfl) : PE X (.Call (.Attribute o m apos) (e :: es) [] pos) (tMeth C m sp [] E0 ta t) := by
  obtain ⟨f, fd, F, g, b⟩ := D.ex
  exact pe_meth he cl g F hr b .nil pass0 ha hst hpl ht
theorem DfM.call0 {pl : Sem Bool} (D : DfM X.prog X.w X.K X.mg X.base CX0 C m k ps sp) (cl : Cls X.K C) (hr : Room k X.A) (he : PE X o ta)
    (ht : eval (.Call (.Attribute o m apos) [] [] pos) X.env = (do
      let ov ← eval o X.env
      standAt apos.atName
      let (f, first) ← holding [ov] (getMethod ov m pl)
      callWith pos f first (backTo pos (starEach [] X.env)) (backToKw pos (keywordEach [] X.env))) := by rfl) : PE X (.Call (.Attribute o m apos) [] [] pos) (tMeth C m sp [] E0 ta tNil) := by
  obtain ⟨f, fd, F, g, b⟩ := D.ex
  exact pe_meth0 he cl g F hr b .nil pass0 ht
/-- C(..), __init__ being a def that keeps a promise -/
theorem DfM.make (D : DfM X.prog X.w X.K X.mg X.base CX0 C "__init__" k ps sp) (hmk : PySem.W.makesIn X.K C = true) (hkp : PySem.W.keepIn X.K (.ref C) = true) (hr : Room (k + 1) X.A) (hg : Gl X x) (hm : X.mg x = some (.ref C)) (ha : PA X (e :: es) t)
    (hdb : (x == ("__debug__" : Str)) = false := by decide) (he : starEach (e :: es) X.env = (false, eval e X.env) :: starEach es X.env := by rfl) (hpl : (backTo pos (starEach es X.env)).any (·.1) = false := by rfl) : PE X (.Call (.Name x p) (e :: es) [] pos) (tMake C sp [] E0 t) := by
  obtain ⟨f, fd, F, g, b⟩ := D.ex
  exact pe_make ⟨hmk, g.at_, g.fn, hkp⟩ F hr hg hm b .nil pass0 ha hdb he hpl
end
section eqs
variable {K : PySem.W.Frag} {σ : L2.St} {H : Hp} {Q : VK} {D : Ends} {ta tv : TE} {t : TA} {f m : Str} {C : Addr} {sp : Sp} {dvs : List V} {E : XK}
theorem q_fld : tFld K ta f σ H Q = ta σ H fun x H1 => ∃ a C dx fs v, x = .ref a ∧ H1 a = some (.ins C dx fs) ∧ Cls K C ∧ NoAttr K C f ∧ fs.lookup f = some v ∧ Q v H1 := rfl
theorem q_sfld : sFld K ta tv f D σ H = tv σ H fun y H1 => ta σ H1 fun x H2 => ∃ a C dx fs, x = .ref a ∧ H2 a = some (.ins C dx fs) ∧ Cls K C ∧ NoAttr K C f ∧ fs.length < 1000 ∧ D.nx σ (upd H2 a (.ins C dx (putF f y fs))) := rfl
theorem q_sfldaug {rd : V → V → Hp → VK → Prop} : sFldAug K ta tv rd f D σ H = ta σ H fun x H1 => ∃ a C dx fs v, x = .ref a ∧ H1 a = some (.ins C dx fs) ∧ Cls K C ∧ NoAttr K C f ∧ fs.lookup f = some v ∧
  tv σ H1 fun y H2 => rd v y H2 fun z H3 => ∃ dx' fs', H3 a = some (.ins C dx' fs') ∧ fs'.length < 1000 ∧ D.nx σ (upd H3 a (.ins C dx' (putF f z fs'))) := rfl
theorem q_meth : tMeth C m sp dvs E ta t σ H Q = ta σ H fun x H1 => ∃ a dx fs, x = .ref a ∧ H1 a = some (.ins C dx fs) ∧ fs.lookup m = none ∧ t σ H1 fun vs H2 => sp (x :: (vs ++ dvs)) H2 Q E := rfl
theorem q_par3 {i j l : Nat} : tPar3 i j l t D σ H = t σ H fun vs H1 => ∃ u v w, vs = [u, v, w] ∧ D.nx (((σ.set i (some u)).set j (some v)).set l (some w)) H1 := rfl
theorem q_make : tMake C sp dvs E t σ H Q = t σ H fun vs H1 => ∀ x dx, H1 x = none → H1 dx = none → dx ≠ x → sp (.ref x :: (vs ++ dvs)) (upd (upd H1 dx (.own x)) x (.ins C dx [])) (fun v H2 => v = .non ∧ Q (.ref x) H2) E := rfl
/-- what is left of a store, its value known -/
def StoreF (K : PySem.W.Frag) (i : Nat) (f : Str) (D : Ends) (σ : L2.St) (y : V) (H1 : Hp) : Prop := tVar i σ H1 fun x H2 => ∃ a C dx fs, x = .ref a ∧ H2 a = some (.ins C dx fs) ∧ Cls K C ∧ NoAttr K C f ∧ fs.length < 1000 ∧ D.nx σ (upd H2 a (.ins C dx (putF f y fs)))
theorem q_sfldV {i : Nat} : sFld K (tVar i) tv f D σ H = tv σ H fun y H1 => StoreF K i f D σ y H1 := rfl
theorem store_at {i : Nat} {h dx : Addr} {fs : List (Str × V)} {y : V} (hσ : σ[i]? = some (some (.ref h))) (h1 : H h = some (.ins C dx fs)) (cl : Cls K C) (na : NoAttr K C f) (hl : fs.length < 1000) (q : D.nx σ (upd H h (.ins C dx (putF f y fs)))) : StoreF K i f D σ y H :=
  ⟨_, hσ, h, C, dx, fs, rfl, h1, cl, na, hl, q⟩
theorem fld_at {i : Nat} {h dx : Addr} {fs : List (Str × V)} {v : V} (hσ : σ[i]? = some (some (.ref h))) (h1 : H h = some (.ins C dx fs)) (cl : Cls K C) (na : NoAttr K C f) (l : fs.lookup f = some v) (q : Q v H) : tFld K (tVar i) f σ H Q :=
  ⟨_, hσ, h, C, dx, fs, v, rfl, h1, cl, na, l, q⟩
theorem meth_at {i : Nat} {h dx : Addr} {fs : List (Str × V)} (hσ : σ[i]? = some (some (.ref h))) (h1 : H h = some (.ins C dx fs)) (l : fs.lookup m = none) (q : t σ H fun vs H2 => sp (.ref h :: (vs ++ dvs)) H2 Q E) : tMeth C m sp dvs E (tVar i) t σ H Q :=
  ⟨_, hσ, h, dx, fs, rfl, h1, l, q⟩
theorem aug_at {i : Nat} {rd : V → V → Hp → VK → Prop} {h dx : Addr} {fs : List (Str × V)} {v : V} (hσ : σ[i]? = some (some (.ref h))) (h1 : H h = some (.ins C dx fs)) (cl : Cls K C) (na : NoAttr K C f) (l : fs.lookup f = some v)
    (q : tv σ H fun y H2 => rd v y H2 fun z H3 => ∃ dx' fs', H3 h = some (.ins C dx' fs') ∧ fs'.length < 1000 ∧ D.nx σ (upd H3 h (.ins C dx' (putF f z fs')))) : sFldAug K (tVar i) tv rd f D σ H :=
  ⟨_, hσ, h, C, dx, fs, v, rfl, h1, cl, na, l, q⟩
end eqs
end Hx

set_option Elab.async false
set_option linter.all false
set_option maxRecDepth 100000
set_option maxHeartbeats 4000000
/-! Bytes: the reader of a plan. -/
namespace Hx
open PySem PySem.Spec PyProof.Rows L2
local macro_rules | `(tactic| walk_at "rd") => `(tactic| (try simp only [q_sfldV, q_make, q_par3, q_var, q_c, q_op, q_un, q_rI, q_rI0, q_rU, q_rEq, q_rNe, q_test, q_tB, q_and, q_or, q_not, q_andV, q_orV, q_notV, q_if, q_isN, q_notN, q_chain, q_next, q_seq, q_break, q_cont, q_drop, q_ret, q_retN, q_ifS, q_never, q_gN, q_gNil, q_gCons, q_gTup, q_gSub, q_asg, q_par, q_aug, q_nil, q_cons, q_tup, q_lst, q_call, q_cb, q_noPart, q_part, q_sl, q_bm0, q_bm, q_yes, q_for, q_lc, q_iList, q_iTup, q_iRng1, q_iEnumT, q_iEnum, q_iRng2, q_iZipA, q_iZipM, q_ipI, q_ckw, q_len, q_listOf, q_tupleOf, L2.start, cx_K, wipe, List.map_cons, List.map_nil, List.length_cons, List.length_nil, List.cons_append, List.nil_append, List.append_nil, List.replicate, List.getElem?_cons_zero, List.getElem?_cons_succ, List.set_cons_zero, List.set_cons_succ, Option.some.injEq, List.cons.injEq, exists_eq_left', exists_eq_left, exists_and_left, V.int.injEq, V.bl.injEq, V.ref.injEq, if_true, if_false, Bool.not_true, Bool.not_false, true_and, and_true, Bool.false_eq_true, ite_true, ite_false, Nat.reduceAdd, Nat.reduceSub, reduceCtorEq, decide_false, decide_true, Int.toNat_natCast, false_and, exists_false, or_false, false_or]))
structure ClsR (K : PySem.W.Frag) (mg : Str → Option Value) (C : Addr) : Prop where
  cl : Cls K C
  makes : PySem.W.makesIn K C = true
  kp : PySem.W.keepIn K (.ref C) = true
  mg : mg "Reader" = some (.ref C)
  nD : NoAttr K C "data"
  nO : NoAttr K C "offset"
def rdF (B : List Int) (o : Nat) : List (Str × V) := [("data", .byt (byteArr B)), ("offset", .int (o : Nat))]
theorem rd_d (B : List Int) (o : Nat) : (rdF B o).lookup ("data" : Str) = some (.byt (byteArr B)) := rfl
theorem rd_o (B : List Int) (o : Nat) : (rdF B o).lookup ("offset" : Str) = some (.int (o : Nat)) := rfl
theorem drop_at {B : List Int} {o : Nat} {b : Int} {r : List Int} (h : B.drop o = b :: r) : B[o]? = some b ∧ B.drop (o + 1) = r := by
  have h1 : B[o]? = some b := by
    have := congrArg (fun l => l[0]?) h
    simpa using this
  refine ⟨h1, ?_⟩
  have := congrArg (List.drop 1) h
  rw [List.drop_drop] at this
  exact this
theorem drop_app {B : List Int} {o : Nat} {a r : List Int} (h : B.drop o = a ++ r) : B.drop (o + a.length) = r := by
  have := congrArg (List.drop a.length) h
  rw [List.drop_drop, List.drop_left] at this
  exact this
section
variable {P : Program} {w : World} {K : PySem.W.Frag} {mg : Str → Option Value} {base : Heap} {C : Addr}
def s_Reader___init__ : Stmt := inClass (topS 44) 0
abbrev n_Reader___init__ : List Str := ["self", "data"]
abbrev p_Reader___init__ : List Str := ["self", "data"]
theorem sc_Reader___init__ : FnScope n_Reader___init__ p_Reader___init__ (defScope s_Reader___init__) := ⟨rfl, rfl, rfl, by decide +kernel, rfl, by decide +kernel, by decide +kernel⟩
def sp_Reader___init__ (C : Addr) : Sp := fun vs H Q _ => ∃ (r dx : Addr) (B : List Int), vs = [.ref r, .byt (byteArr B)] ∧ H r = some (.ins C dx []) ∧ Q .non (upd (upd H r (.ins C dx [("data", .byt (byteArr B))])) r (.ins C dx (rdF B 0)))
theorem df_Reader___init__ (T : HereM K C "__init__" "Reader.__init__" s_Reader___init__) (TReader : ClsR K mg C) : DfM P w K mg base CX0 C "__init__" 1 p_Reader___init__ (sp_Reader___init__ C) := by
  refine T.df sc_Reader___init__ (fun _ _ _ _ _ _ us hl => match us, hl with | [_, _], _ => rfl) (fun vs H Q E h => by obtain ⟨_, _, _, rfl, _⟩ := h; rfl) (fun f cdv A outer s H vs Q E hr h => ?_)
  obtain ⟨r, dx, B, rfl, h1, q⟩ := h
  refine ⟨_, pss_cons (ps_fld (pv 0) (pv 1) rfl)
      (pss_one (ps_fld (pv 0) (pe_int) rfl)), ?_⟩
  walk_at "rd"
  refine store_at rfl h1 TReader.cl TReader.nD (show 0 < 1000 by decide) ?_
  walk_at "rd"
  refine store_at rfl upd_same TReader.cl TReader.nO (show 1 < 1000 by decide) ?_
  walk_at "rd"
  exact q
def s_Reader_read_byte : Stmt := inClass (topS 44) 1
abbrev n_Reader_read_byte : List Str := ["self", "low", "high", "byte"]
abbrev p_Reader_read_byte : List Str := ["self", "low", "high"]
theorem sc_Reader_read_byte : FnScope n_Reader_read_byte p_Reader_read_byte (defScope s_Reader_read_byte) := ⟨rfl, rfl, rfl, by decide +kernel, rfl, by decide +kernel, by decide +kernel⟩
def sp_Reader_read_byte (C : Addr) : Sp := fun vs H Q _ => ∃ (r dx : Addr) (B : List Int) (o : Nat) (b lo hi : Int), vs = [.ref r, .int lo, .int hi] ∧ H r = some (.ins C dx (rdF B o)) ∧ B8 B ∧ B.length ≤ 100000 ∧ B[o]? = some b ∧ lo ≤ b ∧ b ≤ hi ∧ Q (.int b) (upd H r (.ins C dx (rdF B (o + 1))))
theorem df_Reader_read_byte (T : HereM K C "read_byte" "Reader.read_byte" s_Reader_read_byte) (TReader : ClsR K mg C) (B : Blt mg) : DfM P w K mg base CX0 C "read_byte" 1 p_Reader_read_byte (sp_Reader_read_byte C) := by
  refine T.df sc_Reader_read_byte (fun _ _ _ _ _ _ us hl => match us, hl with | [_, _, _], _ => rfl) (fun vs H Q E h => by obtain ⟨_, _, _, _, _, _, _, rfl, _⟩ := h; rfl) (fun f cdv A outer s H vs Q E hr h => ?_)
  obtain ⟨r, dx, bs, o, b, lo, hi, rfl, h1, h8, hl, hb, hlo, hhi, q⟩ := h
  refine ⟨_, pss_cons (ps_if (pt_cmpR op_eq (pe_fld (pv 0) rfl) (pe_callB call_len (by rfl) B.len (by decide +kernel) (pa_cons (pe_fld (pv 0) rfl) pa_nil)) (nomark _)) (pss_one (ps_never)) (pss_nil))
      (pss_cons (ps_set (i := 3) sc_Reader_read_byte.nd rfl (by first | exact Or.inl rfl | exact Or.inr rfl) (pe_item_byt (pe_fld (pv 0) rfl) (pe_fld (pv 0) rfl) (fun _ _ => rfl)))
      (pss_cons (ps_if (pt_not (pt_chain op_le op_le (pv 1) (pv 3) (pv 2))) (pss_one (ps_never)) (pss_nil))
      (pss_cons (ps_fldaug (pv 0) (pe_int) in_add)
      (pss_one (ps_ret (pv 3)))))), ?_⟩
  have hz : 1000000 ≤ sizeLine := by decide
  have ho : o < bs.length := (List.getElem?_eq_some_iff.mp hb).1
  have hsz : (byteArr bs).size = bs.length := byteArr_size bs
  walk_at "rd"
  refine fld_at rfl h1 TReader.cl TReader.nO (rd_o _ _) (fld_at rfl h1 TReader.cl TReader.nD (rd_d _ _) ?_)
  walk_at "rd"
  refine ⟨bs.length, ⟨by rw [hsz]; omega, hsz.symm⟩, rfl, ?_⟩
  rw [if_neg (by rw [decide_eq_true_iff]; omega)]
  refine fld_at rfl h1 TReader.cl TReader.nD (rd_d _ _) (fld_at rfl h1 TReader.cl TReader.nO (rd_o _ _) ?_)
  have hbb := h8 b (List.mem_of_getElem? hb)
  have hge : (((bs.map fun (n : Int) => n.toNat.toUInt8).getD o 0).toNat : Int) = b := by
    rw [List.getD_eq_getElem?_getD, List.getElem?_map, hb]
    show ((b.toNat.toUInt8).toNat : Int) = b
    rw [Nat.toUInt8, UInt8.toNat_ofNat']
    omega
  refine ⟨bs.map fun (n : Int) => n.toNat.toUInt8, rfl, (o : Int), rfl, by rw [List.length_map]; omega, by omega, by rw [List.length_map]; omega, ?_⟩
  rw [Int.toNat_natCast, hge, if_pos (decide_eq_true hlo), if_neg (by rw [decide_eq_true hhi]; decide)]
  refine aug_at rfl h1 TReader.cl TReader.nO (rd_o _ _) ?_
  walk_at "rd"
  refine ⟨_, _, rfl, rfl, dx, rdF bs o, h1, by show 2 < 1000; omega, ?_⟩
  exact q
def s_Reader_read_natural : Stmt := inClass (topS 44) 2
abbrev n_Reader_read_natural : List Str := ["self", "start", "number", "place", "byte"]
abbrev p_Reader_read_natural : List Str := ["self"]
theorem sc_Reader_read_natural : FnScope n_Reader_read_natural p_Reader_read_natural (defScope s_Reader_read_natural) := ⟨rfl, rfl, rfl, by decide +kernel, rfl, by decide +kernel, by decide +kernel⟩
def sp_Reader_read_natural (C : Addr) : Sp := fun vs H Q _ => ∃ (r dx : Addr) (B rest : List Int) (o n : Nat), vs = [.ref r] ∧ H r = some (.ins C dx (rdF B o)) ∧ B8 B ∧ B.length ≤ 100000 ∧ B.drop o = gN n ++ rest ∧ n < 2097152 ∧ ∀ H', But r H H' → H' r = some (.ins C dx (rdF B (o + (gN n).length))) → Q (.int (n : Nat)) H'
theorem df_Reader_read_natural (T : HereM K C "read_natural" "Reader.read_natural" s_Reader_read_natural) (TReader : ClsR K mg C) (B : Blt mg) (C_MOST_GROUPS : ∃ u, mg "MOST_GROUPS" = some (.int 3 u)) (D_Reader_read_byte : DfM P w K mg base CX0 C "read_byte" 1 p_Reader_read_byte (sp_Reader_read_byte C)) : DfM P w K mg base CX0 C "read_natural" 2 p_Reader_read_natural (sp_Reader_read_natural C) := by
  refine T.df sc_Reader_read_natural (fun _ _ _ _ _ _ us hl => match us, hl with | [_], _ => rfl) (fun vs H Q E h => by obtain ⟨_, _, _, _, _, _, rfl, _⟩ := h; rfl) (fun f cdv A outer s H vs Q E hr h => ?_)
  obtain ⟨r, dx, bs, rest, o, n, rfl, h1, h8, hl, hd, hn, q⟩ := h
  refine ⟨_, pss_cons (ps_set (i := 1) sc_Reader_read_natural.nd rfl (by first | exact Or.inl rfl | exact Or.inr rfl) (pe_fld (pv 0) rfl))
      (pss_cons (ps_set (i := 2) sc_Reader_read_natural.nd rfl (by first | exact Or.inl rfl | exact Or.inr rfl) (pe_int))
      (pss_cons (ps_for PassesOwn.never rfl (pi_range1 (by rfl) B.range (pa_cons (pe_gi (by rfl) C_MOST_GROUPS) pa_nil)) (pg_name (i := 3) sc_Reader_read_natural.nd rfl (by first | exact Or.inl rfl | exact Or.inr rfl)) (pss_cons (ps_set (i := 4) sc_Reader_read_natural.nd rfl (by first | exact Or.inl rfl | exact Or.inr rfl) (D_Reader_read_byte.call TReader.cl (hr.mono (by decide)) (pv 0) (pa_cons (pe_int) (pa_cons (pe_ifExp (pt_cmpR op_eq (pv 3) (pe_op op_sub (pe_gi (by rfl) C_MOST_GROUPS) (pe_int)) (nomark _)) (pe_int) (pe_int)) pa_nil))))
      (pss_cons (ps_aug (i := 2) sc_Reader_read_natural.nd rfl (by first | exact Or.inl rfl | exact Or.inr rfl) (pe_op op_shl (pe_op op_and (pv 4) (pe_int)) (pe_op op_mul (pe_int) (pv 3))) ip_add)
      (pss_cons (ps_if (PW.pt (pw_and (pt_cmpR op_eq (pv 4) (pe_int) (nomark _)) (pw_and1 (pt_cmpR op_gt (pv 3) (pe_int) (nomark _))))) (pss_one (ps_never)) (pss_nil))
      (pss_one (ps_if (pt_cmpR op_lt (pv 4) (pe_int) (nomark _)) (pss_one (ps_break)) (pss_nil)))))))
      (pss_one (ps_ret (pv 2))))), ?_⟩
  walk_at "rd"
  refine fld_at rfl h1 TReader.cl TReader.nO (rd_o _ _) ?_
  walk_at "rd"
  refine ⟨by omega, by omega, ?_⟩
  have e3 : (3 : Int).toNat = 3 := rfl
  rw [e3]
  obtain ⟨W, eW⟩ : ∃ W : Nat → L2.St → Hp → Prop, W = fun p σ H' => ∃ (x3 x4 : Option V) (m k : Nat), σ = [some (.ref r), some (.int (o : Nat)), some (.int (k : Nat)), x3, x4] ∧ But r H H' ∧ (∃ o', H' r = some (.ins C dx (rdF bs o')) ∧ bs.drop o' = gN m ++ rest ∧ o' + (gN m).length = o + (gN n).length) ∧ k + 128 ^ p * m = n ∧ m * 128 ^ p ≤ n ∧ (0 < p → 0 < m) ∧ p ≤ 3 := ⟨_, rfl⟩
  refine forRange W (by rw [eW]; exact ⟨_, _, n, 0, rfl, .refl _ _, ⟨o, h1, hd, rfl⟩, by omega, by omega, fun z => absurd z (Nat.lt_irrefl _), by omega⟩) (fun p σ H' hp hPv => ?_) (fun σ H' hPv => ?_) <;> rw [eW] at hPv
  · obtain ⟨x3, x4, m, k, rfl, bu, ⟨o', hr1, hd1, ho1⟩, hk, hm, hpm, _⟩ := hPv
    walk_at "rd"
    have hm128 : p = 2 → m < 128 := fun z => by
      rw [z] at hm
      have : m * 128 ^ 2 ≤ n := hm
      omega
    have hbyte : ∃ b : Nat, bs[o']? = some (b : Int) ∧ b < 256 ∧ (p = 2 → b < 128) ∧ ((m < 128 ∧ b = m ∧ bs.drop (o' + 1) = rest ∧ o' + 1 = o + (gN n).length) ∨ (128 ≤ m ∧ b = 128 + m % 128 ∧ bs.drop (o' + 1) = gN (m / 128) ++ rest ∧ o' + 1 + (gN (m / 128)).length = o + (gN n).length)) := by
      by_cases hlt : m < 128
      · rw [gN_lt hlt] at hd1 ho1
        obtain ⟨z1, z2⟩ := drop_at hd1
        exact ⟨m, z1, by omega, fun _ => hlt, .inl ⟨hlt, rfl, z2, ho1⟩⟩
      · rw [gN_ge (by omega)] at hd1 ho1
        obtain ⟨z1, z2⟩ := drop_at hd1
        rw [List.length_cons] at ho1
        exact ⟨128 + m % 128, by rw [z1]; congr 1, by omega, fun z => absurd (hm128 z) hlt, .inr ⟨by omega, rfl, z2, by omega⟩⟩
    obtain ⟨b, hb1, hb2, hb3, hb4⟩ := hbyte
    have hpw : (2 : Int) ^ (7 * (p : Int)).toNat = ((128 ^ p : Nat) : Int) := by
      match p, hp with
      | 0, _ => rfl
      | 1, _ => rfl
      | 2, _ => rfl
    have fin : ∀ H2, H2 = upd H' r (.ins C dx (rdF bs (o' + 1))) → (rI0 (fun i j => V.int (Builtin.bitAnd i j)) (V.int (b : Nat)) (V.int 127) H2 fun x_1 H1 =>
      CMul 7 ↑p ∧
        rI CPow (fun i j => V.int (i * 2 ^ j.toNat)) x_1 (V.int (7 * ↑p)) H1 fun y H1 =>
          ipI (fun i j => i + j) (V.int ↑k) y H1 fun z H2 =>
            scal (V.int (b : Nat)) (V.int 0) = true ∧
              if decide (V.int (b : Nat) = V.int 0) = true then
                if decide (0 < (p : Int)) = true then False
                else
                  rI0 (fun i j => V.bl (decide (i < j))) (V.int (b : Nat)) (V.int 128) H2 fun x_2 H' =>
                    ∃ k, x_2 = V.bl k ∧ if k = true then Q z H' else W (p + 1) [some (V.ref r), some (V.int ↑o), some z, some (V.int ↑p), some (V.int (b : Nat))] H'
              else
                rI0 (fun i j => V.bl (decide (i < j))) (V.int (b : Nat)) (V.int 128) H2 fun x_2 H' =>
                  ∃ k, x_2 = V.bl k ∧ if k = true then Q z H' else W (p + 1) [some (V.ref r), some (V.int ↑o), some z, some (V.int ↑p), some (V.int (b : Nat))] H') := by
      rintro H2 rfl
      refine ⟨_, _, rfl, rfl, .inl ⟨by omega, by omega⟩, _, _, rfl, rfl, ⟨by omega, by omega, ?_⟩, _, _, rfl, rfl, rfl, ?_⟩
      · rw [and127]
        have := Nat.mod_lt b (show 0 < 128 by decide)
        omega
      rw [and127, hpw]
      have bu2 : But r H (upd H' r (.ins C dx (rdF bs (o' + 1)))) := bu.trans (but_upd (a := r))
      have tail : rI0 (fun i j => V.bl (decide (i < j))) (V.int (b : Nat)) (V.int 128) (upd H' r (.ins C dx (rdF bs (o' + 1)))) fun x_2 H' =>
                  ∃ kk, x_2 = V.bl kk ∧ if kk = true then Q (V.int ((k : Int) + ((b % 128 : Nat) : Int) * ((128 ^ p : Nat) : Int))) H' else W (p + 1) [some (V.ref r), some (V.int ↑o), some (V.int ((k : Int) + ((b % 128 : Nat) : Int) * ((128 ^ p : Nat) : Int))), some (V.int ↑p), some (V.int (b : Nat))] H' := by
        refine ⟨_, _, rfl, rfl, _, rfl, ?_⟩
        rcases hb4 with ⟨a1, rfl, a3, a4⟩ | ⟨a1, a2, a3, a4⟩
        · rw [if_pos (decide_eq_true (by omega))]
          have e : (k : Int) + ((b % 128 : Nat) : Int) * ((128 ^ p : Nat) : Int) = (n : Nat) := by
            rw [Nat.mod_eq_of_lt a1, ← hk]
            push_cast
            rw [Int.mul_comm]
          rw [e]
          exact q _ bu2 (by rw [upd_same, a4])
        · rw [if_neg (by rw [decide_eq_true_iff]; omega)]
          have eb : b % 128 = m % 128 := by omega
          have e : (k : Int) + ((b % 128 : Nat) : Int) * ((128 ^ p : Nat) : Int) = ((k + m % 128 * 128 ^ p : Nat) : Int) := by
            rw [eb]
            push_cast
            rfl
          have hdm := Nat.div_add_mod m 128
          have hsplit : 128 ^ (p + 1) * (m / 128) + m % 128 * 128 ^ p = 128 ^ p * m := by
            rw [Nat.pow_succ, Nat.mul_assoc, Nat.mul_comm (m % 128), ← Nat.mul_add, hdm]
          rw [e, eW]
          refine ⟨_, _, m / 128, k + m % 128 * 128 ^ p, rfl, bu2, ⟨o' + 1, upd_same, a3, a4⟩, by omega, ?_, fun _ => by omega, by omega⟩
          rw [Nat.mul_comm]
          have := Nat.mul_comm m (128 ^ p)
          omega
      by_cases hb0 : b = 0
      · subst hb0
        have hp0 : p = 0 := by
          rcases hb4 with ⟨_, a2, _⟩ | ⟨a1, a2, _⟩
          · refine Classical.byContradiction fun z => ?_
            have := hpm (by omega)
            omega
          · omega
        subst hp0
        rw [if_pos (show decide (V.int ((0 : Nat) : Int) = V.int 0) = true from decide_eq_true rfl), if_neg (show ¬ decide (0 < ((0 : Nat) : Int)) = true by decide)]
        exact tail
      · rw [if_neg (fun z => hb0 (by have := of_decide_eq_true z; injection this; omega))]
        exact tail
    refine meth_at rfl hr1 rfl ?_
    walk_at "rd"
    refine ⟨rfl, ?_⟩
    by_cases hp2 : p = 2
    · subst hp2
      rw [if_pos (by decide)]
      exact ⟨r, dx, bs, o', b, 0, 127, rfl, hr1, h8, hl, hb1, by omega, by have := hb3 rfl; omega, fin _ rfl⟩
    · rw [if_neg (fun z => hp2 (by have z := of_decide_eq_true z; first | omega | (injection z with z; omega)))]
      exact ⟨r, dx, bs, o', b, 0, 255, rfl, hr1, h8, hl, hb1, by omega, by omega, fin _ rfl⟩
  · obtain ⟨x3, x4, m, k, rfl, bu, _, hk, hm, hpm, _⟩ := hPv
    have h3 := hpm (by decide)
    have : m * 128 ^ 3 ≤ n := hm
    omega
def s_Reader_read_integer : Stmt := inClass (topS 44) 3
abbrev n_Reader_read_integer : List Str := ["self", "base", "limit", "start", "code", "number"]
abbrev p_Reader_read_integer : List Str := ["self", "base", "limit"]
theorem sc_Reader_read_integer : FnScope n_Reader_read_integer p_Reader_read_integer (defScope s_Reader_read_integer) := ⟨rfl, rfl, rfl, by decide +kernel, rfl, by decide +kernel, by decide +kernel⟩
def sp_Reader_read_integer (C : Addr) : Sp := fun vs H Q _ => ∃ (r dx : Addr) (B rest : List Int) (o : Nat) (d b lim : Int), vs = [.ref r, .int b, .int lim] ∧ H r = some (.ins C dx (rdF B o)) ∧ B8 B ∧ B.length ≤ 100000 ∧ B.drop o = intG d ++ rest ∧ d.natAbs ≤ 100000 ∧ -lim ≤ b + d ∧ b + d ≤ lim ∧ ∀ H', But r H H' → H' r = some (.ins C dx (rdF B (o + (intG d).length))) → Q (.int (b + d)) H'
theorem df_Reader_read_integer (T : HereM K C "read_integer" "Reader.read_integer" s_Reader_read_integer) (TReader : ClsR K mg C) (D_Reader_read_natural : DfM P w K mg base CX0 C "read_natural" 2 p_Reader_read_natural (sp_Reader_read_natural C)) : DfM P w K mg base CX0 C "read_integer" 3 p_Reader_read_integer (sp_Reader_read_integer C) := by
  refine T.df sc_Reader_read_integer (fun _ _ _ _ _ _ us hl => match us, hl with | [_, _, _], _ => rfl) (fun vs H Q E h => by obtain ⟨_, _, _, _, _, _, _, _, rfl, _⟩ := h; rfl) (fun f cdv A outer s H vs Q E hr h => ?_)
  obtain ⟨r, dx, bs, rest, o, d, b, lim, rfl, h1, h8, hl, hd, hd1, hlo, hhi, q⟩ := h
  refine ⟨_, pss_cons (ps_set (i := 3) sc_Reader_read_integer.nd rfl (by first | exact Or.inl rfl | exact Or.inr rfl) (pe_fld (pv 0) rfl))
      (pss_cons (ps_set (i := 4) sc_Reader_read_integer.nd rfl (by first | exact Or.inl rfl | exact Or.inr rfl) (D_Reader_read_natural.call0 TReader.cl (hr.mono (by decide)) (pv 0)))
      (pss_cons (ps_set (i := 5) sc_Reader_read_integer.nd rfl (by first | exact Or.inl rfl | exact Or.inr rfl) (pe_op op_add (pv 1) (pe_op op_fdivN (pv 4) (pe_int))))
      (pss_cons (ps_if (pt_cmpR op_eq (pe_op op_and (pv 4) (pe_int)) (pe_int) (nomark _)) (pss_one (ps_set (i := 5) sc_Reader_read_integer.nd rfl (by first | exact Or.inl rfl | exact Or.inr rfl) (pe_op op_sub (pv 1) (pe_op op_fdivN (pe_op op_add (pv 4) (pe_int)) (pe_int))))) (pss_nil))
      (pss_cons (ps_if (pt_not (pt_chain op_le op_le (pe_un un_neg (pv 2)) (pv 5) (pv 2))) (pss_one (ps_never)) (pss_nil))
      (pss_one (ps_ret (pv 5))))))), ?_⟩
  have hz := zz_lt hd1
  walk_at "rd"
  refine fld_at rfl h1 TReader.cl TReader.nO (rd_o _ _) ?_
  walk_at "rd"
  refine meth_at rfl h1 rfl ?_
  walk_at "rd"
  refine ⟨r, dx, bs, rest, o, zz d, rfl, h1, h8, hl, hd, hz, fun H' bu hr' => ?_⟩
  have qq := q H' bu hr'
  walk_at "rd"
  rw [and1]
  have c2 : CDivN ((zz d : Nat) : Int) 2 := ⟨by omega, by omega⟩
  have c3 : CDivN (((zz d : Nat) : Int) + 1) 2 := ⟨by omega, by omega⟩
  refine ⟨c2, rfl, ?_⟩
  rw [Int.fdiv_eq_ediv_of_nonneg _ (by decide), Int.fdiv_eq_ediv_of_nonneg _ (by decide)]
  by_cases h0 : d < 0
  · have ez : ((zz d : Nat) : Int) = -2 * d - 1 := by
      unfold zz
      rw [if_pos h0]
      omega
    have e1 : b - (((zz d : Nat) : Int) + 1) / 2 = b + d := by omega
    rw [if_pos (decide_eq_true (by omega)), e1]
    refine ⟨c3, ?_⟩
    rw [if_pos (decide_eq_true hlo), if_neg (by rw [decide_eq_true hhi]; decide)]
    exact qq
  · have ez : ((zz d : Nat) : Int) = 2 * d := by
      unfold zz
      rw [if_neg h0]
      omega
    have e1 : b + ((zz d : Nat) : Int) / 2 = b + d := by omega
    rw [if_neg (by rw [decide_eq_true_iff]; omega), e1]
    rw [if_pos (decide_eq_true hlo), if_neg (by rw [decide_eq_true hhi]; decide)]
    exact qq
def s_Reader_read_end : Stmt := inClass (topS 44) 4
abbrev n_Reader_read_end : List Str := ["self", "total"]
abbrev p_Reader_read_end : List Str := ["self"]
theorem sc_Reader_read_end : FnScope n_Reader_read_end p_Reader_read_end (defScope s_Reader_read_end) := ⟨rfl, rfl, rfl, by decide +kernel, rfl, by decide +kernel, by decide +kernel⟩
def sp_Reader_read_end (C : Addr) : Sp := fun vs H Q _ => ∃ (r dx : Addr) (body : List Int), vs = [.ref r] ∧ H r = some (.ins C dx (rdF (body ++ [body.sum.fmod 251]) body.length)) ∧ B8 body ∧ body.length ≤ 10000 ∧ ∀ H', But r H H' → Q .non H'
theorem df_Reader_read_end (T : HereM K C "read_end" "Reader.read_end" s_Reader_read_end) (TReader : ClsR K mg C) (B : Blt mg) (B2 : Blt2 mg) (C_CHECK_MODULUS : ∃ u, mg "CHECK_MODULUS" = some (.int 251 u)) (D_Reader_read_byte : DfM P w K mg base CX0 C "read_byte" 1 p_Reader_read_byte (sp_Reader_read_byte C)) : DfM P w K mg base CX0 C "read_end" 2 p_Reader_read_end (sp_Reader_read_end C) := by
  refine T.df sc_Reader_read_end (fun _ _ _ _ _ _ us hl => match us, hl with | [_], _ => rfl) (fun vs H Q E h => by obtain ⟨_, _, _, rfl, _⟩ := h; rfl) (fun f cdv A outer s H vs Q E hr h => ?_)
  obtain ⟨r, dx, body, rfl, h1, h8, hl, q⟩ := h
  refine ⟨_, pss_cons (ps_set (i := 1) sc_Reader_read_end.nd rfl (by first | exact Or.inl rfl | exact Or.inr rfl) (pe_op op_modN (pe_callB (call_sum_byt rfl) (by rfl) B2.sum (by decide +kernel) (pa_cons (pe_slice sl_byt (pe_fld (pv 0) rfl) po_none (po_some (pe_fld (pv 0) rfl))) pa_nil)) (pe_gi (by rfl) C_CHECK_MODULUS)))
      (pss_cons (ps_expr (D_Reader_read_byte.call TReader.cl (hr.mono (by decide)) (pv 0) (pa_cons (pv 1) (pa_cons (pv 1) pa_nil))))
      (pss_one (ps_if (pt_cmpR op_lt (pe_fld (pv 0) rfl) (pe_callB call_len (by rfl) B.len (by decide +kernel) (pa_cons (pe_fld (pv 0) rfl) pa_nil)) (nomark _)) (pss_one (ps_never)) (pss_nil)))), ?_⟩
  have hz : 1000000 ≤ sizeLine := by decide
  walk_at "rd"
  have hc8 := fmod_251 body.sum
  obtain ⟨cc, hcc⟩ : ∃ cc, body.sum.fmod 251 = cc := ⟨_, rfl⟩
  rw [hcc] at h1 hc8 
  obtain ⟨bs, hbs⟩ : ∃ bs, body ++ [cc] = bs := ⟨_, rfl⟩
  rw [hbs] at h1
  have hbl : bs.length = body.length + 1 := by rw [← hbs, List.length_append]; rfl
  have h88 : B8 bs := by
    rw [← hbs]
    exact B8_app h8 fun x hx => by rw [List.mem_singleton.mp hx]; omega
  have hsz : (byteArr bs).size = bs.length := byteArr_size bs
  have hat : bs[body.length]? = some cc := by
    rw [← hbs, List.getElem?_append_right (Nat.le_refl _), Nat.sub_self]
    rfl
  refine fld_at rfl h1 TReader.cl TReader.nD (rd_d _ _) ?_
  refine fld_at rfl h1 TReader.cl TReader.nO (rd_o _ _) ?_
  walk_at "rd"
  refine ⟨_, rfl, by rw [hsz]; omega, ?_⟩
  refine ⟨body, by rw [byteArr_upto (by omega), ← hbs, List.take_left], h8, by decide, ?_⟩
  rw [hcc]
  refine meth_at rfl h1 rfl ?_
  walk_at "rd"
  refine ⟨r, dx, bs, body.length, cc, cc, cc, rfl, h1, h88, by omega, hat, Int.le_refl _, Int.le_refl _, ?_⟩
  refine fld_at rfl upd_same TReader.cl TReader.nO (rd_o _ _) (fld_at rfl upd_same TReader.cl TReader.nD (rd_d _ _) ?_)
  refine ⟨bs.length, ⟨by rw [hsz]; omega, hsz.symm⟩, _, _, rfl, rfl, false, ?_, ?_⟩
  · show V.bl (decide _) = V.bl false
    rw [decide_eq_false (by omega)]
  · rw [if_neg (by decide)]
    exact q _ (but_upd (a := r))
end
end Hx

set_option Elab.async false
set_option linter.all false
set_option maxRecDepth 100000
set_option maxHeartbeats 4000000
/-! Bytes: decode_plan. -/
namespace Hx
open PySem PySem.Spec PyProof.Rows L2
local macro_rules | `(tactic| walk_at "rd") => `(tactic| (try simp only [q_sfldV, q_make, q_par3, q_var, q_c, q_op, q_un, q_rI, q_rI0, q_rU, q_rEq, q_rNe, q_test, q_tB, q_and, q_or, q_not, q_andV, q_orV, q_notV, q_if, q_isN, q_notN, q_chain, q_next, q_seq, q_break, q_cont, q_drop, q_ret, q_retN, q_ifS, q_never, q_gN, q_gNil, q_gCons, q_gTup, q_gSub, q_asg, q_par, q_aug, q_nil, q_cons, q_tup, q_lst, q_call, q_cb, q_noPart, q_part, q_sl, q_bm0, q_bm, q_yes, q_for, q_lc, q_iList, q_iTup, q_iRng1, q_iEnumT, q_iEnum, q_iRng2, q_iZipA, q_iZipM, q_ipI, q_ckw, q_len, q_listOf, q_tupleOf, L2.start, cx_K, wipe, List.map_cons, List.map_nil, List.length_cons, List.length_nil, List.cons_append, List.nil_append, List.append_nil, List.replicate, List.getElem?_cons_zero, List.getElem?_cons_succ, List.set_cons_zero, List.set_cons_succ, Option.some.injEq, List.cons.injEq, exists_eq_left', exists_eq_left, exists_and_left, V.int.injEq, V.bl.injEq, V.ref.injEq, if_true, if_false, Bool.not_true, Bool.not_false, true_and, and_true, Bool.false_eq_true, ite_true, ite_false, Nat.reduceAdd, Nat.reduceSub, reduceCtorEq, decide_false, decide_true, Int.toNat_natCast, false_and, exists_false, or_false, false_or]))
def oRopeY (r : Rope) : HO := .tup [.int r.f, .int r.r, .int r.l]
theorem ObjsTs.butI {α : Type} {o : α → HO} {H H' : Hp} {a l C dx : Addr} {fs : List (Str × V)} {ts : List Addr} {xs : List α} (h : ObjsTs o H l ts xs) (e : But a H H') (ha : H a = some (.ins C dx fs)) (ho : ∀ x C dx fs, o x ≠ .ins C dx fs) : ObjsTs o H' l ts xs := by
  refine ⟨e _ _ (fun z => by have := h.top; rw [z, ha] at this; cases this) h.top, h.len, h.out, fun i t x h1 h2 => ?_⟩
  have h3 := h.obj i t x h1 h2
  exact e _ _ (fun z => by rw [z, ha] at h3; exact ho x C dx fs (Option.some.inj h3).symm) h3
theorem sqt_butI {K : PySem.W.Frag} {H H' : Hp} {a C dx c : Addr} {fs : List (Str × V)} {xs : List V} (h : SqT K H c xs) (e : But a H H') (ha : H a = some (.ins C dx fs)) : SqT K H' c xs := by
  rcases h with (h | ⟨o, h⟩) | h
  · exact .inl (.inl (e _ _ (fun z => by rw [z, ha] at h; cases h) h))
  · exact .inl (.inr ⟨o, e _ _ (fun z => by rw [z, ha] at h; cases h) h⟩)
  · exact .inr h
section
variable {P : Program} {w : World} {K : PySem.W.Frag} {mg : Str → Option Value} {base : Heap} {C : Addr}
def s_read_ropes : Stmt := topS 42
abbrev n_read_ropes : List Str := ["reader", "count", "ropes", "_", "front", "start", "rear"]
abbrev p_read_ropes : List Str := ["reader", "count"]
theorem sc_read_ropes : FnScope n_read_ropes p_read_ropes (defScope s_read_ropes) := ⟨rfl, rfl, rfl, by decide +kernel, rfl, by decide +kernel, by decide +kernel⟩
def sp_read_ropes (C : Addr) : Sp := fun vs H Q _ => ∃ (r dx : Addr) (B rest : List Int) (o n : Nat) (rs : List Rope), vs = [.ref r, .int (n : Nat)] ∧ H r = some (.ins C dx (rdF B o)) ∧ B8 B ∧ B.length ≤ 100000 ∧ B.drop o = (rs.length : Int) :: (rs.flatMap ropeB ++ rest) ∧ rs.length ≤ 40 ∧ (∀ x ∈ rs, RopeOk n x) ∧ n ≤ 8 ∧
  ∀ H' t (us : List Addr), But r H H' → H t = none → H' r = some (.ins C dx (rdF B (o + 1 + (rs.flatMap ropeB).length))) → H' t = some (.tup (us.map V.ref)) → us.length = rs.length → (∀ (i : Nat) y x, us[i]? = some y → rs[i]? = some x → H' y = some (oRopeY x)) → Q (.ref t) H'
theorem df_read_ropes (T : Here K mg "read_ropes" s_read_ropes) (TReader : ClsR K mg C) (B : Blt mg) (C_MOST_ROPES : ∃ u, mg "MOST_ROPES" = some (.int 40 u)) (C_LONGEST : ∃ u, mg "LONGEST" = some (.int 99 u)) (D_Reader_read_byte : DfM P w K mg base CX0 C "read_byte" 1 p_Reader_read_byte (sp_Reader_read_byte C)) (D_Reader_read_integer : DfM P w K mg base CX0 C "read_integer" 3 p_Reader_read_integer (sp_Reader_read_integer C)) : Df P w K mg base CX0 "read_ropes" 4 p_read_ropes (sp_read_ropes C) := by
  refine T.df sc_read_ropes (fun _ _ _ _ _ _ us hl => match us, hl with | [_, _], _ => rfl) (fun vs H Q E h => by obtain ⟨_, _, _, _, _, _, _, rfl, _⟩ := h; rfl) (fun f cdv A outer s H vs Q E hr h => ?_)
  obtain ⟨r, dx, bs, rest, o, n, rs, rfl, h1, h8, hl, hd, h40, hok, hn8, q⟩ := h
  refine ⟨_, pss_cons (ps_set (i := 2) sc_read_ropes.nd rfl (by first | exact Or.inl rfl | exact Or.inr rfl) (pe_lst (pa_nil)))
      (pss_cons (ps_for PassesOwn.never rfl (pi_range1 (by rfl) B.range (pa_cons (D_Reader_read_byte.call TReader.cl (hr.mono (by decide)) (pv 0) (pa_cons (pe_int) (pa_cons (pe_gi (by rfl) C_MOST_ROPES) pa_nil))) pa_nil)) (pg_name (i := 3) sc_read_ropes.nd rfl (by first | exact Or.inl rfl | exact Or.inr rfl)) (pss_cons (ps_set (i := 4) sc_read_ropes.nd rfl (by first | exact Or.inl rfl | exact Or.inr rfl) (D_Reader_read_byte.call TReader.cl (hr.mono (by decide)) (pv 0) (pa_cons (pe_int) (pa_cons (pe_op op_sub (pv 1) (pe_int)) pa_nil))))
      (pss_cons (ps_set (i := 5) sc_read_ropes.nd rfl (by first | exact Or.inl rfl | exact Or.inr rfl) (pe_fld (pv 0) rfl))
      (pss_cons (ps_set (i := 6) sc_read_ropes.nd rfl (by first | exact Or.inl rfl | exact Or.inr rfl) (D_Reader_read_byte.call TReader.cl (hr.mono (by decide)) (pv 0) (pa_cons (pe_int) (pa_cons (pe_op op_sub (pv 1) (pe_int)) pa_nil))))
      (pss_cons (ps_if (pt_cmpR op_eq (pv 6) (pv 4) (nomark _)) (pss_one (ps_never)) (pss_nil))
      (pss_one (ps_expr (pe_bm PySem.F.plainAttrs_list PySem.F.slot_list_append PySem.F.type_list_append mt_append (pv 2) (pa_cons (pe_tup (pa_cons (pv 4) (pa_cons (pv 6) (pa_cons (D_Reader_read_integer.call TReader.cl (hr.mono (by decide)) (pv 0) (pa_cons (pe_int) (pa_cons (pe_gi (by rfl) C_LONGEST) pa_nil))) pa_nil)))) pa_nil)))))))))
      (pss_one (ps_ret (pe_callTy (tupleOf K rfl) (by rfl) B.tuple (by decide +kernel) (pa_cons (pv 2) pa_nil))))), ?_⟩
  have hz : 1000000 ≤ sizeLine := by decide
  obtain ⟨hb, hd1⟩ := drop_at hd
  walk_at "rd"
  refine ⟨by omega, fun L hL => ?_⟩
  have nrL : r ≠ L := ne_of_none h1 hL
  have s1 := same_upd (o := .lst []) hL
  refine meth_at rfl (s1 _ _ h1) rfl ?_
  walk_at "rd"
  refine ⟨r, dx, bs, o, _, _, _, rfl, s1 _ _ h1, h8, hl, hb, by omega, by omega, _, rfl, by omega, by omega, ?_⟩
  rw [Int.toNat_natCast]
  have bu1 : But r H (upd (upd H L (.lst [])) r (.ins C dx (rdF bs (o + 1)))) := (same_but s1).trans (but_upd (a := r))
  have hL1 : (upd (upd H L (.lst [])) r (.ins C dx (rdF bs (o + 1)))) L = some (.lst []) := by rw [upd_ne nrL.symm, upd_same]
  obtain ⟨W, eW⟩ : ∃ W : Nat → L2.St → Hp → Prop, W = fun i σ H' => ∃ (x3 x4 x5 x6 : Option V) (us : List Addr), σ = [some (.ref r), some (.int (n : Nat)), some (.ref L), x3, x4, x5, x6] ∧ But r H H' ∧ H' r = some (.ins C dx (rdF bs (o + 1 + ((rs.take i).flatMap ropeB).length))) ∧ ObjsTs oRopeY H' L us (rs.take i) ∧ bs.drop (o + 1 + ((rs.take i).flatMap ropeB).length) = (rs.drop i).flatMap ropeB ++ rest := ⟨_, rfl⟩
  refine forRange W (by rw [eW]; exact ⟨_, _, _, _, [], rfl, bu1, upd_same, ObjsTs.nil hL1, hd1⟩) (fun i σ H' hi hPv => ?_) (fun σ H' hPv => ?_) <;> rw [eW] at hPv
  · obtain ⟨x3, x4, x5, x6, us, rfl, bu, hr1, ou, hdi⟩ := hPv
    have hri : rs[i]? = some rs[i] := List.getElem?_eq_getElem hi
    have hro := hok _ (List.getElem_mem hi)
    generalize rs[i] = rp at hri hro
    obtain ⟨a1, a2, a3, a4, a5, a6, a7⟩ := hro
    rw [drop_ofY hri, List.flatMap_cons] at hdi
    have hflat : (rs.take (i + 1)).flatMap ropeB = (rs.take i).flatMap ropeB ++ ropeB rp := by
      rw [List.take_add_one, hri, List.flatMap_append]
      show _ ++ List.flatMap ropeB [rp] = _
      rw [List.flatMap_singleton]
    obtain ⟨oo, hoo⟩ : ∃ oo, o + 1 + ((rs.take i).flatMap ropeB).length = oo := ⟨_, rfl⟩
    rw [hoo] at hr1 hdi
    have hdi : bs.drop oo = rp.f :: (rp.r :: (intG rp.l ++ ((rs.drop (i + 1)).flatMap ropeB ++ rest))) := by
      rw [hdi]
      show (rp.f :: rp.r :: intG rp.l) ++ _ ++ rest = _
      simp
    obtain ⟨b1, d1⟩ := drop_at hdi
    obtain ⟨b2, d2⟩ := drop_at d1
    have hnotr : ∀ x C dx fs, oRopeY x ≠ .ins C dx fs := fun x C dx fs z => nomatch z
    walk_at "rd"
    refine meth_at rfl hr1 rfl ?_
    walk_at "rd"
    refine ⟨r, dx, bs, oo, rp.f, _, _, rfl, hr1, h8, hl, b1, by omega, by omega, ?_⟩
    refine fld_at rfl upd_same TReader.cl TReader.nO (rd_o _ _) ?_
    refine meth_at rfl upd_same rfl ?_
    walk_at "rd"
    refine ⟨r, dx, bs, oo + 1, rp.r, _, _, rfl, upd_same, h8, hl, b2, by omega, by omega, rfl, ?_⟩
    rw [if_neg (by rw [decide_eq_true_iff]; intro z; injection z with z; omega)]
    have b12 : But r H' (upd (upd H' r (.ins C dx (rdF bs (oo + 1)))) r (.ins C dx (rdF bs (oo + 1 + 1)))) := (but_upd (a := r)).trans (but_upd (a := r))
    have ou2 := ou.butI b12 hr1 hnotr
    have hr2 : (upd (upd H' r (.ins C dx (rdF bs (oo + 1)))) r (.ins C dx (rdF bs (oo + 1 + 1)))) r = some (.ins C dx (rdF bs (oo + 1 + 1))) := upd_same
    generalize upd (upd H' r (.ins C dx (rdF bs (oo + 1)))) r (.ins C dx (rdF bs (oo + 1 + 1))) = H2 at b12 ou2 hr2 ⊢
    refine ⟨.inl ⟨rfl, _, .of ou2.top⟩, meth_at rfl hr2 rfl ?_⟩
    walk_at "rd"
    refine ⟨r, dx, bs, _, oo + 1 + 1, rp.l, 0, 99, rfl, hr2, h8, hl, d2, by omega, by omega, by omega, fun H3 bu3 hr3 => ⟨by omega, fun p hp => ?_⟩⟩
    have ou3 := ou2.butI bu3 hr2 hnotr
    have sT := same_upd (o := .tup [.int rp.f, .int rp.r, .int (0 + rp.l)]) hp
    have np : p ≠ L := fun z => by have := ou3.top; rw [← z, hp] at this; cases this
    have hTp : (upd H3 p (.tup [.int rp.f, .int rp.r, .int (0 + rp.l)])) p = some (oRopeY rp) := by
      rw [upd_same, Int.zero_add]
      rfl
    have ou4 := (ou3.mono sT).snoc (x := rp) (T := p) hTp np
    have buL : But r H (upd (upd H3 p (.tup [.int rp.f, .int rp.r, .int (0 + rp.l)])) L (.lst (us.map V.ref ++ [.ref p]))) := fun x o hx hxo => by
      rw [upd_ne (ne_of_none hxo hL)]
      exact sT _ _ (bu3 _ _ hx (b12 _ _ hx (bu x o hx hxo)))
    refine ⟨L, _, _, rfl, rfl, (ou3.mono sT).top, by rw [List.length_map, ou.len, List.length_take]; omega, ?_⟩
    rw [eW]
    refine ⟨_, _, _, _, us ++ [p], rfl, buL, ?_, by rw [List.take_add_one, hri]; exact ou4, ?_⟩
    · rw [upd_ne nrL, sT _ _ hr3, hflat, List.length_append]
      have : oo + 1 + 1 + (intG rp.l).length = o + 1 + (((rs.take i).flatMap ropeB).length + (ropeB rp).length) := by
        show _ = o + 1 + (_ + ((intG rp.l).length + 1 + 1))
        omega
      rw [this]
    · rw [hflat, List.length_append]
      have : o + 1 + (((rs.take i).flatMap ropeB).length + (ropeB rp).length) = oo + 1 + 1 + (intG rp.l).length := by
        show o + 1 + (_ + ((intG rp.l).length + 1 + 1)) = _
        omega
      rw [this]
      exact drop_app d2
  · obtain ⟨x3, x4, x5, x6, us, rfl, bu, hr1, ou, hdi⟩ := hPv
    rw [List.take_length] at hr1 ou
    walk_at "rd"
    refine ⟨_, .inl ⟨.of ou.top, fun t ht => ?_⟩⟩
    have sT := same_upd (o := .tup (us.map V.ref)) ht
    refine q _ t us (bu.trans (same_but sT)) ?_ (sT _ _ hr1) upd_same ou.len fun j y x h1 h2 => sT _ _ (ou.obj j y x h1 h2)
    cases hH : H t with
    | none => rfl
    | some oo =>
      by_cases htr : t = r
      · rw [htr, hr1] at ht
        cases ht
      · rw [bu _ _ htr hH] at ht
        cases ht
def s_read_hauls : Stmt := topS 43
abbrev n_read_hauls : List Str := ["reader", "positions", "start", "many", "last", "hauls", "_", "barge"]
abbrev p_read_hauls : List Str := ["reader", "positions"]
theorem sc_read_hauls : FnScope n_read_hauls p_read_hauls (defScope s_read_hauls) := ⟨rfl, rfl, rfl, by decide +kernel, rfl, by decide +kernel, by decide +kernel⟩
def sp_read_hauls (K : PySem.W.Frag) (C : Addr) : Sp := fun vs H Q _ => ∃ (r dx : Addr) (u : V) (B rest : List Int) (o n : Nat) (xs : List Int) (hs : List (Nat × Int)), vs = [.ref r, u] ∧ H r = some (.ins C dx (rdF B o)) ∧ B8 B ∧ B.length ≤ 100000 ∧ IntsT K H u xs ∧ xs.length = n ∧ B.drop o = gN hs.length ++ (haulsB xs hs ++ rest) ∧ hs.length ≤ 200 ∧ StepsOk xs hs ∧ (∀ k ∈ hs, k.1 < n ∧ -9999 ≤ k.2 ∧ k.2 ≤ 9999) ∧ n ≤ 8 ∧
  ∀ H' l, But r H H' → H l = none → H' r = some (.ins C dx (rdF B (o + (gN hs.length).length + (haulsB xs hs).length))) → HaulsAt H' l hs → Q (.ref l) H'
theorem df_read_hauls (T : Here K mg "read_hauls" s_read_hauls) (TReader : ClsR K mg C) (B : Blt mg) (C_MOST_HAULS : ∃ u, mg "MOST_HAULS" = some (.int 200 u)) (C_FARTHEST : ∃ u, mg "FARTHEST" = some (.int 9999 u)) (D_Reader_read_byte : DfM P w K mg base CX0 C "read_byte" 1 p_Reader_read_byte (sp_Reader_read_byte C)) (D_Reader_read_natural : DfM P w K mg base CX0 C "read_natural" 2 p_Reader_read_natural (sp_Reader_read_natural C)) (D_Reader_read_integer : DfM P w K mg base CX0 C "read_integer" 3 p_Reader_read_integer (sp_Reader_read_integer C)) : Df P w K mg base CX0 "read_hauls" 4 p_read_hauls (sp_read_hauls K C) := by
  refine T.df sc_read_hauls (fun _ _ _ _ _ _ us hl => match us, hl with | [_, _], _ => rfl) (fun vs H Q E h => by obtain ⟨_, _, _, _, _, _, _, _, _, rfl, _⟩ := h; rfl) (fun f cdv A outer s H vs Q E hr h => ?_)
  obtain ⟨r, dx, u, bs, rest, o, n, xs, hs, rfl, h1, h8, hl, ⟨cu, rfl, hcu⟩, hxn, hd, h200, hst, hok, hn8, q⟩ := h
  refine ⟨_, pss_cons (ps_set (i := 2) sc_read_hauls.nd rfl (by first | exact Or.inl rfl | exact Or.inr rfl) (pe_fld (pv 0) rfl))
      (pss_cons (ps_set (i := 3) sc_read_hauls.nd rfl (by first | exact Or.inl rfl | exact Or.inr rfl) (D_Reader_read_natural.call0 TReader.cl (hr.mono (by decide)) (pv 0)))
      (pss_cons (ps_if (pt_cmpR op_gt (pv 3) (pe_gi (by rfl) C_MOST_HAULS) (nomark _)) (pss_one (ps_never)) (pss_nil))
      (pss_cons (ps_set (i := 4) sc_read_hauls.nd rfl (by first | exact Or.inl rfl | exact Or.inr rfl) (pe_callTy (listOf K rfl) (by rfl) B.list (by decide +kernel) (pa_cons (pv 1) pa_nil)))
      (pss_cons (ps_set (i := 5) sc_read_hauls.nd rfl (by first | exact Or.inl rfl | exact Or.inr rfl) (pe_lst (pa_nil)))
      (pss_cons (ps_for PassesOwn.never rfl (pi_range1 (by rfl) B.range (pa_cons (pv 3) pa_nil)) (pg_name (i := 6) sc_read_hauls.nd rfl (by first | exact Or.inl rfl | exact Or.inr rfl)) (pss_cons (ps_set (i := 7) sc_read_hauls.nd rfl (by first | exact Or.inl rfl | exact Or.inr rfl) (D_Reader_read_byte.call TReader.cl (hr.mono (by decide)) (pv 0) (pa_cons (pe_int) (pa_cons (pe_op op_sub (pe_callB (lenQ K rfl) (by rfl) B.len (by decide +kernel) (pa_cons (pv 4) pa_nil)) (pe_int)) pa_nil))))
      (pss_cons (ps_asg (D_Reader_read_integer.call TReader.cl (hr.mono (by decide)) (pv 0) (pa_cons (pe_ix (ixL K rfl) (pv 4) (pv 7) (fun _ _ => rfl)) (pa_cons (pe_gi (by rfl) C_FARTHEST) pa_nil))) (pg_sub (pv 4) (pv 7) set_list))
      (pss_one (ps_expr (pe_bm PySem.F.plainAttrs_list PySem.F.slot_list_append PySem.F.type_list_append mt_append (pv 5) (pa_cons (pe_tup (pa_cons (pv 7) (pa_cons (pe_ix (ixL K rfl) (pv 4) (pv 7) (fun _ _ => rfl)) pa_nil))) pa_nil)))))))
      (pss_one (ps_ret (pv 5)))))))), ?_⟩
  have hz : 1000000 ≤ sizeLine := by decide
  walk_at "rd"
  refine fld_at rfl h1 TReader.cl TReader.nO (rd_o _ _) ?_
  walk_at "rd"
  refine meth_at rfl h1 rfl ?_
  walk_at "rd"
  refine ⟨r, dx, bs, _, o, hs.length, rfl, h1, h8, hl, hd, by omega, fun H1 bu1 hr1 => ?_⟩
  have hd1 := drop_app hd
  walk_at "rd"
  rw [if_neg (by rw [decide_eq_true_iff]; omega)]
  have hcu1 := sqt_butI hcu bu1 h1
  refine ⟨_, .inr hcu1, fun la hla => ⟨by omega, fun L hL => ?_⟩⟩
  have s1 := same_upd (o := .lst (xs.map V.int)) hla
  have s2 := same_upd (o := .lst []) hL
  have nLa : la ≠ L := fun z => by rw [← z, upd_same] at hL; cases hL
  have e2 := s1.trans s2
  have hrn : ∀ {p : Addr}, H1 p = none → r ≠ p := fun hp => ne_of_none hr1 hp
  have hL1 : H1 L = none := none_backY s1 hL
  refine ⟨by omega, by omega, ?_⟩
  have hnotr : ∀ x C dx fs, oHaul x ≠ .ins C dx fs := fun x C dx fs z => nomatch z
  obtain ⟨W, eW⟩ : ∃ W : Nat → L2.St → Hp → Prop, W = fun i σ H' => ∃ (x6 x7 : Option V) (us : List Addr) (last : List Int) (oo : Nat), σ = [some (.ref r), some (.ref cu), some (.int (o : Nat)), some (.int (hs.length : Nat)), some (.ref la), some (.ref L), x6, x7] ∧ But r H1 H' ∧ H' r = some (.ins C dx (rdF bs oo)) ∧ H' la = some (.lst (last.map V.int)) ∧ last.length = n ∧ ObjsTs oHaul H' L us (hs.take i) ∧ StepsOk last (hs.drop i) ∧
    bs.drop oo = haulsB last (hs.drop i) ++ rest ∧ oo + (haulsB last (hs.drop i)).length = o + (gN hs.length).length + (haulsB xs hs).length := ⟨_, rfl⟩
  refine forRange W (by rw [eW]; exact ⟨_, _, [], xs, _, rfl, same_but e2, e2 _ _ hr1, s2 _ _ upd_same, hxn, ObjsTs.nil upd_same, hst, hd1, rfl⟩) (fun i σ H' hi hPv => ?_) (fun σ H' hPv => ?_) <;> rw [eW] at hPv
  · obtain ⟨x6, x7, us, last, oo, rfl, bu, hr2, hla2, hll, ou, hso, hdi, hoo⟩ := hPv
    have hhi : hs[i]? = some hs[i] := List.getElem?_eq_getElem hi
    generalize hs[i] = h at hhi
    rw [drop_ofY hhi] at hso hdi hoo
    obtain ⟨k1, k2, k3⟩ := hso
    obtain ⟨g1, g2, g3⟩ := hok h (List.mem_of_getElem? hhi)
    have hdi : bs.drop oo = (h.1 : Int) :: (intG (h.2 - last.getD h.1 0) ++ (haulsB (last.set h.1 h.2) (hs.drop (i + 1)) ++ rest)) := by
      rw [hdi]
      show ((h.1 : Int) :: (intG _ ++ _)) ++ rest = _
      simp
    have hoo : oo + 1 + (intG (h.2 - last.getD h.1 0)).length + (haulsB (last.set h.1 h.2) (hs.drop (i + 1))).length = o + (gN hs.length).length + (haulsB xs hs).length := by
      rw [← hoo]
      show _ = oo + ((h.1 : Int) :: (intG _ ++ _)).length
      rw [List.length_cons, List.length_append]
      omega
    obtain ⟨b1, d1⟩ := drop_at hdi
    have hvl : ∀ l2 : List Int, l2.length = n → (l2.map V.int)[h.1]? = some (.int (l2.getD h.1 0)) := fun l2 hl2 => by
      rw [List.getElem?_map, List.getD_eq_getElem?_getD, List.getElem?_eq_getElem (by omega)]
      rfl
    walk_at "rd"
    refine meth_at rfl hr2 rfl ?_
    walk_at "rd"
    refine ⟨_, .inl (.of hla2), ?_⟩
    rw [List.length_map, hll]
    refine ⟨r, dx, bs, oo, _, _, _, rfl, hr2, h8, hl, b1, by omega, by omega, ?_⟩
    have nra : la ≠ r := (hrn hla).symm
    have bu3 := but_upd (H := H') (a := r) (o := .ins C dx (rdF bs (oo + 1)))
    have ou3 := ou.butI bu3 hr2 hnotr
    have hla3 := bu3 _ _ nra hla2
    have hr3 : (upd H' r (.ins C dx (rdF bs (oo + 1)))) r = some (.ins C dx (rdF bs (oo + 1))) := upd_same
    have bu4 := bu.trans bu3
    generalize upd H' r (.ins C dx (rdF bs (oo + 1))) = H3 at ou3 hla3 hr3 bu4 ⊢
    refine meth_at rfl hr3 rfl ?_
    walk_at "rd"
    refine ⟨la, _, h.1, _, rfl, rfl, .of hla3, atI_nat (hvl _ hll), ?_⟩
    refine ⟨r, dx, bs, _, oo + 1, _, _, 9999, rfl, hr3, h8, hl, d1, k2, by omega, by omega, fun H4 bu5 hr4 => ?_⟩
    have ou4 := ou3.butI bu5 hr3 hnotr
    have hla4 := bu5 _ _ nra hla3
    have eh : last.getD h.1 0 + (h.2 - last.getD h.1 0) = h.2 := by omega
    rw [eh]
    refine ⟨la, last.map V.int, _, h.1, rfl, rfl, hla4, ixN_natY (by rw [List.length_map]; omega), ?_⟩
    have hla5 : (upd H4 la (.lst ((last.map V.int).set h.1 (.int h.2)))) la = some (.lst ((last.set h.1 h.2).map V.int)) := by rw [upd_same, List.map_set]
    have b6 : But la H4 (upd H4 la (.lst ((last.map V.int).set h.1 (.int h.2)))) := but_upd
    have ou5 : ObjsTs oHaul (upd H4 la (.lst ((last.map V.int).set h.1 (.int h.2)))) L us (hs.take i) := by
      refine ⟨b6 _ _ nLa.symm ou4.top, ou4.len, ou4.out, fun j y x z1 z2 => ?_⟩
      have z3 := ou4.obj j y x z1 z2
      exact b6 _ _ (fun z => by rw [z, hla4] at z3; exact nomatch z3) z3
    have hr5 := b6 _ _ nra.symm hr4
    have bu6 : But r H1 (upd H4 la (.lst ((last.map V.int).set h.1 (.int h.2)))) := fun x ob hx hxo => b6 _ _ (ne_of_none hxo hla) (bu5 _ _ hx (bu4 x ob hx hxo))
    generalize upd H4 la (.lst ((last.map V.int).set h.1 (.int h.2))) = H5 at hla5 ou5 hr5 bu6 ⊢
    have hget : (last.set h.1 h.2).getD h.1 0 = h.2 := by
      rw [List.getD_eq_getElem?_getD, List.getElem?_set_self (by omega)]
      rfl
    refine ⟨.inl ⟨rfl, _, .of ou5.top⟩, la, _, h.1, _, rfl, rfl, .of hla5, atI_nat (hvl _ (by rw [List.length_set]; exact hll)), by omega, fun p hp => ?_⟩
    rw [hget]
    have sT := same_upd (o := .tup [.int (h.1 : Nat), .int h.2]) hp
    have np : p ≠ L := fun z => by have := ou5.top; rw [← z, hp] at this; cases this
    have ou6 := (ou5.mono sT).snoc (x := h) (T := p) (by exact upd_same) np
    refine ⟨L, _, _, rfl, rfl, (ou5.mono sT).top, by rw [List.length_map, ou.len, List.length_take]; omega, ?_⟩
    rw [eW]
    refine ⟨_, _, us ++ [p], last.set h.1 h.2, oo + 1 + (intG (h.2 - last.getD h.1 0)).length, rfl, fun x ob hx hxo => ?_, ?_, ?_, by rw [List.length_set]; exact hll, by rw [List.take_add_one, hhi]; exact ou6, k3, drop_app d1, hoo⟩
    · rw [upd_ne (ne_of_none hxo hL1)]
      exact sT _ _ (bu6 x ob hx hxo)
    · rw [upd_ne (hrn hL1)]
      exact sT _ _ hr5
    · rw [upd_ne nLa]
      exact sT _ _ hla5
  · obtain ⟨x6, x7, us, last, oo, rfl, bu, hr2, hla2, hll, ou, hso, hdi, hoo⟩ := hPv
    rw [List.take_length] at ou
    rw [List.drop_length] at hoo
    have hoo : oo + 0 = _ := hoo
    rw [Nat.add_zero] at hoo
    walk_at "rd"
    refine q _ L (bu1.trans bu) ?_ (by rw [hr2, hoo]) ⟨us, ou⟩
    cases hH : H L with
    | none => rfl
    | some ob =>
      rw [bu1 _ _ (hrn hL1).symm hH] at hL1
      cases hL1
theorem codeB_eq (n : Nat) (rs : List Rope) (xs : List Int) (hs : List (Nat × Int)) : codeB n rs xs hs = 72 :: (n : Int) :: (rs.length : Int) :: (rs.flatMap ropeB ++ (xs.flatMap intG ++ (gN hs.length ++ (haulsB xs hs ++ [(bodyB n rs xs hs).sum.fmod 251])))) := by
  unfold codeB
  generalize (bodyB n rs xs hs).sum.fmod 251 = c
  unfold bodyB headB
  simp
def s_decode_plan : Stmt := topS 39
abbrev n_decode_plan : List Str := ["data", "reader", "count", "fleet", "positions", "_", "hauls"]
abbrev p_decode_plan : List Str := ["data"]
theorem sc_decode_plan : FnScope n_decode_plan p_decode_plan (defScope s_decode_plan) := ⟨rfl, rfl, rfl, by decide +kernel, rfl, by decide +kernel, by decide +kernel⟩
def sp_decode_plan (K : PySem.W.Frag) : Sp := fun vs H Q _ => ∃ (n : Nat) (rs : List Rope) (xs : List Int) (hs : List (Nat × Int)), vs = [.byt (byteArr (codeB n rs xs hs))] ∧ WayOk n rs xs ∧ hs.length ≤ 200 ∧ HaulsOk (chainTab n rs) xs hs ∧ StepsOk xs hs ∧ (∀ k ∈ hs, k.1 < n ∧ -9999 ≤ k.2 ∧ k.2 ≤ 9999) ∧
  ∀ H' t v u (l : Addr), Same H H' → H t = none → H' t = some (.tup [v, u, .ref l]) → FleetV K H' v n rs → IntsT K H' u xs → HaulsAt H' l hs → Q (.ref t) H'
theorem df_decode_plan (T : Here K mg "decode_plan" s_decode_plan) (TReader : ClsR K mg C) (B : Blt mg) (B3 : Blt3 mg) (C_FIRST_BYTE : ∃ u, mg "FIRST_BYTE" = some (.int 72 u)) (C_MOST_BARGES : ∃ u, mg "MOST_BARGES" = some (.int 8 u)) (C_FARTHEST : ∃ u, mg "FARTHEST" = some (.int 9999 u)) (D_Reader___init__ : DfM P w K mg base CX0 C "__init__" 1 p_Reader___init__ (sp_Reader___init__ C))
    (D_Reader_read_byte : DfM P w K mg base CX0 C "read_byte" 1 p_Reader_read_byte (sp_Reader_read_byte C)) (D_Reader_read_integer : DfM P w K mg base CX0 C "read_integer" 3 p_Reader_read_integer (sp_Reader_read_integer C)) (D_Reader_read_end : DfM P w K mg base CX0 C "read_end" 2 p_Reader_read_end (sp_Reader_read_end C))
    (D_read_ropes : Df P w K mg base CX0 "read_ropes" 4 p_read_ropes (sp_read_ropes C)) (D_read_hauls : Df P w K mg base CX0 "read_hauls" 4 p_read_hauls (sp_read_hauls K C)) (D_haul_all : Df P w K mg base CX0 "haul_all" 6 p_haul_all (sp_haul_all K)) : Df P w K mg base CX0 "decode_plan" 7 p_decode_plan (sp_decode_plan K) := by
  refine T.df sc_decode_plan (fun _ _ _ _ _ _ us hl => match us, hl with | [_], _ => rfl) (fun vs H Q E h => by obtain ⟨_, _, _, _, rfl, _⟩ := h; rfl) (fun f cdv A outer s H vs Q E hr h => ?_)
  obtain ⟨n, rs, xs, hs, rfl, hw, h200, hok, hst, hks, q⟩ := h
  refine ⟨_, pss_cons (ps_if (pt_not (pt_val (pe_callB (isi K rfl) (by rfl) B.isinstance (by decide +kernel) (pa_cons (pv 0) (pa_cons (pe_bltn (v := .ty "bytes") (by rfl) B3.bytes (by decide +kernel) rfl) pa_nil))))) (pss_one (ps_never)) (pss_nil))
      (pss_cons (ps_set (i := 1) sc_decode_plan.nd rfl (by first | exact Or.inl rfl | exact Or.inr rfl) (D_Reader___init__.make TReader.makes TReader.kp (hr.mono (by decide)) (by rfl) TReader.mg (pa_cons (pv 0) pa_nil)))
      (pss_cons (ps_expr (D_Reader_read_byte.call TReader.cl (hr.mono (by decide)) (pv 1) (pa_cons (pe_gi (by rfl) C_FIRST_BYTE) (pa_cons (pe_gi (by rfl) C_FIRST_BYTE) pa_nil))))
      (pss_cons (ps_set (i := 2) sc_decode_plan.nd rfl (by first | exact Or.inl rfl | exact Or.inr rfl) (D_Reader_read_byte.call TReader.cl (hr.mono (by decide)) (pv 1) (pa_cons (pe_int) (pa_cons (pe_gi (by rfl) C_MOST_BARGES) pa_nil))))
      (pss_cons (ps_set (i := 3) sc_decode_plan.nd rfl (by first | exact Or.inl rfl | exact Or.inr rfl) (pe_tup (pa_cons (pv 2) (pa_cons (D_read_ropes.call (hr.mono (by decide)) (by rfl) (pa_cons (pv 1) (pa_cons (pv 2) pa_nil))) pa_nil))))
      (pss_cons (ps_set (i := 4) sc_decode_plan.nd rfl (by first | exact Or.inl rfl | exact Or.inr rfl) (pe_callTy (tupleOf K rfl) (by rfl) B.tuple (by decide +kernel) (pa_cons (pe_lc (own := [("_", 5)]) rfl sc_decode_plan.nd (pi_range1 (by rfl) B.range (pa_cons (pv 2) pa_nil)) (blkOk_by (N := n_decode_plan) (sc := defScope s_decode_plan) (by decide +kernel)) (fun _ _ _ _ _ => pg_name (i := 5) sc_decode_plan.nd rfl (by first | exact Or.inl rfl | exact Or.inr rfl)) (fun _ _ _ _ _ => pts_nil) (fun _ _ _ _ _ => D_Reader_read_integer.call TReader.cl (hr.mono (by decide)) (pv 1) (pa_cons (pe_int) (pa_cons (pe_gi (by rfl) C_FARTHEST) pa_nil)))) pa_nil)))
      (pss_cons (ps_set (i := 6) sc_decode_plan.nd rfl (by first | exact Or.inl rfl | exact Or.inr rfl) (D_read_hauls.call (hr.mono (by decide)) (by rfl) (pa_cons (pv 1) (pa_cons (pv 4) pa_nil))))
      (pss_cons (ps_expr (D_Reader_read_end.call0 TReader.cl (hr.mono (by decide)) (pv 1)))
      (pss_cons (ps_expr (D_haul_all.call (hr.mono (by decide)) (by rfl) (pa_cons (pv 3) (pa_cons (pv 4) (pa_cons (pv 6) pa_nil)))))
      (pss_one (ps_ret (pe_tup (pa_cons (pv 3) (pa_cons (pv 4) (pa_cons (pv 6) pa_nil)))))))))))))), ?_⟩
  have hz : 1000000 ≤ sizeLine := by decide
  have n8 := hw.fleet.2.1
  have n1 := hw.fleet.1
  have r40 := hw.fleet.2.2.1
  obtain ⟨B, hB⟩ : ∃ B, codeB n rs xs hs = B := ⟨_, rfl⟩
  have hB8 : B8 B := by rw [← hB]; exact codeB_8 hw fun k hk => by have := (hks k hk).1; omega
  have hbody8 := bodyB_8 (hs := hs) hw fun k hk => by have := (hks k hk).1; omega
  have hbl : (bodyB n rs xs hs).length ≤ 2000 := by
    have h1 := headB_len hw
    have h2 := haulsB_len hst
    have h3 := gN_len 2 hs.length (by show _ < 2097152; omega)
    unfold bodyB
    rw [List.length_append, List.length_append]
    omega
  have hBl : B.length ≤ 100000 := by
    rw [← hB]
    unfold codeB
    rw [List.length_append]
    show _ + 1 ≤ _
    omega
  have hd0 : B.drop 0 = 72 :: (n : Int) :: (rs.length : Int) :: (rs.flatMap ropeB ++ (xs.flatMap intG ++ (gN hs.length ++ (haulsB xs hs ++ [(bodyB n rs xs hs).sum.fmod 251])))) := by
    rw [List.drop_zero, ← hB]
    exact codeB_eq n rs xs hs
  rw [hB]
  walk_at "rd"
  refine isi_yes (.byt _) (by decide +kernel) ⟨true, rfl, ?_⟩
  rw [if_neg (by decide)]
  intro r dx hr0 hdx hne
  have hr0' : H r = none := hr0
  refine ⟨r, dx, B, rfl, upd_same, rfl, ?_⟩
  have s0 : Same H (upd (upd (upd (upd H dx (.own r)) r (.ins C dx [])) r (.ins C dx [("data", .byt (byteArr B))])) r (.ins C dx (rdF B 0))) := fun x o hx => by
    rw [upd_ne (ne_of_none hx hr0), upd_ne (ne_of_none hx hr0), upd_ne (ne_of_none hx hr0), upd_ne (ne_of_none hx hdx)]
    exact hx
  have hr1 : (upd (upd (upd (upd H dx (.own r)) r (.ins C dx [])) r (.ins C dx [("data", .byt (byteArr B))])) r (.ins C dx (rdF B 0))) r = some (.ins C dx (rdF B 0)) := upd_same
  generalize upd (upd (upd (upd H dx (.own r)) r (.ins C dx [])) r (.ins C dx [("data", .byt (byteArr B))])) r (.ins C dx (rdF B 0)) = H1 at s0 hr1 ⊢
  obtain ⟨b1, d1⟩ := drop_at hd0
  obtain ⟨b2, d2⟩ := drop_at d1
  refine meth_at rfl hr1 rfl ?_
  walk_at "rd"
  refine ⟨r, dx, B, 0, 72, 72, 72, rfl, hr1, hB8, hBl, b1, Int.le_refl _, Int.le_refl _, ?_⟩
  refine meth_at rfl upd_same rfl ?_
  walk_at "rd"
  refine ⟨r, dx, B, 1, _, _, _, rfl, upd_same, hB8, hBl, b2, by omega, by omega, ?_⟩
  refine ⟨r, dx, B, _, 1 + 1, n, rs, rfl, upd_same, hB8, hBl, d2, r40, hw.fleet.2.2.2, by omega, fun H2 t us bu2 ht hr2 htt hul hobj => ?_⟩
  have bu2 : But r H1 H2 := ((but_upd (a := r)).trans (but_upd (a := r))).trans bu2
  have buH2 : Same H H2 := fun x o hx => bu2 _ _ (ne_of_none hx hr0') (s0 _ _ hx)
  have htH : H t = none := by
    cases hH : H t with
    | none => rfl
    | some ob =>
      have nt : t ≠ r := ne_of_none hH hr0'
      rw [upd_ne nt, upd_ne nt, s0 _ _ hH] at ht
      cases ht
  obtain ⟨_, d3⟩ := drop_at d2
  have d4 := drop_app d3
  obtain ⟨o4, ho4⟩ : ∃ o4, 1 + 1 + 1 + (rs.flatMap ropeB).length = o4 := ⟨_, rfl⟩
  rw [ho4] at hr2
  have d4 : B.drop o4 = xs.flatMap intG ++ (gN hs.length ++ (haulsB xs hs ++ [(bodyB n rs xs hs).sum.fmod 251])) := by
    rw [← ho4]
    exact d4
  show 2 ≤ sizeLine ∧ _
  refine ⟨by omega, fun p hp => ⟨(n : Int), rfl, by omega, by omega, fun D hD => ?_⟩⟩
  rw [Int.toNat_natCast]
  have sp := same_upd (o := .tup [.int (n : Nat), .ref t]) hp
  have hp3 : (upd H2 p (.tup [.int (n : Nat), .ref t])) p = some (.tup [.int (n : Nat), .ref t]) := upd_same
  have hr3 := sp _ _ hr2
  have htt3 := sp _ _ htt
  have hobj3 : ∀ (i : Nat) (y : Addr) (x : Rope), us[i]? = some y → rs[i]? = some x → (upd H2 p (.tup [.int (n : Nat), .ref t])) y = some (oRopeY x) := fun i y x z1 z2 => sp _ _ (hobj i y x z1 z2)
  have buH3 := buH2.trans sp
  generalize upd H2 p (.tup [.int (n : Nat), .ref t]) = H3 at hp3 hr3 htt3 hobj3 buH3 hD ⊢
  have nrD : r ≠ D := ne_of_none hr3 hD
  have hDH : H D = none := none_backY buH3 hD
  have hfl : ∀ H', But r H3 H' → FleetV K H' (.ref p) n rs := fun H' b => by
    have hx : ∀ (x : Addr) (xs : List V), H3 x = some (.tup xs) → H' x = some (.tup xs) := fun x xs hx => b _ _ (fun z => by rw [z, hr3] at hx; cases hx) hx
    refine ⟨p, t, us.map V.ref, rfl, .of (hx _ _ hp3), .of (hx _ _ htt3), by rw [List.length_map, hul], fun i x hi => ?_⟩
    have hiu : i < us.length := by rw [hul]; exact (List.getElem?_eq_some_iff.mp hi).1
    have h1 : us[i]? = some us[i] := List.getElem?_eq_getElem hiu
    refine ⟨.ref us[i], by rw [List.getElem?_map, h1]; rfl, ?_⟩
    exact ⟨us[i], rfl, .of (hx _ _ (hobj3 i _ x h1 hi))⟩
  have hxl : xs.length = n := by have := hw.len; omega
  refine lcRange (fun i H' => But r H3 H' ∧ H' D = some (.lst ((xs.take i).map V.int)) ∧ H' r = some (.ins C dx (rdF B (o4 + ((xs.take i).flatMap intG).length))) ∧ B.drop (o4 + ((xs.take i).flatMap intG).length) = (xs.drop i).flatMap intG ++ (gN hs.length ++ (haulsB xs hs ++ [(bodyB n rs xs hs).sum.fmod 251]))) ⟨same_but (same_upd hD), upd_same, by rw [upd_ne nrD]; exact hr3, d4⟩ (fun i H' hi hPv => ?_) (fun H' hPv => ?_)
  · obtain ⟨bu, hD1, hr4, hdi⟩ := hPv
    have hxi : xs[i]? = some xs[i] := List.getElem?_eq_getElem (by omega)
    have hxr := hw.range _ (List.getElem_mem (by omega : i < xs.length))
    generalize xs[i] = x at hxi hxr
    rw [drop_ofY hxi, List.flatMap_cons, List.append_assoc] at hdi
    have hflat : (xs.take (i + 1)).flatMap intG = (xs.take i).flatMap intG ++ intG x := by
      rw [List.take_add_one, hxi, List.flatMap_append]
      show _ ++ List.flatMap intG [x] = _
      rw [List.flatMap_singleton]
    walk_at "rd"
    refine meth_at rfl hr4 rfl ?_
    walk_at "rd"
    refine ⟨r, dx, B, _, _, x, 0, 9999, rfl, hr4, hB8, hBl, hdi, by omega, by omega, by omega, fun H5 bu5 hr5 => ?_⟩
    refine ⟨_, bu5 _ _ nrD.symm hD1, by rw [List.length_map, List.length_take]; omega, fun y o hy hyo => ?_, ?_, ?_, ?_⟩
    · rw [upd_ne (ne_of_none hyo hD)]
      exact bu5 _ _ hy (bu y o hy hyo)
    · rw [upd_same, Int.zero_add, List.take_add_one, hxi, List.map_append]
      rfl
    · rw [upd_ne nrD, hr5, hflat, List.length_append, ← Nat.add_assoc]
    · rw [hflat, List.length_append, ← Nat.add_assoc]
      exact drop_app hdi
  · obtain ⟨bu, hD1, hr4, hdi⟩ := hPv
    rw [List.take_of_length_le (by omega)] at hD1 hr4 hdi
    rw [show xs.drop n = [] from List.drop_of_length_le (by omega)] at hdi
    have hdi : B.drop (o4 + (xs.flatMap intG).length) = gN hs.length ++ (haulsB xs hs ++ [(bodyB n rs xs hs).sum.fmod 251]) := hdi
    refine ⟨_, .inl ⟨.of hD1, fun u hu => ?_⟩⟩
    have su := same_upd (o := .tup (xs.map V.int)) hu
    have hu5 : (upd H' u (.tup (xs.map V.int))) u = some (.tup (xs.map V.int)) := upd_same
    have hr5 := su _ _ hr4
    have bu5 := bu.trans (same_but su)
    generalize upd H' u (.tup (xs.map V.int)) = H5 at hu5 hr5 bu5 ⊢
    have nur : u ≠ r := fun z => by rw [z, hr5] at hu5; cases hu5
    refine ⟨r, dx, .ref u, B, _, _, n, xs, hs, rfl, hr5, hB8, hBl, ⟨u, rfl, .of hu5⟩, hxl, hdi, h200, hst, hks, by omega, fun H6 l bu6 hl hr6 hat => ?_⟩
    have hoff : o4 + (xs.flatMap intG).length + (gN hs.length).length + (haulsB xs hs).length = (bodyB n rs xs hs).length := by
      rw [← ho4]
      unfold bodyB headB
      simp only [List.length_append]
      show _ = 3 + _ + _ + _ + _
      omega
    rw [hoff] at hr6
    walk_at "rd"
    refine meth_at rfl hr6 rfl ?_
    walk_at "rd"
    refine ⟨r, dx, bodyB n rs xs hs, rfl, by rw [hr6, ← hB]; rfl, hbody8, by omega, fun H7 bu7 => ?_⟩
    have bu67 := bu6.trans bu7
    have b37 := bu5.trans bu67
    have hu7 : H7 u = some (.tup (xs.map V.int)) := bu67 _ _ nur hu5
    have hnotr : ∀ x C dx fs, oHaul x ≠ .ins C dx fs := fun x C dx fs z => nomatch z
    have hat7 : HaulsAt H7 l hs := by
      obtain ⟨ts, ho⟩ := hat
      exact ⟨ts, ho.butI bu7 hr6 hnotr⟩
    refine ⟨.ref p, .ref u, l, n, rs, xs, hs, rfl, hfl _ b37, ⟨u, rfl, .of hu7⟩, hw, hat7.lst, by omega, hok, fun H8 x8 s8 _ => ⟨by omega, fun z hz0 => ?_⟩⟩
    have sz := s8.trans (same_upd (o := .tup [.ref p, .ref u, .ref l]) hz0)
    have hSH : Same H H8 := fun x o hx => s8 _ _ (b37 _ _ (ne_of_none hx hr0') (buH3 _ _ hx))
    refine q _ z (.ref p) (.ref u) l (hSH.trans (same_upd hz0)) (none_backY hSH hz0) upd_same ((hfl _ b37).mono sz) ⟨u, rfl, .of (sz _ _ hu7)⟩ (hat7.mono sz)
end
end Hx

set_option Elab.async false
set_option linter.all false
set_option maxRecDepth 100000
set_option maxHeartbeats 4000000
namespace Hx
open PySem PySem.Spec PyProof.Rows L2 Mh
set_option maxHeartbeats 800000
local macro_rules | `(tactic| walk_at "rd") => `(tactic| (try simp only [q_sfldV, q_make, q_par3, q_var, q_c, q_op, q_un, q_rI, q_rI0, q_rU, q_rEq, q_rNe, q_test, q_tB, q_and, q_or, q_not, q_andV, q_orV, q_notV, q_if, q_isN, q_notN, q_chain, q_next, q_seq, q_break, q_cont, q_drop, q_ret, q_retN, q_ifS, q_never, q_gN, q_gNil, q_gCons, q_gTup, q_gSub, q_asg, q_par, q_aug, q_nil, q_cons, q_tup, q_lst, q_call, q_cb, q_noPart, q_part, q_sl, q_bm0, q_bm, q_yes, q_for, q_lc, q_iList, q_iTup, q_iRng1, q_iEnumT, q_iEnum, q_iRng2, q_iZipA, q_iZipM, q_ipI, q_ckw, q_len, q_listOf, q_tupleOf, L2.start, cx_K, wipe, List.map_cons, List.map_nil, List.length_cons, List.length_nil, List.cons_append, List.nil_append, List.append_nil, List.replicate, List.getElem?_cons_zero, List.getElem?_cons_succ, List.set_cons_zero, List.set_cons_succ, Option.some.injEq, List.cons.injEq, exists_eq_left', exists_eq_left, exists_and_left, V.int.injEq, V.bl.injEq, V.ref.injEq, if_true, if_false, Bool.not_true, Bool.not_false, true_and, and_true, Bool.false_eq_true, ite_true, ite_false, Nat.reduceAdd, Nat.reduceSub, reduceCtorEq, decide_false, decide_true, Int.toNat_natCast, false_and, exists_false, or_false, false_or]))
section
variable {P : Program} {w : World} {K : PySem.W.Frag} {mg : Str → Option Value} {base : Heap}
theorem ObjsTs.butC {α : Type} {o : α → HO} {H H' : Hp} {a l : Addr} {ts : List Addr} {xs : List α} (h : ObjsTs o H l ts xs) (e : But a H H') (hl : l ≠ a) (ht : a ∉ ts) : ObjsTs o H' l ts xs :=
  ⟨e _ _ hl h.top, h.len, h.out, fun i t x h1 h2 => e _ _ (fun z => ht (z ▸ List.mem_of_getElem? h1)) (h.obj i t x h1 h2)⟩
theorem ixt_i {v : V} {zs : List Int} {i : Nat} {H : Hp} {Q : VK} (h : IntsT K H v zs) (hi : i < zs.length) (q : Q (.int (gd zs i)) H) : rIxT K v (.int (i : Nat)) H Q := by
  obtain ⟨c, rfl, hc⟩ := h
  exact ⟨c, _, i, _, rfl, rfl, hc, atI_nat (at_ints hi), q⟩
theorem fleet_0 {v : V} {n : Int} {rs : List Rope} {H : Hp} {Q : VK} (h : FleetV K H v n rs) (q : Q (.int n) H) : rIxT K v (.int 0) H Q := by
  obtain ⟨a, b, xs, rfl, ha, _⟩ := h
  exact ⟨a, _, 0, _, rfl, rfl, ha, atI_nat (j := 0) rfl, q⟩
/-- hauls drawn so far -/
structure DrH (K : PySem.W.Frag) (a sc : Addr) (ns : List Int) (n : Nat) (rs : List Rope) (xs : List Int) (L : Addr) (H0 H' : Hp) (w : V) (hs : List (Nat × Int)) (ts : List Addr) : Prop where
  row : RowAt K H' a sc ns
  but : But a H0 H'
  ot : ObjsTs oHaul H' L ts hs
  out : a ∉ ts
  here : IntsT K H' w (runD (chainTab n rs) xs hs)
  ok : HaulsOk (chainTab n rs) xs hs
  vl : Valid (runD (chainTab n rs) xs hs) rs
  far : ∀ i, i < n → gd (runD (chainTab n rs) xs hs) i ≤ gd xs i + 199 * (hs.length : Int)
  small : ∀ h ∈ hs, h.1 < n ∧ -9999 ≤ h.2 ∧ h.2 ≤ 9999
def s_law_hauls : Stmt := topS 64
abbrev n_law_hauls : List Str := ["_law_row", "_law_fleet_here", "_law_here", "_law_most", "_law_found", "_law_turn", "_law_barge"]
abbrev p_law_hauls : List Str := ["_law_row", "_law_fleet_here", "_law_here", "_law_most"]
theorem sc_law_hauls : FnScope n_law_hauls p_law_hauls (defScope s_law_hauls) := ⟨rfl, rfl, rfl, by decide +kernel, rfl, by decide +kernel, by decide +kernel⟩
def sp_law_hauls (K : PySem.W.Frag) : Sp := fun vs H Q _ => ∃ (a sc : Addr) (ns : List Int) (v u : V) (n : Nat) (rs : List Rope) (xs : List Int), vs = [.ref a, v, u, .int 6] ∧ RowAt K H a sc ns ∧ FleetV K H v n rs ∧ Fit n rs ∧ IntsT K H u xs ∧ WayOk n rs xs ∧ (∀ i, i < n → gd xs i ≤ 8000) ∧
  ∀ H' p L w hs ts, H L = none → H' p = some (.tup [.ref L, w]) → hs.length ≤ 6 → DrH K a sc ns n rs xs L H H' w hs ts → Q (.ref p) H'
theorem df_law_hauls (T : Here K mg "_law_hauls" s_law_hauls) (B : Blt mg) (D_law_taken : Df P w K mg base CX0 "_law_taken" 1 p_law_taken (sp_law_taken K)) (D_haul : Df P w K mg base CX0 "haul" 7 p_haul (sp_haul K)) : Df P w K mg base CX0 "_law_hauls" 8 p_law_hauls (sp_law_hauls K) := by
  refine T.df sc_law_hauls (fun _ _ _ _ _ _ us hl => match us, hl with | [_, _, _, _], _ => rfl) (fun vs H Q E h => by obtain ⟨_, _, _, _, _, _, _, _, rfl, _⟩ := h; rfl) (fun f cdv A outer s H vs Q E hr h => ?_)
  obtain ⟨a, sc, ns, v, u, n, rs, xs, rfl, hrow, hv, F, hu, hw, h9, q⟩ := h
  refine ⟨_, pss_cons (ps_set (i := 4) sc_law_hauls.nd rfl (by first | exact Or.inl rfl | exact Or.inr rfl) (pe_lst (pa_nil)))
      (pss_cons (ps_for PassesOwn.never rfl (pi_range1 (by rfl) B.range (pa_cons (D_law_taken.call (hr.mono (by decide)) (by rfl) (pa_cons (pv 0) (pa_cons (pe_op op_add (pv 3) (pe_int)) pa_nil))) pa_nil)) (pg_name (i := 5) sc_law_hauls.nd rfl (by first | exact Or.inl rfl | exact Or.inr rfl)) (pss_cons (ps_set (i := 6) sc_law_hauls.nd rfl (by first | exact Or.inl rfl | exact Or.inr rfl) (D_law_taken.call (hr.mono (by decide)) (by rfl) (pa_cons (pv 0) (pa_cons (pe_ix (ixT K rfl) (pv 1) (pe_int) (fun _ _ => rfl)) pa_nil))))
      (pss_cons (ps_expr (pe_bm PySem.F.plainAttrs_list PySem.F.slot_list_append PySem.F.type_list_append mt_append (pv 4) (pa_cons (pe_tup (pa_cons (pv 6) (pa_cons (pe_op op_add (pe_ix (ixT K rfl) (pv 2) (pv 6) (fun _ _ => rfl)) (D_law_taken.call (hr.mono (by decide)) (by rfl) (pa_cons (pv 0) (pa_cons (pe_ix (ixL K rfl) (pe_lst (pa_cons (pe_int) (pa_cons (pe_int) pa_nil))) (D_law_taken.call (hr.mono (by decide)) (by rfl) (pa_cons (pv 0) (pa_cons (pe_int) pa_nil))) (fun _ _ => rfl)) pa_nil)))) pa_nil))) pa_nil)))
      (pss_one (ps_set (i := 2) sc_law_hauls.nd rfl (by first | exact Or.inl rfl | exact Or.inr rfl) (D_haul.call (hr.mono (by decide)) (by rfl) (pa_cons (pv 1) (pa_cons (pv 2) (pa_cons (pv 6) (pa_cons (pe_ix (ixT K rfl) (pe_ix (ixL K rfl) (pv 4) (pe_un un_neg (pe_int)) (fun _ _ => rfl)) (pe_int) (fun _ _ => rfl)) pa_nil))))))))))
      (pss_one (ps_ret (pe_tup (pa_cons (pv 4) (pa_cons (pv 2) pa_nil)))))), ?_⟩
  have hz : 100 ≤ sizeLine := by decide
  have hok := hw.fleet
  have hxl := hw.len
  have n8 : n ≤ 8 := by have := hok.2.1; omega
  have n1 : 1 ≤ n := by have := hok.1; omega
  obtain ⟨_, kk⟩ := hrow.lst
  walk_at "rd"
  refine ⟨Nat.zero_le _, fun L hL => ?_⟩
  have nLa : L ≠ a := hrow.ne hL
  have sL := same_upd (o := .lst []) hL
  refine ⟨a, sc, ns, 7, rfl, hrow.mono sL, by omega, by omega, fun m H1 m0 m7 row1 b1 => ?_⟩
  have hL1 : H1 L = some (.lst []) := b1 _ _ nLa upd_same
  have b1 := (same_but (a := a) sL).trans b1
  refine ⟨m, rfl, by omega, by omega, ?_⟩
  obtain ⟨m, rfl⟩ := nat_at m0
  rw [Int.toNat_natCast]
  obtain ⟨W, eW⟩ : ∃ W : Nat → L2.St → Hp → Prop, W = fun i σ H' => ∃ (w x5 x6 : _) (hs : List (Nat × Int)) (ts : List Addr), σ = [some (.ref a), some v, some w, some (.int 6), some (.ref L), x5, x6] ∧ hs.length = i ∧ DrH K a sc ns n rs xs L H H' w hs ts := ⟨_, rfl⟩
  refine forRange W (by rw [eW]; exact ⟨u, _, _, [], [], rfl, rfl, row1, b1, ObjsTs.nil hL1, List.not_mem_nil, hu.but b1 kk, trivial, hw.valid, fun i hi => by show gd xs i ≤ gd xs i + 199 * ((0 : Nat) : Int); omega, fun h hh => nomatch hh⟩) (fun i σ H2 hi hPv => ?_) (fun σ H' hPv => ?_) <;> rw [eW] at hPv
  · obtain ⟨w, x5, x6, hs, ts, rfl, hl, S⟩ := hPv
    obtain ⟨row, but, ot, out, here, ok, vl, far, small⟩ := S
    have hv2 := hv.but but kk
    have hcl : (runD (chainTab n rs) xs hs).length = n := by rw [runD_len]; exact hxl
    have hge := fun i (hi : i < n) => runD_ge (chainTab n rs) hs xs i (by omega)
    have hlo : ∀ i, i < n → -9999 ≤ gd xs i := fun i hi => (range_gd hxl hw.range hi).1
    walk_at "rd"
    refine fleet_0 hv2 ⟨a, sc, ns, n, rfl, row, by omega, by omega, fun b H3 b0 b1' row3 b3 => ?_⟩
    obtain ⟨b, rfl⟩ := nat_at b0
    have hbn : b < n := by omega
    obtain ⟨_, kk2⟩ := row.lst
    have here3 := here.but b3 kk2
    have ot3 := ot.butC b3 nLa out
    refine ⟨.inl ⟨rfl, _, .of ot3.top⟩, ?_⟩
    refine ixt_i (i := b) here3 (by omega) ⟨by omega, fun D hD => ?_⟩
    have sD := same_upd (o := .lst [.int 3, .int 200]) hD
    have nDa : D ≠ a := row3.ne hD
    refine ⟨a, sc, ns, 2, rfl, row3.mono sD, by omega, by omega, fun k2 H4 k0 k2' row4 b4 => ?_⟩
    obtain ⟨k2, rfl⟩ := nat_at k0
    have hD4 : H4 D = some (.lst [.int 3, .int 200]) := b4 _ _ nDa upd_same
    obtain ⟨lm, hlm, hl1, hl2⟩ : ∃ lm : Int, ([.int 3, .int 200] : List V)[k2]? = some (.int lm) ∧ 1 ≤ lm ∧ lm ≤ 200 := by
      match k2, k2' with
      | 0, _ => exact ⟨3, rfl, by omega, by omega⟩
      | 1, _ => exact ⟨200, rfl, by omega, by omega⟩
    refine ⟨D, _, k2, _, rfl, rfl, .of hD4, atI_nat hlm, ?_⟩
    have b34 : But a H3 H4 := (same_but sD).trans b4
    obtain ⟨_, kk4⟩ := row4.lst
    refine ⟨a, sc, ns, lm, rfl, row4, hl1, by omega, fun s9 H5 s0 s9' row5 b5 => ⟨_, _, rfl, rfl, ?_⟩⟩
    have b35 := b34.trans b5
    have b25 := b3.trans b35
    have ot5 := ot3.butC b35 nLa out
    obtain ⟨_, kk3⟩ := row3.lst
    have here5 := here3.but b35 kk3
    have but5 := but.trans b25
    obtain ⟨p, hp⟩ : ∃ p, gd (runD (chainTab n rs) xs hs) b + s9 = p := ⟨_, rfl⟩
    dsimp only
    rw [hp]
    have hfar := far b hbn
    have hbge := hge b hbn
    have hblo := hlo b hbn
    have hb9 := h9 b hbn
    refine ⟨by omega, fun T hT => ?_⟩
    have sT := same_upd (o := .tup [V.int (b : Nat), V.int p]) hT
    have nTL : T ≠ L := fun z => by have := ot5.top; rw [← z, hT] at this; cases this
    have nTa : T ≠ a := row5.ne hT
    have ot6 := ot5.mono sT
    have hT6 : upd H5 T (.tup [V.int (b : Nat), V.int p]) T = some (.tup [V.int (b : Nat), V.int p]) := upd_same
    have row6 := row5.mono sT
    have here6 := here5.mono sT
    have but6 := but5.trans (same_but sT)
    generalize upd H5 T (.tup [V.int (b : Nat), V.int p]) = H6 at ot6 hT6 row6 here6 but6 ⊢
    refine ⟨L, _, _, rfl, rfl, ot6.top, by rw [List.length_map, ot6.len]; omega, ?_⟩
    have ot7 := ot6.snoc (x := (b, p)) hT6 nTL
    have here7 := here6.but (a := L) (but_upd (o := .lst (ts.map V.ref ++ [V.ref T]))) ot6.top
    have row7 : RowAt K (upd H6 L (.lst (ts.map V.ref ++ [V.ref T]))) a sc ns := hrow.put hL but6 row6
    have but7 := but6.put (o := .lst (ts.map V.ref ++ [V.ref T])) hL
    have hL7 : upd H6 L (.lst (ts.map V.ref ++ [V.ref T])) L = some (.lst (ts.map V.ref ++ [V.ref T])) := upd_same
    have hT7 : upd H6 L (.lst (ts.map V.ref ++ [V.ref T])) T = some (.tup [V.int (b : Nat), V.int p]) := by rw [upd_ne nTL]; exact hT6
    generalize upd H6 L (.lst (ts.map V.ref ++ [V.ref T])) = H7 at ot7 here7 row7 but7 hL7 hT7 ⊢
    refine ⟨L, _, -1, .ref T, rfl, rfl, .of hL7, atI_last _ _, T, _, 1, _, rfl, rfl, .of hT7, atI_nat (j := 1) rfl, ?_⟩
    have hv7 := hv.but but7 kk
    have hwc : WayOk n rs (runD (chainTab n rs) xs hs) := ⟨hok, hcl, gd_range hcl fun j hjn => by
      have h1 := far j hjn
      have h2 := hge j hjn
      have h3 := hlo j hjn
      have h4 := h9 j hjn
      omega, vl⟩
    refine ⟨v, w, n, rs, _, b, p, rfl, hv7, here7, hwc, hbn, by show gd _ b ≤ p; omega, by omega, fun H8 w2 s8 hw2 => ?_⟩
    rw [eW]
    have erun : runD (chainTab n rs) xs (hs ++ [(b, p)]) = moveD (chainTab n rs) (runD (chainTab n rs) xs hs) b p := run_snoc _ _ _ _
    refine ⟨w2, _, _, hs ++ [(b, p)], ts ++ [T], rfl, by rw [List.length_append, hl]; rfl, row7.mono s8, but7.trans (same_but s8), ot7.mono s8, fun z => ?_, ?_, hauls_app _ _ _ _ ok ⟨by rw [hcl]; exact hbn, by show gd _ b ≤ p; omega, by show p ≤ 9999; omega, trivial⟩, ?_, fun i hi => ?_, fun h hh => ?_⟩
    · rcases List.mem_append.mp z with z | z
      · exact out z
      · exact nTa (List.mem_singleton.mp z).symm
    · rw [erun]
      exact hw2
    · rw [erun]
      exact move_valid F hcl vl hbn p
    · rw [erun, List.length_append, List.length_singleton]
      have h1 := move_far F hcl vl hbn (p := p) (by omega) hi
      have h2 := far i hi
      rw [Int.natCast_add]
      omega
    · rcases List.mem_append.mp hh with z | z
      · exact small h z
      · rw [List.mem_singleton.mp z]
        exact ⟨hbn, by show -9999 ≤ p; omega, by show p ≤ 9999; omega⟩
  · obtain ⟨w, x5, x6, hs, ts, rfl, hl, S⟩ := hPv
    walk_at "rd"
    refine ⟨by omega, fun p hp => ?_⟩
    have sp := same_upd (o := .tup [V.ref L, w]) hp
    exact q _ p L w hs ts hL upd_same (by omega) ⟨S.row.mono sp, S.but.trans (same_but sp), S.ot.mono sp, S.out, S.here.mono sp, S.ok, S.vl, S.far, S.small⟩
theorem lc_nums {σ : L2.St} {i : Nat} {t p : Addr} {ns : List Int} {H : Hp} {Qd : Hp → Prop} (h : SqT K H t (ns.map V.int)) (hl : ns.length ≤ 100) (hs : Small ns) (hp : H p = none) (hw : ∀ x, wipe ((wipe σ [i]).set i (some x)) [i] = wipe σ [i]) (hg : ∀ x, ((wipe σ [i]).set i (some (x : V)))[i]? = some (some x))
    (q : ∀ H', Same H H' → H' p = some (.lst ((ns.map numT).map V.str)) → Qd H') : LcW (Itt K t) (gName i) tYes (tCB (fun xs H Q => ∃ i, xs = [V.int i] ∧ i.natAbs.log2 < 1920 ∧ Q (V.str (Str.ofString (toString i))) H) (tCons (tVar i) tNil)) [i] p σ H Qd := by
  have hz : 1000000 ≤ sizeLine := by decide
  refine lcTup (xs := ns.map V.int) (fun j H' => Same H H' ∧ H' p = some (.lst (((ns.take j).map numT).map V.str))) ⟨same_upd hp, upd_same⟩ (fun j H' _ hPv => sqt_same hPv.1 h) (fun j x H' hx hPv => ?_) (fun H' hPv => ?_)
  · obtain ⟨e, hL⟩ := hPv
    rw [List.getElem?_map] at hx
    cases hn : ns[j]? with
    | none => rw [hn] at hx; cases hx
    | some y =>
      rw [hn] at hx
      injection hx with hx
      subst hx
      have hsy := hs y (List.mem_of_getElem? hn)
      refine ⟨hw _, ?_⟩
      dsimp only [tYes]
      rw [if_pos rfl]
      refine ⟨_, hg _, y, rfl, log_small hsy, _, hL, by rw [List.length_map, List.length_map, List.length_take]; omega, fun z o hz' => ?_, ?_⟩
      · rw [upd_ne (ne_of_none hz' hp)]
        exact e z o hz'
      · rw [upd_same, List.take_add_one, hn, List.map_append, List.map_append]
        rfl
  · obtain ⟨e, hL⟩ := hPv
    rw [List.length_map, List.take_length] at hL
    exact q _ e hL
theorem state_len {n : Nat} {rs : List Rope} {xs : List Int} (hw : WayOk n rs xs) : (stateT n rs xs).length ≤ 100000 := by
  have h1 := join_len nl1 (rowsOf n rs xs) (rowsOf_short hw)
  have h40 := hw.fleet.2.2.1
  rw [nl_len, rowsOf_len] at h1
  have h2 : (rs.length + 2) * (200 + 1) ≤ 42 * 201 := Nat.mul_le_mul_right _ (by omega)
  show (Txt.join nl1 (rowsOf n rs xs)).length ≤ 100000
  omega
theorem rows_sum {n : Nat} {rs : List Rope} {xs : List Int} (hw : WayOk n rs xs) : ((rowsOf n rs xs).map (·.length)).sum + (rowsOf n rs xs).length * (Str.ofString "\n").length ≤ 16777216 := by
  have h1 := sum_len (rowsOf n rs xs) (rowsOf_short hw)
  have h40 := hw.fleet.2.2.1
  have h2 : (Str.ofString "\n").length = 1 := nl_len
  rw [rowsOf_len] at h1 ⊢
  rw [h2]
  have h3 : (rs.length + 2) * 200 ≤ 42 * 200 := Nat.mul_le_mul_right _ (by omega)
  omega
theorem state_split (n : Nat) (rs : List Rope) (xs : List Int) : Txt.split (stateT n rs xs) (Str.ofString "\n") = rowsOf n rs xs := rows_split (by unfold rowsOf; simp) fun r hr => (rowsOf_ok n rs xs r hr).1
theorem cut_neg (xs : List V) {k : Nat} (h0 : 0 < k) (h : k ≤ xs.length) : cutV xs none (some (-(k : Int))) = xs.take (xs.length - k) := by
  have e : HT.sIx xs.length xs.length (some (-(k : Int))) = xs.length - k := by
    unfold HT.sIx
    dsimp only
    rw [if_pos (by omega)]
    omega
  unfold cutV
  rw [e]
  rfl
theorem cut_mid (xs : List V) {j k : Nat} (h0 : 0 < k) (h : k ≤ xs.length) (hj : j ≤ xs.length) : cutV xs (some (j : Int)) (some (-(k : Int))) = (xs.drop j).take (xs.length - k - j) := by
  have e : HT.sIx xs.length xs.length (some (-(k : Int))) = xs.length - k := by
    unfold HT.sIx
    dsimp only
    rw [if_pos (by omega)]
    omega
  have e2 : HT.sIx xs.length 0 (some (j : Int)) = j := by rw [HT.sIx_nat, Nat.min_eq_left hj]
  unfold cutV
  rw [e, e2]
theorem rows_cut (n : Nat) (rs : List Rope) (xs : List Int) : cutV ((rowsOf n rs xs).map V.str) none (some (-1)) = (rowT bargesW [(n : Int)] :: rs.map ropeR).map V.str := by
  have h := cut_neg ((rowsOf n rs xs).map V.str) (k := 1) (by decide) (by rw [List.length_map, rowsOf_len]; omega)
  rw [show (-1 : Int) = -((1 : Nat) : Int) from rfl, h, List.length_map, rowsOf_len, ← List.map_take]
  congr 1
  unfold rowsOf
  rw [show rs.length + 2 - 1 = rs.length + 1 from rfl, List.take_succ_cons, List.take_left' (by rw [List.length_map])]
theorem rows_lay' {n : Nat} {rs : List Rope} : ∀ r ∈ rowT bargesW [(n : Int)] :: rs.map ropeR, PyData.canLay0 (.str r) = true := fun r hr => rows_lay (n := n) (rs := rs) (xs := []) r (by
  rcases List.mem_cons.mp hr with rfl | hr
  · exact List.mem_cons_self
  · exact List.mem_cons_of_mem _ (List.mem_append_left _ hr))
theorem cat_hauls {H : Hp} {L1 L2 p : Addr} {ts1 ts2 : List Addr} {hs1 hs2 : List (Nat × Int)} (h1 : ObjsTs oHaul H L1 ts1 hs1) (h2 : ObjsTs oHaul H L2 ts2 hs2) (hp : H p = none) : HaulsAt (upd H p (.lst (ts1.map V.ref ++ ts2.map V.ref))) p (hs1 ++ hs2) := by
  have s := same_upd (o := .lst (ts1.map V.ref ++ ts2.map V.ref)) hp
  refine ⟨ts1 ++ ts2, by rw [upd_same, List.map_append], by rw [List.length_append, List.length_append, h1.len, h2.len], fun hm => ?_, fun i t x ht hx => ?_⟩
  · rcases List.mem_append.mp hm with z | z
    · obtain ⟨i, hi, e⟩ := List.getElem_of_mem z
      have hi2 : i < hs1.length := by rw [← h1.len]; exact hi
      have := h1.obj i p hs1[i] (by rw [List.getElem?_eq_getElem hi, e]) (List.getElem?_eq_getElem hi2)
      rw [hp] at this
      cases this
    · obtain ⟨i, hi, e⟩ := List.getElem_of_mem z
      have hi2 : i < hs2.length := by rw [← h2.len]; exact hi
      have := h2.obj i p hs2[i] (by rw [List.getElem?_eq_getElem hi, e]) (List.getElem?_eq_getElem hi2)
      rw [hp] at this
      cases this
  · by_cases hi : i < ts1.length
    · rw [List.getElem?_append_left hi] at ht
      rw [List.getElem?_append_left (by rw [← h1.len]; exact hi)] at hx
      exact s _ _ (h1.obj i t x ht hx)
    · rw [List.getElem?_append_right (by omega)] at ht
      rw [List.getElem?_append_right (by rw [← h1.len]; omega), ← h1.len] at hx
      exact s _ _ (h2.obj _ t x ht hx)
theorem rcat_hauls {H0 H : Hp} {Q : VK} {L1 L2 : Addr} {ts1 ts2 : List Addr} {hs1 hs2 : List (Nat × Int)} (h1 : ObjsTs oHaul H0 L1 ts1 hs1) (h2 : ObjsTs oHaul H0 L2 ts2 hs2) (hl : (hs1 ++ hs2).length ≤ 100) (e : Same H0 H) (q : ∀ H' l, Same H H' → HaulsAt H' l (hs1 ++ hs2) → Q (.ref l) H') : rCat (.ref L1) (.ref L2) H Q := by
  have hz : 100 ≤ sizeLine := by decide
  have h1 := h1.mono e
  have h2 := h2.mono e
  rw [List.length_append] at hl
  exact ⟨L1, L2, _, _, rfl, rfl, h1.top, h2.top, by rw [List.length_map, List.length_map, h1.len, h2.len]; omega, fun p hp => q _ p (same_upd hp) (cat_hauls h1 h2 hp)⟩
theorem ne_hauls {H : Hp} {Q : VK} {l p : Addr} {hs : List (Nat × Int)} (h : HaulsAt H l hs) (hp : H p = none) (q : Q (.bl (!hs.isEmpty)) (upd H p (.lst []))) : rNeD K (.ref l) (.ref p) (upd H p (.lst [])) Q := by
  refine ⟨_, .list [], dp_hauls (h.mono (same_upd hp)), .lst (.of upd_same) .nil, shaped_hauls _, rfl, ?_⟩
  rw [eqv_nil, List.isEmpty_map]
  exact q
theorem parts_snoc (ps : List (List (Nat × Int))) (hs : List (Nat × Int)) : partsT (ps ++ [hs]) = partsT ps ++ if (!hs.isEmpty) = true then [planT hs] else [] := by
  unfold partsT
  rw [List.filter_append, List.map_append]
  congr 1
  rw [List.filter_cons]
  by_cases h : (!hs.isEmpty) = true
  · rw [if_pos h, if_pos h]
    rfl
  · rw [if_neg h, if_neg h]
    rfl
theorem parts_len (ps : List (List (Nat × Int))) : (partsT ps).length ≤ ps.length := by
  unfold partsT
  rw [List.length_map]
  exact List.length_filter_le _ _
theorem code_len {n : Nat} {rs : List Rope} {xs : List Int} {hs : List (Nat × Int)} (hw : WayOk n rs xs) (hst : StepsOk xs hs) (h200 : hs.length ≤ 200) : (codeB n rs xs hs).length ≤ 3000 := by
  have h1 := headB_len hw
  have h2 := haulsB_len hst
  have h3 := gN_len 2 hs.length (by show _ < 2097152; omega)
  unfold codeB bodyB
  rw [List.length_append, List.length_append, List.length_append]
  show _ + 1 ≤ _
  omega
theorem cutI_to {zs a r : List Int} (h : zs = a ++ r) {k : Int} (hk : k = (a.length : Nat)) : cutV (zs.map V.int) none (some k) = a.map V.int := by
  rw [hk, cut_to, h, ← List.map_take, List.take_left]
theorem cutI_from {zs a r : List Int} (h : zs = a ++ r) {k : Int} (hk : k = (a.length : Nat)) : cutV (zs.map V.int) (some k) none = r.map V.int := by
  rw [hk, cut_from, h, ← List.map_drop, List.drop_left]
theorem cutI_end {zs a r : List Int} (h : zs = a ++ r) {k : Int} (hk : k = -((r.length : Nat) : Int)) (h0 : 0 < r.length) : cutV (zs.map V.int) none (some k) = a.map V.int := by
  have hl : zs.length = a.length + r.length := by rw [h, List.length_append]
  rw [hk, cut_neg _ h0 (by rw [List.length_map]; omega), ← List.map_take, List.length_map, show zs.length - r.length = a.length by omega, h, List.take_left]
theorem cutI_mid {zs a b r : List Int} (h : zs = a ++ (b ++ r)) {j k : Int} (hj : j = (a.length : Nat)) (hk : k = -((r.length : Nat) : Int)) (h0 : 0 < r.length) : cutV (zs.map V.int) (some j) (some k) = b.map V.int := by
  have hl : zs.length = a.length + (b.length + r.length) := by rw [h, List.length_append, List.length_append]
  rw [hj, hk, cut_mid _ h0 (by rw [List.length_map]; omega) (by rw [List.length_map]; omega), ← List.map_drop, ← List.map_take, List.length_map, show zs.length - r.length - a.length = b.length by omega, h, List.drop_left, List.take_left]
theorem code_eq {n : Nat} {rs : List Rope} {xs : List Int} {hs : List (Nat × Int)} (h : hs.length < 128) : codeB n rs xs hs = headB n rs xs ++ ((hs.length : Int) :: (haulsB xs hs ++ [(bodyB n rs xs hs).sum.fmod 251])) := by
  unfold codeB
  generalize (bodyB n rs xs hs).sum.fmod 251 = c
  rw [body_eq h, List.append_assoc]
  rfl
theorem ne_intsL {H : Hp} {Q : VK} {l p : Addr} {zs : List Int} (h : H l = some (.lst (zs.map V.int))) (h' : H p = some (.lst (zs.map V.int))) (q : Q (.bl false) H) : rNeD K (.ref l) (.ref p) H Q := ne_same (dp_ints_l (.of h)) (dp_ints_l (.of h')) (shaped_opts_l _) q
def s_law : Stmt := topS 65
abbrev n_law : List Str := ["_law_script", "_law_row", "_law_turn", "_law_fleet_here", "_law_start_here", "_law_early", "_law_here", "_law_later", "_law_there", "_law_rows", "_law_part", "_law_rope", "_law_place", "_law_parts", "_law_plan", "_law_data", "_law_values", "_law_none", "_law_few"]
abbrev p_law : List Str := ["_law_script"]
theorem sc_law : FnScope n_law p_law (defScope s_law) := ⟨rfl, rfl, rfl, by decide +kernel, rfl, by decide +kernel, by decide +kernel⟩
def sp_law (K : PySem.W.Frag) : Sp := fun vs H Q _ => ∃ (sc : Addr) (ns : List Int), vs = [.ref sc] ∧ SqL K H sc (ns.map V.int) ∧ ns.length ≤ 1000 ∧ ∀ H', Q (.bl true) H'
theorem ok_law {fa : Addr} {fd : FuncData} (T : Fun K "law" "law" s_law fa fd) (B : Blt mg) (B2 : Blt2 mg) (D_law_fleet : Df P w K mg base CX0 "_law_fleet" 2 p_law_fleet (sp_law_fleet K)) (D_law_start : Df P w K mg base CX0 "_law_start" 3 p_law_start (sp_law_start K)) (D_law_hauls : Df P w K mg base CX0 "_law_hauls" 8 p_law_hauls (sp_law_hauls K))
    (D_haul_all : Df P w K mg base CX0 "haul_all" 6 p_haul_all (sp_haul_all K)) (D_format_state : Df P w K mg base CX0 "format_state" 5 p_format_state (sp_format_state K)) (D_parse_state : Df P w K mg base CX0 "parse_state" 5 p_parse_state (sp_parse_state K)) (D_format_plan : Df P w K mg base CX0 "format_plan" 4 p_format_plan (sp_format_plan K)) (D_parse_plan : Df P w K mg base CX0 "parse_plan" 3 p_parse_plan (sp_parse_plan K))
    (D_encode_plan : Df P w K mg base CX0 "encode_plan" 7 p_encode_plan (sp_encode_plan K)) (D_decode_plan : Df P w K mg base CX0 "decode_plan" 7 p_decode_plan (sp_decode_plan K)) (D_pack_bytes : Df P w K mg base CX0 "pack_bytes" 2 p_pack_bytes (sp_pack_bytes K)) (D_unpack_bytes : Df P w K mg base CX0 "unpack_bytes" 1 p_unpack_bytes (sp_unpack_bytes K)) :
    FnOk P w K mg base CX0 9 fa fd p_law (sp_law K) := by
  refine T.ok sc_law (fun vs H Q E h => by obtain ⟨_, _, rfl, _⟩ := h; rfl) (fun cdv A outer s H vs Q E hr h => ?_)
  obtain ⟨sc, ns, rfl, hsc, hns, q⟩ := h
  refine ⟨_, pss_cons (ps_set (i := 1) sc_law.nd rfl (by first | exact Or.inl rfl | exact Or.inr rfl) (pe_lst (pa_cons (pv 0) (pa_cons (pe_int) (pa_cons (pe_int) (pa_cons (pe_int) pa_nil))))))
      (pss_cons (ps_for PassesOwn.never rfl (pi_range1 (by rfl) B.range (pa_cons (pe_int) pa_nil)) (pg_name (i := 2) sc_law.nd rfl (by first | exact Or.inl rfl | exact Or.inr rfl)) (pss_cons (ps_set (i := 3) sc_law.nd rfl (by first | exact Or.inl rfl | exact Or.inr rfl) (D_law_fleet.call (hr.mono (by decide)) (by rfl) (pa_cons (pv 1) (pa_cons (pe_int) pa_nil))))
      (pss_cons (ps_set (i := 4) sc_law.nd rfl (by first | exact Or.inl rfl | exact Or.inr rfl) (D_law_start.call (hr.mono (by decide)) (by rfl) (pa_cons (pv 1) (pa_cons (pv 3) pa_nil))))
      (pss_cons (ps_asg (D_law_hauls.call (hr.mono (by decide)) (by rfl) (pa_cons (pv 1) (pa_cons (pv 3) (pa_cons (pv 4) (pa_cons (pe_int) pa_nil))))) (pgTup K rfl (n := 2) rfl (pgs_cons (pg_name (i := 5) sc_law.nd rfl (by first | exact Or.inl rfl | exact Or.inr rfl)) (pgs_cons (pg_name (i := 6) sc_law.nd rfl (by first | exact Or.inl rfl | exact Or.inr rfl)) pgs_nil))))
      (pss_cons (ps_asg (D_law_hauls.call (hr.mono (by decide)) (by rfl) (pa_cons (pv 1) (pa_cons (pv 3) (pa_cons (pv 6) (pa_cons (pe_int) pa_nil))))) (pgTup K rfl (n := 2) rfl (pgs_cons (pg_name (i := 7) sc_law.nd rfl (by first | exact Or.inl rfl | exact Or.inr rfl)) (pgs_cons (pg_name (i := 8) sc_law.nd rfl (by first | exact Or.inl rfl | exact Or.inr rfl)) pgs_nil))))
      (pss_cons (ps_set (i := 9) sc_law.nd rfl (by first | exact Or.inl rfl | exact Or.inr rfl) (pe_op op_cat (pe_lst (pa_cons (pe_op op_add_str (pe_str) (pe_callTy call_str_int (by rfl) B2.str (by decide +kernel) (pa_cons (pe_ix (ixT K rfl) (pv 3) (pe_int) (fun _ _ => rfl)) pa_nil))) pa_nil)) (pe_lc (own := [("_law_rope", 11)]) rfl sc_law.nd (piTup K rfl (pe_ix (ixT K rfl) (pv 3) (pe_int) (fun _ _ => rfl))) (blkOk_by (N := n_law) (sc := defScope s_law) (by decide +kernel)) (fun _ _ _ _ _ => pg_name (i := 11) sc_law.nd rfl (by first | exact Or.inl rfl | exact Or.inr rfl)) (fun _ _ _ _ _ => pts_nil) (fun _ _ _ _ _ => pe_joinK (K := K) rfl (pe_str) (pe_op op_cat (pe_lst (pa_cons (pe_str) pa_nil)) (pe_lcIn (S := defScope s_law) (own := [("_law_part", 10)]) rfl sc_law.nd rfl (piTup K rfl (pv 11)) (blkOk_by (N := n_law) (by decide +kernel)) (fun _ _ _ _ _ => pg_name (i := 10) sc_law.nd rfl (by first | exact Or.inl rfl | exact Or.inr rfl)) (fun _ _ _ _ _ => pts_nil) (fun _ _ _ _ _ => pe_callTy call_str_int (by rfl) B2.str (by decide +kernel) (pa_cons (pv 10) pa_nil))))))))
      (pss_cons (ps_expr (pe_bm PySem.F.plainAttrs_list PySem.F.slot_list_append PySem.F.type_list_append mt_append (pv 9) (pa_cons (pe_op op_add_str (pe_str) (pe_join (pe_str) (pe_lc (own := [("_law_place", 12)]) rfl sc_law.nd (piTup K rfl (pv 4)) (blkOk_by (N := n_law) (sc := defScope s_law) (by decide +kernel)) (fun _ _ _ _ _ => pg_name (i := 12) sc_law.nd rfl (by first | exact Or.inl rfl | exact Or.inr rfl)) (fun _ _ _ _ _ => pts_nil) (fun _ _ _ _ _ => pe_callTy call_str_int (by rfl) B2.str (by decide +kernel) (pa_cons (pv 12) pa_nil))))) pa_nil)))
      (pss_cons (ps_if (PW.pt (pw_or (pt_cmpR (neD K rfl hr.units) (pe_split (D_format_state.call (hr.mono (by decide)) (by rfl) (pa_cons (pv 3) (pa_cons (pv 4) pa_nil))) (pe_str)) (pv 9) (nomark _)) (pw_or1 (pt_cmpR (neD K rfl hr.units) (D_parse_state.call (hr.mono (by decide)) (by rfl) (pa_cons (pe_join (pe_str) (pv 9)) pa_nil)) (pe_tup (pa_cons (pv 3) (pa_cons (pv 4) pa_nil))) (nomark _))))) (pss_one (ps_ret (pe_bl))) (pss_nil))
      (pss_cons (ps_if (pt_cmpR (neD K rfl hr.units) (D_parse_state.call (hr.mono (by decide)) (by rfl) (pa_cons (D_format_state.call (hr.mono (by decide)) (by rfl) (pa_cons (pv 3) (pa_cons (pv 8) pa_nil))) pa_nil)) (pe_tup (pa_cons (pv 3) (pa_cons (pv 8) pa_nil))) (nomark _)) (pss_one (ps_ret (pe_bl))) (pss_nil))
      (pss_cons (ps_if (pt_cmpR (neD K rfl hr.units) (pe_slice (slL K rfl) (pe_split (D_format_state.call (hr.mono (by decide)) (by rfl) (pa_cons (pv 3) (pa_cons (pv 8) pa_nil))) (pe_str)) po_none (po_some (pe_un un_neg (pe_int)))) (pe_slice (slL K rfl) (pv 9) po_none (po_some (pe_un un_neg (pe_int)))) (nomark _)) (pss_one (ps_ret (pe_bl))) (pss_nil))
      (pss_cons (ps_setLc (i := 13) (own := [("_law_plan", 14)]) rfl sc_law.nd rfl rfl (sw_true rfl rfl rfl (by decide +kernel)) (piTup K rfl (pe_tup (pa_cons (pv 5) (pa_cons (pv 7) pa_nil)))) (blkOk_by (N := n_law) (sc := defScope s_law) (by decide +kernel)) (fun _ _ _ _ _ => pg_name (i := 14) sc_law.nd rfl (by first | exact Or.inl rfl | exact Or.inr rfl)) (fun _ _ _ _ _ => pts_one (pt_cmpR (neD K rfl hr.units) (pv 14) (pe_lst (pa_nil)) (nomark _))) (fun _ _ _ _ _ => D_format_plan.call (hr.mono (by decide)) (by rfl) (pa_cons (pv 14) pa_nil)))
      (pss_cons (ps_if (PW.pt (pw_or (pt_cmpR op_ne (D_format_plan.call (hr.mono (by decide)) (by rfl) (pa_cons (pe_op op_cat (pv 5) (pv 7)) pa_nil)) (pe_join (pe_str) (pv 13)) (nomark _)) (pw_or1 (pt_cmpR (neD K rfl hr.units) (D_parse_plan.call (hr.mono (by decide)) (by rfl) (pa_cons (D_format_plan.call (hr.mono (by decide)) (by rfl) (pa_cons (pe_op op_cat (pv 5) (pv 7)) pa_nil)) pa_nil)) (pe_op op_cat (pv 5) (pv 7)) (nomark _))))) (pss_one (ps_ret (pe_bl))) (pss_nil))
      (pss_cons (ps_if (PW.pt (pw_or (pt_cmpR (neD K rfl hr.units) (D_parse_plan.call (hr.mono (by decide)) (by rfl) (pa_cons (pe_str) pa_nil)) (pe_lst (pa_nil)) (nomark _)) (pw_or1 (pt_cmpR (neD K rfl hr.units) (pe_lc (own := [("_law_part", 10)]) rfl sc_law.nd (piList K rfl (pv 13)) (blkOk_by (N := n_law) (sc := defScope s_law) (by decide +kernel)) (fun _ _ _ _ _ => pg_name (i := 10) sc_law.nd rfl (by first | exact Or.inl rfl | exact Or.inr rfl)) (fun _ _ _ _ _ => pts_one (pt_cmpR op_ne (pe_slice sl_str (pv 10) po_none (po_some (pe_int))) (pe_str) (nomark _))) (fun _ _ _ _ _ => pv 10)) (pe_lst (pa_nil)) (nomark _))))) (pss_one (ps_ret (pe_bl))) (pss_nil))
      (pss_cons (ps_set (i := 15) sc_law.nd rfl (by first | exact Or.inl rfl | exact Or.inr rfl) (D_encode_plan.call (hr.mono (by decide)) (by rfl) (pa_cons (pv 3) (pa_cons (pv 4) (pa_cons (pe_op op_cat (pv 5) (pv 7)) pa_nil)))))
      (pss_cons (ps_if (PW.pt (pw_or (pt_cmpR (neD K rfl hr.units) (D_decode_plan.call (hr.mono (by decide)) (by rfl) (pa_cons (pv 15) pa_nil)) (pe_tup (pa_cons (pv 3) (pa_cons (pv 4) (pa_cons (pe_op op_cat (pv 5) (pv 7)) pa_nil)))) (nomark _)) (pw_or1 (pt_cmpR (neD K rfl hr.units) (D_haul_all.call (hr.mono (by decide)) (by rfl) (pa_cons (pv 3) (pa_cons (pv 4) (pa_cons (pe_op op_cat (pv 5) (pv 7)) pa_nil)))) (pv 8) (nomark _))))) (pss_one (ps_ret (pe_bl))) (pss_nil))
      (pss_cons (ps_par (i := 16) (j := 17) rfl sc_law.nd rfl rfl (by decide) rfl rfl (pa_cons (D_unpack_bytes.call (hr.mono (by decide)) (by rfl) (pa_cons (pv 15) pa_nil)) (pa_cons (D_unpack_bytes.call (hr.mono (by decide)) (by rfl) (pa_cons (D_encode_plan.call (hr.mono (by decide)) (by rfl) (pa_cons (pv 3) (pa_cons (pv 4) (pa_cons (pe_lst (pa_nil)) pa_nil)))) pa_nil)) pa_nil)) (by rfl))
      (pss_cons (ps_if (PW.pt (pw_or (pt_cmpR op_ne (D_pack_bytes.call (hr.mono (by decide)) (by rfl) (pa_cons (pv 16) pa_nil)) (pv 15) (nomark _)) (pw_or1 (pt_cmpR (neD K rfl hr.units) (pe_slice (slL K rfl) (pv 16) po_none (po_some (pe_op op_sub (pe_callB (lenQ K rfl) (by rfl) B.len (by decide +kernel) (pa_cons (pv 17) pa_nil)) (pe_int)))) (pe_slice (slL K rfl) (pv 17) po_none (po_some (pe_un un_neg (pe_int)))) (nomark _))))) (pss_one (ps_ret (pe_bl))) (pss_nil))
      (pss_cons (ps_if (pt_cmpR (neD K rfl hr.units) (pe_slice (slL K rfl) (pv 16) po_none (po_some (pe_int))) (pe_lst (pa_cons (pe_int) (pa_cons (pe_ix (ixT K rfl) (pv 3) (pe_int) (fun _ _ => rfl)) (pa_cons (pe_callB (lenQ K rfl) (by rfl) B.len (by decide +kernel) (pa_cons (pe_ix (ixT K rfl) (pv 3) (pe_int) (fun _ _ => rfl)) pa_nil)) pa_nil)))) (nomark _)) (pss_one (ps_ret (pe_bl))) (pss_nil))
      (pss_cons (ps_if (PW.pt (pw_or (pt_cmpR op_ne (pe_ix (ixL K rfl) (pv 16) (pe_op op_sub (pe_callB (lenQ K rfl) (by rfl) B.len (by decide +kernel) (pa_cons (pv 17) pa_nil)) (pe_int)) (fun _ _ => rfl)) (pe_callB (lenQ K rfl) (by rfl) B.len (by decide +kernel) (pa_cons (pe_op op_cat (pv 5) (pv 7)) pa_nil)) (nomark _)) (pw_or1 (pt_cmpR op_ne (pe_ix (ixL K rfl) (pv 16) (pe_un un_neg (pe_int)) (fun _ _ => rfl)) (pe_op op_modN (pe_callTy call_int1 (by rfl) B.int (by decide +kernel) (pa_cons (pe_callB (sumQ K rfl rfl) (by rfl) B2.sum (by decide +kernel) (pa_cons (pe_slice (slL K rfl) (pv 16) po_none (po_some (pe_un un_neg (pe_int)))) pa_nil)) pa_nil)) (pe_int)) (nomark _))))) (pss_one (ps_ret (pe_bl))) (pss_nil))
      (pss_cons (ps_set (i := 18) sc_law.nd rfl (by first | exact Or.inl rfl | exact Or.inr rfl) (D_unpack_bytes.call (hr.mono (by decide)) (by rfl) (pa_cons (D_encode_plan.call (hr.mono (by decide)) (by rfl) (pa_cons (pv 3) (pa_cons (pv 4) (pa_cons (pv 5) pa_nil)))) pa_nil)))
      (pss_one (ps_if (pt_cmpR (neD K rfl hr.units) (pe_slice (slL K rfl) (pe_slice (slL K rfl) (pv 16) po_none (po_some (pe_op op_sub (pe_callB (lenQ K rfl) (by rfl) B.len (by decide +kernel) (pa_cons (pv 18) pa_nil)) (pe_int)))) (po_some (pe_op op_sub (pe_callB (lenQ K rfl) (by rfl) B.len (by decide +kernel) (pa_cons (pv 17) pa_nil)) (pe_int))) po_none) (pe_slice (slL K rfl) (pv 18) (po_some (pe_op op_sub (pe_callB (lenQ K rfl) (by rfl) B.len (by decide +kernel) (pa_cons (pv 17) pa_nil)) (pe_int))) (po_some (pe_un un_neg (pe_int)))) (nomark _)) (pss_one (ps_ret (pe_bl))) (pss_nil)))))))))))))))))))))))
      (pss_one (ps_ret (pe_bl)))), ?_⟩
  have hz : 1000000 ≤ sizeLine := by decide
  walk_at "rd"
  refine ⟨by omega, fun a ha => ⟨by omega, by omega, ?_⟩⟩
  have hrow : RowAt K (upd H a (.lst [.ref sc, .int 0, .int 0, .int 0])) a sc ns := by
    refine ⟨0, 0, 0, upd_same, (same_upd ha).seq hsc, ?_, by omega, by omega, by omega, by omega⟩
    rcases hsc with (h | ⟨o, h⟩) | h
    · exact .inl (ne_of_none h ha)
    · exact .inl (ne_of_none h ha)
    · exact .inr (.inr h)
  have e2 : (2 : Int).toNat = 2 := rfl
  rw [e2]
  obtain ⟨W1, eW1⟩ : ∃ W : Nat → L2.St → Hp → Prop, W = fun k σ H' => (∃ x2 x3 x4 x5 x6 x7 x8 x9 x10 x11 x12 x13 x14 x15 x16 x17 x18, σ = [some (.ref sc), some (.ref a), x2, x3, x4, x5, x6, x7, x8, x9, x10, x11, x12, x13, x14, x15, x16, x17, x18]) ∧ RowAt K H' a sc ns := ⟨_, rfl⟩
  refine forRange W1 (by rw [eW1]; exact ⟨⟨_, _, _, _, _, _, _, _, _, _, _, _, _, _, _, _, _, rfl⟩, hrow⟩) (fun k0 σ H0 hk0 hPv => ?_) (fun σ H' hPv => ?_) <;> rw [eW1] at hPv
  · obtain ⟨⟨x2, x3, x4, x5, x6, x7, x8, x9, x10, x11, x12, x13, x14, x15, x16, x17, x18, rfl⟩, row0⟩ := hPv
    have fin : ∀ {σ' H'}, (∃ x2 x3 x4 x5 x6 x7 x8 x9 x10 x11 x12 x13 x14 x15 x16 x17 x18, σ' = [some (.ref sc), some (.ref a), x2, x3, x4, x5, x6, x7, x8, x9, x10, x11, x12, x13, x14, x15, x16, x17, x18]) → RowAt K H' a sc ns → W1 (k0 + 1) σ' H' := by
      intro σ' H' e r
      rw [eW1]
      exact ⟨e, r⟩
    walk_at "rd"
    refine ⟨a, sc, ns, 8, rfl, row0, by omega, by omega, fun H1 v n rs row1 b1 hv hok hn8 hkp => ?_⟩
    obtain ⟨pl, hpl0, hplh⟩ := hkp
    have hpl : Pl n rs pl := ⟨fun i => (hpl0 i).1, fun i => (hpl0 i).2, hplh⟩
    have n8 : n ≤ 8 := by omega
    have n1 : 1 ≤ n := by have := hok.1; omega
    have h40 := hok.2.2.1
    have F : Fit n rs := Fit.of hok.2.2.2 hplh
    refine ⟨a, sc, ns, v, n, rs, pl, rfl, row1, hv, hok, hpl, fun H2 u xs row2 b2 hu hxn hxv hxb => ?_⟩
    obtain ⟨_, kk⟩ := row1.lst
    have hv := hv.but b2 kk
    have hx1 : ∀ i, i < n → -4 ≤ gd xs i ∧ gd xs i ≤ 291 := fun i hi => by
      have h1 := hxb i hi
      have h2 := hpl.hi i
      omega
    have hw : WayOk n rs xs := ⟨hok, hxn, gd_range hxn fun i hi => by have := hx1 i hi; omega, hxv⟩
    clear row0 row1 b1 b2 kk hrow hpl0 hxb
    obtain ⟨d, hd⟩ : ∃ d, chainTab n rs = d := ⟨_, rfl⟩
    refine ⟨a, sc, ns, v, u, n, rs, xs, rfl, row2, hv, F, hu, hw, fun i hi => by have := hx1 i hi; omega, fun H3 p1 L1 w1 hs1 ts1 hL1 hp1 hs16 S1 => ?_⟩
    have nL1a : L1 ≠ a := row2.ne hL1
    obtain ⟨_, kk⟩ := row2.lst
    have hv := hv.but S1.but kk
    have hu := hu.but S1.but kk
    have row3 := S1.row
    have ot1 := S1.ot
    obtain ⟨zs, hzs⟩ : ∃ zs, runD (chainTab n rs) xs hs1 = zs := ⟨_, rfl⟩
    have hzn : zs.length = n := by rw [← hzs, runD_len]; exact hxn
    have hge1 : ∀ i, i < n → gd xs i ≤ gd zs i := fun i hi => by rw [← hzs]; exact runD_ge _ _ _ _ (by omega)
    have hfar1 := S1.far
    have hzv := S1.vl
    have here1 := S1.here
    have hok1 := S1.ok
    have out1 := S1.out
    have sm1 := S1.small
    rw [hzs] at hfar1 hzv here1
    have hz1 : ∀ i, i < n → -4 ≤ gd zs i ∧ gd zs i ≤ 1500 := fun i hi => by
      have h1 := hx1 i hi
      have h2 := hfar1 i hi
      have h3 := hge1 i hi
      omega
    have hwz : WayOk n rs zs := ⟨hok, hzn, gd_range hzn fun i hi => by have := hz1 i hi; omega, hzv⟩
    walk_at "rd"
    refine ⟨_, .of hp1, rfl, ?_⟩
    clear S1 row2 hL1 hp1 kk
    walk_at "rd"
    refine ⟨a, sc, ns, v, w1, n, rs, zs, rfl, row3, hv, F, here1, hwz, fun i hi => by have := hz1 i hi; omega, fun H4 p2 L2 w2 hs2 ts2 hL2 hp2 hs26 S2 => ?_⟩
    obtain ⟨_, kk⟩ := row3.lst
    have hv := hv.but S2.but kk
    have hu := hu.but S2.but kk
    have here1 := here1.but S2.but kk
    have ot1 := ot1.butC S2.but nL1a out1
    have rowb := S2.row
    have ot2 := S2.ot
    obtain ⟨ys, hys⟩ : ∃ ys, runD (chainTab n rs) zs hs2 = ys := ⟨_, rfl⟩
    have hyn : ys.length = n := by rw [← hys, runD_len]; exact hzn
    have hge2 : ∀ i, i < n → gd zs i ≤ gd ys i := fun i hi => by rw [← hys]; exact runD_ge _ _ _ _ (by omega)
    have hfar2 := S2.far
    have hyv := S2.vl
    have here2 := S2.here
    have hok2 := S2.ok
    have sm2 := S2.small
    rw [hys] at hfar2 hyv here2
    have hwy : WayOk n rs ys := ⟨hok, hyn, gd_range hyn fun i hi => by
      have h1 := hz1 i hi
      have h2 := hfar2 i hi
      have h3 := hge2 i hi
      omega, hyv⟩
    walk_at "rd"
    refine ⟨_, .of hp2, rfl, ?_⟩
    clear S2 row3 hL2 hp2 kk here1 hfar1 hfar2 hge1 hge2 hz1
    have hrun : runD (chainTab n rs) xs (hs1 ++ hs2) = ys := by rw [run_app, hzs, hys]
    have hok12 : HaulsOk (chainTab n rs) xs (hs1 ++ hs2) := hauls_app _ _ _ _ hok1 (by rw [hzs]; exact hok2)
    have sm12 : ∀ h ∈ hs1 ++ hs2, h.1 < n ∧ -9999 ≤ h.2 ∧ h.2 ≤ 9999 := fun h hh => (List.mem_append.mp hh).elim (sm1 h) (sm2 h)
    have po : ∀ {hs : List (Nat × Int)}, (∀ h ∈ hs, h.1 < n ∧ -9999 ≤ h.2 ∧ h.2 ≤ 9999) → PlanOk hs := fun sm h hh => ⟨by have := (sm h hh).1; omega, (sm h hh).2⟩
    have hxs9 : ∀ x ∈ xs, x.natAbs ≤ 9999 := fun x hx => by have := hw.range x hx; omega
    have so : ∀ {hs : List (Nat × Int)}, (∀ h ∈ hs, h.1 < n ∧ -9999 ≤ h.2 ∧ h.2 ≤ 9999) → StepsOk xs hs := fun sm => steps_ok hxs9 (po sm)
    have hl12 : (hs1 ++ hs2).length ≤ 12 := by rw [List.length_append]; omega
    obtain ⟨ua, rfl, hua⟩ := id hu
    have hxsm : Small xs := fun x hx => by have := hxs9 x hx; omega
    walk_at "rd"
    obtain ⟨fa, fb, fvs, rfl, hfa, hfb, hfl, hfx⟩ := id hv
    have lnum : ∀ {z : Int}, -9999 ≤ z → z ≤ 9999 → (numT z).length ≤ 6 := fun {z} h1 h2 => numT_len (k := 5) (by decide) (by show z.natAbs < 100000; omega)
    refine ⟨fa, _, 0, _, rfl, rfl, hfa, atI_nat (j := 0) rfl, ?_⟩
    refine ⟨(n : Int), rfl, log_small (show n < 1000000000 by omega), _, rfl, _, rfl, ?_, by omega, fun D0 hD0 => ?_⟩
    · have h1 : (Str.ofString "barges ").length = 7 := by decide +kernel
      have h2 := lnum (z := (n : Int)) (by omega) (by omega)
      have h2 : (Str.ofString (toString (n : Int))).length ≤ 6 := h2
      omega
    have sD0 := same_upd (o := .lst [V.str (Str.ofString "barges " ++ Str.ofString (toString (n : Int)))]) hD0
    have hD0' : (upd H4 D0 (.lst [V.str (Str.ofString "barges " ++ Str.ofString (toString (n : Int)))])) D0 = some (.lst ([rowT bargesW [(n : Int)]].map V.str)) := by
      rw [upd_same, ← barges_row]
      rfl
    generalize upd H4 D0 (.lst [V.str (Str.ofString "barges " ++ Str.ofString (toString (n : Int)))]) = H5 at sD0 hD0' ⊢
    refine ⟨fa, _, 1, _, rfl, rfl, sqt_same sD0 hfa, atI_nat (j := 1) rfl, fb, rfl, ⟨_, sqt_same sD0 hfb⟩, fun D1 hD1 => ?_⟩
    refine lcTup (xs := fvs) (fun i H' => Same H5 H' ∧ H' D1 = some (.lst (((rs.take i).map ropeR).map V.str))) ⟨same_upd hD1, upd_same⟩ (fun j H' _ hPv => sqt_same (sD0.trans hPv.1) hfb) (fun i x H' hx hPv => ?_) (fun H6 hPv => ?_)
    · obtain ⟨e, hL⟩ := hPv
      have hil : i < rs.length := by rw [← hfl]; exact (List.getElem?_eq_some_iff.mp hx).1
      have hri : rs[i]? = some rs[i] := List.getElem?_eq_getElem hil
      have hro := hok.2.2.2 _ (List.getElem_mem hil)
      generalize rs[i] = r at hri hro
      obtain ⟨y, hy, c, rfl, hc⟩ := hfx i r hri
      rw [hy] at hx
      injection hx with hx
      subst hx
      walk_at "rd"
      simp only [q_m1]
      walk_at "rd"
      refine ⟨⟨_, rfl⟩, by omega, fun p3 hp3 => ?_⟩
      have s3 := same_upd (o := .lst [V.str (Str.ofString "rope")]) hp3
      have hp3' : (upd H' p3 (.lst [V.str (Str.ofString "rope")])) p3 = some (.lst [V.str (Str.ofString "rope")]) := upd_same
      have hc3 := sqt_same (sD0.trans (e.trans s3)) hc
      have hsml := small_of (rope_small (show (n : Int) ≤ 8 by omega) hro)
      refine ⟨⟨_, hc3⟩, fun p4 hp4 => ?_⟩
      refine lc_nums (ns := [r.f, r.r, r.l]) hc3 (by show 3 ≤ 100; omega) hsml hp4 (fun _ => rfl) (fun _ => rfl) (fun H7 s7 hp7 => ?_)
      refine ⟨p3, p4, _, _, rfl, rfl, s7 _ _ hp3', hp7, by show 1 + 3 ≤ sizeLine; omega, fun p5 hp5 => ?_⟩
      have s5 := same_upd (o := .lst ([V.str (Str.ofString "rope")] ++ ([r.f, r.r, r.l].map numT).map V.str)) hp5
      have e75 := (e.trans s3).trans (s7.trans s5)
      have hL7 := (s3.trans (s7.trans s5)) _ _ hL
      refine ⟨_, rfl, p5, rfl, ropeW :: [r.f, r.r, r.l].map numT, .inl (.of upd_same), ?_, _, hL7, by rw [List.length_map, List.length_map, List.length_take]; omega, fun y o hyo => ?_, ?_⟩
      · have h1 := sum_len (ropeW :: [r.f, r.r, r.l].map numT) (k := 20) fun p hp => by
          rcases List.mem_cons.mp hp with rfl | hp
          · decide +kernel
          · obtain ⟨i, hi, rfl⟩ := List.mem_map.mp hp
            have := numT_len (k := 9) (by decide) (hsml i hi)
            omega
        have h2 := sp_len
        have h2 : (Str.ofString " ").length = 1 := h2
        have h3 : (ropeW :: [r.f, r.r, r.l].map numT).length = 4 := rfl
        rw [h3] at h1 ⊢
        rw [h2]
        omega
      · rw [upd_ne (ne_of_none hyo hD1)]
        exact e75 y o hyo
      · rw [upd_same, List.take_add_one, hri, List.map_append, List.map_append]
        rfl
    · obtain ⟨e, hL⟩ := hPv
      rw [hfl, List.take_length] at hL
      have hD06 := e _ _ hD0'
      have e46 := sD0.trans e
      refine ⟨D0, D1, _, _, rfl, rfl, hD06, hL, by rw [List.length_map, List.length_map, List.length_map]; show 1 + rs.length ≤ sizeLine; have := hok.2.2.1; omega, fun D hD => ?_⟩
      have sD := same_upd (o := .lst ([rowT bargesW [(n : Int)]].map V.str ++ (rs.map ropeR).map V.str)) hD
      have hDD : (upd H6 D (.lst ([rowT bargesW [(n : Int)]].map V.str ++ (rs.map ropeR).map V.str))) D = some (.lst (([rowT bargesW [(n : Int)]] ++ rs.map ropeR).map V.str)) := by
        rw [upd_same, List.map_append]
      have e47 := e46.trans sD
      have hDn : H4 D = none := none_back e46 hD
      generalize upd H6 D (.lst ([rowT bargesW [(n : Int)]].map V.str ++ (rs.map ropeR).map V.str)) = H7 at hDD e47 ⊢
      clear hL hD06 e46 sD hD sD0 hD0' e hD0
      refine ⟨.inl ⟨rfl, _, .of hDD⟩, ?_⟩
      simp only [q_m1]
      walk_at "rd"
      refine ⟨⟨_, rfl⟩, ⟨_, sqt_same e47 hua⟩, fun p6 hp6 => ?_⟩
      refine lc_nums (ns := xs) (sqt_same e47 hua) (by omega) hxsm hp6 (fun _ => rfl) (fun _ => rfl) (fun H8 s8 hp68 => ?_)
      have hxne : xs ≠ [] := fun z => by rw [z] at hxn; have : 0 = n := hxn; omega
      have hs200 := sum_len (xs.map numT) (k := 20) fun p hp => by
        obtain ⟨i, hi, rfl⟩ := List.mem_map.mp hp
        have := numT_len (k := 9) (by decide) (hxsm i hi)
        omega
      rw [List.length_map, hxn] at hs200
      have hspl : (Str.ofString " ").length = 1 := sp_len
      have hjl : (Txt.join (Str.ofString " ") (xs.map numT)).length ≤ 1000 := by
        have := join_len (Str.ofString " ") (xs.map numT) (k := 20) fun p hp => by
          obtain ⟨i, hi, rfl⟩ := List.mem_map.mp hp
          have := numT_len (k := 9) (by decide) (hxsm i hi)
          omega
        rw [List.length_map, hxn, hspl] at this
        omega
      have hatl : (Str.ofString "at ").length = 3 := by decide +kernel
      have hD8 := s8 _ _ hDD
      refine ⟨_, rfl, xs.map numT, .inl (.of hp68), by rw [hspl, List.length_map, hxn]; omega, _, rfl, _, rfl, by omega, D, _, _, rfl, rfl, hD8, by rw [List.length_map, List.length_append, List.length_map]; show 1 + rs.length < sizeLine; omega, ?_⟩
      have hD9 : (upd H8 D (.lst (([rowT bargesW [(n : Int)]] ++ rs.map ropeR).map V.str ++ [.str (Str.ofString "at " ++ Txt.join (Str.ofString " ") (xs.map numT))]))) D = some (.lst ((rowsOf n rs xs).map V.str)) := by
        rw [upd_same, show (Str.ofString "at " ++ Txt.join (Str.ofString " ") (xs.map numT)) = rowT atW xs from at_row hxne]
        congr 2
        unfold rowsOf
        rw [List.map_cons, List.map_append, List.map_append]
        rfl
      have e49 : Same H4 (upd H8 D (.lst (([rowT bargesW [(n : Int)]] ++ rs.map ropeR).map V.str ++ [.str (Str.ofString "at " ++ Txt.join (Str.ofString " ") (xs.map numT))]))) := fun y o hyo => by
        rw [upd_ne (ne_of_none hyo hDn)]
        exact s8 _ _ (e47 y o hyo)
      generalize upd H8 D (.lst (([rowT bargesW [(n : Int)]] ++ rs.map ropeR).map V.str ++ [.str (Str.ofString "at " ++ Txt.join (Str.ofString " ") (xs.map numT))])) = H9 at hD9 e49 ⊢
      clear e47 s8 hp68 hD8 hs200 hjl hatl hDD hp6
      refine ⟨.ref fa, .ref ua, n, rs, xs, rfl, hv.mono e49, hu.mono e49, hw, fun H10 s10 => ?_⟩
      have hsl := state_len hw
      refine ⟨⟨_, rfl⟩, _, rfl, _, rfl, by decide +kernel, by omega, fun p11 hp11 => ?_⟩
      rw [state_split]
      have s11 := same_upd (o := .lst ((rowsOf n rs xs).map V.str)) hp11
      have hD11 := (s10.trans s11) _ _ hD9
      refine ne_same (dp_strs (.of upd_same)) (dp_strs (.of hD11)) (shaped_strs rows_lay) ⟨false, rfl, ?_⟩
      rw [if_neg (by decide)]
      have e411 := e49.trans (s10.trans s11)
      refine ⟨⟨_, rfl⟩, _, rfl, rowsOf n rs xs, .inl (.of hD11), rows_sum hw, n, rs, xs, rfl, hw, fun H12 t12 v12 u12 s12 _ ht12 hv12 hu12 => ?_⟩
      have e412 := e411.trans s12
      have hD12 := s12 _ _ hD11
      clear e49 s10 s11 hD11 hD9 e411 s12
      refine ⟨by omega, fun q1 hq1 => ?_⟩
      have sq1 := same_upd (o := .tup [.ref fa, .ref ua]) hq1
      refine ne_same (dp_state (sqt_same sq1 (.of ht12)) (hv12.mono sq1) (hu12.mono sq1)) (dp_state (.of upd_same) (hv.mono (e412.trans sq1)) (hu.mono (e412.trans sq1))) (shaped_state n rs xs) ⟨false, rfl, ?_⟩
      rw [if_neg (by decide)]
      have eA := e412.trans sq1
      have hDA := sq1 _ _ hD12
      generalize upd H12 q1 (.tup [.ref fa, .ref ua]) = HA at eA hDA ⊢
      clear hq1 sq1 ht12 hv12 hu12 hD12 e412 hp11
      refine ⟨.ref fa, w2, n, rs, ys, rfl, hv.mono eA, here2.mono eA, hwy, fun HB sB => ?_⟩
      refine ⟨n, rs, ys, rfl, hwy, fun HC tC vC uC sC _ htC hvC huC => ?_⟩
      have eC := eA.trans (sB.trans sC)
      refine ⟨by omega, fun q2 hq2 => ?_⟩
      have sq2 := same_upd (o := .tup [.ref fa, w2]) hq2
      refine ne_same (dp_state (sqt_same sq2 (.of htC)) (hvC.mono sq2) (huC.mono sq2)) (dp_state (.of upd_same) (hv.mono (eC.trans sq2)) (here2.mono (eC.trans sq2))) (shaped_state n rs ys) ⟨false, rfl, ?_⟩
      rw [if_neg (by decide)]
      have eD := eC.trans sq2
      have hDD := (sB.trans (sC.trans sq2)) _ _ hDA
      generalize upd HC q2 (.tup [.ref fa, w2]) = HD at eD hDD ⊢
      clear hq2 sq2 htC hvC huC hDA eC eA sB sC
      refine ⟨.ref fa, w2, n, rs, ys, rfl, hv.mono eD, here2.mono eD, hwy, fun HE sE => ?_⟩
      have hsly := state_len hwy
      refine ⟨⟨_, rfl⟩, _, rfl, _, rfl, by decide +kernel, by omega, fun p13 hp13 => ?_⟩
      rw [state_split]
      have s13 := same_upd (o := .lst ((rowsOf n rs ys).map V.str)) hp13
      have h13 : (upd HE p13 (.lst ((rowsOf n rs ys).map V.str))) p13 = some (.lst ((rowsOf n rs ys).map V.str)) := upd_same
      refine ⟨p13, _, rfl, .of h13, fun p14 hp14 => ?_⟩
      have s14 := same_upd (o := .lst (cutV ((rowsOf n rs ys).map V.str) none (some (-1)))) hp14
      refine ⟨D, _, rfl, .of ((sE.trans (s13.trans s14)) _ _ hDD), fun p15 hp15 => ?_⟩
      have s15 := same_upd (o := .lst (cutV ((rowsOf n rs xs).map V.str) none (some (-1)))) hp15
      refine ne_same (d := .list ((rowT bargesW [(n : Int)] :: rs.map ropeR).map PyData.str)) (dp_strs (.of (s15 _ _ (by rw [upd_same, rows_cut])))) (dp_strs (.of (by rw [upd_same, rows_cut]))) (shaped_strs rows_lay') ⟨false, rfl, ?_⟩
      rw [if_neg (by decide)]
      have eF := eD.trans (sE.trans (s13.trans (s14.trans s15)))
      generalize upd (upd (upd HE p13 (.lst ((rowsOf n rs ys).map V.str))) p14 (.lst (cutV ((rowsOf n rs ys).map V.str) none (some (-1))))) p15 (.lst (cutV ((rowsOf n rs xs).map V.str) none (some (-1)))) = HF at eF ⊢
      clear s13 s14 s15 h13 hp13 hp14 hp15 sE hDD eD
      refine ⟨by omega, fun pp hpp => ?_⟩
      have sp := same_upd (o := .tup [.ref L1, .ref L2]) hpp
      have hppv : (upd HF pp (.tup [.ref L1, .ref L2])) pp = some (.tup [.ref L1, .ref L2]) := upd_same
      have eG := eF.trans sp
      generalize upd HF pp (.tup [.ref L1, .ref L2]) = HG at hppv eG ⊢
      clear sp hpp eF
      refine ⟨⟨_, .of hppv⟩, fun PL hPL => ?_⟩
      have hPLn : H4 PL = none := none_back eG hPL
      refine lcTup (xs := [V.ref L1, V.ref L2]) (fun i H' => Same HG H' ∧ H' PL = some (.lst ((partsT ([hs1, hs2].take i)).map V.str))) ⟨same_upd hPL, upd_same⟩ (fun j H' _ hPv => sqt_same hPv.1 (.of hppv)) (fun i x H' hx hPv => ?_) (fun HI hPv => ?_)
      · obtain ⟨e, hL⟩ := hPv
        obtain ⟨hs, Lx, rfl, hhs, hat, hsl, hsm⟩ : ∃ (hs : List (Nat × Int)) (Lx : Addr), x = .ref Lx ∧ [hs1, hs2][i]? = some hs ∧ HaulsAt H4 Lx hs ∧ hs.length ≤ 6 ∧ ∀ h ∈ hs, h.1 < n ∧ -9999 ≤ h.2 ∧ h.2 ≤ 9999 := by
          match i, hx with
          | 0, hx => exact ⟨hs1, L1, (Option.some.inj hx).symm, rfl, ⟨ts1, ot1⟩, hs16, sm1⟩
          | 1, hx => exact ⟨hs2, L2, (Option.some.inj hx).symm, rfl, ⟨ts2, ot2⟩, hs26, sm2⟩
        have hnx : partsT ([hs1, hs2].take (i + 1)) = partsT ([hs1, hs2].take i) ++ if (!hs.isEmpty) = true then [planT hs] else [] := by
          rw [List.take_add_one, hhs]
          exact parts_snoc _ _
        walk_at "rd"
        refine ⟨by omega, fun p16 hp16 => ?_⟩
        have s16 := same_upd (o := .lst []) hp16
        refine ne_hauls (hat.mono (eG.trans e)) hp16 ⟨_, rfl, ?_⟩
        rw [hnx]
        by_cases hb : (!hs.isEmpty) = true
        · rw [if_pos hb, if_pos hb]
          refine ⟨Lx, hs, rfl, hat.mono (eG.trans (e.trans s16)), by omega, po hsm, fun H17 s17 => ?_⟩
          have hpl2 := parts_len ([hs1, hs2].take i)
          refine ⟨_, s17 _ _ (s16 _ _ hL), by rw [List.length_map]; have : ([hs1, hs2].take i).length ≤ 2 := by rw [List.length_take]; show min i 2 ≤ 2; omega
                                              omega, fun y o hyo => ?_, ?_⟩
          · rw [upd_ne (ne_of_none hyo hPL)]
            exact s17 _ _ (s16 _ _ (e y o hyo))
          · rw [upd_same, List.map_append]
            rfl
        · rw [if_neg hb, if_neg hb, List.append_nil]
          exact ⟨e.trans s16, s16 _ _ hL⟩
      · obtain ⟨e, hL⟩ := hPv
        have hL : HI PL = some (.lst ((partsT [hs1, hs2]).map V.str)) := hL
        have eI := eG.trans e
        clear e eG hppv hPL
        refine rcat_hauls ot1 ot2 (by omega) eI fun HJ l1 sJ hl1 => ?_
        refine ⟨l1, hs1 ++ hs2, rfl, hl1, by omega, po sm12, fun HK sK => ?_⟩
        have eK := eI.trans (sJ.trans sK)
        have hLK := (sJ.trans sK) _ _ hL
        have hnll : (Str.ofString "\n").length = 1 := nl_len
        have hpsum : ((partsT [hs1, hs2]).map (·.length)).sum + (partsT [hs1, hs2]).length * (Str.ofString "\n").length ≤ 16777216 := by
          have h1 := sum_len (partsT [hs1, hs2]) (k := 10000) fun p hp => by
            obtain ⟨k, hk, rfl⟩ := List.mem_map.mp hp
            have hk := (List.mem_filter.mp hk).1
            rcases List.mem_cons.mp hk with rfl | hk
            · exact plan_short (by omega) (po sm1)
            · rw [List.mem_singleton.mp hk]
              exact plan_short (by omega) (po sm2)
          have h2 : (partsT [hs1, hs2]).length ≤ 2 := parts_len [hs1, hs2]
          rw [hnll]
          omega
        refine ⟨⟨_, rfl⟩, _, rfl, partsT [hs1, hs2], .inl (.of hLK), hpsum, rfl, ?_⟩
        rw [parts_join, show Txt.join (Str.ofString "\n") (partsT [hs1, hs2]) = Txt.join nl1 (partsT [hs1, hs2]) from rfl, decide_eq_true rfl, if_neg (by decide)]
        refine rcat_hauls ot1 ot2 (by omega) eK fun HL l2 sL hl2 => ?_
        refine ⟨l2, hs1 ++ hs2, rfl, hl2, by omega, po sm12, fun HM sM => ?_⟩
        refine ⟨hs1 ++ hs2, rfl, by omega, po sm12, fun HN l3 sN _ hl3 => ?_⟩
        have eN := eK.trans (sL.trans (sM.trans sN))
        have hLN := (sL.trans (sM.trans sN)) _ _ hLK
        refine rcat_hauls ot1 ot2 (by omega) eN fun HOo l4 sO hl4 => ?_
        refine ne_same (dp_hauls (hl3.mono sO)) (dp_hauls hl4) (shaped_hauls _) ⟨false, rfl, ?_⟩
        rw [if_neg (by decide)]
        have eO := eN.trans sO
        have hLO := sO _ _ hLN
        clear hl1 hl2 hl3 hl4 sO sN sM sL hLN hLK eN eK sJ sK eI
        refine ⟨[], rfl, by decide, (fun h hh => nomatch hh), fun HP l5 sP _ hl5 => ⟨by omega, fun p17 hp17 => ?_⟩⟩
        have s17 := same_upd (o := .lst []) hp17
        refine ne_hauls hl5 hp17 ⟨false, rfl, ?_⟩
        rw [if_neg (by decide)]
        have eQ := eO.trans (sP.trans s17)
        have hLQ := (sP.trans s17) _ _ hLO
        generalize upd HP p17 (.lst []) = HQ at eQ hLQ ⊢
        clear hl5 hp17 sP s17 hLO eO
        refine ⟨⟨_, .of hLQ⟩, fun p18 hp18 => ?_⟩
        refine lcList (xs := (partsT [hs1, hs2]).map V.str) (fun i H' => Same HQ H' ∧ H' p18 = some (.lst [])) ⟨same_upd hp18, upd_same⟩ (fun j H' _ hPv => .of (hPv.1 _ _ hLQ)) (fun i x H' hx hPv => ?_) (fun HR hPv => ?_)
        · obtain ⟨e, hL'⟩ := hPv
          rw [List.getElem?_map] at hx
          cases hz' : (partsT [hs1, hs2])[i]? with
          | none => rw [hz'] at hx; cases hx
          | some z =>
            rw [hz'] at hx
            injection hx with hx
            subst hx
            obtain ⟨k, hk, rfl⟩ := List.mem_map.mp (List.mem_of_getElem? hz')
            obtain ⟨hk1, hk2⟩ := List.mem_filter.mp hk
            have hkne : k ≠ [] := fun z => by rw [z] at hk2; cases hk2
            have hkl : (planT k).length ≤ 10000 := by
              rcases List.mem_cons.mp hk1 with rfl | hk1
              · exact plan_short (by omega) (po sm1)
              · rw [List.mem_singleton.mp hk1]
                exact plan_short (by omega) (po sm2)
            walk_at "rd"
            refine ⟨_, rfl, by omega, ?_⟩
            rw [plan_cut hkne]
            refine ⟨rfl, ?_⟩
            rw [decide_eq_true rfl, if_neg (by decide)]
            exact ⟨e, hL'⟩
        · obtain ⟨e, hR⟩ := hPv
          refine ⟨by omega, fun p19 hp19 => ?_⟩
          have s19 := same_upd (o := .lst []) hp19
          refine ne_same (d := .list []) (.lst (.of (s19 _ _ hR)) .nil) (.lst (.of upd_same) .nil) rfl ⟨false, rfl, ?_⟩
          rw [if_neg (by decide)]
          have eS := eQ.trans (e.trans s19)
          generalize upd HR p19 (.lst []) = HS at eS ⊢
          clear e hR hp19 s19 eQ hLQ hp18
          refine rcat_hauls ot1 ot2 (by omega) eS fun HT l6 sT hl6 => ?_
          have eT := eS.trans sT
          refine ⟨.ref fa, .ref ua, l6, n, rs, xs, hs1 ++ hs2, rfl, hv.mono eT, hu.mono eT, hw, hl6, by omega, hok12, so sm12, (fun k hk => (sm12 k hk).1), fun HU sU => ?_⟩
          refine ⟨n, rs, xs, hs1 ++ hs2, rfl, hw, by omega, hok12, so sm12, sm12, fun HV t20 v20 u20 l20 sV _ ht20 hv20 hu20 hl20 => ?_⟩
          have eV := eT.trans (sU.trans sV)
          refine rcat_hauls ot1 ot2 (by omega) eV fun HW l7 sW hl7 => ⟨by omega, fun q3 hq3 => ?_⟩
          have sq3 := same_upd (o := .tup [.ref fa, .ref ua, .ref l7]) hq3
          have eW := (eV.trans sW).trans sq3
          have s7 := sW.trans sq3
          refine ne_same (dp_whole (.of (s7 _ _ ht20)) (hv20.mono s7) (hu20.mono s7) (hl20.mono s7)) (dp_whole (.of upd_same) (hv.mono eW) (hu.mono eW) (hl7.mono sq3)) (shaped_whole n rs xs (hs1 ++ hs2)) ⟨false, rfl, ?_⟩
          rw [if_neg (by decide)]
          generalize upd HW q3 (.tup [.ref fa, .ref ua, .ref l7]) = HX at eW ⊢
          clear ht20 hv20 hu20 hl20 sW sq3 s7 hl7 eV sV sU eT sT hl6 eS hq3
          refine rcat_hauls ot1 ot2 (by omega) eW fun HY l8 sY hl8 => ?_
          have eY := eW.trans sY
          refine ⟨.ref fa, .ref ua, l8, n, rs, xs, hs1 ++ hs2, rfl, hv.mono eY, hu.mono eY, hw, hl8.lst, by omega, hok12, fun HZ g sZ hg => ?_⟩
          rw [hrun] at hg
          have eZ := eY.trans sZ
          refine ne_same (dp_pos hg) (dp_pos (here2.mono eZ)) (shaped_opts_t _) ⟨false, rfl, ?_⟩
          rw [if_neg (by decide)]
          clear hl8 hg sZ eY sY eW
          have c8 : ∀ {hs : List (Nat × Int)}, (∀ h ∈ hs, h.1 < n ∧ -9999 ≤ h.2 ∧ h.2 ≤ 9999) → B8 (codeB n rs xs hs) := fun sm => codeB_8 hw fun k hk => by have := (sm k hk).1; omega
          have cl : ∀ {hs : List (Nat × Int)}, (∀ h ∈ hs, h.1 < n ∧ -9999 ≤ h.2 ∧ h.2 ≤ 9999) → hs.length ≤ 12 → (codeB n rs xs hs).length ≤ 3000 := fun sm h => code_len hw (so sm) (by omega)
          have hcl12 := cl sm12 hl12
          have sm0 : ∀ h ∈ ([] : List (Nat × Int)), h.1 < n ∧ -9999 ≤ h.2 ∧ h.2 ≤ 9999 := fun h hh => nomatch hh
          have hcl0 := cl sm0 (by decide)
          have hcl1 := cl sm1 (by omega)
          refine ⟨codeB n rs xs (hs1 ++ hs2), rfl, c8 sm12, by omega, fun H21 lv s21 _ hlv => ⟨by omega, fun p22 hp22 => ?_⟩⟩
          have s22 := same_upd (o := .lst []) hp22
          have e22 := (eZ.trans s21).trans s22
          refine ⟨.ref fa, .ref ua, p22, n, rs, xs, [], rfl, hv.mono e22, hu.mono e22, hw, ⟨[], ObjsTs.nil upd_same⟩, by decide, trivial, trivial, (fun k hk => nomatch hk), fun H23 s23 => ?_⟩
          refine ⟨codeB n rs xs [], rfl, c8 sm0, by omega, fun H24 ln s24 _ hln => ⟨_, _, ⟨rfl, rfl⟩, ?_⟩⟩
          have hlv := (s22.trans (s23.trans s24)) _ _ hlv
          have e24 := e22.trans (s23.trans s24)
          clear s22 s23 s24 s21 e22 hp22 eZ
          refine ⟨lv, codeB n rs xs (hs1 ++ hs2), rfl, hlv, c8 sm12, fun H25 s25 => ⟨rfl, ?_⟩⟩
          rw [decide_eq_true rfl, if_neg (by decide)]
          have e25 := e24.trans s25
          have hlv := s25 _ _ hlv
          have hln := s25 _ _ hln
          clear e24 s25
          obtain ⟨A, hA⟩ : ∃ A, headB n rs xs = A := ⟨_, rfl⟩
          obtain ⟨cF, hcF⟩ : ∃ c, (bodyB n rs xs (hs1 ++ hs2)).sum.fmod 251 = c := ⟨_, rfl⟩
          have eF : codeB n rs xs (hs1 ++ hs2) = A ++ (((hs1 ++ hs2).length : Int) :: (haulsB xs (hs1 ++ hs2) ++ [cF])) := by rw [code_eq (by omega), hA, hcF]
          obtain ⟨c0, eN⟩ : ∃ c, codeB n rs xs [] = A ++ [0, c] := by
            have := code_eq (n := n) (rs := rs) (xs := xs) (hs := []) (by decide)
            rw [hA] at this
            exact ⟨_, this⟩
          have hNl : ((codeB n rs xs []).map V.int).length = A.length + 2 := by rw [eN, List.length_map, List.length_append]; rfl
          refine ⟨ln, _, rfl, .inl (.of hln), ?_⟩
          refine ⟨_, _, rfl, rfl, _, rfl, ?_⟩
          refine ⟨lv, _, rfl, .of hlv, fun p26 hp26 => ?_⟩
          have s26 := same_upd (o := .lst (cutV ((codeB n rs xs (hs1 ++ hs2)).map V.int) none (some ((((codeB n rs xs []).map V.int).length : Int) - 2)))) hp26
          refine ⟨ln, _, rfl, .of (s26 _ _ hln), fun p27 hp27 => ?_⟩
          have s27 := same_upd (o := .lst (cutV ((codeB n rs xs []).map V.int) none (some (-2)))) hp27
          refine ne_intsL (zs := A) (s27 _ _ (by rw [upd_same, cutI_to eF (by omega)])) (by rw [upd_same, cutI_end (k := -2) eN rfl (by show 0 < 2; decide)]) ⟨false, rfl, ?_⟩
          rw [if_neg (by decide)]
          have e27 := e25.trans (s26.trans s27)
          have hlv := (s26.trans s27) _ _ hlv
          have hln := (s26.trans s27) _ _ hln
          generalize upd (upd H25 p26 (.lst (cutV ((codeB n rs xs (hs1 ++ hs2)).map V.int) none (some ((((codeB n rs xs []).map V.int).length : Int) - 2))))) p27 (.lst (cutV ((codeB n rs xs []).map V.int) none (some (-2)))) = H27 at e27 hlv hln ⊢
          clear s26 s27 hp26 hp27 e25
          have e3 : ∃ r, codeB n rs xs (hs1 ++ hs2) = [72, (n : Int), (rs.length : Int)] ++ r := by
            rw [eF, ← hA]
            unfold headB
            rw [List.append_assoc, List.append_assoc]
            exact ⟨_, rfl⟩
          obtain ⟨r3, e3⟩ := e3
          refine ⟨lv, _, rfl, .of hlv, fun p28 hp28 => ?_⟩
          have s28 := same_upd (o := .lst (cutV ((codeB n rs xs (hs1 ++ hs2)).map V.int) none (some 3))) hp28
          have e28 := e27.trans s28
          refine ⟨fa, _, 0, _, rfl, rfl, sqt_same e28 hfa, atI_nat (j := 0) rfl, fa, _, 1, _, rfl, rfl, sqt_same e28 hfa, atI_nat (j := 1) rfl, fb, _, rfl, .inr (sqt_same e28 hfb), by omega, fun p29 hp29 => ?_⟩
          rw [hfl]
          have s29 := same_upd (o := .lst [V.int 72, V.int (n : Nat), V.int (rs.length : Nat)]) hp29
          refine ne_intsL (zs := [72, (n : Int), (rs.length : Int)]) (s29 _ _ (by rw [upd_same, cutI_to (k := 3) e3 rfl])) (by rw [upd_same]; rfl) ⟨false, rfl, ?_⟩
          rw [if_neg (by decide)]
          have e29 := e28.trans s29
          have hlv := (s28.trans s29) _ _ hlv
          have hln := (s28.trans s29) _ _ hln
          generalize upd (upd H27 p28 (.lst (cutV ((codeB n rs xs (hs1 ++ hs2)).map V.int) none (some 3)))) p29 (.lst [V.int 72, V.int (n : Nat), V.int (rs.length : Nat)]) = H29 at e29 hlv hln ⊢
          clear s28 s29 hp28 hp29 e27 e28
          refine ⟨ln, _, rfl, .inl (.of hln), _, _, rfl, rfl, ?_⟩
          dsimp only
          rw [show (((codeB n rs xs []).map V.int).length : Int) - 2 = ((A.length : Nat) : Int) by omega]
          have hat : ((codeB n rs xs (hs1 ++ hs2)).map V.int)[A.length]? = some (.int ((hs1 ++ hs2).length : Nat)) := by
            rw [List.getElem?_map, eF, List.getElem?_append_right (Nat.le_refl _), Nat.sub_self]
            rfl
          refine ⟨lv, _, A.length, _, rfl, rfl, .of hlv, atI_nat hat, ?_⟩
          refine rcat_hauls ot1 ot2 (by omega) e29 fun H30 l9 s30 hl9 => ?_
          obtain ⟨ts9, o9⟩ := hl9
          refine ⟨l9, _, rfl, .inl (.of o9.top), rfl, ?_⟩
          rw [List.length_map, o9.len, decide_eq_true rfl, if_neg (by decide)]
          have e30 := e29.trans s30
          have hlv := s30 _ _ hlv
          have hln := s30 _ _ hln
          clear o9 e29
          have eB : codeB n rs xs (hs1 ++ hs2) = bodyB n rs xs (hs1 ++ hs2) ++ [cF] := by rw [← hcF]; rfl
          have eBV : (codeB n rs xs (hs1 ++ hs2)).map V.int = (bodyB n rs xs (hs1 ++ hs2)).map V.int ++ [V.int cF] := by rw [eB, List.map_append]; rfl
          refine ⟨lv, _, -1, .int cF, rfl, rfl, .of hlv, by rw [eBV]; exact atI_last _ _, lv, _, rfl, .of hlv, fun p31 hp31 => ?_⟩
          have s31 := same_upd (o := .lst (cutV ((codeB n rs xs (hs1 ++ hs2)).map V.int) none (some (-1)))) hp31
          refine ⟨p31, bodyB n rs xs (hs1 ++ hs2), rfl, .of (by rw [upd_same, cutI_end (k := -1) eB rfl (by show 0 < 1; decide)]), .inl ⟨_, rfl, by decide, rfl, ?_⟩⟩
          rw [hcF, decide_eq_true rfl, if_neg (by decide)]
          have e31 := e30.trans s31
          have hlv := s31 _ _ hlv
          have hln := s31 _ _ hln
          generalize upd H30 p31 (.lst (cutV ((codeB n rs xs (hs1 ++ hs2)).map V.int) none (some (-1)))) = H31 at e31 hlv hln ⊢
          clear hp31 s31 e30 hat
          refine ⟨.ref fa, .ref ua, L1, n, rs, xs, hs1, rfl, hv.mono e31, hu.mono e31, hw, ⟨ts1, ot1.mono e31⟩, by omega, hok1, so sm1, (fun k hk => (sm1 k hk).1), fun H32 s32 => ?_⟩
          refine ⟨codeB n rs xs hs1, rfl, c8 sm1, by omega, fun H33 lw s33 _ hlw => ?_⟩
          have e33 := e31.trans (s32.trans s33)
          have hlv := (s32.trans s33) _ _ hlv
          have hln := (s32.trans s33) _ _ hln
          clear s32 s33 e31
          obtain ⟨cW, eW⟩ : ∃ c, codeB n rs xs hs1 = A ++ ((hs1.length : Int) :: (haulsB xs hs1 ++ [c])) := by
            have := code_eq (n := n) (rs := rs) (xs := xs) (hs := hs1) (by omega)
            rw [hA] at this
            exact ⟨_, this⟩
          have hWl : ((codeB n rs xs hs1).map V.int).length = A.length + (haulsB xs hs1).length + 2 := by
            rw [eW, List.length_map, List.length_append, List.length_cons, List.length_append]
            show _ + (_ + 1 + 1) = _
            omega
          obtain ⟨rF, eF2⟩ : ∃ r, codeB n rs xs (hs1 ++ hs2) = (A ++ (((hs1 ++ hs2).length : Int) :: haulsB xs hs1)) ++ r := by
            refine ⟨haulsB (lastB xs hs1) hs2 ++ [cF], ?_⟩
            rw [eF, haulsB_app, List.append_assoc, List.append_assoc, List.cons_append]
          refine ⟨lw, _, rfl, .inl (.of hlw), _, _, rfl, rfl, _, rfl, lv, _, rfl, .of hlv, fun p34 hp34 => ?_⟩
          have s34 := same_upd (o := .lst (cutV ((codeB n rs xs (hs1 ++ hs2)).map V.int) none (some ((((codeB n rs xs hs1).map V.int).length : Int) - 1)))) hp34
          have h34 : (upd H33 p34 (.lst (cutV ((codeB n rs xs (hs1 ++ hs2)).map V.int) none (some ((((codeB n rs xs hs1).map V.int).length : Int) - 1))))) p34 = some (.lst ((A ++ (((hs1 ++ hs2).length : Int) :: haulsB xs hs1)).map V.int)) := by
            rw [upd_same, cutI_to eF2 (by rw [List.length_append, List.length_cons]; omega)]
          have hln := s34 _ _ hln
          have hlw := s34 _ _ hlw
          have e34 := e33.trans s34
          generalize upd H33 p34 (.lst (cutV ((codeB n rs xs (hs1 ++ hs2)).map V.int) none (some ((((codeB n rs xs hs1).map V.int).length : Int) - 1)))) = H34 at h34 hln hlw e34 ⊢
          clear s34 hp34 hlv e33
          refine ⟨ln, _, rfl, .inl (.of hln), _, _, rfl, rfl, _, rfl, p34, _, rfl, .of h34, fun p35 hp35 => ?_⟩
          have eA1 : A ++ (((hs1 ++ hs2).length : Int) :: haulsB xs hs1) = (A ++ [((hs1 ++ hs2).length : Int)]) ++ haulsB xs hs1 := by rw [List.append_assoc]; rfl
          have eW1 : codeB n rs xs hs1 = (A ++ [(hs1.length : Int)]) ++ (haulsB xs hs1 ++ [cW]) := by rw [eW, List.append_assoc]; rfl
          have s35 := same_upd (o := .lst (cutV ((A ++ (((hs1 ++ hs2).length : Int) :: haulsB xs hs1)).map V.int) (some ((((codeB n rs xs []).map V.int).length : Int) - 1)) none)) hp35
          refine ⟨ln, _, rfl, .inl (.of (s35 _ _ hln)), _, _, rfl, rfl, _, rfl, lw, _, rfl, .of (s35 _ _ hlw), fun p36 hp36 => ?_⟩
          have s36 := same_upd (o := .lst (cutV ((codeB n rs xs hs1).map V.int) (some ((((codeB n rs xs []).map V.int).length : Int) - 1)) (some (-1)))) hp36
          refine ne_intsL (zs := haulsB xs hs1) (s36 _ _ (by rw [upd_same, cutI_from eA1 (by rw [List.length_append, List.length_singleton]; omega)])) (by rw [upd_same, cutI_mid (k := -1) eW1 (by rw [List.length_append, List.length_singleton]; omega) rfl (by show 0 < 1; decide)]) ⟨false, rfl, ?_⟩
          rw [if_neg (by decide)]
          exact fin ⟨_, _, _, _, _, _, _, _, _, _, _, _, _, _, _, _, _, rfl⟩ (rowb.mono (e34.trans (s35.trans s36)))
  · walk_at "rd"
    exact q _
end
end Hx

set_option Elab.async false
set_option linter.all false
set_option maxRecDepth 100000
set_option maxHeartbeats 4000000
namespace Hx
open PySem PySem.Spec PyProof.Rows L2
/-- the text's top, as it stands when the law begins -/
theorem all_mk {l : PySem.W.OpenLaw} {w : World} {K : PySem.W.Frag} {h : Heap} {mg : Str → Option Value} {fa : Addr} {f0 f1 f2 f3 f4 f5 f6 f7 f8 f9 f10 f11 f12 f13 f14 f15 f16 f17 f18 f19 f20 f21 f22 f23 f24 f25 f26 f27 f28 f29 f30 f31 f32 f33 f34 f35 f36 f37 f38 f39 f40 f41 f42 f43 f44 CH : Addr}
    {od0 an0 od1 an1 od2 an2 od3 an3 od4 an4 od5 an5 od6 an6 od7 an7 od8 an8 od9 an9 od10 an10 od11 an11 od12 an12 od13 an13 od14 an14 od15 an15 od16 an16 od17 an17 od18 an18 od19 an19 od20 an20 od21 an21 od22 an22 od23 an23 od24 an24 od25 an25 od26 an26 od27 an27 od28 an28 od29 an29 od30 an30 od31 an31 od32 an32 od33 an33 od34 an34 od35 an35 od36 an36 od37 an37 od38 an38 od39 an39 od40 an40 od41 an41 od42 an42 od43 an43 od44 an44 : Option Addr}
    {sl0 sl1 sl2 sl3 sl4 sl5 sl6 sl7 sl8 sl9 sl10 sl11 sl12 sl13 sl14 sl15 sl16 sl17 sl18 sl19 sl20 sl21 sl22 sl23 sl24 sl25 sl26 sl27 sl28 sl29 sl30 sl31 sl32 sl33 sl34 sl35 sl36 sl37 sl38 sl39 sl40 sl41 sl42 sl43 sl44 : Array (Option Value)}
    {oc0 dc0 pm0 cd0 ct0 kV0 oc1 dc1 pm1 cd1 ct1 kV1 oc2 dc2 pm2 cd2 ct2 kV2 oc3 dc3 pm3 cd3 ct3 kV3 oc4 dc4 pm4 cd4 ct4 kV4 oc5 dc5 pm5 cd5 ct5 kV5 oc6 dc6 pm6 cd6 ct6 kV6 oc7 dc7 pm7 cd7 ct7 kV7 oc8 dc8 pm8 cd8 ct8 kV8 oc9 dc9 pm9 cd9 ct9 kV9 oc10 dc10 pm10 cd10 ct10 kV10 oc11 dc11 pm11 cd11 ct11 kV11 oc12 dc12 pm12 cd12 ct12 kV12 oc13 dc13 pm13 cd13 ct13 kV13 oc14 dc14 pm14 cd14 ct14 kV14 oc15 dc15 pm15 cd15 ct15 kV15 oc16 dc16 pm16 cd16 ct16 kV16 oc17 dc17 pm17 cd17 ct17 kV17 oc18 dc18 pm18 cd18 ct18 kV18 oc19 dc19 pm19 cd19 ct19 kV19 oc20 dc20 pm20 cd20 ct20 kV20 oc21 dc21 pm21 cd21 ct21 kV21 oc22 dc22 pm22 cd22 ct22 kV22 oc23 dc23 pm23 cd23 ct23 kV23 oc24 dc24 pm24 cd24 ct24 kV24 oc25 dc25 pm25 cd25 ct25 kV25 oc26 dc26 pm26 cd26 ct26 kV26 oc27 dc27 pm27 cd27 ct27 kV27 oc28 dc28 pm28 cd28 ct28 kV28 oc29 dc29 pm29 cd29 ct29 kV29 oc30 dc30 pm30 cd30 ct30 kV30 oc31 dc31 pm31 cd31 ct31 kV31 oc32 dc32 pm32 cd32 ct32 kV32 oc33 dc33 pm33 cd33 ct33 kV33 oc34 dc34 pm34 cd34 ct34 kV34 oc35 dc35 pm35 cd35 ct35 kV35 oc36 dc36 pm36 cd36 ct36 kV36 oc37 dc37 pm37 cd37 ct37 kV37 oc38 dc38 pm38 cd38 ct38 kV38 oc39 dc39 pm39 cd39 ct39 kV39 oc40 dc40 pm40 cd40 ct40 kV40 oc41 dc41 pm41 cd41 ct41 kV41 oc42 dc42 pm42 cd42 ct42 kV42 oc43 dc43 pm43 cd43 ct43 kV43 oc44 dc44 pm44 cd44 ct44 kV44 : Value}
    {u0 u1 u2 u3 u4 u5 u6 u7 u8 : Tok} (X : K.In h) (G : h.Ns mainGlobals mg) (hfa : mg "law" = some (.ref fa))
    (aC : PySem.W.nsIn K mainGlobals "Reader" = some (some (.ref CH))) (pg : PySem.W.plainGet K CH Str.empty = true) (hd : PySem.W.hasDictIn K CH = true) (po : PySem.W.plainOver K CH = true) (sa : PySem.W.findIn K (.ref CH) "__setattr__" = some (some (.builtin "object.__setattr__"))) (mk : PySem.W.makesIn K CH = true) (kc : PySem.W.keepIn K (.ref CH) = true)
    (nD : PySem.W.findIn K (.ref CH) "data" = some none)
    (nO : PySem.W.findIn K (.ref CH) "offset" = some none)
    (a0 : PySem.W.nsIn K mainGlobals "is_number" = some (some (.ref f0))) (l0 : K.lookup f0 = some ⟨oc0, od0, .func (PySem.W.fnOf "is_number" "is_number" (defArgs s_is_number) (defBody s_is_number) (defScope s_is_number) .none kV0 dc0 pm0 an0 cd0 ct0), sl0⟩) (c0 : PySem.W.codeIn K cd0 "is_number" = true) (k0 : PySem.W.keepIn K (.ref f0) = true)
    (a1 : PySem.W.nsIn K mainGlobals "is_barge" = some (some (.ref f1))) (l1 : K.lookup f1 = some ⟨oc1, od1, .func (PySem.W.fnOf "is_barge" "is_barge" (defArgs s_is_barge) (defBody s_is_barge) (defScope s_is_barge) .none kV1 dc1 pm1 an1 cd1 ct1), sl1⟩) (c1 : PySem.W.codeIn K cd1 "is_barge" = true) (k1 : PySem.W.keepIn K (.ref f1) = true)
    (a2 : PySem.W.nsIn K mainGlobals "is_rope" = some (some (.ref f2))) (l2 : K.lookup f2 = some ⟨oc2, od2, .func (PySem.W.fnOf "is_rope" "is_rope" (defArgs s_is_rope) (defBody s_is_rope) (defScope s_is_rope) .none kV2 dc2 pm2 an2 cd2 ct2), sl2⟩) (c2 : PySem.W.codeIn K cd2 "is_rope" = true) (k2 : PySem.W.keepIn K (.ref f2) = true)
    (a3 : PySem.W.nsIn K mainGlobals "check_fleet" = some (some (.ref f3))) (l3 : K.lookup f3 = some ⟨oc3, od3, .func (PySem.W.fnOf "check_fleet" "check_fleet" (defArgs s_check_fleet) (defBody s_check_fleet) (defScope s_check_fleet) .none kV3 dc3 pm3 an3 cd3 ct3), sl3⟩) (c3 : PySem.W.codeIn K cd3 "check_fleet" = true) (k3 : PySem.W.keepIn K (.ref f3) = true)
    (a4 : PySem.W.nsIn K mainGlobals "first_wrong_entry" = some (some (.ref f4))) (l4 : K.lookup f4 = some ⟨oc4, od4, .func (PySem.W.fnOf "first_wrong_entry" "first_wrong_entry" (defArgs s_first_wrong_entry) (defBody s_first_wrong_entry) (defScope s_first_wrong_entry) .none kV4 dc4 pm4 an4 cd4 ct4), sl4⟩) (c4 : PySem.W.codeIn K cd4 "first_wrong_entry" = true) (k4 : PySem.W.keepIn K (.ref f4) = true)
    (a5 : PySem.W.nsIn K mainGlobals "check_positions" = some (some (.ref f5))) (l5 : K.lookup f5 = some ⟨oc5, od5, .func (PySem.W.fnOf "check_positions" "check_positions" (defArgs s_check_positions) (defBody s_check_positions) (defScope s_check_positions) .none kV5 dc5 pm5 an5 cd5 ct5), sl5⟩) (c5 : PySem.W.codeIn K cd5 "check_positions" = true) (k5 : PySem.W.keepIn K (.ref f5) = true)
    (a6 : PySem.W.nsIn K mainGlobals "unsatisfied_ropes" = some (some (.ref f6))) (l6 : K.lookup f6 = some ⟨oc6, od6, .func (PySem.W.fnOf "unsatisfied_ropes" "unsatisfied_ropes" (defArgs s_unsatisfied_ropes) (defBody s_unsatisfied_ropes) (defScope s_unsatisfied_ropes) .none kV6 dc6 pm6 an6 cd6 ct6), sl6⟩) (c6 : PySem.W.codeIn K cd6 "unsatisfied_ropes" = true) (k6 : PySem.W.keepIn K (.ref f6) = true)
    (a7 : PySem.W.nsIn K mainGlobals "check_valid" = some (some (.ref f7))) (l7 : K.lookup f7 = some ⟨oc7, od7, .func (PySem.W.fnOf "check_valid" "check_valid" (defArgs s_check_valid) (defBody s_check_valid) (defScope s_check_valid) .none kV7 dc7 pm7 an7 cd7 ct7), sl7⟩) (c7 : PySem.W.codeIn K cd7 "check_valid" = true) (k7 : PySem.W.keepIn K (.ref f7) = true)
    (a8 : PySem.W.nsIn K mainGlobals "keep_less" = some (some (.ref f8))) (l8 : K.lookup f8 = some ⟨oc8, od8, .func (PySem.W.fnOf "keep_less" "keep_less" (defArgs s_keep_less) (defBody s_keep_less) (defScope s_keep_less) .none kV8 dc8 pm8 an8 cd8 ct8), sl8⟩) (c8 : PySem.W.codeIn K cd8 "keep_less" = true) (k8 : PySem.W.keepIn K (.ref f8) = true)
    (a9 : PySem.W.nsIn K mainGlobals "chain_table" = some (some (.ref f9))) (l9 : K.lookup f9 = some ⟨oc9, od9, .func (PySem.W.fnOf "chain_table" "chain_table" (defArgs s_chain_table) (defBody s_chain_table) (defScope s_chain_table) .none kV9 dc9 pm9 an9 cd9 ct9), sl9⟩) (c9 : PySem.W.codeIn K cd9 "chain_table" = true) (k9 : PySem.W.keepIn K (.ref f9) = true)
    (a10 : PySem.W.nsIn K mainGlobals "move_barge" = some (some (.ref f10))) (l10 : K.lookup f10 = some ⟨oc10, od10, .func (PySem.W.fnOf "move_barge" "move_barge" (defArgs s_move_barge) (defBody s_move_barge) (defScope s_move_barge) .none kV10 dc10 pm10 an10 cd10 ct10), sl10⟩) (c10 : PySem.W.codeIn K cd10 "move_barge" = true) (k10 : PySem.W.keepIn K (.ref f10) = true)
    (a11 : PySem.W.nsIn K mainGlobals "is_haul" = some (some (.ref f11))) (l11 : K.lookup f11 = some ⟨oc11, od11, .func (PySem.W.fnOf "is_haul" "is_haul" (defArgs s_is_haul) (defBody s_is_haul) (defScope s_is_haul) .none kV11 dc11 pm11 an11 cd11 ct11), sl11⟩) (c11 : PySem.W.codeIn K cd11 "is_haul" = true) (k11 : PySem.W.keepIn K (.ref f11) = true)
    (a12 : PySem.W.nsIn K mainGlobals "follow_hauls" = some (some (.ref f12))) (l12 : K.lookup f12 = some ⟨oc12, od12, .func (PySem.W.fnOf "follow_hauls" "follow_hauls" (defArgs s_follow_hauls) (defBody s_follow_hauls) (defScope s_follow_hauls) .none kV12 dc12 pm12 an12 cd12 ct12), sl12⟩) (c12 : PySem.W.codeIn K cd12 "follow_hauls" = true) (k12 : PySem.W.keepIn K (.ref f12) = true)
    (a13 : PySem.W.nsIn K mainGlobals "haul_all" = some (some (.ref f13))) (l13 : K.lookup f13 = some ⟨oc13, od13, .func (PySem.W.fnOf "haul_all" "haul_all" (defArgs s_haul_all) (defBody s_haul_all) (defScope s_haul_all) .none kV13 dc13 pm13 an13 cd13 ct13), sl13⟩) (c13 : PySem.W.codeIn K cd13 "haul_all" = true) (k13 : PySem.W.keepIn K (.ref f13) = true)
    (a14 : PySem.W.nsIn K mainGlobals "haul" = some (some (.ref f14))) (l14 : K.lookup f14 = some ⟨oc14, od14, .func (PySem.W.fnOf "haul" "haul" (defArgs s_haul) (defBody s_haul) (defScope s_haul) .none kV14 dc14 pm14 an14 cd14 ct14), sl14⟩) (c14 : PySem.W.codeIn K cd14 "haul" = true) (k14 : PySem.W.keepIn K (.ref f14) = true)
    (a15 : PySem.W.nsIn K mainGlobals "_law_taken" = some (some (.ref f15))) (l15 : K.lookup f15 = some ⟨oc15, od15, .func (PySem.W.fnOf "_law_taken" "_law_taken" (defArgs s_law_taken) (defBody s_law_taken) (defScope s_law_taken) .none kV15 dc15 pm15 an15 cd15 ct15), sl15⟩) (c15 : PySem.W.codeIn K cd15 "_law_taken" = true) (k15 : PySem.W.keepIn K (.ref f15) = true)
    (a16 : PySem.W.nsIn K mainGlobals "_law_settled" = some (some (.ref f16))) (l16 : K.lookup f16 = some ⟨oc16, od16, .func (PySem.W.fnOf "_law_settled" "_law_settled" (defArgs s_law_settled) (defBody s_law_settled) (defScope s_law_settled) .none kV16 dc16 pm16 an16 cd16 ct16), sl16⟩) (c16 : PySem.W.codeIn K cd16 "_law_settled" = true) (k16 : PySem.W.keepIn K (.ref f16) = true)
    (a17 : PySem.W.nsIn K mainGlobals "_law_fleet" = some (some (.ref f17))) (l17 : K.lookup f17 = some ⟨oc17, od17, .func (PySem.W.fnOf "_law_fleet" "_law_fleet" (defArgs s_law_fleet) (defBody s_law_fleet) (defScope s_law_fleet) .none kV17 dc17 pm17 an17 cd17 ct17), sl17⟩) (c17 : PySem.W.codeIn K cd17 "_law_fleet" = true) (k17 : PySem.W.keepIn K (.ref f17) = true)
    (a18 : PySem.W.nsIn K mainGlobals "_law_positions" = some (some (.ref f18))) (l18 : K.lookup f18 = some ⟨oc18, od18, .func (PySem.W.fnOf "_law_positions" "_law_positions" (defArgs s_law_positions) (defBody s_law_positions) (defScope s_law_positions) .none kV18 dc18 pm18 an18 cd18 ct18), sl18⟩) (c18 : PySem.W.codeIn K cd18 "_law_positions" = true) (k18 : PySem.W.keepIn K (.ref f18) = true)
    (a19 : PySem.W.nsIn K mainGlobals "_law_start" = some (some (.ref f19))) (l19 : K.lookup f19 = some ⟨oc19, od19, .func (PySem.W.fnOf "_law_start" "_law_start" (defArgs s_law_start) (defBody s_law_start) (defScope s_law_start) .none kV19 dc19 pm19 an19 cd19 ct19), sl19⟩) (c19 : PySem.W.codeIn K cd19 "_law_start" = true) (k19 : PySem.W.keepIn K (.ref f19) = true)
    (a20 : PySem.W.nsIn K mainGlobals "format_row" = some (some (.ref f20))) (l20 : K.lookup f20 = some ⟨oc20, od20, .func (PySem.W.fnOf "format_row" "format_row" (defArgs s_format_row) (defBody s_format_row) (defScope s_format_row) .none kV20 dc20 pm20 an20 cd20 ct20), sl20⟩) (c20 : PySem.W.codeIn K cd20 "format_row" = true) (k20 : PySem.W.keepIn K (.ref f20) = true)
    (a21 : PySem.W.nsIn K mainGlobals "split_rows" = some (some (.ref f21))) (l21 : K.lookup f21 = some ⟨oc21, od21, .func (PySem.W.fnOf "split_rows" "split_rows" (defArgs s_split_rows) (defBody s_split_rows) (defScope s_split_rows) .none kV21 dc21 pm21 an21 cd21 ct21), sl21⟩) (c21 : PySem.W.codeIn K cd21 "split_rows" = true) (k21 : PySem.W.keepIn K (.ref f21) = true)
    (a22 : PySem.W.nsIn K mainGlobals "read_integer" = some (some (.ref f22))) (l22 : K.lookup f22 = some ⟨oc22, od22, .func (PySem.W.fnOf "read_integer" "read_integer" (defArgs s_read_integer) (defBody s_read_integer) (defScope s_read_integer) .none kV22 dc22 pm22 an22 cd22 ct22), sl22⟩) (c22 : PySem.W.codeIn K cd22 "read_integer" = true) (k22 : PySem.W.keepIn K (.ref f22) = true)
    (a23 : PySem.W.nsIn K mainGlobals "split_words" = some (some (.ref f23))) (l23 : K.lookup f23 = some ⟨oc23, od23, .func (PySem.W.fnOf "split_words" "split_words" (defArgs s_split_words) (defBody s_split_words) (defScope s_split_words) .none kV23 dc23 pm23 an23 cd23 ct23), sl23⟩) (c23 : PySem.W.codeIn K cd23 "split_words" = true) (k23 : PySem.W.keepIn K (.ref f23) = true)
    (a24 : PySem.W.nsIn K mainGlobals "read_numbers" = some (some (.ref f24))) (l24 : K.lookup f24 = some ⟨oc24, od24, .func (PySem.W.fnOf "read_numbers" "read_numbers" (defArgs s_read_numbers) (defBody s_read_numbers) (defScope s_read_numbers) .none kV24 dc24 pm24 an24 cd24 ct24), sl24⟩) (c24 : PySem.W.codeIn K cd24 "read_numbers" = true) (k24 : PySem.W.keepIn K (.ref f24) = true)
    (a25 : PySem.W.nsIn K mainGlobals "is_planned" = some (some (.ref f25))) (l25 : K.lookup f25 = some ⟨oc25, od25, .func (PySem.W.fnOf "is_planned" "is_planned" (defArgs s_is_planned) (defBody s_is_planned) (defScope s_is_planned) .none kV25 dc25 pm25 an25 cd25 ct25), sl25⟩) (c25 : PySem.W.codeIn K cd25 "is_planned" = true) (k25 : PySem.W.keepIn K (.ref f25) = true)
    (a26 : PySem.W.nsIn K mainGlobals "format_plan" = some (some (.ref f26))) (l26 : K.lookup f26 = some ⟨oc26, od26, .func (PySem.W.fnOf "format_plan" "format_plan" (defArgs s_format_plan) (defBody s_format_plan) (defScope s_format_plan) .none kV26 dc26 pm26 an26 cd26 ct26), sl26⟩) (c26 : PySem.W.codeIn K cd26 "format_plan" = true) (k26 : PySem.W.keepIn K (.ref f26) = true)
    (a27 : PySem.W.nsIn K mainGlobals "parse_plan" = some (some (.ref f27))) (l27 : K.lookup f27 = some ⟨oc27, od27, .func (PySem.W.fnOf "parse_plan" "parse_plan" (defArgs s_parse_plan) (defBody s_parse_plan) (defScope s_parse_plan) .none kV27 dc27 pm27 an27 cd27 ct27), sl27⟩) (c27 : PySem.W.codeIn K cd27 "parse_plan" = true) (k27 : PySem.W.keepIn K (.ref f27) = true)
    (a28 : PySem.W.nsIn K mainGlobals "format_state" = some (some (.ref f28))) (l28 : K.lookup f28 = some ⟨oc28, od28, .func (PySem.W.fnOf "format_state" "format_state" (defArgs s_format_state) (defBody s_format_state) (defScope s_format_state) .none kV28 dc28 pm28 an28 cd28 ct28), sl28⟩) (c28 : PySem.W.codeIn K cd28 "format_state" = true) (k28 : PySem.W.keepIn K (.ref f28) = true)
    (a29 : PySem.W.nsIn K mainGlobals "parse_state" = some (some (.ref f29))) (l29 : K.lookup f29 = some ⟨oc29, od29, .func (PySem.W.fnOf "parse_state" "parse_state" (defArgs s_parse_state) (defBody s_parse_state) (defScope s_parse_state) .none kV29 dc29 pm29 an29 cd29 ct29), sl29⟩) (c29 : PySem.W.codeIn K cd29 "parse_state" = true) (k29 : PySem.W.keepIn K (.ref f29) = true)
    (a30 : PySem.W.nsIn K mainGlobals "pack_bytes" = some (some (.ref f30))) (l30 : K.lookup f30 = some ⟨oc30, od30, .func (PySem.W.fnOf "pack_bytes" "pack_bytes" (defArgs s_pack_bytes) (defBody s_pack_bytes) (defScope s_pack_bytes) .none kV30 dc30 pm30 an30 cd30 ct30), sl30⟩) (c30 : PySem.W.codeIn K cd30 "pack_bytes" = true) (k30 : PySem.W.keepIn K (.ref f30) = true)
    (a31 : PySem.W.nsIn K mainGlobals "unpack_bytes" = some (some (.ref f31))) (l31 : K.lookup f31 = some ⟨oc31, od31, .func (PySem.W.fnOf "unpack_bytes" "unpack_bytes" (defArgs s_unpack_bytes) (defBody s_unpack_bytes) (defScope s_unpack_bytes) .none kV31 dc31 pm31 an31 cd31 ct31), sl31⟩) (c31 : PySem.W.codeIn K cd31 "unpack_bytes" = true) (k31 : PySem.W.keepIn K (.ref f31) = true)
    (a32 : PySem.W.nsIn K mainGlobals "natural_groups" = some (some (.ref f32))) (l32 : K.lookup f32 = some ⟨oc32, od32, .func (PySem.W.fnOf "natural_groups" "natural_groups" (defArgs s_natural_groups) (defBody s_natural_groups) (defScope s_natural_groups) .none kV32 dc32 pm32 an32 cd32 ct32), sl32⟩) (c32 : PySem.W.codeIn K cd32 "natural_groups" = true) (k32 : PySem.W.keepIn K (.ref f32) = true)
    (a33 : PySem.W.nsIn K mainGlobals "integer_groups" = some (some (.ref f33))) (l33 : K.lookup f33 = some ⟨oc33, od33, .func (PySem.W.fnOf "integer_groups" "integer_groups" (defArgs s_integer_groups) (defBody s_integer_groups) (defScope s_integer_groups) .none kV33 dc33 pm33 an33 cd33 ct33), sl33⟩) (c33 : PySem.W.codeIn K cd33 "integer_groups" = true) (k33 : PySem.W.keepIn K (.ref f33) = true)
    (a34 : PySem.W.nsIn K mainGlobals "encode_plan" = some (some (.ref f34))) (l34 : K.lookup f34 = some ⟨oc34, od34, .func (PySem.W.fnOf "encode_plan" "encode_plan" (defArgs s_encode_plan) (defBody s_encode_plan) (defScope s_encode_plan) .none kV34 dc34 pm34 an34 cd34 ct34), sl34⟩) (c34 : PySem.W.codeIn K cd34 "encode_plan" = true) (k34 : PySem.W.keepIn K (.ref f34) = true)
    (a35 : PySem.W.findIn K (.ref CH) "__init__" = some (some (.ref f35))) (i35 : PySem.W.isFn K (.ref f35) = true) (l35 : K.lookup f35 = some ⟨oc35, od35, .func (PySem.W.fnOf "__init__" "Reader.__init__" (defArgs s_Reader___init__) (defBody s_Reader___init__) (defScope s_Reader___init__) .none kV35 dc35 pm35 an35 cd35 ct35), sl35⟩) (c35 : PySem.W.codeIn K cd35 "Reader.__init__" = true) (k35 : PySem.W.keepIn K (.ref f35) = true)
    (a36 : PySem.W.findIn K (.ref CH) "read_byte" = some (some (.ref f36))) (i36 : PySem.W.isFn K (.ref f36) = true) (l36 : K.lookup f36 = some ⟨oc36, od36, .func (PySem.W.fnOf "read_byte" "Reader.read_byte" (defArgs s_Reader_read_byte) (defBody s_Reader_read_byte) (defScope s_Reader_read_byte) .none kV36 dc36 pm36 an36 cd36 ct36), sl36⟩) (c36 : PySem.W.codeIn K cd36 "Reader.read_byte" = true) (k36 : PySem.W.keepIn K (.ref f36) = true)
    (a37 : PySem.W.findIn K (.ref CH) "read_natural" = some (some (.ref f37))) (i37 : PySem.W.isFn K (.ref f37) = true) (l37 : K.lookup f37 = some ⟨oc37, od37, .func (PySem.W.fnOf "read_natural" "Reader.read_natural" (defArgs s_Reader_read_natural) (defBody s_Reader_read_natural) (defScope s_Reader_read_natural) .none kV37 dc37 pm37 an37 cd37 ct37), sl37⟩) (c37 : PySem.W.codeIn K cd37 "Reader.read_natural" = true) (k37 : PySem.W.keepIn K (.ref f37) = true)
    (a38 : PySem.W.findIn K (.ref CH) "read_integer" = some (some (.ref f38))) (i38 : PySem.W.isFn K (.ref f38) = true) (l38 : K.lookup f38 = some ⟨oc38, od38, .func (PySem.W.fnOf "read_integer" "Reader.read_integer" (defArgs s_Reader_read_integer) (defBody s_Reader_read_integer) (defScope s_Reader_read_integer) .none kV38 dc38 pm38 an38 cd38 ct38), sl38⟩) (c38 : PySem.W.codeIn K cd38 "Reader.read_integer" = true) (k38 : PySem.W.keepIn K (.ref f38) = true)
    (a39 : PySem.W.findIn K (.ref CH) "read_end" = some (some (.ref f39))) (i39 : PySem.W.isFn K (.ref f39) = true) (l39 : K.lookup f39 = some ⟨oc39, od39, .func (PySem.W.fnOf "read_end" "Reader.read_end" (defArgs s_Reader_read_end) (defBody s_Reader_read_end) (defScope s_Reader_read_end) .none kV39 dc39 pm39 an39 cd39 ct39), sl39⟩) (c39 : PySem.W.codeIn K cd39 "Reader.read_end" = true) (k39 : PySem.W.keepIn K (.ref f39) = true)
    (a40 : PySem.W.nsIn K mainGlobals "read_ropes" = some (some (.ref f40))) (l40 : K.lookup f40 = some ⟨oc40, od40, .func (PySem.W.fnOf "read_ropes" "read_ropes" (defArgs s_read_ropes) (defBody s_read_ropes) (defScope s_read_ropes) .none kV40 dc40 pm40 an40 cd40 ct40), sl40⟩) (c40 : PySem.W.codeIn K cd40 "read_ropes" = true) (k40 : PySem.W.keepIn K (.ref f40) = true)
    (a41 : PySem.W.nsIn K mainGlobals "read_hauls" = some (some (.ref f41))) (l41 : K.lookup f41 = some ⟨oc41, od41, .func (PySem.W.fnOf "read_hauls" "read_hauls" (defArgs s_read_hauls) (defBody s_read_hauls) (defScope s_read_hauls) .none kV41 dc41 pm41 an41 cd41 ct41), sl41⟩) (c41 : PySem.W.codeIn K cd41 "read_hauls" = true) (k41 : PySem.W.keepIn K (.ref f41) = true)
    (a42 : PySem.W.nsIn K mainGlobals "decode_plan" = some (some (.ref f42))) (l42 : K.lookup f42 = some ⟨oc42, od42, .func (PySem.W.fnOf "decode_plan" "decode_plan" (defArgs s_decode_plan) (defBody s_decode_plan) (defScope s_decode_plan) .none kV42 dc42 pm42 an42 cd42 ct42), sl42⟩) (c42 : PySem.W.codeIn K cd42 "decode_plan" = true) (k42 : PySem.W.keepIn K (.ref f42) = true)
    (a43 : PySem.W.nsIn K mainGlobals "_law_hauls" = some (some (.ref f43))) (l43 : K.lookup f43 = some ⟨oc43, od43, .func (PySem.W.fnOf "_law_hauls" "_law_hauls" (defArgs s_law_hauls) (defBody s_law_hauls) (defScope s_law_hauls) .none kV43 dc43 pm43 an43 cd43 ct43), sl43⟩) (c43 : PySem.W.codeIn K cd43 "_law_hauls" = true) (k43 : PySem.W.keepIn K (.ref f43) = true)
    (a44 : PySem.W.nsIn K mainGlobals "law" = some (some (.ref f44))) (l44 : K.lookup f44 = some ⟨oc44, od44, .func (PySem.W.fnOf "law" "law" (defArgs s_law) (defBody s_law) (defScope s_law) .none kV44 dc44 pm44 an44 cd44 ct44), sl44⟩) (c44 : PySem.W.codeIn K cd44 "law" = true) (k44 : PySem.W.keepIn K (.ref f44) = true)
    (y0 : PySem.W.nsIn K mainGlobals "CHECK_MODULUS" = some (some (.int 251 u0)))
    (y1 : PySem.W.nsIn K mainGlobals "FARTHEST" = some (some (.int 9999 u1)))
    (y2 : PySem.W.nsIn K mainGlobals "FIRST_BYTE" = some (some (.int 72 u2)))
    (y3 : PySem.W.nsIn K mainGlobals "LONGEST" = some (some (.int 99 u3)))
    (y4 : PySem.W.nsIn K mainGlobals "MOST_BARGES" = some (some (.int 8 u4)))
    (y5 : PySem.W.nsIn K mainGlobals "MOST_DIGITS" = some (some (.int 4 u5)))
    (y6 : PySem.W.nsIn K mainGlobals "MOST_GROUPS" = some (some (.int 3 u6)))
    (y7 : PySem.W.nsIn K mainGlobals "MOST_HAULS" = some (some (.int 200 u7)))
    (y8 : PySem.W.nsIn K mainGlobals "MOST_ROPES" = some (some (.int 40 u8)))
    (z0 : PySem.W.nsIn K mainGlobals "len" = some none)
    (z1 : PySem.W.nsIn K mainGlobals "isinstance" = some none)
    (z2 : PySem.W.nsIn K mainGlobals "int" = some none)
    (z3 : PySem.W.nsIn K mainGlobals "bool" = some none)
    (z4 : PySem.W.nsIn K mainGlobals "tuple" = some none)
    (z5 : PySem.W.nsIn K mainGlobals "list" = some none)
    (z6 : PySem.W.nsIn K mainGlobals "range" = some none)
    (z7 : PySem.W.nsIn K mainGlobals "enumerate" = some none)
    (z8 : PySem.W.nsIn K mainGlobals "zip" = some none)
    (z9 : PySem.W.nsIn K mainGlobals "max" = some none)
    (z10 : PySem.W.nsIn K mainGlobals "min" = some none)
    (z11 : PySem.W.nsIn K mainGlobals "sum" = some none)
    (z12 : PySem.W.nsIn K mainGlobals "sorted" = some none)
    (z13 : PySem.W.nsIn K mainGlobals "dict" = some none)
    (z14 : PySem.W.nsIn K mainGlobals "set" = some none)
    (z15 : PySem.W.nsIn K mainGlobals "abs" = some none)
    (z16 : PySem.W.nsIn K mainGlobals "reversed" = some none)
    (z17 : PySem.W.nsIn K mainGlobals "str" = some none)
    (z18 : PySem.W.nsIn K mainGlobals "bytes" = some none) :
    ∃ fd : FuncData, (∀ (s : Shared) (v : Value), BindsTo s fd ⟨[v], []⟩ [("_law_script", v)]) ∧ ∀ base : Heap, K.In base → base.Ns mainGlobals mg → FnOk l.prog w K mg base CX0 9 fa fd ["_law_script"] (sp_law K) := by
  have e := hfa.symm.trans (PySem.W.mg_of X G a44)
  cases e
  have B : Blt mg := ⟨PySem.W.mg_none_of X G z0, PySem.W.mg_none_of X G z1, PySem.W.mg_none_of X G z2, PySem.W.mg_none_of X G z3, PySem.W.mg_none_of X G z4, PySem.W.mg_none_of X G z5, PySem.W.mg_none_of X G z6, PySem.W.mg_none_of X G z7, PySem.W.mg_none_of X G z8, PySem.W.mg_none_of X G z9, PySem.W.mg_none_of X G z10⟩
  have B2 : Blt2 mg := ⟨PySem.W.mg_none_of X G z11, PySem.W.mg_none_of X G z12, PySem.W.mg_none_of X G z13, PySem.W.mg_none_of X G z14, PySem.W.mg_none_of X G z15, PySem.W.mg_none_of X G z16, PySem.W.mg_none_of X G z17⟩
  have B3 : Blt3 mg := ⟨PySem.W.mg_none_of X G z18⟩
  have C_CHECK_MODULUS : ∃ u, mg "CHECK_MODULUS" = some (.int 251 u) := ⟨_, PySem.W.mg_of X G y0⟩
  have C_FARTHEST : ∃ u, mg "FARTHEST" = some (.int 9999 u) := ⟨_, PySem.W.mg_of X G y1⟩
  have C_FIRST_BYTE : ∃ u, mg "FIRST_BYTE" = some (.int 72 u) := ⟨_, PySem.W.mg_of X G y2⟩
  have C_LONGEST : ∃ u, mg "LONGEST" = some (.int 99 u) := ⟨_, PySem.W.mg_of X G y3⟩
  have C_MOST_BARGES : ∃ u, mg "MOST_BARGES" = some (.int 8 u) := ⟨_, PySem.W.mg_of X G y4⟩
  have C_MOST_DIGITS : ∃ u, mg "MOST_DIGITS" = some (.int 4 u) := ⟨_, PySem.W.mg_of X G y5⟩
  have C_MOST_GROUPS : ∃ u, mg "MOST_GROUPS" = some (.int 3 u) := ⟨_, PySem.W.mg_of X G y6⟩
  have C_MOST_HAULS : ∃ u, mg "MOST_HAULS" = some (.int 200 u) := ⟨_, PySem.W.mg_of X G y7⟩
  have C_MOST_ROPES : ∃ u, mg "MOST_ROPES" = some (.int 40 u) := ⟨_, PySem.W.mg_of X G y8⟩
  refine ⟨PySem.W.fnOf "law" "law" (defArgs s_law) (defBody s_law) (defScope s_law) .none kV44 dc44 pm44 an44 cd44 ct44, fun s v => .of_eq rfl, fun base _ _ => ?_⟩
  have TReader : ClsR K mg CH := ⟨⟨pg, hd, po, sa⟩, mk, kc, PySem.W.mg_of X G aC, nD, nO⟩
  have D_is_number := df_is_number (P := l.prog) (w := w) (base := base) (K := K) (mg := mg) ⟨_, _, fun_mk (st := s_is_number) l0 c0 k0, PySem.W.mg_of X G a0⟩ B
  have D_is_barge := df_is_barge (P := l.prog) (w := w) (base := base) (K := K) (mg := mg) ⟨_, _, fun_mk (st := s_is_barge) l1 c1 k1, PySem.W.mg_of X G a1⟩ D_is_number
  have D_is_rope := df_is_rope (P := l.prog) (w := w) (base := base) (K := K) (mg := mg) ⟨_, _, fun_mk (st := s_is_rope) l2 c2 k2, PySem.W.mg_of X G a2⟩ B C_LONGEST D_is_number D_is_barge
  have D_check_fleet := df_check_fleet (P := l.prog) (w := w) (base := base) (K := K) (mg := mg) ⟨_, _, fun_mk (st := s_check_fleet) l3 c3 k3, PySem.W.mg_of X G a3⟩ B C_MOST_BARGES C_MOST_ROPES D_is_number D_is_rope
  have D_first_wrong_entry := df_first_wrong_entry (P := l.prog) (w := w) (base := base) (K := K) (mg := mg) ⟨_, _, fun_mk (st := s_first_wrong_entry) l4 c4 k4, PySem.W.mg_of X G a4⟩ B C_FARTHEST D_is_number
  have D_check_positions := df_check_positions (P := l.prog) (w := w) (base := base) (K := K) (mg := mg) ⟨_, _, fun_mk (st := s_check_positions) l5 c5 k5, PySem.W.mg_of X G a5⟩ D_first_wrong_entry
  have D_unsatisfied_ropes := df_unsatisfied_ropes (P := l.prog) (w := w) (base := base) (K := K) (mg := mg) ⟨_, _, fun_mk (st := s_unsatisfied_ropes) l6 c6 k6, PySem.W.mg_of X G a6⟩ B
  have D_check_valid := df_check_valid (P := l.prog) (w := w) (base := base) (K := K) (mg := mg) ⟨_, _, fun_mk (st := s_check_valid) l7 c7 k7, PySem.W.mg_of X G a7⟩ B D_check_positions D_unsatisfied_ropes
  have D_keep_less := df_keep_less (P := l.prog) (w := w) (base := base) (K := K) (mg := mg) ⟨_, _, fun_mk (st := s_keep_less) l8 c8 k8, PySem.W.mg_of X G a8⟩ 
  have D_chain_table := df_chain_table (P := l.prog) (w := w) (base := base) (K := K) (mg := mg) ⟨_, _, fun_mk (st := s_chain_table) l9 c9 k9, PySem.W.mg_of X G a9⟩ B D_keep_less
  have D_move_barge := df_move_barge (P := l.prog) (w := w) (base := base) (K := K) (mg := mg) ⟨_, _, fun_mk (st := s_move_barge) l10 c10 k10, PySem.W.mg_of X G a10⟩ B
  have D_is_haul := df_is_haul (P := l.prog) (w := w) (base := base) (K := K) (mg := mg) ⟨_, _, fun_mk (st := s_is_haul) l11 c11 k11, PySem.W.mg_of X G a11⟩ B C_FARTHEST D_is_number D_is_barge
  have D_follow_hauls := df_follow_hauls (P := l.prog) (w := w) (base := base) (K := K) (mg := mg) ⟨_, _, fun_mk (st := s_follow_hauls) l12 c12 k12, PySem.W.mg_of X G a12⟩ B D_check_fleet D_check_valid D_chain_table D_is_haul D_move_barge
  have D_haul_all := df_haul_all (P := l.prog) (w := w) (base := base) (K := K) (mg := mg) ⟨_, _, fun_mk (st := s_haul_all) l13 c13 k13, PySem.W.mg_of X G a13⟩ D_follow_hauls
  have D_haul := df_haul (P := l.prog) (w := w) (base := base) (K := K) (mg := mg) ⟨_, _, fun_mk (st := s_haul) l14 c14 k14, PySem.W.mg_of X G a14⟩ D_haul_all
  have D_law_taken := df_law_taken (P := l.prog) (w := w) (base := base) (K := K) (mg := mg) ⟨_, _, fun_mk (st := s_law_taken) l15 c15 k15, PySem.W.mg_of X G a15⟩ B
  have D_law_settled := df_law_settled (P := l.prog) (w := w) (base := base) (K := K) (mg := mg) ⟨_, _, fun_mk (st := s_law_settled) l16 c16 k16, PySem.W.mg_of X G a16⟩ B
  have D_law_fleet := df_law_fleet (P := l.prog) (w := w) (base := base) (K := K) (mg := mg) ⟨_, _, fun_mk (st := s_law_fleet) l17 c17 k17, PySem.W.mg_of X G a17⟩ B D_law_taken
  have D_law_positions := df_law_positions (P := l.prog) (w := w) (base := base) (K := K) (mg := mg) ⟨_, _, fun_mk (st := s_law_positions) l18 c18 k18, PySem.W.mg_of X G a18⟩ B D_law_taken D_law_settled
  have D_law_start := df_law_start (P := l.prog) (w := w) (base := base) (K := K) (mg := mg) ⟨_, _, fun_mk (st := s_law_start) l19 c19 k19, PySem.W.mg_of X G a19⟩ B D_law_taken D_law_positions
  have D_format_row := df_format_row (P := l.prog) (w := w) (base := base) (K := K) (mg := mg) ⟨_, _, fun_mk (st := s_format_row) l20 c20 k20, PySem.W.mg_of X G a20⟩ B2
  have D_split_rows := df_split_rows (P := l.prog) (w := w) (base := base) (K := K) (mg := mg) ⟨_, _, fun_mk (st := s_split_rows) l21 c21 k21, PySem.W.mg_of X G a21⟩ 
  have D_read_integer := df_read_integer (P := l.prog) (w := w) (base := base) (K := K) (mg := mg) ⟨_, _, fun_mk (st := s_read_integer) l22 c22 k22, PySem.W.mg_of X G a22⟩ B C_MOST_DIGITS
  have D_split_words := df_split_words (P := l.prog) (w := w) (base := base) (K := K) (mg := mg) ⟨_, _, fun_mk (st := s_split_words) l23 c23 k23, PySem.W.mg_of X G a23⟩ B B2 D_split_rows
  have D_read_numbers := df_read_numbers (P := l.prog) (w := w) (base := base) (K := K) (mg := mg) ⟨_, _, fun_mk (st := s_read_numbers) l24 c24 k24, PySem.W.mg_of X G a24⟩ B D_read_integer
  have D_is_planned := df_is_planned (P := l.prog) (w := w) (base := base) (K := K) (mg := mg) ⟨_, _, fun_mk (st := s_is_planned) l25 c25 k25, PySem.W.mg_of X G a25⟩ B C_MOST_BARGES C_FARTHEST D_is_barge D_is_number
  have D_format_plan := df_format_plan (P := l.prog) (w := w) (base := base) (K := K) (mg := mg) ⟨_, _, fun_mk (st := s_format_plan) l26 c26 k26, PySem.W.mg_of X G a26⟩ B B2 D_is_planned D_format_row
  have D_parse_plan := df_parse_plan (P := l.prog) (w := w) (base := base) (K := K) (mg := mg) ⟨_, _, fun_mk (st := s_parse_plan) l27 c27 k27, PySem.W.mg_of X G a27⟩ B C_MOST_BARGES D_split_words D_read_numbers D_is_barge
  have D_format_state := df_format_state (P := l.prog) (w := w) (base := base) (K := K) (mg := mg) ⟨_, _, fun_mk (st := s_format_state) l28 c28 k28, PySem.W.mg_of X G a28⟩ B2 D_check_fleet D_check_valid D_format_row
  have D_parse_state := df_parse_state (P := l.prog) (w := w) (base := base) (K := K) (mg := mg) ⟨_, _, fun_mk (st := s_parse_state) l29 c29 k29, PySem.W.mg_of X G a29⟩ B D_split_words D_read_numbers D_check_fleet D_check_valid
  have D_pack_bytes := df_pack_bytes (P := l.prog) (w := w) (base := base) (K := K) (mg := mg) ⟨_, _, fun_mk (st := s_pack_bytes) l30 c30 k30, PySem.W.mg_of X G a30⟩ B B3 D_is_number
  have D_unpack_bytes := df_unpack_bytes (P := l.prog) (w := w) (base := base) (K := K) (mg := mg) ⟨_, _, fun_mk (st := s_unpack_bytes) l31 c31 k31, PySem.W.mg_of X G a31⟩ B
  have D_natural_groups := df_natural_groups (P := l.prog) (w := w) (base := base) (K := K) (mg := mg) ⟨_, _, fun_mk (st := s_natural_groups) l32 c32 k32, PySem.W.mg_of X G a32⟩ 
  have D_integer_groups := df_integer_groups (P := l.prog) (w := w) (base := base) (K := K) (mg := mg) ⟨_, _, fun_mk (st := s_integer_groups) l33 c33 k33, PySem.W.mg_of X G a33⟩ D_natural_groups
  have D_encode_plan := df_encode_plan (P := l.prog) (w := w) (base := base) (K := K) (mg := mg) ⟨_, _, fun_mk (st := s_encode_plan) l34 c34 k34, PySem.W.mg_of X G a34⟩ B B2 B3 C_MOST_HAULS C_FIRST_BYTE C_CHECK_MODULUS D_haul_all D_integer_groups D_natural_groups
  have D_Reader___init__ := df_Reader___init__ (P := l.prog) (w := w) (base := base) (K := K) (mg := mg) (C := CH) ⟨_, _, fun_mk (st := s_Reader___init__) l35 c35 k35, a35, i35, k35⟩ TReader
  have D_Reader_read_byte := df_Reader_read_byte (P := l.prog) (w := w) (base := base) (K := K) (mg := mg) (C := CH) ⟨_, _, fun_mk (st := s_Reader_read_byte) l36 c36 k36, a36, i36, k36⟩ TReader B
  have D_Reader_read_natural := df_Reader_read_natural (P := l.prog) (w := w) (base := base) (K := K) (mg := mg) (C := CH) ⟨_, _, fun_mk (st := s_Reader_read_natural) l37 c37 k37, a37, i37, k37⟩ TReader B C_MOST_GROUPS D_Reader_read_byte
  have D_Reader_read_integer := df_Reader_read_integer (P := l.prog) (w := w) (base := base) (K := K) (mg := mg) (C := CH) ⟨_, _, fun_mk (st := s_Reader_read_integer) l38 c38 k38, a38, i38, k38⟩ TReader D_Reader_read_natural
  have D_Reader_read_end := df_Reader_read_end (P := l.prog) (w := w) (base := base) (K := K) (mg := mg) (C := CH) ⟨_, _, fun_mk (st := s_Reader_read_end) l39 c39 k39, a39, i39, k39⟩ TReader B B2 C_CHECK_MODULUS D_Reader_read_byte
  have D_read_ropes := df_read_ropes (P := l.prog) (w := w) (base := base) (K := K) (mg := mg) ⟨_, _, fun_mk (st := s_read_ropes) l40 c40 k40, PySem.W.mg_of X G a40⟩ TReader B C_MOST_ROPES C_LONGEST D_Reader_read_byte D_Reader_read_integer
  have D_read_hauls := df_read_hauls (P := l.prog) (w := w) (base := base) (K := K) (mg := mg) ⟨_, _, fun_mk (st := s_read_hauls) l41 c41 k41, PySem.W.mg_of X G a41⟩ TReader B C_MOST_HAULS C_FARTHEST D_Reader_read_byte D_Reader_read_natural D_Reader_read_integer
  have D_decode_plan := df_decode_plan (P := l.prog) (w := w) (base := base) (K := K) (mg := mg) ⟨_, _, fun_mk (st := s_decode_plan) l42 c42 k42, PySem.W.mg_of X G a42⟩ TReader B B3 C_FIRST_BYTE C_MOST_BARGES C_FARTHEST D_Reader___init__ D_Reader_read_byte D_Reader_read_integer D_Reader_read_end D_read_ropes D_read_hauls D_haul_all
  have D_law_hauls := df_law_hauls (P := l.prog) (w := w) (base := base) (K := K) (mg := mg) ⟨_, _, fun_mk (st := s_law_hauls) l43 c43 k43, PySem.W.mg_of X G a43⟩ B D_law_taken D_haul
  exact ok_law (fun_mk (st := s_law) l44 c44 k44) B B2 D_law_fleet D_law_start D_law_hauls D_haul_all D_format_state D_parse_state D_format_plan D_parse_plan D_encode_plan D_decode_plan D_pack_bytes D_unpack_bytes
theorem walk {l : PySem.W.OpenLaw} {q : Program} {loose : List Str} {XP : (Str → Option Value) → Heap → Prop} {YP : World → Heap → Prop} {d : DefRec} {K : Params → PySem.W.Frag} (hn : l.most = some 63) (hdf : d.params.defaults = [])
    (hY : ∀ (w : World) (h : Heap), YP w h → (K w.params).In h)
    (F : ∀ (w : World) (mg : Str → Option Value) (fa : Addr) (h : Heap), (K w.params).In h → h.Ns mainGlobals mg → mg d.name = some (.ref fa) →
      ∃ fd : FuncData, (∀ (s : Shared) (u : Value), BindsTo s fd ⟨[u], []⟩ [("_law_script", u)]) ∧ ∀ base : Heap, (K w.params).In base → base.Ns mainGlobals mg → FnOk l.prog w (K w.params) mg base CX0 9 fa fd ["_law_script"] (sp_law (K w.params))) :
    PySem.W.WalkO q loose XP YP l.row.toRowW d [] (fun f vs => PySem.call f vs) :=
  L2.walk_of (n := 63) (k := 9) (x := "_law_script") (CX := fun _ => CX0) (sp := fun w => sp_law (K w.params)) hn (by decide) hdf ⟨rfl, by decide, by decide⟩ hY F (fun _ _ a ns hl _ hS => ⟨a, ns, rfl, hS, Nat.le_trans hl (by decide), fun _ => rfl⟩) fun _ _ _ _ _ z => z
end Hx

set_option Elab.async false
open PySem PySem.W PyProof.Rows
set_option maxRecDepth 100000 in
set_option maxHeartbeats 0 in
theorem PySem.Challenge.cw_haulropes_k27_whole_texts_and_bytes_of_p_holds : PySem.Challenge.rw_haulropes_k27_whole_texts_and_bytes_of_p.Holds := by
  w_on; o_law; k_head; (case hw => w_witness2)
  k_fill
  refine Hx.walk (l := PySem.Challenge.rw_haulropes_k27_whole_texts_and_bytes_of_p) rfl rfl (fun w h Y => PySem.W.kIn_of Y) ?F
  case F =>
    intro w mg fa h KX G hmg
    refine' Hx.all_mk KX G hmg ?aC ?pg ?hd ?po ?sa ?mk ?kc ?nD ?nO ?a0 ?l0 ?c0 ?k0 ?a1 ?l1 ?c1 ?k1 ?a2 ?l2 ?c2 ?k2 ?a3 ?l3 ?c3 ?k3 ?a4 ?l4 ?c4 ?k4 ?a5 ?l5 ?c5 ?k5 ?a6 ?l6 ?c6 ?k6 ?a7 ?l7 ?c7 ?k7 ?a8 ?l8 ?c8 ?k8 ?a9 ?l9 ?c9 ?k9 ?a10 ?l10 ?c10 ?k10 ?a11 ?l11 ?c11 ?k11 ?a12 ?l12 ?c12 ?k12 ?a13 ?l13 ?c13 ?k13 ?a14 ?l14 ?c14 ?k14 ?a15 ?l15 ?c15 ?k15 ?a16 ?l16 ?c16 ?k16 ?a17 ?l17 ?c17 ?k17 ?a18 ?l18 ?c18 ?k18 ?a19 ?l19 ?c19 ?k19 ?a20 ?l20 ?c20 ?k20 ?a21 ?l21 ?c21 ?k21 ?a22 ?l22 ?c22 ?k22 ?a23 ?l23 ?c23 ?k23 ?a24 ?l24 ?c24 ?k24 ?a25 ?l25 ?c25 ?k25 ?a26 ?l26 ?c26 ?k26 ?a27 ?l27 ?c27 ?k27 ?a28 ?l28 ?c28 ?k28 ?a29 ?l29 ?c29 ?k29 ?a30 ?l30 ?c30 ?k30 ?a31 ?l31 ?c31 ?k31 ?a32 ?l32 ?c32 ?k32 ?a33 ?l33 ?c33 ?k33 ?a34 ?l34 ?c34 ?k34 ?a35 ?i35 ?l35 ?c35 ?k35 ?a36 ?i36 ?l36 ?c36 ?k36 ?a37 ?i37 ?l37 ?c37 ?k37 ?a38 ?i38 ?l38 ?c38 ?k38 ?a39 ?i39 ?l39 ?c39 ?k39 ?a40 ?l40 ?c40 ?k40 ?a41 ?l41 ?c41 ?k41 ?a42 ?l42 ?c42 ?k42 ?a43 ?l43 ?c43 ?k43 ?a44 ?l44 ?c44 ?k44 ?y0 ?y1 ?y2 ?y3 ?y4 ?y5 ?y6 ?y7 ?y8 ?z0 ?z1 ?z2 ?z3 ?z4 ?z5 ?z6 ?z7 ?z8 ?z9 ?z10 ?z11 ?z12 ?z13 ?z14 ?z15 ?z16 ?z17 ?z18
    (case aC => k_is); (case pg => k_is); (case hd => k_is); (case po => k_is)
    (case sa => k_is); (case mk => k_is); (case kc => k_is); (case nD => k_is)
    (case nO => k_is); (case a0 => k_is); (case l0 => k_is); (case c0 => k_is)
    (case k0 => k_is); (case a1 => k_is); (case l1 => k_is); (case c1 => k_is)
    (case k1 => k_is); (case a2 => k_is); (case l2 => k_is); (case c2 => k_is)
    (case k2 => k_is); (case a3 => k_is); (case l3 => k_is); (case c3 => k_is)
    (case k3 => k_is); (case a4 => k_is); (case l4 => k_is); (case c4 => k_is)
    (case k4 => k_is); (case a5 => k_is); (case l5 => k_is); (case c5 => k_is)
    (case k5 => k_is); (case a6 => k_is); (case l6 => k_is); (case c6 => k_is)
    (case k6 => k_is); (case a7 => k_is); (case l7 => k_is); (case c7 => k_is)
    (case k7 => k_is); (case a8 => k_is); (case l8 => k_is); (case c8 => k_is)
    (case k8 => k_is); (case a9 => k_is); (case l9 => k_is); (case c9 => k_is)
    (case k9 => k_is); (case a10 => k_is); (case l10 => k_is); (case c10 => k_is)
    (case k10 => k_is); (case a11 => k_is); (case l11 => k_is); (case c11 => k_is)
    (case k11 => k_is); (case a12 => k_is); (case l12 => k_is); (case c12 => k_is)
    (case k12 => k_is); (case a13 => k_is); (case l13 => k_is); (case c13 => k_is)
    (case k13 => k_is); (case a14 => k_is); (case l14 => k_is); (case c14 => k_is)
    (case k14 => k_is); (case a15 => k_is); (case l15 => k_is); (case c15 => k_is)
    (case k15 => k_is); (case a16 => k_is); (case l16 => k_is); (case c16 => k_is)
    (case k16 => k_is); (case a17 => k_is); (case l17 => k_is); (case c17 => k_is)
    (case k17 => k_is); (case a18 => k_is); (case l18 => k_is); (case c18 => k_is)
    (case k18 => k_is); (case a19 => k_is); (case l19 => k_is); (case c19 => k_is)
    (case k19 => k_is); (case a20 => k_is); (case l20 => k_is); (case c20 => k_is)
    (case k20 => k_is); (case a21 => k_is); (case l21 => k_is); (case c21 => k_is)
    (case k21 => k_is); (case a22 => k_is); (case l22 => k_is); (case c22 => k_is)
    (case k22 => k_is); (case a23 => k_is); (case l23 => k_is); (case c23 => k_is)
    (case k23 => k_is); (case a24 => k_is); (case l24 => k_is); (case c24 => k_is)
    (case k24 => k_is); (case a25 => k_is); (case l25 => k_is); (case c25 => k_is)
    (case k25 => k_is); (case a26 => k_is); (case l26 => k_is); (case c26 => k_is)
    (case k26 => k_is); (case a27 => k_is); (case l27 => k_is); (case c27 => k_is)
    (case k27 => k_is); (case a28 => k_is); (case l28 => k_is); (case c28 => k_is)
    (case k28 => k_is); (case a29 => k_is); (case l29 => k_is); (case c29 => k_is)
    (case k29 => k_is); (case a30 => k_is); (case l30 => k_is); (case c30 => k_is)
    (case k30 => k_is); (case a31 => k_is); (case l31 => k_is); (case c31 => k_is)
    (case k31 => k_is); (case a32 => k_is); (case l32 => k_is); (case c32 => k_is)
    (case k32 => k_is); (case a33 => k_is); (case l33 => k_is); (case c33 => k_is)
    (case k33 => k_is); (case a34 => k_is); (case l34 => k_is); (case c34 => k_is)
    (case k34 => k_is); (case a35 => k_is); (case i35 => k_is); (case l35 => k_is)
    (case c35 => k_is); (case k35 => k_is); (case a36 => k_is); (case i36 => k_is)
    (case l36 => k_is); (case c36 => k_is); (case k36 => k_is); (case a37 => k_is)
    (case i37 => k_is); (case l37 => k_is); (case c37 => k_is); (case k37 => k_is)
    (case a38 => k_is); (case i38 => k_is); (case l38 => k_is); (case c38 => k_is)
    (case k38 => k_is); (case a39 => k_is); (case i39 => k_is); (case l39 => k_is)
    (case c39 => k_is); (case k39 => k_is); (case a40 => k_is); (case l40 => k_is)
    (case c40 => k_is); (case k40 => k_is); (case a41 => k_is); (case l41 => k_is)
    (case c41 => k_is); (case k41 => k_is); (case a42 => k_is); (case l42 => k_is)
    (case c42 => k_is); (case k42 => k_is); (case a43 => k_is); (case l43 => k_is)
    (case c43 => k_is); (case k43 => k_is); (case a44 => k_is); (case l44 => k_is)
    (case c44 => k_is); (case k44 => k_is); (case y0 => k_is); (case y1 => k_is)
    (case y2 => k_is); (case y3 => k_is); (case y4 => k_is); (case y5 => k_is)
    (case y6 => k_is); (case y7 => k_is); (case y8 => k_is); (case z0 => k_is)
    (case z1 => k_is); (case z2 => k_is); (case z3 => k_is); (case z4 => k_is)
    (case z5 => k_is); (case z6 => k_is); (case z7 => k_is); (case z8 => k_is)
    (case z9 => k_is); (case z10 => k_is); (case z11 => k_is); (case z12 => k_is)
    (case z13 => k_is); (case z14 => k_is); (case z15 => k_is); (case z16 => k_is)
    (case z17 => k_is); (case z18 => k_is)
#print axioms PySem.Challenge.cw_haulropes_k27_whole_texts_and_bytes_of_p_holds
