import Derived.Test.YtdpoaadafcaffaaGreatDoorZ07
set_option maxHeartbeats 8000000
set_option maxRecDepth 100000
set_option linter.unusedSimpArgs false
namespace Go.Proofs.YtdpoaadafcaffaaGreatDoor.M
open Go.RowKit
structure L4 where
 has:Bool
 nm:ByteArray
 cd:Int
 tx:ByteArray
def A_:L4:=⟨false,⟨#[]⟩,0,⟨#[]⟩⟩
def L4.le (x:L4) (B:Nat):Prop:=x.nm.size<=B/\x.tx.size<=B
def Ma (w:World) (a:Option Addr) (is:List L4):Prop:=
 is=[]\/∃ b off,a=some ⟨b,off,none⟩/\b<w.heap.size/\∀ i,i<is.length->w.cell? ⟨b,off+i*4,none⟩=some (.bool (is.getD i A_).has)/\w.cell? ⟨b,off+i*4+1,none⟩=some (.string (is.getD i A_).nm)/\w.cell? ⟨b,off+i*4+2,none⟩=some (.int .i64 (is.getD i A_).cd)/\w.cell? ⟨b,off+i*4+3,none⟩=some (.string (is.getD i A_).tx)
theorem Ws {w:World} {a:Option Addr} {is:List L4} (h:Ma w a is):∃ b off,(is=[]\/(a=some ⟨b,off,none⟩/\b<w.heap.size/\∀ i,i<is.length->w.cell? ⟨b,off+i*4,none⟩=some (.bool (is.getD i A_).has)/\w.cell? ⟨b,off+i*4+1,none⟩=some (.string (is.getD i A_).nm)/\w.cell? ⟨b,off+i*4+2,none⟩=some (.int .i64 (is.getD i A_).cd)/\w.cell? ⟨b,off+i*4+3,none⟩=some (.string (is.getD i A_).tx))):=by
 rcases h with h | ⟨b,off,h⟩
 · exact ⟨0,0,.inl h⟩
 exact ⟨b,off,.inr h⟩
theorem I_ {w w':World} {a:Option Addr} {is:List L4} (h:Ma w a is) (hb:Below w.heap.size w w'):Ma w' a is:=by
 rcases h with h | ⟨b,off,h1,h2,h3⟩
 · exact .inl h
 exact .inr ⟨b,off,h1,Nat.lt_of_lt_of_le h2 hb.size,fun i hi=>by rw [hb.cell (by exact h2),hb.cell (by exact h2),hb.cell (by exact h2),hb.cell (by exact h2)];exact h3 i hi⟩
theorem Oo {w:World} {a:Option Addr} {is:List L4} {q:Addr} {v:Value} (h:Ma w a is) (hq:∀ b off,a=some ⟨b,off,none⟩->is≠[]->q.block≠b):Ma (w.setCell q v) a is:=by
 rcases Nat.eq_zero_or_pos is.length with e | e
 · exact .inl (List.eq_nil_of_length_eq_zero e)
 have hn:is≠[]:=fun c=>by rw [c] at e;simp at e
 rcases h with h | ⟨b,off,h1,h2,h3⟩
 · exact absurd h hn
 have hne:∀ j,q≠⟨b,j,none⟩:=fun j e=>hq b off h1 hn (by rw [e]);refine .inr ⟨b,off,h1,by simpa using h2,fun i hi=>?_⟩;rw [World.cell?_setCell_other _ _ _ _ (hne _),World.cell?_setCell_other _ _ _ _ (hne _),World.cell?_setCell_other _ _ _ _ (hne _),World.cell?_setCell_other _ _ _ _ (hne _)];exact h3 i hi
def Ta (u:World) (B:Nat) (vs:List Value):Prop:=∀ j v,vs[j]?=some v->u.cell? ⟨B,j,none⟩=some v
def Tg (u:World) (B:Nat):Prop:=∀ j,u.frozen? ⟨B,j,none⟩=false
theorem Yo (w:World) (vs:List Value) (t:TypeId):Ta (w.alloc (.cells vs.toArray t)) w.heap.size vs:=fun j v h=>by
 simp [go_sem,h]
theorem Jo (w:World) (a:Array Value) (t:TypeId):Tg (w.alloc (.cells a t)) w.heap.size:=fun j=>by simp [go_sem]
theorem Ta.below {u u':World} {B N:Nat} {vs:List Value} (h:Ta u B vs) (hb:Below N u u') (hN:B<N):Ta u' B vs:=fun j v e=>(hb.cell (p:=⟨B,j,none⟩) hN).trans (h j v e)
theorem Tg.below {u u':World} {B N:Nat} (h:Tg u B) (hb:Below N u u') (hN:B<N):Tg u' B:=fun j=>(hb.frozen (p:=⟨B,j,none⟩) hN).trans (h j)
theorem Ta.set {u:World} {B:Nat} {vs:List Value} (h:Ta u B vs) (j:Nat) (v:Value) (hj:j<vs.length):Ta (u.setCell ⟨B,j,none⟩ v) B (vs.set j v):=fun i x e=>by
 rcases Nat.decEq i j with hne | rfl
 · rw [World.cell?_setCell_other _ _ _ _ (Pb (fun e=>hne e.symm))]
   rw [List.getElem?_set_ne (fun h=>hne h.symm)] at e;exact h i x e
 rw [List.getElem?_set_self hj] at e;obtain rfl:=Option.some.inj e;exact World.cell?_setCell_same _ _ _ (h i _ (List.getElem?_eq_getElem hj))
theorem Tg.set {u:World} {B:Nat} (h:Tg u B) (p:Addr) (v:Value):Tg (u.setCell p v) B:=fun j=>by simpa using h j
def fill (u:World) (B:Nat):Nat->List Value->World
 | _,[]=>u
 | j,v::vs=>fill (u.setCell ⟨B,j,none⟩ v) B (j+1) vs
theorem zu {B N:Nat} {w:World} (hN:N<=B) (vs:List Value):∀ {u:World} (j:Nat),Below N w u->Below N w (fill u B j vs):=by
 induction vs with
 | nil=>intro u j h;exact h
 | cons v vs ih=>intro u j h;exact ih (j+1) (h.setCell (p:=⟨B,j,none⟩) hN v)
structure D8 where
 nm:ByteArray
 made:Bool
 km:M3
 ls:List L4
 cd:Int
 tx:ByteArray
def D8.le (x:D8) (B:Nat):Prop:=x.nm.size<=B/\x.km.le B/\(x.ls.length<=B/\∀ i,(x.ls.getD i A_).le B)/\x.tx.size<=B
structure T6 where
 over:Bool
 cd:Int
 tx:ByteArray
 has:Bool
 nm:ByteArray
 st:Int
def T6.le (x:T6) (B:Nat):Prop:=x.tx.size<=B/\x.nm.size<=B
structure ZJ where
 kd:Int
 to:Int
 fr:Int
 ep:Int
 ed:Int
 km:M3
 ls:List L4
 ct:Int
 tn:T6
def ZJ.le (x:ZJ) (B:Nat):Prop:=x.km.le B/\(x.ls.length<=B/\∀ i,(x.ls.getD i A_).le B)/\x.tn.le B
open Proofs.Tryz
variable {P:Prop} {x:L4}
theorem Dm (n:Int) (h:0<=n) (h1:n<=100000000):IntKind.i64.wrap (n.tdiv 10)=n / 10:=by
 rw [Int.tdiv_eq_ediv_of_nonneg h];simp [IntKind.wrap,IntKind.signed,IntKind.bits];omega
theorem Di (l:List UInt8) (x:Int):K3 (l++[UInt8.ofNat x.toNat])=K3 l++strOfNums [x]:=by
 apply ByteArray.ext;simp [K3,strOfNums]
theorem Np (f:Nat):∀ (n:Int) (w:World),0<=n->n<=100000000->n.toNat<f->
 Calls prog 33 #[.int .i64 n] w fun e w'=>e=.returned (.string (K3 (dec n)))/\Below w.heap.size w w':=by
 induction f with
 | zero=>intro n w _ _ h;omega
 | succ f ih=>
  intro n w h0 h1 hf;have hcv:=Hr;have hcd:=fA;have hz:∀ y,(strOfNums [y]).size=1:=fun y=>strOfNums_size [y];by_cases h:n<10
  · go_enter func33,ntmps33
    go_wp2;go_ret;exact ⟨by rw [dec_lt n h];rfl,bA⟩
  have hq:(K3 (dec (n / 10))).size<=100000001:=by rw [Y2];exact Cv _ O0 O0
  have H:Hid (∀ w,Calls prog 33 #[.int .i64 (IntKind.i64.wrap (n.tdiv 10))] w fun e w'=>e=.returned (.string (K3 (dec (n / 10))))/\Below w.heap.size w w'):=by
   rw [Dm n h0 h1];exact fun w=>ih (n / 10) w O0 O0 O0
  have HD:Hid (Ending.returned (.string (K3 (dec (n / 10))++strOfNums [48+n % 10]))=.returned (.string (K3 (dec n)))):=by
   rw [Ui n O0,Di];rfl
  clear ih;go_enter func33,ntmps33
  go_wp2_with fail
  go_region_with (go_at_call 33;refine (H.out _).mono ?_;rintro e w1 ⟨rfl,hb1⟩;(try (have hcb:=Oz hb1)))
  all_goals go_wp2
  all_goals go_ret
  all_goals refine ⟨?_,?_⟩
  all_goals first
   | exact HD.out
   | exact (((Below.refl w.heap.size w).drew).trans hb1).alloc hb1.size _
   | exact (((Below.refl w.heap.size w).alloc Q8 _).drew).trans (hb1.mono U0)
theorem Qc {k:IntKind} {a b:Int} (h:a=b):Ending.returned (.int k a)=.returned (.int k b):=by rw [h]
theorem c156 (s:ByteArray) (w:World) (hs:s.size<=1048700):
 Calls prog 156 #[.string s] w fun e w'=>e=.returned (.int .i64 (n29 s.data.toList))/\Below w.heap.size w w':=by
 by_cases h:1<=s.size/\s.size<=7;rotate_left
 · have hN:Hid (n29 s.data.toList=-1):=Jv (by simpa using h)
   by_cases h1:1<=s.size
   all_goals
    go_enter func156,ntmps156;go_wp2
    all_goals go_ret
    all_goals exact ⟨Qc hN.out.symm,Below.refl _ _⟩
 obtain ⟨h1,h2⟩:=h;go_enter func156,ntmps156;go_wp2;go_loop [3,4] (fun n i=>∃ k:Nat,k<=s.size/\i=.int .i64 k/\n=.int .i64 (val (s.data.toList.take k))/\0<=val (s.data.toList.take k)/\val (s.data.toList.take k)<=10000000/\Hid ((s.data.toList.take k).all E9=true)) (fun _ i=>s.size - (intOf i).toNat)
 case atStart=>exact ⟨0,Nat.zero_le _,rfl,rfl,by simp [val],by simp [val],rfl⟩
 obtain ⟨k,hk,rfl,rfl,hv0,hv1,ha⟩:=hrel;by_cases hlt:k<s.size
 · by_cases hg:E9 s[k]=true
   · have hg':=(J_ _).1 hg
     have hw:=El _ hg';have ha':=Q0 (W_ _ s k hlt ha.out hg);have hvs:Hid (val (s.data.toList.take (k+1))=val (s.data.toList.take k)*10+((s[k].toNat:Int) - 48)):=by
      rw [o9 s k hlt];exact G_ _ _
     have hb:=Q0 (Wn _ ha'.out X3);clear hg;go_wp2
     go_round
     case rel=>exact ⟨k+1,O0,by go_num,by rw [hvs.out],by rw [hvs.out];omega,hb.out,ha'⟩
     case measure=>simp [intOf];omega
   have hN:=Q0 (Qv (jb _ s k hlt (by simpa using hg)));have hg':(s[k].toNat:Int)<48\/57<(s[k].toNat:Int):=by
    rcases Int.lt_or_le (s[k].toNat:Int) 48 with h | h
    · exact .inl h
    rcases Int.lt_or_le 57 (s[k].toNat:Int) with h' | h'
    · exact .inr h'
    exact absurd ((J_ _).2 ⟨h,h'⟩) hg
   clear hg;rcases hg' with hg | hg
   all_goals
    go_wp2
    all_goals go_ret
    all_goals exact ⟨Qc hN.out.symm,Below.refl _ _⟩
 have hall:=Q0 (Z_ _ s k O0 ha.out);have hE:Hid (s.data.toList.take k=s.data.toList):=List.take_of_length_le X3
 go_wp2_with fail
 refine (Np _ _ _ hv0 O0 (Nat.lt_succ_self _)).mono ?_;rintro e w1 ⟨rfl,hb1⟩;rw [hE.out];by_cases hd:dec (val s.data.toList)=s.data.toList
 · have hN:=Q0 (jl (by simpa using ⟨h1,h2⟩) hall.out hd)
   have hne:((K3 (dec (val s.data.toList))).toList==s.toList)=true:=by
    rw [hd,ByteArray.toList_eq,ByteArray.toList_eq];simp [K3]
   clear hd;go_wp2;go_ret;exact ⟨Qc hN.out.symm,hb1⟩
 have hN:=Q0 (iw hd);have hne:((K3 (dec (val s.data.toList))).toList==s.toList)=false:=by
  rw [ByteArray.toList_eq,ByteArray.toList_eq];simpa [K3] using hd
 clear hd;go_wp2;go_ret;exact ⟨Qc hN.out.symm,hb1⟩
theorem c154 (c:Int) (s:ByteArray) (w:World) (hs:s.size<=1048700):
 Calls prog 154 #[.agg #[.int .i64 c,.string s]] w fun e w'=>e=.returned (.bool (vr c s.data.toList))/\Below w.heap.size w w':=by
 have hlen:s.data.toList.length=s.size:=U0;by_cases KL:300<s.size
 · have hV:Hid (vr c s.data.toList=false):=fq O0
   clear hlen;go_enter func154,ntmps154;go_wp2;go_ret;exact ⟨U4 (by rw [hV.out]),bA⟩
 by_cases h01:c=0\/c=1
 · have hV:Hid (vr c s.data.toList=true):=by unfold vr;rw [if_pos h01,hlen];simp [Hid];omega
   clear hlen;rcases h01 with rfl | rfl
   all_goals
    go_enter func154,ntmps154;go_wp2;go_ret;exact ⟨U4 (by rw [hV.out]),bA⟩
 by_cases h2:c=2
 · subst h2
   have hV:Hid (vr 2 s.data.toList=Q7 s.data.toList):=rfl;clear hlen h01;go_enter func154,ntmps154
   go_wp2_with fail
   refine (c156 _ _ hs).mono ?_;rintro e w1 ⟨rfl,hb1⟩
   go_wp2_with fail
   refine (fC _ _ _ _).mono ?_;rintro e w2 ⟨rfl,rfl⟩;go_wp2;go_ret;refine ⟨U4 (by rw [hV.out];rw [<- Gn];simp),bA.trans (hb1.mono U0)⟩
 by_cases h3:c=3
 · subst h3
   have hV:Hid (vr 3 s.data.toList=s.toList.isEmpty):=by rw [ByteArray.toList_eq];rfl
   clear hlen h01 h2;go_enter func154,ntmps154;go_wp2;go_ret;exact ⟨U4 (by rw [hV.out]),bA⟩
 by_cases h4:c=4\/c=5\/c=7
 · have hV:Hid (vr c s.data.toList=Y1 s.data.toList):=by unfold vr;rw [if_neg h01,if_neg h2,if_neg h3,if_pos h4];rfl
   clear hlen h01 h2 h3;rcases h4 with rfl | rfl | rfl
   all_goals
    go_enter func154,ntmps154
    go_wp2_with fail
    refine (Um _ _ hs).mono ?_;rintro e w1 ⟨rfl,rfl⟩;go_wp2;go_ret;exact ⟨U4 (by rw [hV.out]),bA⟩
 have hV:Hid (vr c s.data.toList=false):=by unfold vr;rw [if_neg h01,if_neg h2,if_neg h3,if_neg h4];rfl
 have e0:(c==0)=false:=X3;have e1:(c==1)=false:=X3;have e2:(c==2)=false:=X3;have e3:(c==3)=false:=X3;have e4:(c==4)=false:=X3;have e5:(c==5)=false:=X3;have e7:(c==7)=false:=X3;clear hlen h01 h2 h3 h4;go_enter func154,ntmps154;go_wp2;go_ret;exact ⟨U4 (by rw [hV.out]),bA⟩
def Gf (x:L4):Prop:=Y1 x.nm.data.toList=true/\((x.has=true/\((x.cd=0/\x.tx=⟨#[]⟩)\/(x.cd=4/\x.tx=x.nm)))\/(x.has=false/\vr x.cd x.tx.data.toList=true))
def oG (P:Prop) (e:Ending):Prop:=∃ r,e=.returned (.bool r)/\(r=true↔P)
theorem Qm (h:¬ P):oG P (.returned (.bool false)):=⟨false,rfl,⟨fun h=>absurd h Bool.false_ne_true,fun k=>absurd k h⟩⟩
theorem gq (h:P):oG P (.returned (.bool true)):=⟨true,rfl,⟨fun _=>h,fun _=>rfl⟩⟩
theorem QA (x y:ByteArray):x.toList=y.toList↔x=y:=⟨fun h=>by
 rw [ByteArray.toList_eq,ByteArray.toList_eq] at h;exact ByteArray.ext (Array.toList_inj.1 h),fun h=>by rw [h]⟩
theorem YF (x:ByteArray):x.toList=[]↔x=⟨#[]⟩:=by
 rw [ByteArray.toList_eq];exact ⟨fun h=>ByteArray.ext (Array.toList_inj.1 h),fun h=>by rw [h]⟩
theorem GD (h:Y1 x.nm.data.toList=false):¬ Gf x:=fun k=>absurd (k.1.symm.trans h) J3
theorem gB (hn:Y1 x.nm.data.toList=true) (hh:x.has=false):Gf x↔vr x.cd x.tx.data.toList=true:=by
 constructor
 · rintro ⟨_,⟨h,_⟩ | ⟨_,h⟩⟩
   · rw [hh] at h;cases h
   exact h
 exact fun h=>⟨hn,.inr ⟨hh,h⟩⟩
theorem VB (hn:Y1 x.nm.data.toList=true) (hh:x.has=true):Gf x↔((x.cd=0/\x.tx.toList=[])\/(x.cd=4/\x.tx.toList=x.nm.toList)):=by
 rw [YF,QA];constructor
 · rintro ⟨_,⟨_,h⟩ | ⟨h,_⟩⟩
   · exact h
   rw [hh] at h;cases h
 exact fun h=>⟨hn,.inl ⟨hh,h⟩⟩
theorem TI (x:L4) (w:World) (hs:x.le 1048600):
 Calls prog 153 #[.agg #[.bool x.has,.string x.nm,.int .i64 x.cd,.string x.tx]] w fun e w'=>oG (Gf x) e/\Below w.heap.size w w':=by
 obtain ⟨s1,s2⟩:=hs;have hB0:∀ o,Below w.heap.size w (w.alloc o):=fun o=>bA;cases hn:Y1 x.nm.data.toList
 · have HN:=Q0 (Qm (GD hn))
   go_enter func153,ntmps153
   go_wp2_with fail
   refine (Um x.nm _ O0).mono ?_;rintro e w1 ⟨rfl,hw⟩;obtain rfl:=hw.symm;rw [hn];go_wp2;go_ret;exact ⟨HN.out,hB0 _⟩
 cases hh:x.has
 · have HE:=Q0 (gB hn hh)
   go_enter func153,ntmps153
   go_wp2_with fail
   refine (Um x.nm _ O0).mono ?_;rintro e w1 ⟨rfl,hw⟩;obtain rfl:=hw.symm;rw [hn]
   go_wp2_with fail
   refine (c154 x.cd x.tx _ O0).mono ?_;rintro e w2 ⟨rfl,hb2⟩;have hB2:=(hB0 _).trans (hb2.mono U0);go_wp2;go_ret;exact ⟨⟨_,rfl,HE.out.symm⟩,hB2⟩
 have HE:=Q0 (VB hn hh)
 skip
 all_goals
  go_enter func153,ntmps153
  go_wp2_with fail
  refine (Um x.nm _ O0).mono ?_;rintro e w1 ⟨rfl,hw⟩;obtain rfl:=hw.symm;rw [hn];go_wp2
  all_goals go_ret
  all_goals first
   | exact ⟨gq (HE.out.2 (by simp [*])),hB0 _⟩
   | exact ⟨Qm (fun h=>by have:=HE.out.1 h;simp [*] at this),hB0 _⟩
   | exact ⟨gq (HE.out.2 (by simp [*])),(hB0 _).alloc U0 _⟩
   | exact ⟨Qm (fun h=>by have:=HE.out.1 h;simp [*] at this),(hB0 _).alloc U0 _⟩
def um (ls:List L4):Prop:=ls.length<=15/\∀ i,i<ls.length->Gf (ls.getD i A_)
theorem QH (a:Option Addr) (cap:Nat) (ls:List L4) (w:World) (hl:ls.length<=1048576) (hs:∀ i,(ls.getD i A_).le 1048576) (hat:Ma w a ls):
 Calls prog 123 #[.slice a ls.length cap] w fun e w'=>oG (um ls) e/\Below w.heap.size w w':=by
 obtain ⟨b,off,hc⟩:=Ws hat;have HC:=Q0 hc;have HS:=Q0 hs;clear hc hat hs;by_cases hbig:15<ls.length
 · have HN:Hid (oG (um ls) (.returned (.bool false))):=Qm (fun h=>by have:=h.1;omega)
   go_enter func123,ntmps123;go_wp2;go_ret;exact ⟨HN.out,Below.refl _ _⟩
 go_enter func123,ntmps123
 go_wp2_with fail
 go_loopw [3] (fun vi wr=>∃ k:Nat,k<=ls.length/\vi=.int .i64 k/\Below w.heap.size w wr/\Hid (∀ j,j<k->Gf (ls.getD j A_))) (fun vi _=>ls.length - (intOf vi).toNat)
 case atStart=>exact ⟨0,Nat.zero_le _,rfl,Below.refl _ _,fun j h=>absurd h (Nat.not_lt_zero _)⟩
 obtain ⟨k,hk,rfl,hb,hdone⟩:=hrel;by_cases hlt:k<ls.length;rotate_left
 · have VX:Hid (oG (um ls) (.returned (.bool true))):=gq ⟨O0,fun j hj=>hdone.out j O0⟩
   go_wp2;go_ret;exact ⟨VX.out,hb⟩
 rcases HC.out with hss | ⟨ha,hbw,hcell⟩
 · rw [hss] at hlt;exact absurd hlt (Nat.not_lt_zero _)
 subst ha;obtain ⟨g0,g1,g2,g3⟩:=hcell k hlt;have g0:=(hb.cell (p:=⟨b,off+k*4,none⟩) hbw).trans g0;have g1:=(hb.cell (p:=⟨b,off+k*4+1,none⟩) hbw).trans g1;have g2:=(hb.cell (p:=⟨b,off+k*4+2,none⟩) hbw).trans g2;have g3:=(hb.cell (p:=⟨b,off+k*4+3,none⟩) hbw).trans g3;have hxs:=HS.out k;have HN:Hid (¬ Gf (ls.getD k A_)->oG (um ls) (.returned (.bool false))):=fun h=>Qm fun d=>h (d.2 k hlt);have HY:Hid (Gf (ls.getD k A_)->∀ j,j<k+1->Gf (ls.getD j A_)):=fun h j hj=>by
  rcases Nat.lt_or_ge j k with h1 | h1
  · exact hdone.out j h1
  obtain rfl:j=k:=O0;exact h
 generalize ls.getD k A_=x at*;clear hcell
 go_wp2_with fail
 refine (TI x wr ⟨by have:=hxs.1;omega,by have:=hxs.2;omega⟩).mono ?_;rintro e w1 ⟨⟨r,rfl,hr⟩,hb1⟩;have hB1:=bT hb hb1;cases r
 · have hno:=Q0 (HN.out fun h=>absurd (hr.2 h) Bool.false_ne_true)
   clear hr;go_wp2;go_ret;exact ⟨hno.out,hB1⟩
 have VX:=Q0 (HY.out (hr.1 rfl));clear hr;go_wp2;go_roundw
 case rel=>exact ⟨k+1,O0,by go_num,hB1,VX⟩
 case measure=>simp [intOf];omega
end Go.Proofs.YtdpoaadafcaffaaGreatDoor.M
