import Derived.Test.YtdpoaadafcaffaaGreatDoorZ42
import Derived.Test.YtdpoaadafcaffaaGreatDoorND
import Derived.Test.YtdpoaadafcaffaaGreatDoorZ37
set_option linter.unusedVariables false
set_option maxHeartbeats 8000000
set_option maxRecDepth 100000
namespace Go.Proofs.YtdpoaadafcaffaaGreatDoor.G
open Proofs.Tryz
open Go.RowKit
open T (lt Mg Cc uj R9 h_ xH)
variable {ms:List M3} {nm t:ByteArray} {b i j p:Nat} {f:Bool} {u w:World} {v:Value}
theorem c76 (x:M3) (b:ByteArray) (w:World):
 Calls prog 76 #[.agg #[.string x.nm,.string x.tl,.string x.ar],.string b] w fun e w'=>e=.returned (.int .i64 (Mg x.nm b))/\Below w.heap.size w w':=by
 go_enter func76,ntmps76
 go_wp2_with fail
 refine (xH x.nm b _).mono ?_;rintro e w1 ⟨rfl,hw⟩;obtain rfl:=hw.symm;go_wp2;go_ret;exact ⟨rfl,bA⟩
structure Ho (ms:List M3) (t:ByteArray) (p:Nat) (f:Bool):Prop where
 le:p<=ms.length
 less:∀ j,j<p->lt (ms.getD j X6).nm t=true
 more:∀ j,p<=j->j<ms.length->lt (ms.getD j X6).nm t=false
 here:f=true↔p<ms.length/\(ms.getD p X6).nm=t
def Vi (ms:List M3):Prop:=∀ i j,i<j->j<ms.length->lt (ms.getD i X6).nm (ms.getD j X6).nm=true
def Gl (ms:List M3) (t:ByteArray) (i j:Nat):Prop:=(∀ q,q<i->lt (ms.getD q X6).nm t=true)/\∀ q,j<=q->q<ms.length->lt (ms.getD q X6).nm t=false
theorem GA {h:Nat} (hm:Vi ms) (hh:Gl ms t i j) (hl:h<ms.length) (hx:lt (ms.getD h X6).nm t=true):Gl ms t (h+1) j:=by
 refine ⟨fun q hq=>?_,hh.2⟩;rcases Nat.lt_or_ge q h with h1 | h1
 · exact R9 (hm q h h1 hl) hx
 obtain rfl:q=h:=O0;exact hx
theorem Fu {h:Nat} (hm:Vi ms) (hh:Gl ms t i j) (hx:lt (ms.getD h X6).nm t=false):Gl ms t i h:=by
 refine ⟨hh.1,fun q hq hl=>?_⟩;rcases Nat.lt_or_ge h q with h1 | h1
 · cases hc:lt (ms.getD q X6).nm t
   · rfl
   rw [R9 (hm h q h1 hl) hc] at hx;cases hx
 obtain rfl:q=h:=O0;exact hx
theorem c75 (a:Option Addr) (cap:Nat) (ms:List M3) (t:ByteArray) (w:World) (hl:ms.length<=300) (hat:Ab w a ms) (hm:Vi ms):
 Calls prog 75 #[.slice a ms.length cap,.string t,.func (.func 76) #[] #[]] w fun e w'=>(∃ p f,e=.returned (.tuple #[.int .i64 (p:Nat),.bool f])/\Ho ms t p f)/\Below w.heap.size w w':=by
 obtain ⟨b,off,hc⟩:=qd hat;have HC:=Q0 hc;have HM:=Q0 hm;clear hc hat hm;go_enter func75,ntmps75
 go_wp2_with fail
 go_loopw [9,10] (fun vi vj wr=>∃ i j:Nat,i<=j/\j<=ms.length/\vi=.int .i64 i/\vj=.int .i64 j/\Below w.heap.size w wr/\Hid (Gl ms t i j)) (fun vi vj _=>(intOf vj).toNat - (intOf vi).toNat)
 case atStart=>exact ⟨0,ms.length,Nat.zero_le _,Nat.le_refl _,rfl,rfl,Below.refl _ _,⟨fun q h=>absurd h (Nat.not_lt_zero _),fun q h k=>O0⟩⟩
 obtain ⟨i,j,hij,hj,rfl,rfl,hb,hh⟩:=hrel;by_cases hlt:i<j;rotate_left
 · obtain rfl:i=j:=O0
   by_cases hin:i<ms.length;rotate_left
   · have HP:Hid (Ho ms t i false):=⟨O0,hh.out.1,hh.out.2,X3⟩
     have hd:decide ((i:Int)<(ms.length:Int))=false:=decide_eq_false O0;go_wp2
     all_goals go_ret2
     all_goals exact ⟨⟨i,false,rfl,HP.out⟩,hb⟩
   rcases HC.out with hss | ⟨ha,hbw,hcell⟩
   · rw [hss] at hin;exact absurd hin (Nat.not_lt_zero _)
   subst ha;have g0:=(hb.cell (p:=⟨b,off+i*3,none⟩) hbw).trans (hcell i hin).1;have g1:=(hb.cell (p:=⟨b,off+i*3+1,none⟩) hbw).trans (hcell i hin).2.1;have g2:=(hb.cell (p:=⟨b,off+i*3+2,none⟩) hbw).trans (hcell i hin).2.2;have HP:Hid (∀ f:Bool,(f=true↔(ms.getD i X6).nm=t)->Ho ms t i f):=fun f hf=>⟨O0,hh.out.1,hh.out.2,hf.trans ⟨fun h=>⟨hin,h⟩,fun h=>h.2⟩⟩;generalize ms.getD i X6=x at*;clear hcell
   go_wp2_with fail
   refine (c76 x t wr).mono ?_;rintro e w1 ⟨rfl,hb1⟩;have hB1:=bT hb hb1;go_wp2
   all_goals go_ret2
   all_goals exact ⟨⟨i,_,rfl,HP.out _ (by rw [<- uj];simp)⟩,hB1⟩
 rcases HC.out with hss | ⟨ha,hbw,hcell⟩
 · rw [hss] at hj;simp at hj;omega
 subst ha;have vV:(i+j) / 2<ms.length:=O0;have g0:=(hb.cell (p:=⟨b,off+(i+j) / 2*3,none⟩) hbw).trans (hcell _ vV).1;have g1:=(hb.cell (p:=⟨b,off+(i+j) / 2*3+1,none⟩) hbw).trans (hcell _ vV).2.1;have g2:=(hb.cell (p:=⟨b,off+(i+j) / 2*3+2,none⟩) hbw).trans (hcell _ vV).2.2;have HU:Hid (lt (ms.getD ((i+j) / 2) X6).nm t=true->Gl ms t ((i+j) / 2+1) j):=fun hx=>GA HM.out hh.out vV hx;have HD:Hid (lt (ms.getD ((i+j) / 2) X6).nm t=false->Gl ms t i ((i+j) / 2)):=fun hx=>Fu HM.out hh.out hx;generalize ms.getD ((i+j) / 2) X6=x at*;clear hcell
 go_wp2_with fail
 refine (c76 x t wr).mono ?_;rintro e w1 ⟨rfl,hb1⟩;have hB1:=bT hb hb1;cases hx:lt x.nm t
 · have hc:¬ Mg x.nm t<0:=fun h=>by rw [(Cc _ _).1 h] at hx;cases hx
   have hc1:=decide_eq_false hc;have hn:=Q0 (HD.out hx);clear hx hb1 HU HD;go_wp2;go_roundw
   case rel=>exact ⟨i,(i+j) / 2,O0,O0,rfl,by go_num,hB1,hn⟩
   case measure=>simp [intOf];omega
 have hc:=(Cc _ _).2 hx;have hn:=Q0 (HU.out hx);clear hx hb1 HU HD;go_wp2;go_roundw
 case rel=>exact ⟨(i+j) / 2+1,j,O0,O0,by go_num,rfl,hB1,hn⟩
 case measure=>simp [intOf];omega
theorem Sr (hm:Vi ms) (h:Ho ms nm p f):(f=true->∃ i,i=p/\i<ms.length/\(ms.getD i X6).nm=nm)/\(f=false->∀ j,j<ms.length->(ms.getD j X6).nm≠nm):=by
 refine ⟨fun e=>⟨p,rfl,h.here.1 e⟩,fun e j hj hn=>?_⟩;subst e;rcases Nat.lt_trichotomy j p with h1 | h1 | h1
 · have a1:=h.less j h1
   rw [hn,h_] at a1;cases a1
 · subst h1
   have:=h.here.2 ⟨hj,hn⟩;cases this
 have a1:=hm p j h1 hj;rw [hn] at a1;have a2:=h.more p Q8 O0;rw [a1] at a2;cases a2
theorem tK (hb:Below (w.heap.size+1) (w.alloc (.cells #[.string ⟨#[]⟩,.string ⟨#[]⟩,.string ⟨#[]⟩] 35)) u):
 (u.cell? ⟨w.heap.size,0,none⟩=some (.string ⟨#[]⟩)/\u.cell? ⟨w.heap.size,1,none⟩=some (.string ⟨#[]⟩)/\u.cell? ⟨w.heap.size,2,none⟩=some (.string ⟨#[]⟩))/\u.frozen? ⟨w.heap.size,0,none⟩=false/\u.frozen? ⟨w.heap.size,1,none⟩=false/\u.frozen? ⟨w.heap.size,2,none⟩=false:=by
 have c:∀ b j,b<w.heap.size+1->u.cell? ⟨b,j,none⟩=(w.alloc (.cells #[.string ⟨#[]⟩,.string ⟨#[]⟩,.string ⟨#[]⟩] 35)).cell? ⟨b,j,none⟩:=fun b j h=>hb.cell (by exact h);have f:∀ b j,b<w.heap.size+1->u.frozen? ⟨b,j,none⟩=(w.alloc (.cells #[.string ⟨#[]⟩,.string ⟨#[]⟩,.string ⟨#[]⟩] 35)).frozen? ⟨b,j,none⟩:=fun b j h=>hb.frozen (by exact h);rw [c _ _ O0,c _ _ O0,c _ _ O0,f _ _ O0,f _ _ O0,f _ _ O0];simp [go_sem]
def LD (ms:List M3) (nm:ByteArray) (e:Ending):Prop:=∃ (x:M3) (there:Bool),e=.returned (.tuple #[.agg #[.string x.nm,.string x.tl,.string x.ar],.bool there])/\((there=true/\∃ i,i<ms.length/\ms.getD i X6=x/\x.nm=nm)\/(there=false/\∀ j,j<ms.length->(ms.getD j X6).nm≠nm))
theorem c40 (a:Option Addr) (cap:Nat) (ms:List M3) (nm:ByteArray) (w:World) (hl:ms.length<=300) (hat:Ab w a ms) (hm:Vi ms):
 Calls prog 40 #[.slice a ms.length cap,.string nm] w fun e w'=>LD ms nm e/\Below w.heap.size w w':=by
 have hB0:Below w.heap.size w (w.alloc (.cells #[.string ⟨#[]⟩,.string ⟨#[]⟩,.string ⟨#[]⟩] 35)):=bA;have AO:=c75 a cap ms nm _ hl (Ob hat hB0) hm;go_enter func40,ntmps40
 go_wp2_with fail
 refine AO.mono ?_;rintro e w1 ⟨⟨p,f,rfl,hp⟩,hb1⟩;obtain ⟨P1,P2⟩:=Sr hm hp;have hx1:Below (w.heap.size+1) (w.alloc (.cells #[.string ⟨#[]⟩,.string ⟨#[]⟩,.string ⟨#[]⟩] 35)) w1:=by have h:=hb1;simp at h;exact h
 have hB1:=hB0.trans (hx1.mono O0);obtain ⟨⟨z0,z1,z2⟩,y0,y1,y2⟩:=tK hx1;clear hb1 AO;cases f
 · have HI:Hid (LD ms nm (.returned (.tuple #[.agg #[.string ⟨#[]⟩,.string ⟨#[]⟩,.string ⟨#[]⟩],.bool false]))):=⟨⟨⟨#[]⟩,⟨#[]⟩,⟨#[]⟩⟩,false,rfl,.inr ⟨rfl,P2 rfl⟩⟩
   clear P1 P2 hp;go_wp2;have F:=ja w1 w.heap.size 0 (.string ⟨#[]⟩) (.string ⟨#[]⟩) (.string ⟨#[]⟩) _ _ _ z0 z1 z2;refine bodyPost_ret (v:=.tuple #[.agg #[.string ⟨#[]⟩,.string ⟨#[]⟩,.string ⟨#[]⟩],.bool false]) (by simp [results,Tryz.results40,go_sem,F.1,F.2.1,F.2.2]) rfl ⟨HI.out,?_⟩;exact ((hB1.setCell U0 _).setCell U0 _).setCell U0 _
 obtain ⟨i,rfl,hi,hn⟩:=P1 rfl;obtain ⟨b,off,hc⟩:=qd hat;rcases hc with hss | ⟨ha,hbw,hcell⟩
 · rw [hss] at hi;exact absurd hi (Nat.not_lt_zero _)
 subst ha;have g0:=(hB1.cell (p:=⟨b,off+i*3,none⟩) hbw).trans (hcell i hi).1;have g1:=(hB1.cell (p:=⟨b,off+i*3+1,none⟩) hbw).trans (hcell i hi).2.1;have g2:=(hB1.cell (p:=⟨b,off+i*3+2,none⟩) hbw).trans (hcell i hi).2.2;have HI:Hid (LD ms nm (.returned (.tuple #[.agg #[.string (ms.getD i X6).nm,.string (ms.getD i X6).tl,.string (ms.getD i X6).ar],.bool true]))):=⟨_,true,rfl,.inl ⟨rfl,i,hi,rfl,hn⟩⟩;have HX:Hid (∃ x,x=ms.getD i X6):=⟨_,rfl⟩;obtain ⟨x,hx⟩:=HX.out;rw [<- hx] at g0 g1 g2 HI;clear P1 P2 hp hcell HX hx hn;go_wp2;have F:=ja w1 w.heap.size 0 (.string x.nm) (.string x.tl) (.string x.ar) _ _ _ z0 z1 z2;refine bodyPost_ret (v:=.tuple #[.agg #[.string x.nm,.string x.tl,.string x.ar],.bool true]) (by simp [results,Tryz.results40,go_sem,F.1,F.2.1,F.2.2]) rfl ⟨HI.out,?_⟩;exact ((hB1.setCell U0 _).setCell U0 _).setCell U0 _
theorem Hu (S:List UInt8) (w:World) (KL:S.length<=300) (hv:Xl w):
 Calls prog 114 #[.string (K3 S)] w fun e w'=>ND w S e w'/\Below w.heap.size w w':=by
 have HV:=Q0 hv;clear hv;have hz:(K3 S).size<=300:=by rw [Y2];exact KL
 obtain ⟨i0,hi,hz0,hz1,hz2⟩:=info_parts JA;go_enter func114,ntmps114
 go_wp2_with fail
 go_loopw [4,5] (fun v r wr=>∃ (l:List UInt8) (ms:List M3),r=.string (K3 l)/\Hid (Way S ms l)/\wr.ownsRow w.heap.size 35 3 v ms.length (F5 ms)/\Below w.heap.size w wr) (fun _ r _=>strOf r)
 case atStart=>exact ⟨S,[],rfl,sj _,World.ownsRow_nil _ _ _ _,Below.refl _ _⟩
 obtain ⟨l,ms,rfl,EM,hown,hb⟩:=hrel;have hVr:=Q0 (HV.out.below hb);obtain ⟨hwl,hwt⟩:=vo EM.out;by_cases hl:l=[]
 · subst hl
   have hnl:(K3 []).toList=[]:=by rw [ByteArray.toList_eq];rfl
   obtain ⟨W1,W2⟩:=zo EM.out KL;have HW1:=Q0 W1;have HW2:=Q0 W2;clear W1 W2;obtain ⟨ao,cp,hv,hat⟩:=U6 hown;subst hv;obtain ⟨u0,x0,k0⟩:=hVr.out.va.g0;obtain ⟨u1,x1,k1⟩:=hVr.out.va.g1;obtain ⟨u2,x2,k2⟩:=hVr.out.va.g2;have HC:=dJ ao cp ms wr (fun i=>⟨by have:=(hwt i).1;omega,by have:=(hwt i).2.1;omega,by have:=(hwt i).2.2;omega⟩) O0 hat _ _ _ _ _ _ k0 k1 k2;clear hat EM k0 k1 k2
   go_wp2_with fail
   refine HC.mono ?_;rintro e w5 ⟨hck,hb5⟩;have NN:=bT hb hb5;have hown5:=ownsRow_below hown hb5;rcases hck with ⟨hk,rfl⟩ | ⟨hk,n,ty,va,rfl⟩
   · have HR:=Q0 (HW1.out hk)
     clear HW1 HW2 hk HC;go_wp2;go_ret2;exact ⟨⟨ms,_,_,rfl,hown5,.inl ⟨rfl,HR.out⟩⟩,NN⟩
   have HR:=Q0 (HW2.out hk);clear HW1 HW2 hk HC;go_wp2;go_ret2;exact ⟨⟨ms,_,_,rfl,hown5,.inr ⟨⟨n,ty,va,rfl⟩,HR.out⟩⟩,NN⟩
 have e0:(K3 l).toList.isEmpty=false:=by
  rw [ByteArray.toList_eq]
  cases l with
  | nil=>exact absurd rfl hl
  | cons a r=>rfl
 have e1:¬ (K3 l).toList=[]:=fun h=>by rw [h] at e0;cases e0
 obtain ⟨ao,cp,hv⟩:=E8 hown;subst hv
 go_wp2_with fail
 refine (VF l _ O0 hVr.out.mx).mono ?_;rintro e w1 ⟨rfl,hb1⟩;have hB1:=bT hb hb1;have hc:=ZB l;have hcl:(Lib.cut l [10]).1.length<=300:=by
  rcases hc with ⟨_,h,_⟩ | ⟨_,h,_⟩
  · have:=congrArg List.length h
    rw [List.length_append] at this;omega
  rw [h];omega
 have HC:=Q0 hc;clear hc;generalize (Lib.cut l [10]).1=ca at*;generalize (Lib.cut l [10]).2.1=cb at*;generalize (Lib.cut l [10]).2.2=cf at*;have hV1:=Q0 (HV.out.below hB1);cases cf
 · have HR:Hid (l9 S [] false):=by
    refine Ig EM.out hl fun y q hy e=>?_;rcases HC.out with ⟨h1,_⟩ | ⟨_,_,h3⟩
    · cases h1
    apply h3;rw [e];simp
   obtain ⟨t4,v4,g4⟩:=hV1.out.g4;clear HC EM
   go_wp2_with fail
   go_region
   all_goals go_wp2
   all_goals go_ret2
   all_goals exact ⟨ql _ _ _ HR.out,by first | exact hB1 | exact hB1.drew⟩
 have HL:Hid (l=ca++10::cb/\(10:UInt8)∉ca):=by
  rcases HC.out with ⟨_,h⟩ | ⟨h,_⟩
  · exact h
  cases h
 clear HC
 go_wp2_with fail
 refine (zF ca _ O0 hV1.out.mx).mono ?_;rintro e w2 ⟨⟨y2,rfl⟩,hb2⟩;have hB2:=bT hB1 hb2;have hV2:=Q0 (HV.out.below hB2);have hrs:=I9 ca
 go_wp2_with fail
 refine (c143 _ _ O0 hV2.out.mx).mono ?_;rintro e w3 ⟨⟨x,ok,rfl,hbody⟩,hb3⟩;have hB3:=bT hB2 hb3;have GU:=hb1.trans ((bT hb2 hb3).mono hb1.size);have hV3:=Q0 (HV.out.below hB3);have hown3:=ownsRow_below hown GU;have hz3:=hB3.size;obtain ⟨t5,v5,g5⟩:=hV3.out.g5;have g5':=past (by show 5<w3.heap.size;have:=hV3.out.va.pos;omega) g5;have FAIL:Hid (¬ (U1 ca=[109,97,107,101]/\ok=true)->l9 S [] false):=by
  intro hf;refine Ig EM.out hl (fun y q hy e=>hf ?_);have hca:=(ul HL.out.2 (N_ hy) (HL.out.1.symm.trans e)).1;obtain ⟨h1,h2⟩:=(Vo hy).1 hca;refine ⟨h1,?_⟩;cases ok
  · exact absurd h2 (hbody.2 rfl y hy)
  rfl
 have GO:Hid (U1 ca=[109,97,107,101]->ok=true->Way S (ms++[x]) cb/\cb.length<l.length):=by
  intro h1 h2;obtain ⟨k1,k2⟩:=hbody.1 h2;refine ⟨Ll (a:=ca) (by rw [<- HL.out.1];exact EM.out) ⟨k1,(Vo k1).2 ⟨h1,k2⟩⟩,?_⟩;rw [HL.out.1];simp;omega
 clear hbody EM HL hown hb1 hb2 hb3 g5;by_cases hw:U1 ca=[109,97,107,101];rotate_left
 · have HR:=Q0 (FAIL.out (fun h=>hw h.1))
   have e2:¬ (K3 (U1 ca)).toList=[109,97,107,101]:=by rw [ByteArray.toList_eq];simpa [K3] using hw
   have e3:((K3 (U1 ca)).toList==[109,97,107,101])=false:=by simpa using e2
   clear FAIL GO;unfold M3.v
   go_wp2_with fail
   go_region
   all_goals go_wp2
   all_goals go_ret2
   all_goals exact ⟨ql _ _ _ HR.out,by first | exact hB3.alloc hB3.size _ | exact (hB3.alloc hB3.size _).drew⟩
 have e2:(K3 (U1 ca)).toList=[109,97,107,101]:=by rw [hw,ByteArray.toList_eq];rfl
 have e3:((K3 (U1 ca)).toList==[109,97,107,101])=true:=by simpa using e2
 cases ok
 · have HR:=Q0 (FAIL.out U0)
   clear FAIL GO hw;unfold M3.v
   go_wp2_with fail
   go_region
   all_goals go_wp2
   all_goals go_ret2
   all_goals exact ⟨ql _ _ _ HR.out,by first | exact hB3.alloc hB3.size _ | exact (hB3.alloc hB3.size _).drew⟩
 obtain ⟨hw1,hw2⟩:=GO.out hw rfl;have HW:=Q0 hw1;clear FAIL GO hw1 hw;unfold M3.v
 go_wp2_with (at_builtin;refine wpList_append_own _ rfl _ _ 84 rfl w.heap.size 35 i0 (.agg #[.string ⟨#[]⟩,.string ⟨#[]⟩,.string ⟨#[]⟩]) 3 48 underlying84 hi hz0 hz1 hz2 rfl J3 _ _ _ rfl ((hown3.alloc _).alloc _) ⟨w3.heap.size+1,0,none⟩ 1 1 [_,_,_] rfl rfl (Ff U0 _ _ _ _) (by intro u hu;simp at hu;rcases hu with rfl | rfl | rfl <;> rfl) (by unfold maxLen;omega) O0 X3 ?_;intro v' w4 zM hgrow _;have HG:Hid (Below w.heap.size w w4):=((hB3.alloc hB3.size _).alloc X3 _).grown hgrow X3 (fun k hk=>(hown3.lt k hk).1);clear hgrow)
 go_roundw
 case rel=>
  refine ⟨cb,ms++[x],rfl,HW,?_,HG.out⟩;rw [Ef,List.length_append];exact zM
 case measure=>simp only [strOf,Y2];exact hw2
theorem SI (s:ByteArray) (w:World) (hs:s.size<=1048576) (hv:Xl w):
 Calls prog 114 #[.string s] w fun e w'=>ND w s.data.toList e w'/\Below w.heap.size w w':=by
 by_cases h:300<s.size
 · exact zx s w hs h hv
 have:=Hu s.data.toList w X3 hv;rw [Kq] at this;exact this
open T (F2 L6 Y3 Asc U3)
theorem Xg {fs:List F2} (hm:Asc fs) (h:T.Place fs nm p f):(f=true->∃ i,i=p/\i<fs.length/\(fs.getD i L6).nm=nm)/\(f=false->Ae fs nm):=by
 constructor
 · intro hf
   exact ⟨p,rfl,(h.here.1 hf).1,(h.here.1 hf).2⟩
 intro hf j hj e;rcases Nat.lt_trichotomy j p with h1 | h1 | h1
 · have:=h.less j h1
   rw [e,T.h_] at this;cases this
 · subst h1
   have:=h.here.2 ⟨hj,e⟩;rw [hf] at this;cases this
 have a1:=hm p j h1 hj;rw [e] at a1;have a2:=h.more p Q8 O0;rw [a1] at a2;cases a2
theorem SK (hb:Below (w.heap.size+2) ((w.alloc (.cells #[v] 25)).alloc (.cells #[.string ⟨#[]⟩,.string ⟨#[]⟩] 75)) u):
 u.cell? ⟨w.heap.size,0,none⟩=some v/\(u.cell? ⟨w.heap.size+1,0,none⟩=some (.string ⟨#[]⟩)/\u.cell? ⟨w.heap.size+1,1,none⟩=some (.string ⟨#[]⟩))/\u.frozen? ⟨w.heap.size+1,0,none⟩=false/\u.frozen? ⟨w.heap.size+1,1,none⟩=false:=by
 have c:∀ b j,b<w.heap.size+2->u.cell? ⟨b,j,none⟩=((w.alloc (.cells #[v] 25)).alloc (.cells #[.string ⟨#[]⟩,.string ⟨#[]⟩] 75)).cell? ⟨b,j,none⟩:=fun b j h=>hb.cell (by exact h);have f:∀ b j,b<w.heap.size+2->u.frozen? ⟨b,j,none⟩=((w.alloc (.cells #[v] 25)).alloc (.cells #[.string ⟨#[]⟩,.string ⟨#[]⟩] 75)).frozen? ⟨b,j,none⟩:=fun b j h=>hb.frozen (by exact h);rw [c _ _ O0,c _ _ O0,c _ _ O0,f _ _ O0,f _ _ O0];simp [go_sem]
theorem D9 (u:World) (B:Nat) (v0 v1 x0 x1:Value) (h0:u.cell? ⟨B,0,none⟩=some x0) (h1:u.cell? ⟨B,1,none⟩=some x1):
 ((u.setCell ⟨B,0,none⟩ v0).setCell ⟨B,1,none⟩ v1).cell? ⟨B,0,none⟩=some v0/\((u.setCell ⟨B,0,none⟩ v0).setCell ⟨B,1,none⟩ v1).cell? ⟨B,1,none⟩=some v1:=by
 have a1:(u.setCell ⟨B,0,none⟩ v0).cell? ⟨B,1,none⟩=some x1:=by rw [World.cell?_setCell_other _ _ _ _ (Pb O0)];exact h1
 refine ⟨?_,World.cell?_setCell_same _ _ _ a1⟩;rw [World.cell?_setCell_other _ _ _ _ (Pb O0)];exact World.cell?_setCell_same _ _ _ h0
def uG (fs:List F2) (nm:ByteArray) (e:Ending):Prop:=∃ (x:F2) (there:Bool),e=.returned (.tuple #[.agg #[.string x.nm,.string x.tx],.bool there])/\((there=true/\∃ i,i<fs.length/\fs.getD i L6=x/\x.nm=nm)\/(there=false/\Ae fs nm))
theorem jK (a:Option Addr) (cap:Nat) (fs:List F2) (nm:ByteArray) (w:World) (hl:fs.length<=40) (hat:U3 w a fs) (hm:Asc fs):
 Calls prog 77 #[.agg #[.slice a fs.length cap],.string nm] w fun e w'=>uG fs nm e/\Below w.heap.size w w':=by
 have hB0:Below w.heap.size w ((w.alloc (.cells #[.slice a fs.length cap] 25)).alloc (.cells #[.string ⟨#[]⟩,.string ⟨#[]⟩] 75)):=bA.alloc U0 _;have AO:=T.TF a cap fs nm _ hl (T.X0 hat hB0) hm;go_enter func77,ntmps77
 go_wp2_with fail
 refine AO.mono ?_;rintro e w1 ⟨⟨p,f,rfl,hp⟩,hb1⟩;obtain ⟨P1,P2⟩:=Xg hm hp;have hx1:Below (w.heap.size+2) ((w.alloc (.cells #[.slice a fs.length cap] 25)).alloc (.cells #[.string ⟨#[]⟩,.string ⟨#[]⟩] 75)) w1:=by have h:=hb1;simp at h;exact h
 have hB1:=hB0.trans (hx1.mono O0);obtain ⟨t0,⟨z0,z1⟩,y0,y1⟩:=SK hx1;clear hb1 AO;cases f
 · have HI:Hid (uG fs nm (.returned (.tuple #[.agg #[.string ⟨#[]⟩,.string ⟨#[]⟩],.bool false]))):=⟨⟨⟨#[]⟩,⟨#[]⟩⟩,false,rfl,.inr ⟨rfl,P2 rfl⟩⟩
   clear P1 P2 hp;go_wp2;have F:=D9 w1 (w.heap.size+1) (.string ⟨#[]⟩) (.string ⟨#[]⟩) _ _ z0 z1;refine bodyPost_ret (v:=.tuple #[.agg #[.string ⟨#[]⟩,.string ⟨#[]⟩],.bool false]) (by simp [results,Tryz.results77,go_sem,F.1,F.2]) rfl ⟨HI.out,?_⟩;exact (hB1.setCell U0 _).setCell U0 _
 obtain ⟨i,rfl,hi,hn⟩:=P1 rfl;obtain ⟨b,off,hc⟩:=T.U7 hat;rcases hc with hss | ⟨ha,hbw,hcell⟩
 · rw [hss] at hi;exact absurd hi (Nat.not_lt_zero _)
 subst ha;have g0:=(hB1.cell (p:=⟨b,off+i*2,none⟩) hbw).trans (hcell i hi).1;have g1:=(hB1.cell (p:=⟨b,off+i*2+1,none⟩) hbw).trans (hcell i hi).2;have HI:Hid (uG fs nm (.returned (.tuple #[.agg #[.string (fs.getD i L6).nm,.string (fs.getD i L6).tx],.bool true]))):=⟨_,true,rfl,.inl ⟨rfl,i,hi,rfl,hn⟩⟩;have HX:Hid (∃ x,x=fs.getD i L6):=⟨_,rfl⟩;obtain ⟨x,hx⟩:=HX.out;rw [<- hx] at g0 g1 HI;clear P1 P2 hp hcell HX hx hn;go_wp2;have F:=D9 w1 (w.heap.size+1) (.string x.nm) (.string x.tx) _ _ z0 z1;refine bodyPost_ret (v:=.tuple #[.agg #[.string x.nm,.string x.tx],.bool true]) (by simp [results,Tryz.results77,go_sem,F.1,F.2]) rfl ⟨HI.out,?_⟩;exact (hB1.setCell U0 _).setCell U0 _
open T (F2 L6 U3 Asc X0)
def bg (ms:List M3) (nm:ByteArray):Prop:=∀ j,j<ms.length->(ms.getD j X6).nm≠nm
def rE (fs:List F2) (ms:List M3) (nm:ByteArray) (e:Ending):Prop:=∃ r,e=.returned (.bool r)/\(r=true↔¬ (Ae fs nm/\bg ms nm))
theorem PD {fs:List F2} {g:Bool} (hm:Asc fs) (h:T.Place fs nm p f) (k:(g=true/\∃ i,i<ms.length/\(ms.getD i X6).nm=nm)\/(g=false/\bg ms nm)):rE fs ms nm (.returned (.bool (f || g))):=by
 obtain ⟨P1,P2⟩:=Xg hm h;refine ⟨_,rfl,?_⟩;cases f
 · rcases k with ⟨rfl,i,hi,hn⟩ | ⟨rfl,hf⟩
   · exact ⟨fun _ c=>c.2 i hi hn,fun _=>rfl⟩
   exact ⟨(fun h=>by cases h),fun c=>absurd ⟨P2 rfl,hf⟩ c⟩
 obtain ⟨i,_,hi,hn⟩:=P1 rfl;exact ⟨fun _ c=>c.1 i hi hn,fun _=>rfl⟩
theorem BJ (a pa:Option Addr) (cap pc:Nat) (fs:List F2) (ms:List M3) (nm:ByteArray) (w:World) (hl:fs.length<=40) (hat:U3 w a fs) (hm:Asc fs) (hlm:ms.length<=300) (ZN:Ab w pa ms) (hmm:Vi ms):
 Calls prog 151 #[.agg #[.slice a fs.length cap],.slice pa ms.length pc,.string nm] w fun e w'=>rE fs ms nm e/\Below w.heap.size w w':=by
 have hB0:Below w.heap.size w (w.alloc (.cells #[.slice a fs.length cap] 25)):=bA;have h1:=T.TF a cap fs nm _ hl (X0 hat hB0) hm;go_enter func151,ntmps151
 go_wp2_with fail
 refine h1.mono ?_;rintro e w1 ⟨⟨p,f,rfl,hp⟩,hb1⟩;have hB1:=hB0.trans (hb1.mono U0);have h2:=c40 pa pc ms nm w1 hlm (Ob ZN hB1) hmm;clear h1 hb1
 go_wp2_with fail
 refine h2.mono ?_;rintro e w2 ⟨⟨x,g,rfl,hx⟩,hb2⟩;have hB2:=bT hB1 hb2;have HI:Hid (rE fs ms nm (.returned (.bool (f || g)))):=PD hm hp (by
  rcases hx with ⟨rfl,i,hi,rfl,hn⟩ | ⟨rfl,hf⟩
  · exact .inl ⟨rfl,i,hi,hn⟩
  exact .inr ⟨rfl,hf⟩)
 clear h2 hx hp;cases f
 all_goals go_wp2
 all_goals go_ret
 all_goals exact ⟨HI.out,hB2.alloc hB2.size _⟩
theorem N9 (h:b<w.heap.size) (j:Nat) (o:Obj):(w.alloc o).cell? ⟨b,j,none⟩=w.cell? ⟨b,j,none⟩:=((Below.refl _ w).alloc Q8 o).cell (by exact h)
theorem QG (hb:Below (w.heap.size+2) ((w.alloc (.cells #[v] 25)).alloc (.cells #[.int .i64 0,.string ⟨#[]⟩] 31)) u):
 u.cell? ⟨w.heap.size,0,none⟩=some v/\(u.cell? ⟨w.heap.size+1,0,none⟩=some (.int .i64 0)/\u.cell? ⟨w.heap.size+1,1,none⟩=some (.string ⟨#[]⟩))/\u.frozen? ⟨w.heap.size+1,0,none⟩=false/\u.frozen? ⟨w.heap.size+1,1,none⟩=false:=by
 have c:∀ b j,b<w.heap.size+2->u.cell? ⟨b,j,none⟩=((w.alloc (.cells #[v] 25)).alloc (.cells #[.int .i64 0,.string ⟨#[]⟩] 31)).cell? ⟨b,j,none⟩:=fun b j h=>hb.cell (by exact h);have f:∀ b j,b<w.heap.size+2->u.frozen? ⟨b,j,none⟩=((w.alloc (.cells #[v] 25)).alloc (.cells #[.int .i64 0,.string ⟨#[]⟩] 31)).frozen? ⟨b,j,none⟩:=fun b j h=>hb.frozen (by exact h);rw [c _ _ O0,c _ _ O0,c _ _ O0,f _ _ O0,f _ _ O0];simp [go_sem]
def qz (fs:List F2) (nm:ByteArray) (e:Ending):Prop:=∃ (c:Int) (t:ByteArray),e=.returned (.agg #[.int .i64 c,.string t])/\((c=0/\∃ i,i<fs.length/\(fs.getD i L6).nm=nm/\t=(fs.getD i L6).tx)\/(c=4/\t=nm/\Ae fs nm))
theorem UJ (a:Option Addr) (cap:Nat) (fs:List F2) (nm:ByteArray) (w:World) (hl:fs.length<=40) (hat:U3 w a fs) (hm:Asc fs):
 Calls prog 41 #[.agg #[.slice a fs.length cap],.string nm] w fun e w'=>qz fs nm e/\Below w.heap.size w w':=by
 have h52:=fun u (hb:Below w.heap.size w u)=>jK a cap fs nm u hl (X0 hat hb) hm;have hB0:∀ o1 o2,Below w.heap.size w ((w.alloc o1).alloc o2):=fun o1 o2=>bA.alloc U0 _;go_enter func41,ntmps41
 go_wp2_with fail
 refine (h52 _ (hB0 _ _)).mono ?_;rintro e w1 ⟨⟨x,g,rfl,hx⟩,hb1⟩;have hB1:=(hB0 _ _).trans (hb1.mono X3);have hx1:Below (w.heap.size+2) ((w.alloc (.cells #[.slice a fs.length cap] 25)).alloc (.cells #[.int .i64 0,.string ⟨#[]⟩] 31)) w1:=by have h:=hb1;simp at h;exact h
 obtain ⟨t0,⟨z0,z1⟩,y0,y1⟩:=QG hx1;have hsz:w.heap.size+1<w1.heap.size:=by have:=hx1.size;simp at this;omega
 clear h52 hb1 hB0;cases g
 · have HI:Hid (qz fs nm (.returned (.agg #[.int .i64 4,.string nm]))):=⟨4,nm,rfl,.inr ⟨rfl,rfl,by
    rcases hx with ⟨h,_⟩ | ⟨_,h⟩
    · cases h
    exact h⟩⟩
   clear hx;go_wp2;have F:=D9 w1 (w.heap.size+1) (.int .i64 4) (.string nm) _ _ z0 z1;have qM:Below w.heap.size w ((w1.setCell ⟨w.heap.size+1,0,none⟩ (.int .i64 4)).setCell ⟨w.heap.size+1,1,none⟩ (.string nm)):=(hB1.setCell U0 _).setCell U0 _;have YL:w.heap.size+1<((w1.setCell ⟨w.heap.size+1,0,none⟩ (.int .i64 4)).setCell ⟨w.heap.size+1,1,none⟩ (.string nm)).heap.size:=by simpa using hsz
   generalize ((w1.setCell ⟨w.heap.size+1,0,none⟩ (.int .i64 4)).setCell ⟨w.heap.size+1,1,none⟩ (.string nm))=U at*;have F1:=fun o=>(N9 YL 0 o).trans F.1;have F2:=fun o=>(N9 YL 1 o).trans F.2;refine bodyPost_ret (v:=.agg #[.int .i64 4,.string nm]) (by simp [results,Tryz.results41,go_sem,F1,F2]) rfl ⟨HI.out,?_⟩;exact qM.alloc qM.size _
 have HI:Hid (qz fs nm (.returned (.agg #[.int .i64 0,.string x.tx]))):=⟨0,x.tx,rfl,.inl ⟨rfl,by
  rcases hx with ⟨_,i,hi,rfl,hn⟩ | ⟨h,_⟩
  · exact ⟨i,hi,hn,rfl⟩
  cases h⟩⟩
 clear hx;go_wp2;have F:=D9 w1 (w.heap.size+1) (.int .i64 0) (.string x.tx) _ _ z0 z1;have qM:Below w.heap.size w ((w1.setCell ⟨w.heap.size+1,0,none⟩ (.int .i64 0)).setCell ⟨w.heap.size+1,1,none⟩ (.string x.tx)):=(hB1.setCell U0 _).setCell U0 _;have YL:w.heap.size+1<((w1.setCell ⟨w.heap.size+1,0,none⟩ (.int .i64 0)).setCell ⟨w.heap.size+1,1,none⟩ (.string x.tx)).heap.size:=by simpa using hsz
 generalize ((w1.setCell ⟨w.heap.size+1,0,none⟩ (.int .i64 0)).setCell ⟨w.heap.size+1,1,none⟩ (.string x.tx))=U at*;have F1:=fun o=>(N9 YL 0 o).trans F.1;have F2:=fun o=>(N9 YL 1 o).trans F.2;refine bodyPost_ret (v:=.agg #[.int .i64 0,.string x.tx]) (by simp [results,Tryz.results41,go_sem,F1,F2]) rfl ⟨HI.out,?_⟩;exact qM.alloc qM.size _
structure ng (w:World):Prop where
 vr:Xl w
 gT:∃ t v,w.cell? ⟨1,0,none⟩=some (.iface t v)
theorem ng.below {w':World} (h:ng w) (hb:Below w.heap.size w w'):ng w':=by
 have hp:=h.vr.va.pos;obtain ⟨t,v,h0⟩:=h.gT;exact ⟨h.vr.below hb,t,v,(hb.cell (p:=⟨1,0,none⟩) (by show 1<w.heap.size;omega)).trans h0⟩
theorem oo {fs:List F2} (h:Y3 fs) (hi:i<fs.length):(fs.getD i L6).tx.size<=300:=by
 have:=h.2 i hi;unfold T.f_ at this;simp only [Bool.and_eq_true] at this;have h1:=this.1;unfold T.a_ at h1;simp only [Bool.and_eq_true,decide_eq_true_eq] at h1;have:=h1.2;omega
def EI (w:World) (fs:List F2) (e:Ending) (w':World):Prop:=∃ (ms:List M3) (v er:Value),e=.returned (.tuple #[v,er])/\w'.ownsRow w.heap.size 35 3 v ms.length (F5 ms)/\((er=.nilIface/\Q6 fs ms)\/((∃ n ty va,er=.iface 187 (.agg #[.int .i64 n,.iface ty va]))/\Q6 fs []))
theorem EK (a:Option Addr) (cap:Nat) (fs:List F2) (w:World) (hok:Y3 fs) (hat:U3 w a fs) (hv:ng w):
 Calls prog 73 #[.agg #[.slice a fs.length cap]] w fun e w'=>EI w fs e w'/\Below w.heap.size w w':=by
 have HV:=Q0 hv;have GN:=Q0 hok;have HAT:=Q0 hat;have hl:=hok.1;have hm:=T.Gm hok;have HM:=Q0 hm;have hB0:Below w.heap.size w (w.alloc (.cells #[.slice a fs.length cap] 25)):=bA;have fU:=jK a cap fs Bi _ hl (T.X0 hat hB0) hm;clear hv hok hat hm;unfold Bi at fU;go_enter func73,ntmps73
 go_wp2_with fail
 refine fU.mono ?_;rintro e w1 ⟨⟨x,there,rfl,hx⟩,hb1⟩;clear fU;have hx1:Below (w.heap.size+1) (w.alloc (.cells #[.slice a fs.length cap] 25)) w1:=by have h:=hb1;simp at h;exact h
 have hB1:=hB0.trans (hx1.mono O0);have hz1:w.heap.size+1<=w1.heap.size:=by have:=hx1.size;simpa using this
 have t1:w1.cell? ⟨w.heap.size,0,none⟩=some (.slice a fs.length cap):=(hx1.cell (p:=⟨w.heap.size,0,none⟩) U0).trans (by simp [go_sem]);clear hb1;cases there
 · have HR:Hid (Q6 fs []):=by
    rcases hx with ⟨h,_⟩ | ⟨_,h⟩
    · cases h
    exact .inr (.inl ⟨GN.out,h,rfl⟩)
   clear hx;go_wp2;go_ret2;exact ⟨⟨[],_,_,rfl,World.ownsRow_nil _ _ _ _,.inl ⟨rfl,HR.out⟩⟩,hB1.alloc hB1.size _⟩
 have HX:Hid (∃ i,i<fs.length/\fs.getD i L6=x/\x.nm=Bi):=by
  rcases hx with ⟨_,h⟩ | ⟨h,_⟩
  · exact h
  cases h
 have hxt:x.tx.size<=300:=by
  obtain ⟨i,hi,rfl,_⟩:=HX.out;exact oo GN.out hi
 have EP:Hid (∀ ks ok,l9 x.tx.data.toList ks ok->¬ (ok=true/\Ub fs ks)->Q6 fs []):=fun ks ok hp hn=>by
  obtain ⟨i,hi,rfl,hnm⟩:=HX.out;exact .inr (.inr ⟨GN.out,i,hi,hnm,ks,ok,hp,.inr ⟨hn,rfl⟩⟩)
 have wO:Hid (∀ ks,l9 x.tx.data.toList ks true->Ub fs ks->Q6 fs ks):=fun ks hp hn=>by
  obtain ⟨i,hi,rfl,hnm⟩:=HX.out;exact .inr (.inr ⟨GN.out,i,hi,hnm,ks,true,hp,.inl ⟨rfl,hn,rfl⟩⟩)
 clear hx HX;have hA1:Below w.heap.size w (w1.alloc (.cells #[.string x.nm,.string x.tx] 75)):=hB1.alloc hB1.size _
 go_wp2_with fail
 refine (SI x.tx _ O0 (HV.out.below hA1).vr).mono ?_;rintro e w2 ⟨⟨ms,v,er,rfl,hown,hor⟩,hb2⟩;have hB2:=bT hA1 hb2;have hz2:w1.heap.size+1<=w2.heap.size:=by have:=hb2.size;simpa using this
 have t2:=(hb2.cell (p:=⟨w.heap.size,0,none⟩) X3).trans (past (by show w.heap.size<w1.heap.size;omega) t1 _);have hown2:w2.ownsRow w.heap.size 35 3 v ms.length (F5 ms):=V4 hown X3;clear hown hb2;obtain ⟨ao,co,hvv⟩:=E8 hown2;subst hvv;rcases hor with ⟨rfl,hp⟩ | ⟨⟨n,ty,va,rfl⟩,hp⟩;rotate_left
 · have HR:=Q0 (EP.out _ _ hp U0)
   clear hp EP wO;go_wp2;go_ret2;exact ⟨⟨[],_,_,rfl,World.ownsRow_nil _ _ _ _,.inr ⟨⟨n,ty,va,rfl⟩,HR.out⟩⟩,hB2⟩
 have HP:=Q0 hp;obtain ⟨hml,hms⟩:=uh hp;clear hp
 go_wp2_with fail
 go_loopw [30] (fun i wr=>∃ (k:Nat),k<=ms.length/\i=.int .i64 k/\Hid (∀ j,j<k->Ae fs (ms.getD j X6).nm)/\Below w2.heap.size w2 wr) (fun i _=>ms.length - (intOf i).toNat)
 case atStart=>exact ⟨0,Nat.zero_le _,rfl,fun j h=>absurd h (Nat.not_lt_zero _),Below.refl _ _⟩
 obtain ⟨k,hk,rfl,hfr,hbr⟩:=hrel;have hBr:=bT hB2 hbr;have wV:=ownsRow_below hown2 hbr;have qO:=hbr.size;have tr:=(hbr.cell (p:=⟨w.heap.size,0,none⟩) (by show w.heap.size<w2.heap.size;omega)).trans t2;by_cases hlt:k<ms.length;rotate_left
 · obtain rfl:k=ms.length:=O0
   have HR:=Q0 (wO.out _ HP.out (fun i hi=>hfr.out i hi));clear EP wO;go_wp2;go_ret2;exact ⟨⟨ms,_,_,rfl,wV,.inl ⟨rfl,HR.out⟩⟩,hBr⟩
 obtain ⟨ao',co',hv',ZN⟩:=U6 wV;injection hv' with e1 e2 e3;subst e1 e3;obtain ⟨b,off,hc⟩:=qd ZN;rcases hc with hss | ⟨hao,hbw,hcell⟩
 · rw [hss] at hlt;exact absurd hlt (Nat.not_lt_zero _)
 subst hao;obtain ⟨g0,g1,g2⟩:=hcell k hlt;have HX:Hid (∃ y,y=ms.getD k X6):=⟨_,rfl⟩;obtain ⟨y,hy⟩:=HX.out;rw [<- hy] at g0 g1 g2;have HY:=Q0 hy;clear hy HX hcell ZN;have hAr:∀ o,Below w.heap.size w (wr.alloc o):=fun o=>hBr.alloc hBr.size _;have AO:=fun o=>T.TF a cap fs y.nm (wr.alloc o) hl (T.X0 HAT.out (hAr o)) HM.out;have tr':=past (by show w.heap.size<wr.heap.size;omega) tr
 go_wp2_with fail
 refine (AO _).mono ?_;rintro e w3 ⟨⟨p,f,rfl,hp⟩,hb3⟩;obtain ⟨P1,P2⟩:=Xg HM.out hp;have GU:=(hbr.alloc qO _).trans (hb3.mono X3);have hB3:=bT hB2 GU;clear AO hp hb3;cases f
 · have XX:Hid (∀ j,j<k+1->Ae fs (ms.getD j X6).nm):=fun j hj=>by
    rcases Nat.lt_or_ge j k with h | h
    · exact hfr.out j h
    obtain rfl:j=k:=O0;rw [<- HY.out];exact P2 rfl
   clear P1 P2;go_wp2;go_roundw
   case rel=>exact ⟨k+1,O0,by go_num,XX,GU⟩
   case measure=>simp [intOf];omega
 have HR:Hid (Q6 fs []):=by
  refine EP.out _ _ HP.out fun h=>?_;obtain ⟨i,_,hi,hn⟩:=P1 rfl;have:=h.2 k hlt i hi;rw [<- HY.out] at this;exact this hn
 obtain ⟨t5,v5,g5⟩:=(HV.out.below hB3).gT;clear P1 P2 EP wO
 go_wp2_with fail
 try go_region
 all_goals go_wp2
 all_goals go_ret2
 all_goals exact ⟨⟨[],_,_,rfl,World.ownsRow_nil _ _ _ _,.inr ⟨⟨_,_,_,rfl⟩,HR.out⟩⟩,by first | exact hB3 | exact hB3.drew⟩
def FK (w:World) (fs:List F2) (e:Ending) (w':World):Prop:=∃ (ms:List M3) (v:Value),e=.returned v/\w'.ownsRow w.heap.size 35 3 v ms.length (F5 ms)/\Q6 fs ms
theorem KH (a:Option Addr) (cap:Nat) (fs:List F2) (w:World) (hl:fs.length<=1048576) (hs:∀ i,(fs.getD i L6).le 1048576) (hat:U3 w a fs) (hv:ng w):
 Calls prog 39 #[.agg #[.slice a fs.length cap]] w fun e w'=>FK w fs e w'/\Below w.heap.size w w':=by
 have HV:=Q0 hv;have HAT:=Q0 hat;have hB0:Below w.heap.size w (w.alloc (.cells #[.slice a fs.length cap] 25)):=bA;have h18:=T.c16 a cap fs _ hl hs (T.X0 hat hB0);clear hv hat;go_enter func39,ntmps39
 go_wp2_with fail
 refine h18.mono ?_;rintro e w1 ⟨⟨b,rfl,hb⟩,hb1⟩;have hx1:Below (w.heap.size+1) (w.alloc (.cells #[.slice a fs.length cap] 25)) w1:=by have h:=hb1;simp at h;exact h
 have hB1:=hB0.trans (hx1.mono O0);have hz1:w.heap.size+1<=w1.heap.size:=by have:=hx1.size;simpa using this
 have t1:w1.cell? ⟨w.heap.size,0,none⟩=some (.slice a fs.length cap):=(hx1.cell (p:=⟨w.heap.size,0,none⟩) U0).trans (by simp [go_sem]);clear hb1 h18;cases b
 · have HR:Hid (Q6 fs []):=.inl ⟨(fun h=>by have:=hb.2 h;cases this),rfl⟩
   clear hb;go_wp2;go_ret;exact ⟨⟨[],_,rfl,World.ownsRow_nil _ _ _ _,HR.out⟩,hB1⟩
 have GN:=Q0 (hb.1 rfl);clear hb;have h19:=EK a cap fs w1 GN.out (T.X0 HAT.out hB1) (HV.out.below hB1)
 go_wp2_with fail
 refine h19.mono ?_;rintro e w2 ⟨⟨ms,v,er,rfl,hown,hor⟩,hb2⟩;have hB2:=bT hB1 hb2;have hown2:w2.ownsRow w.heap.size 35 3 v ms.length (F5 ms):=V4 hown O0;obtain ⟨ao,co,hvv⟩:=E8 hown2;subst hvv;clear h19 hown;rcases hor with ⟨rfl,hp⟩ | ⟨⟨n,ty,va,rfl⟩,hp⟩
 · have HP:=Q0 hp
   clear hp
   go_wp2_with fail
   refine (wC _).mono ?_;rintro e w3 ⟨rfl,hb3⟩;have hown3:=ownsRow_below hown2 hb3;have hB3:=bT hB2 hb3;go_wp2;go_ret;exact ⟨⟨ms,_,rfl,hown3,HP.out⟩,hB3⟩
 have HP:=Q0 hp;clear hp
 go_wp2_with fail
 refine (zD n ty va _ (HV.out.below hB2).vr.va.g6).mono ?_;rintro e w3 ⟨rfl,hb3⟩;have hB3:=bT hB2 hb3;go_wp2;go_ret;exact ⟨⟨[],_,rfl,World.ownsRow_nil _ _ _ _,HP.out⟩,hB3⟩
def jL (fs:List F2) (e:Ending) (w':World):Prop:=∃ (ms:List M3) (a:Option Addr) (cap:Nat),e=.returned (.slice a ms.length cap)/\Ab w' a ms/\Q6 fs ms
theorem cK (a:Option Addr) (cap:Nat) (fs:List F2) (w:World) (hl:fs.length<=1048576) (hs:∀ i,(fs.getD i L6).le 1048576) (hat:U3 w a fs):
 Calls prog 47 #[.agg #[.slice a fs.length cap]] w fun e w'=>jL fs e w'/\Below w.heap.size w w':=by
 have HAT:=Q0 hat;have hB0:Below w.heap.size w (w.alloc (.cells #[.slice a fs.length cap] 25)):=bA;have DU:=T.BI a cap fs Bi _ hl (T.X0 hat hB0);clear hat;unfold Bi at DU;go_enter func47,ntmps47
 go_wp2_with fail
 refine DU.mono ?_;rintro e w1 ⟨⟨r,rfl,hr⟩,hb1⟩;have hx1:Below (w.heap.size+1) (w.alloc (.cells #[.slice a fs.length cap] 25)) w1:=by have h:=hb1;simp at h;exact h
 have hB1:=hB0.trans (hx1.mono O0);have hz1:w.heap.size+1<=w1.heap.size:=by have:=hx1.size;simpa using this
 have t1:w1.cell? ⟨w.heap.size,0,none⟩=some (.slice a fs.length cap):=(hx1.cell (p:=⟨w.heap.size,0,none⟩) U0).trans (by simp [go_sem]);have bQ:=T.c21 a cap fs w1 hl hs (T.X0 HAT.out hB1);clear hb1 DU
 go_wp2_with fail
 refine bQ.mono ?_;rintro e w2 ⟨⟨b,rfl,hb⟩,hb2⟩;have hB2:=bT hB1 hb2;have hz2:=hb2.size;have t2:=(hb2.cell (p:=⟨w.heap.size,0,none⟩) (by show w.heap.size<w1.heap.size;omega)).trans t1;clear bQ hb2 t1;cases b
 · have HR:Hid (Q6 fs []):=.inl ⟨(fun h=>by have:=hb.2 h;cases this),rfl⟩
   clear hb hr;go_wp2;go_ret;exact ⟨⟨[],_,_,rfl,.inl rfl,HR.out⟩,hB2.alloc hB2.size _⟩
 have GN:=Q0 (hb.1 rfl);clear hb;rcases hr with ⟨rfl,hno⟩ | ⟨i,rfl,hi,hnm⟩
 · have HR:Hid (Q6 fs []):=.inr (.inl ⟨GN.out,hno,rfl⟩)
   clear hno;go_wp2;go_ret;exact ⟨⟨[],_,_,rfl,.inl rfl,HR.out⟩,hB2.alloc hB2.size _⟩
 have hxt:=oo GN.out hi;have EP:Hid (∀ ks ok,l9 (fs.getD i L6).tx.data.toList ks ok->¬ (ok=true/\Ub fs ks)->Q6 fs []):=fun ks ok hp hn=>.inr (.inr ⟨GN.out,i,hi,hnm,ks,ok,hp,.inr ⟨hn,rfl⟩⟩);have wO:Hid (∀ ks,l9 (fs.getD i L6).tx.data.toList ks true->Ub fs ks->Q6 fs ks):=fun ks hp hn=>.inr (.inr ⟨GN.out,i,hi,hnm,ks,true,hp,.inl ⟨rfl,hn,rfl⟩⟩);obtain ⟨bf,off,hc⟩:=T.U7 (T.X0 HAT.out hB2);rcases hc with hss | ⟨ha,hbw,hcell⟩
 · rw [hss] at hi;exact absurd hi (Nat.not_lt_zero _)
 subst ha;have g1:=(hcell i hi).2;have HX:Hid (∃ x,x=fs.getD i L6):=⟨_,rfl⟩;obtain ⟨x,hx⟩:=HX.out;rw [<- hx] at g1 EP wO hxt;clear hcell HX hx hnm
 go_wp2_with fail
 refine (NK x.tx _ O0).mono ?_;rintro e w3 ⟨⟨ms,ok,am,cm,rfl,ZN,hp⟩,hb3⟩;have hB3:=bT hB2 hb3;have hz3:=hb3.size;have t3:=(hb3.cell (p:=⟨w.heap.size,0,none⟩) (by show w.heap.size<w2.heap.size;omega)).trans t2;have HP:=Q0 hp;obtain ⟨hml,hms⟩:=uh hp;have a0A:=Q0 ZN;clear hp hb3 t2 ZN
 go_wp2_with fail
 go_loopw [5,6] (fun o i wr=>∃ (k:Nat) (b:Bool),k<=ms.length/\i=.int .i64 k/\o=.bool b/\Hid (b=true↔ok=true/\∀ j,j<k->Ae fs (ms.getD j X6).nm)/\Below w3.heap.size w3 wr) (fun _ i _=>ms.length - (intOf i).toNat)
 case atStart=>exact ⟨0,ok,Nat.zero_le _,rfl,rfl,⟨fun h=>⟨h,fun j h=>absurd h (Nat.not_lt_zero _)⟩,fun h=>h.1⟩,Below.refl _ _⟩
 obtain ⟨k,b,hk,rfl,rfl,hfr,hbr⟩:=hrel;have hBr:=bT hB3 hbr;have qO:=hbr.size;have tr:=(hbr.cell (p:=⟨w.heap.size,0,none⟩) (by show w.heap.size<w3.heap.size;omega)).trans t3;by_cases hlt:k<ms.length;rotate_left
 · obtain rfl:k=ms.length:=O0
   cases b
   · have HR:=Q0 (EP.out _ _ HP.out (fun h=>by have:=hfr.out.2 h;cases this))
     clear EP wO;go_wp2;go_ret;exact ⟨⟨[],_,_,rfl,.inl rfl,HR.out⟩,hBr.alloc hBr.size _⟩
   obtain ⟨h1,h2⟩:=hfr.out.1 rfl;subst h1;have HR:=Q0 (wO.out _ HP.out h2);have a2k:=Q0 (Ob a0A.out hbr);clear EP wO h2;go_wp2;go_ret;exact ⟨⟨ms,_,_,rfl,a2k.out,HR.out⟩,hBr⟩
 cases b
 · have XX:Hid (false=true↔ok=true/\∀ j,j<k+1->Ae fs (ms.getD j X6).nm):=⟨(fun h=>by cases h),fun h=>hfr.out.2 ⟨h.1,fun j hj=>h.2 j O0⟩⟩
   go_wp2_with fail
   refine wp_region_held_drew (S:=(fun _=>True)) I1 ?_ fun hHeld=>?_
   · ((try dsimp only);(first | done | trivial))
   refine tq 0 hHeld ?_
   try simp only [qq]
   refine tq 1 hHeld ?_
   try simp only [qq]
   refine uq 2 hHeld ?_
   try simp only [qq]
   refine uq 3 hHeld ?_
   try simp only [qq]
   refine uq 4 hHeld ?_
   try simp only [qq]
   refine uq 5 hHeld ?_
   try simp only [qq]
   refine uq 6 hHeld ?_
   try simp only [qq]
   refine uq 7 hHeld ?_
   try simp only [qq]
   refine uq 8 hHeld ?_
   try simp only [qq]
   refine uq 9 hHeld ?_
   try simp only [qq]
   refine tq 10 hHeld ?_
   try simp only [qq]
   refine tq 11 hHeld ?_
   try simp only [qq]
   refine wpAnyH_done I1 ?_ _;clear hHeld;go_wp2;go_roundw
   case rel=>exact ⟨k+1,false,O0,by go_num,rfl,XX,hbr.drew⟩
   case measure=>simp [intOf];omega
 obtain ⟨bm,om,hc⟩:=qd (Ob a0A.out hbr);rcases hc with hss | ⟨hao,a2l,hcell⟩
 · rw [hss] at hlt;exact absurd hlt (Nat.not_lt_zero _)
 subst hao;have g0:=(hcell k hlt).1;have HX:Hid (∃ y,y=ms.getD k X6):=⟨_,rfl⟩;obtain ⟨y,hy⟩:=HX.out;rw [<- hy] at g0;have HY:=Q0 hy;clear hy HX hcell;have hwz:w.heap.size<wr.heap.size:=O0;have DU:=fun u (hu:Below w.heap.size w u)=>T.BI (some ⟨bf,off,none⟩) cap fs y.nm u hl (T.X0 HAT.out hu)
 go_wp2_with fail
 refine wp_region_held_drew (S:=(fun u=>u.cell? ⟨w.heap.size,0,none⟩=some (.slice (some ⟨bf,off,none⟩) fs.length cap)/\u.cell? ⟨bm,om+k*3,none⟩=some (.string y.nm))) I1 ?_ fun hHeld=>?_
 · ((try dsimp only);go_keep)
 refine tq 0 hHeld ?_
 try simp only [qq]
 refine tq 1 hHeld ?_
 try simp only [qq]
 refine tq 2 hHeld ?_
 try simp only [qq]
 refine tq 3 hHeld ?_
 try simp only [qq]
 refine tq 4 hHeld ?_
 try simp only [qq]
 refine tq 5 hHeld ?_
 try simp only [qq]
 refine tq 6 hHeld ?_
 try simp only [qq]
 refine tq 7 hHeld ?_
 try simp only [qq]
 refine rq 8 fun K hK=>?_;go_simp;refine (DU _ hBr.drew).mono ?_;rintro e w4 ⟨⟨r4,rfl,hr4⟩,hb4⟩;have mM:Hid (Below wr.heap.size wr w4):=(Below.refl _ _).drew.trans hb4;have HR4:=Q0 hr4;clear hr4;have e1:=(mM.out.cell (p:=⟨w.heap.size,0,none⟩) (by exact hwz)).trans tr;have e2:=(mM.out.cell (p:=⟨bm,om+k*3,none⟩) (by exact a2l)).trans g0
 go_wp2_with fail
 clear hHeld;refine hK.out _ _ ?_ fun hHeld=>?_
 · ((try dsimp only);go_keep)
 clear hK K;refine tq 9 hHeld ?_
 try simp only [qq]
 refine tq 10 hHeld ?_
 try simp only [qq]
 refine tq 11 hHeld ?_
 try simp only [qq]
 refine wpAnyH_done I1 ?_ _;clear hHeld;have a2m:=hbr.trans (mM.out.mono qO);have HF:Hid (decide (r4<0)=true↔ok=true/\∀ j,j<k+1->Ae fs (ms.getD j X6).nm):=by
  constructor
  · intro h
    have h:=of_decide_eq_true h;refine ⟨(hfr.out.1 (by first | rfl | trivial)).1,fun j hj=>?_⟩;rcases Nat.lt_or_ge j k with h1 | h1
    · exact (hfr.out.1 (by first | rfl | trivial)).2 j h1
    obtain rfl:j=k:=O0;rw [<- HY.out];rcases HR4.out with ⟨_,h2⟩ | ⟨i4,h2,_⟩
    · exact h2
    omega
  intro h;apply decide_eq_true;rcases HR4.out with ⟨h2,_⟩ | ⟨i4,h2,h3,h4⟩
  · omega
  exact absurd (by rw [<- HY.out];exact h4) (h.2 k O0 i4 h3)
 go_wp2;go_roundw
 case rel=>exact ⟨k+1,decide (r4<0),O0,by go_num,rfl,HF,a2m⟩
 case measure=>simp [intOf];omega
open T (F2 L6 U3 Asc X0 Y3 lt R9)
theorem yz (h:d_ ms=true):Vi ms:=by
 have h2:=((Gc ms).1 h).2;have step:∀ j,j+1<ms.length->lt (ms.getD j X6).nm (ms.getD (j+1) X6).nm=true:=fun j hj=>by
  have:=h2 (j+1) hj;unfold D_ at this;simp only [Bool.and_eq_true,Bool.or_eq_true,decide_eq_true_eq] at this;rcases this.2 with h | h
  · omega
  exact h
 intro i j hij
 induction j with
 | zero=>omega
 | succ j ih=>
  intro hj;rcases Nat.lt_or_ge i j with h1 | h1
  · exact R9 (ih h1 O0) (step j hj)
  obtain rfl:i=j:=O0;exact step i hj
theorem xq:Vi []:=fun _ _ _ h=>absurd h (Nat.not_lt_zero _)
theorem mg {fs:List F2} (h:Q6 fs ms):Vi ms:=by
 rcases h with ⟨_,rfl⟩ | ⟨_,_,rfl⟩ | ⟨_,i,hi,hn,ks,ok,hp,hr⟩
 · exact xq
 · exact xq
 rcases hr with ⟨rfl,_,rfl⟩ | ⟨_,rfl⟩
 · exact yz (hp.1 rfl).1
 exact xq
theorem Nn (hm:Vi ms) (hi:i<ms.length) (hj:j<ms.length) (e:(ms.getD i X6).nm=(ms.getD j X6).nm):i=j:=by
 rcases Nat.lt_trichotomy i j with h1 | h1 | h1
 · have:=hm i j h1 hj
   rw [e,T.h_] at this;cases this
 · exact h1
 have:=hm j i h1 hi;rw [e,T.h_] at this;cases this
theorem BK (hb:Below (w.heap.size+2) ((w.alloc (.cells #[v] 25)).alloc (.cells #[.string ⟨#[]⟩,.string ⟨#[]⟩,.string ⟨#[]⟩] 35)) u):
 (u.cell? ⟨w.heap.size+1,0,none⟩=some (.string ⟨#[]⟩)/\u.cell? ⟨w.heap.size+1,1,none⟩=some (.string ⟨#[]⟩)/\u.cell? ⟨w.heap.size+1,2,none⟩=some (.string ⟨#[]⟩))/\u.frozen? ⟨w.heap.size+1,0,none⟩=false/\u.frozen? ⟨w.heap.size+1,1,none⟩=false/\u.frozen? ⟨w.heap.size+1,2,none⟩=false:=by
 have c:∀ b j,b<w.heap.size+2->u.cell? ⟨b,j,none⟩=((w.alloc (.cells #[v] 25)).alloc (.cells #[.string ⟨#[]⟩,.string ⟨#[]⟩,.string ⟨#[]⟩] 35)).cell? ⟨b,j,none⟩:=fun b j h=>hb.cell (by exact h);have f:∀ b j,b<w.heap.size+2->u.frozen? ⟨b,j,none⟩=((w.alloc (.cells #[v] 25)).alloc (.cells #[.string ⟨#[]⟩,.string ⟨#[]⟩,.string ⟨#[]⟩] 35)).frozen? ⟨b,j,none⟩:=fun b j h=>hb.frozen (by exact h);rw [c _ _ O0,c _ _ O0,c _ _ O0,f _ _ O0,f _ _ O0,f _ _ O0];simp [go_sem]
def LF (fs:List F2) (nm:ByteArray) (e:Ending):Prop:=∃ ms,Q6 fs ms/\LD ms nm e
theorem c119 (a:Option Addr) (cap:Nat) (fs:List F2) (nm:ByteArray) (w:World) (hl:fs.length<=1048576) (hs:∀ i,(fs.getD i L6).le 1048576) (hat:U3 w a fs):
 Calls prog 119 #[.agg #[.slice a fs.length cap],.string nm] w fun e w'=>LF fs nm e/\Below w.heap.size w w':=by
 have fU:=fun u (hb:Below w.heap.size w u)=>cK a cap fs u hl hs (X0 hat hb);have hB0:∀ o1 o2,Below w.heap.size w ((w.alloc o1).alloc o2):=fun o1 o2=>bA.alloc U0 _;go_enter func119,ntmps119
 go_wp2_with fail
 refine (fU _ (hB0 _ _)).mono ?_;rintro e w1 ⟨⟨ms,a1,a3Z,rfl,hm1,hpt⟩,hb1⟩;have hB1:=(hB0 _ _).trans (hb1.mono X3);have hx1:Below (w.heap.size+2) ((w.alloc (.cells #[.slice a fs.length cap] 25)).alloc (.cells #[.string ⟨#[]⟩,.string ⟨#[]⟩,.string ⟨#[]⟩] 35)) w1:=by have h:=hb1;simp at h;exact h
 obtain ⟨⟨z0,z1,z2⟩,y0,y1,y2⟩:=BK hx1;have hlm:=fB hpt;obtain ⟨b,off,hc⟩:=qd hm1;have HC:=Q0 hc;have HP:=Q0 hpt;clear hc hm1 hpt fU hb1 hx1 hat hs
 go_wp2_with fail
 go_loop [7] (fun i=>∃ k:Nat,k<=ms.length/\i=.int .i64 k/\Hid (∀ j,j<k->(ms.getD j X6).nm≠nm)) (fun i=>ms.length - (intOf i).toNat)
 case atStart=>exact ⟨0,Nat.zero_le _,rfl,fun j h=>absurd h (Nat.not_lt_zero _)⟩
 obtain ⟨k,hk,rfl,hno⟩:=hrel;by_cases hlt:k<ms.length;rotate_left
 · have HI:Hid (LF fs nm (.returned (.tuple #[.agg #[.string ⟨#[]⟩,.string ⟨#[]⟩,.string ⟨#[]⟩],.bool false]))):=⟨ms,HP.out,⟨⟨#[]⟩,⟨#[]⟩,⟨#[]⟩⟩,false,rfl,.inr ⟨rfl,fun j hj=>hno.out j O0⟩⟩
   go_wp2;have F:=ja w1 (w.heap.size+1) 0 (.string ⟨#[]⟩) (.string ⟨#[]⟩) (.string ⟨#[]⟩) _ _ _ z0 z1 z2;refine bodyPost_ret (v:=.tuple #[.agg #[.string ⟨#[]⟩,.string ⟨#[]⟩,.string ⟨#[]⟩],.bool false]) (by simp [results,Tryz.results119,go_sem,F.1,F.2.1,F.2.2]) rfl ⟨HI.out,?_⟩;exact ((hB1.setCell U0 _).setCell U0 _).setCell U0 _
 rcases HC.out with hss | ⟨ha,hbw,hcell⟩
 · rw [hss] at hlt;exact absurd hlt (Nat.not_lt_zero _)
 subst ha;obtain ⟨g0,g1,g2⟩:=hcell k hlt;have HX:Hid (∃ x,x=ms.getD k X6):=⟨_,rfl⟩;obtain ⟨x,hx⟩:=HX.out;rw [<- hx] at g0 g1 g2;have HXE:=Q0 hx;clear hcell hx HX;cases hq:(x.nm.toList==nm.toList)
 · have hno':Hid (∀ j,j<k+1->(ms.getD j X6).nm≠nm):=fun j hj=>by
    rcases Nat.lt_or_ge j k with h | h
    · exact hno.out j h
    obtain rfl:j=k:=O0;rw [<- HXE.out];intro e;rw [e] at hq;simp at hq
   go_wp2
   go_round
   case rel=>exact ⟨k+1,O0,by go_num,hno'⟩
   case measure=>simp [intOf];omega
 have he:x.nm=nm:=by
  have:=beq_iff_eq.1 hq;rw [ByteArray.toList_eq,ByteArray.toList_eq] at this;exact ByteArray.ext (Array.toList_inj.1 this)
 have HI:Hid (LF fs nm (.returned (.tuple #[.agg #[.string x.nm,.string x.tl,.string x.ar],.bool true]))):=⟨ms,HP.out,x,true,rfl,.inl ⟨rfl,k,hlt,HXE.out.symm,he⟩⟩;clear he;go_wp2;have F:=ja w1 (w.heap.size+1) 0 (.string x.nm) (.string x.tl) (.string x.ar) _ _ _ z0 z1 z2;refine bodyPost_ret (v:=.tuple #[.agg #[.string x.nm,.string x.tl,.string x.ar],.bool true]) (by simp [results,Tryz.results119,go_sem,F.1,F.2.1,F.2.2]) rfl ⟨HI.out,?_⟩;exact ((hB1.setCell U0 _).setCell U0 _).setCell U0 _
open T (F2 L6 U3 Asc X0 Y3)
def vC (fs:List F2) (nm:ByteArray) (e:Ending):Prop:=∃ r,e=.returned (.bool r)/\((∃ i,i<fs.length/\(fs.getD i L6).nm=nm)/\r=true\/∃ ms,Q6 fs ms/\rE fs ms nm e)
theorem c127 (a:Option Addr) (cap:Nat) (fs:List F2) (nm:ByteArray) (w:World) (hl:fs.length<=1048576) (hs:∀ i,(fs.getD i L6).le 1048576) (hat:U3 w a fs):
 Calls prog 127 #[.agg #[.slice a fs.length cap],.string nm] w fun e w'=>vC fs nm e/\Below w.heap.size w w':=by
 have hB0:∀ o1,Below w.heap.size w (w.alloc o1):=fun o1=>bA;have gU:=fun u (hb:Below w.heap.size w u)=>T.BI a cap fs nm u hl (X0 hat hb);have h16:=fun u (hb:Below w.heap.size w u)=>c119 a cap fs nm u hl hs (X0 hat hb);clear hat hs;go_enter func127,ntmps127
 go_wp2_with fail
 refine (gU _ (hB0 _)).mono ?_;rintro e w1 ⟨⟨r,rfl,hr⟩,hb1⟩;have hB1:=(hB0 _).trans (hb1.mono U0);have t0:w1.cell? ⟨w.heap.size,0,none⟩=some (.slice a fs.length cap):=(hb1.cell (p:=⟨w.heap.size,0,none⟩) U0).trans (by simp [go_sem]);clear hb1 gU;rcases hr with ⟨rfl,hf⟩ | ⟨i,rfl,hi,hn⟩;rotate_left
 · have HI:Hid (vC fs nm (.returned (.bool true))):=⟨true,rfl,.inl ⟨⟨i,hi,hn⟩,rfl⟩⟩
   clear h16 hn;go_wp2;go_ret;exact ⟨HI.out,hB1⟩
 have HF:Hid (Ae fs nm):=hf;clear hf
 go_wp2_with fail
 refine (h16 _ hB1).mono ?_;rintro e w2 ⟨⟨ms,hpt,x,g,rfl,hx⟩,hb2⟩;have hB2:=bT hB1 hb2;have HI:Hid (vC fs nm (.returned (.bool g))):=⟨g,rfl,.inr ⟨ms,hpt,g,rfl,by
  rcases hx with ⟨rfl,i,hi,rfl,hn⟩ | ⟨rfl,hf⟩
  · exact ⟨fun _ c=>c.2 i hi hn,fun _=>rfl⟩
  exact ⟨(fun h=>by cases h),fun c=>absurd ⟨HF.out,hf⟩ c⟩⟩⟩
 clear hx h16;go_wp2;go_ret
 first
  | exact ⟨HI.out,hB2⟩
  | exact ⟨HI.out,hB2.alloc hB2.size _⟩
end Go.Proofs.YtdpoaadafcaffaaGreatDoor.G
namespace Go.Proofs.YtdpoaadafcaffaaGreatDoor
open Proofs.Tryz
open Go.RowKit
def sI (t:TN) (n:Nat):Prop:=(t.over=true/\vr t.code t.text.data.toList=true)\/(t.over=false/\Y1 t.name.data.toList=true/\n<=13)
theorem YH:∀ p:Fin 41,Q7 (Lib.decDigits p.1)=true:=by decide +kernel
theorem Du {p:Nat} (h:p<=40):vr 2 (K3 (Lib.decDigits p)).data.toList=true:=by
 have:=YH ⟨p,O0⟩;simpa [vr,K3] using this
theorem Gd {c:Int} {l:List UInt8} (hc:c=4\/c=5\/c=7) (h:Y1 l=true):vr c l=true:=by
 unfold vr;rw [if_neg O0,if_neg O0,if_neg O0,if_pos hc];exact h
theorem bq {c:Int} {l:List UInt8} (hc:c=0\/c=1) (h:l.length<=300):vr c l=true:=by
 unfold vr;rw [if_pos hc];simpa using h
theorem iC {x:I3} {EL:List R2} {s s':ST} (e:look x EL s=.inl s'):s'.pc=s.pc+1:=by
 unfold look at e
 repeat' split at e
 all_goals first | (cases e;done) | (cases e;rfl)
theorem KF {arg:ByteArray} {EL:List R2} {x:I3} {s s':ST} (hx:Aa x=true) (hpc:s.pc<=39) (e:act arg EL x s=.inl s'):s'.pc<=40:=by
 have ht:x.to<=40:=by
  unfold Aa at hx;simp only [Bool.and_eq_true,decide_eq_true_eq] at hx;exact hx.1.2.2
 unfold act at e;split at e
 · cases e;show s.pc+1<=40;omega
 split at e
 · cases e;show s.pc+1<=40;omega
 split at e
 · split at e
   · cases e
   cases e;show s.pc+1<=40;omega
 split at e
 · split at e
   · cases e
   cases e;show s.pc+1<=40;omega
 split at e
 · cases e;show s.pc+1<=40;omega
 split at e
 · cases e
   show (if s.hand.data.toList=x.tx.data.toList then x.to.toNat else s.pc+1)<=40;by_cases hh:s.hand.data.toList=x.tx.data.toList
   · rw [if_pos hh];omega
   rw [if_neg hh];omega
 split at e
 · cases e;show x.to.toNat<=40;omega
 split at e
 · cases e
 split at e
 · cases e
 have:=iC e;omega
theorem KA {x:I3} {EL:List R2} {s:ST} {t:TN} (h:Fit EL s) (e:look x EL s=.inr t):sI t EL.length:=by
 unfold look at e;split at e
 · cases e;exact .inl ⟨rfl,show vr 4 [63]=true by decide⟩
 rename_i hn;have hn':Y1 s.hand.data.toList=true:=by simpa using hn
 split at e
 · cases e;exact .inl ⟨rfl,show vr 3 []=true by decide⟩
 split at e
 · cases e
   exact .inr ⟨rfl,hn',by have:=h.looks;omega⟩
 split at e
 · cases e
 split at e
 · cases e;exact .inl ⟨rfl,Gd (.inl rfl) hn'⟩
 split at e
 · cases e
 cases e;exact .inl ⟨rfl,Gd (.inr (.inl rfl)) hn'⟩
theorem xC {arg:ByteArray} {EL:List R2} {x:I3} {s:ST} {t:TN} (h:Fit EL s) (hp:s.pc<=40) (e:act arg EL x s=.inr t):sI t EL.length:=by
 unfold act at e;split at e
 · cases e
 split at e
 · cases e
 split at e
 · split at e
   · cases e;exact .inl ⟨rfl,Du hp⟩
   cases e
 split at e
 · split at e
   · cases e;exact .inl ⟨rfl,Du hp⟩
   cases e
 split at e
 · cases e
 split at e
 · cases e
 split at e
 · cases e
 split at e
 · cases e;exact .inl ⟨rfl,bq (.inl rfl) (show s.out.toArray.toList.length<=300 by have:=h.out;simpa using this)⟩
 split at e
 · cases e;exact .inl ⟨rfl,bq (.inr rfl) (show s.hand.data.toList.length<=300 by have:=h.hand;simpa using this)⟩
 exact KA h e
theorem Lv {T:List I3} {arg:ByteArray} {EL:List R2} (hT:Yb T=true) (ha:arg.size<=300) (hr:Xk EL=true):∀ n s,Fit EL s->s.pc<=40->202 - s.steps<=n->sI (Ku T arg EL n s) EL.length
 | 0,s,hf,hp,hn=>by have:=hf.steps;omega
 | n+1,s,hf,hp,hn=>by
  have hT':=hT;unfold Yb at hT';simp only [Bool.and_eq_true,decide_eq_true_eq] at hT';unfold Ku
  cases hs:step T arg EL s with
  | inl s'=>
   have hs':=hs;unfold step at hs;split at hs
   · cases hs
   rename_i h1;split at hs
   · cases hs
   rename_i h2;have hx:Aa (T.getD s.pc K9)=true:=List.all_eq_true.1 hT'.2 _ (by simp [List.getD,List.getElem?_eq_getElem (show s.pc<T.length by omega)]);exact Lv hT ha hr n s' (vw hx ha hr hf O0 O0 hs) (KF hx O0 hs) (by have:=(Jq hs').2;omega)
  | inr t=>
   unfold step at hs;split at hs
   · cases hs;exact .inl ⟨rfl,Du hp⟩
   split at hs
   · cases hs;exact .inl ⟨rfl,show vr 3 []=true by decide⟩
   exact xC hf hp hs
theorem Qr {T:List I3} {arg:ByteArray} {EL:List R2} (hT:Yb T=true) (ha:arg.size<=300) (hr:Xk EL=true) (hl:EL.length<=14):sI (Z7 T arg EL) EL.length:=by
 unfold Z7;rw [if_pos ⟨hT,ha,hl,hr⟩];exact Lv hT ha hr 202 s0 (Pj EL) (by simp [s0]) (by simp [s0])
noncomputable def bG (tl ar:ByteArray) (ls:List M.L4):TN×RS:=ls.foldl (fun p x=>M6 tl ar p.2 ⟨x.cd,x.tx⟩) (⟨false,0,⟨#[]⟩,false,tl,0⟩,Pg)
theorem Pq (tl ar:ByteArray) (ls:List M.L4) (x:M.L4):bG tl ar (ls++[x])=M6 tl ar (bG tl ar ls).2 ⟨x.cd,x.tx⟩:=by
 unfold bG;rw [List.foldl_append];rfl
noncomputable def tn (m:M3) (ls:List M.L4):TN:=(bG m.tl m.ar ls).1
noncomputable def Xc (m:M3) (ls:List M.L4):RS:=(bG m.tl m.ar ls).2
theorem Cg (m:M3) (ls:List M.L4) (x:M.L4):tn m (ls++[x])=(M6 m.tl m.ar (Xc m ls) ⟨x.cd,x.tx⟩).1:=by unfold tn Xc;rw [Pq]
theorem Rf (m:M3) (ls:List M.L4) (x:M.L4):Xc m (ls++[x])=(M6 m.tl m.ar (Xc m ls) ⟨x.cd,x.tx⟩).2:=by unfold Xc;rw [Pq]
structure RInv (m:M3) (ls:List M.L4):Prop where
 over:(tn m ls).over=true->vr (tn m ls).code (tn m ls).text.data.toList=true
 name:(tn m ls).over=false->Y1 (tn m ls).name.data.toList=true/\ls.length<=14
 has:(tn m ls).over=false->ls≠[]->(Xc m ls).has=true/\Yb (Xc m ls).T=true/\(Xc m ls).EL.length+1=ls.length/\Xk (Xc m ls).EL=true
theorem Ny {m:M3} (hm:Z9 m=true):RInv m []:=by
 have e:Y1 m.tl.data.toList=true:=by
  have h:=hm;unfold Z9 at h;simp only [Bool.and_eq_true] at h;exact h.1.2
 exact ⟨fun h=>by simp [tn,bG] at h,fun _=>⟨e,U0⟩,fun _ h=>absurd rfl h⟩
theorem Ej {m:M3} (hm:Z9 m=true):Y1 m.nm.data.toList=true/\Y1 m.tl.data.toList=true/\m.ar.size<=300:=by
 have h:=hm;unfold Z9 at h;simp only [Bool.and_eq_true,decide_eq_true_eq] at h;exact ⟨h.1.1,h.1.2,by have:=h.2;omega⟩
theorem xe {m:M3} {ls:List M.L4} {t:TN} (e:tn m ls=t) (h:t.over=true) (h2:vr t.code t.text.data.toList=true):RInv m ls:=by
 subst e;exact ⟨fun _=>h2,fun k=>(by rw [h] at k;cases k),fun k=>(by rw [h] at k;cases k)⟩
theorem Jj {m:M3} (hm:Z9 m=true) {ls:List M.L4} (h:RInv m ls) (ho:(tn m ls).over=false) {x:M.L4} (hx:vr x.cd x.tx.data.toList=true):RInv m (ls++[x]):=by
 obtain ⟨_,htl,har⟩:=Ej hm;have hlen:=(h.name ho).2;by_cases hs:(Xc m ls).has=true
 · have hne:ls≠[]:=fun e=>by subst e;simp [Xc,bG,Pg] at hs
   obtain ⟨_,hT,hl,hr⟩:=h.has ho hne;have hr':Xk ((Xc m ls).EL++[⟨x.cd,x.tx⟩])=true:=by
    unfold Xk at hr ⊢;rw [List.all_append,hr];simp [hx]
   have hk:=Qr hT har hr' X3;have e1:tn m (ls++[x])=Z7 (Xc m ls).T m.ar ((Xc m ls).EL++[⟨x.cd,x.tx⟩]):=by rw [Cg,M6,if_pos hs]
   have e2:Xc m (ls++[x])=⟨true,(Xc m ls).T,(Xc m ls).EL++[⟨x.cd,x.tx⟩]⟩:=by rw [Rf,M6,if_pos hs]
   rw [<- e1] at hk;rcases hk with ⟨k1,k2⟩ | ⟨k1,k2,k3⟩
   · exact xe rfl k1 k2
   have:(ls++[x]).length<=14:=by simp at k3 ⊢;omega
   exact ⟨fun h=>(by rw [k1] at h;cases h),fun _=>⟨k2,this⟩,fun _ _=>by rw [e2];exact ⟨rfl,hT,X3,hr'⟩⟩
 have hls:=Classical.byContradiction fun hne=>hs (h.has ho hne).1;subst hls;have hrs:Xc m []=Pg:=rfl;by_cases h0:x.cd=0;rotate_left
 · by_cases h4:x.cd=4
   · have e3:tn m ([]++[x])=P5 4 m.tl 0:=by rw [Cg,hrs];simp [M6,Pg,h4]
     exact xe e3 rfl (Gd (.inl rfl) htl)
   have e3:tn m ([]++[x])=P5 5 m.tl 0:=by rw [Cg,hrs];simp [M6,Pg,h0,h4]
   exact xe e3 rfl (Gd (.inr (.inl rfl)) htl)
 have e:M6 m.tl m.ar Pg ⟨x.cd,x.tx⟩=(Qa m.tl m.ar x.tx.data.toList,⟨(w_ x.tx.data.toList).2,(w_ x.tx.data.toList).1,[]⟩):=by simp [M6,Pg,h0]
 have e1:tn m ([]++[x])=Qa m.tl m.ar x.tx.data.toList:=by rw [Cg,hrs,e]
 have e2:Xc m ([]++[x])=⟨(w_ x.tx.data.toList).2,(w_ x.tx.data.toList).1,[]⟩:=by rw [Rf,hrs,e]
 by_cases hrd:(w_ x.tx.data.toList).2=true;rotate_left
 · have e3:tn m ([]++[x])=P5 7 m.tl 0:=by rw [e1,Qa,if_neg hrd]
   exact xe e3 rfl (Gd (.inr (.inr rfl)) htl)
 have hT:Yb (w_ x.tx.data.toList).1=true:=by
  rcases Ot x.tx.data.toList with h | h
  · rw [h] at hrd;cases hrd
  exact (h.1 hrd).1
 have hk:=Qr hT har (EL:=[]) rfl U0;have e3:tn m ([]++[x])=Z7 (w_ x.tx.data.toList).1 m.ar []:=by rw [e1,Qa,if_pos hrd]
 rw [<- e3] at hk;rcases hk with ⟨k1,k2⟩ | ⟨k1,k2,k3⟩
 · exact xe rfl k1 k2
 exact ⟨fun h=>(by rw [k1] at h;cases h),fun _=>⟨k2,U0⟩,fun _ _=>by rw [e2];exact ⟨hrd,hT,U0,rfl⟩⟩
structure Env where
 ms:List M3
 sn:ByteArray->R2
 pl:ByteArray->Option R2
structure l8 (E:Env):Prop where
 sn:∀ n,Y1 n.data.toList=true->E.sn n=⟨0,⟨#[]⟩⟩\/E.sn n=⟨4,n⟩
 pl:∀ n r,Y1 n.data.toList=true->E.pl n=some r->vr r.code r.tx.data.toList=true
 ms:∀ m,m∈E.ms->Z9 m=true
 one:∀ m m',m∈E.ms->m'∈E.ms->m.nm=m'.nm->m=m'
 made:∀ n,E.pl n=none↔∃ m,m∈E.ms/\m.nm=n
def Yh (t:TN) (r:R2):M.L4:=⟨t.has,t.name,r.code,r.tx⟩
def jg (t:TN):R2:=⟨t.code,t.text⟩
inductive V8 (E:Env):M3->List M.L4->Prop
 | nil (m:M3):V8 E m []
 | seen {m:M3} {ls:List M.L4}:V8 E m ls->(tn m ls).over=false->(tn m ls).has=true->V8 E m (ls++[Yh (tn m ls) (E.sn (tn m ls).name)])
 | plain {m:M3} {ls:List M.L4} {r:R2}:V8 E m ls->(tn m ls).over=false->(tn m ls).has=false->E.pl (tn m ls).name=some r->V8 E m (ls++[Yh (tn m ls) r])
 | made {m m':M3} {ls ls':List M.L4}:V8 E m ls->(tn m ls).over=false->(tn m ls).has=false->E.pl (tn m ls).name=none->m'∈E.ms->m'.nm=(tn m ls).name->V8 E m' ls'->(tn m' ls').over=true->V8 E m (ls++[Yh (tn m ls) (jg (tn m' ls'))])
def Fin (E:Env) (n:ByteArray) (r:R2):Prop:=∃ m ls,m∈E.ms/\m.nm=n/\V8 E m ls/\(tn m ls).over=true/\r=jg (tn m ls)
def Ro (E:Env) (t:TN) (r:R2):Prop:=(t.has=true/\r=E.sn t.name)\/(t.has=false/\(E.pl t.name=some r\/(E.pl t.name=none/\Fin E t.name r)))
theorem Kl {E:Env} {m:M3} {ls:List M.L4} {r:R2} (h:V8 E m ls) (ho:(tn m ls).over=false) (ha:Ro E (tn m ls) r):V8 E m (ls++[Yh (tn m ls) r]):=by
 rcases ha with ⟨h1,rfl⟩ | ⟨h1,h2 | ⟨h2,m',ls',h3,h4,h5,h6,rfl⟩⟩
 · exact h.seen ho h1
 · exact h.plain ho h1 h2
 exact h.made ho h1 h2 h3 h4 h5 h6
theorem Eg {E:Env} {m:M3} {L:List M.L4} (h:V8 E m L):∀ ls x,L=ls++[x]->V8 E m ls/\(tn m ls).over=false/\∃ r,x=Yh (tn m ls) r/\Ro E (tn m ls) r:=by
 cases h with
 | nil=>intro ls x e;simp at e
 | seen h1 h2 h3=>intro ls x e;obtain ⟨e1,e2⟩:=List.append_inj' e rfl;subst e1;cases e2;exact ⟨h1,h2,_,rfl,.inl ⟨h3,rfl⟩⟩
 | plain h1 h2 h3 h4=>intro ls x e;obtain ⟨e1,e2⟩:=List.append_inj' e rfl;subst e1;cases e2;exact ⟨h1,h2,_,rfl,.inr ⟨h3,.inl h4⟩⟩
 | made h1 h2 h3 h4 h5 h6 h7 h8=>intro ls x e;obtain ⟨e1,e2⟩:=List.append_inj' e rfl;subst e1;cases e2;exact ⟨h1,h2,_,rfl,.inr ⟨h3,.inr ⟨h4,_,_,h5,h6,h7,h8,rfl⟩⟩⟩
theorem Ao {α:Type} {P:List α->Prop} (h0:P []) (h1:∀ ls x,P ls->P (ls++[x])) (l:List α):P l:=by
 have:∀ r:List α,P r.reverse:=fun r=>by
  induction r with
  | nil=>exact h0
  | cons x r ih=>rw [List.reverse_cons];exact h1 _ _ ih
 simpa using this l.reverse
theorem kr {E:Env} {m:M3} (b a:List M.L4):V8 E m (a++b)->V8 E m a:=
 Ao (P:=fun b=>V8 E m (a++b)->V8 E m a) (fun h=>by simpa using h) (fun b x ih h=>by
  rw [<- List.append_assoc] at h;exact ih (Eg h _ _ rfl).1) b
theorem Aj {E:Env} {m:M3} {a b:List M.L4} {x:M.L4} (h:V8 E m (a++x::b)):(tn m a).over=false/\∃ r,x=Yh (tn m a) r/\Ro E (tn m a) r:=by
 have h':V8 E m ((a++[x])++b):=by simpa using h
 exact (Eg (kr b _ h') _ _ rfl).2
theorem Lm {E:Env} {m:M3} {a b:List M.L4} (hp:a <+:b) (hb:V8 E m b) (ha:(tn m a).over=true):a=b:=by
 obtain ⟨t,rfl⟩:=hp
 cases t with
 | nil=>simp
 | cons y t=>have:=(Aj hb).1;rw [ha] at this;cases this
def xJ (a b:List M.L4):Prop:=a <+:b\/b <+:a
theorem Kz {E:Env} (hE:l8 E) {m:M3} {L:List M.L4} (h:V8 E m L):∀ L',V8 E m L'->xJ L L':=by
 have key:∀ {m:M3} {ls:List M.L4} {r:R2},(∀ L',V8 E m L'->xJ ls L')->(∀ r',Ro E (tn m ls) r'->r=r')->∀ L',V8 E m L'->xJ (ls++[Yh (tn m ls) r]) L':=by
  intro m ls r ih hr L' h';rcases ih L' h' with ⟨t,rfl⟩ | hp
  · cases t with
    | nil=>exact .inr U0
    | cons y t=>
     obtain ⟨_,r',rfl,ha⟩:=Aj h';obtain rfl:=hr r' ha;exact .inl ⟨t,U0⟩
  exact .inr (hp.trans (List.prefix_append _ _))
 induction h with
 | nil m=>intro L' _;exact .inl (List.nil_prefix)
 | seen h1 h2 h3 ih=>
  refine key ih fun r' ha=>?_;rcases ha with ⟨_,rfl⟩ | ⟨h,_⟩
  · rfl
  rw [h3] at h;cases h
 | plain h1 h2 h3 h4 ih=>
  refine key ih fun r' ha=>?_;rcases ha with ⟨h,_⟩ | ⟨_,h | ⟨h,_⟩⟩
  · rw [h3] at h;cases h
  · rw [h4] at h;exact Option.some.inj h
  rw [h4] at h;cases h
 | made h1 h2 h3 h4 h5 h6 h7 h8 ih ih'=>
  refine key ih fun r' ha=>?_;rcases ha with ⟨h,_⟩ | ⟨_,h | ⟨_,m2,ls2,k1,k2,k3,k4,rfl⟩⟩
  · rw [h3] at h;cases h
  · rw [h4] at h;cases h
  obtain rfl:=hE.one _ _ h5 k1 (h6.trans k2.symm);rcases ih' ls2 k3 with hp | hp
  · rw [Lm hp k3 h8]
  rw [Lm hp h7 k4]
theorem OA {E:Env} (hE:l8 E) (hf:∀ n r,Fin E n r->vr r.code r.tx.data.toList=true) {t:TN} {r:R2} (hn:Y1 t.name.data.toList=true) (h:Ro E t r):vr r.code r.tx.data.toList=true:=by
 rcases h with ⟨_,rfl⟩ | ⟨_,h | ⟨_,h⟩⟩
 · rcases hE.sn _ hn with e | e
   · rw [e];decide
   rw [e];exact Gd (.inl rfl) hn
 · exact hE.pl _ _ hn h
 exact hf _ _ h
theorem Y_ {E:Env} (hE:l8 E) {m:M3} {L:List M.L4} (h:V8 E m L):Z9 m=true->RInv m L:=by
 induction h with
 | nil m=>exact fun hm=>Ny hm
 | seen h1 h2 h3 ih=>
  intro hm;refine Jj hm (ih hm) h2 ?_;rcases hE.sn _ ((ih hm).name h2).1 with e | e
  · rw [e];exact show vr 0 []=true by decide
  rw [e];exact Gd (.inl rfl) ((ih hm).name h2).1
 | plain h1 h2 h3 h4 ih=>intro hm;exact Jj hm (ih hm) h2 (hE.pl _ _ ((ih hm).name h2).1 h4)
 | made h1 h2 h3 h4 h5 h6 h7 h8 ih ih'=>intro hm;exact Jj hm (ih hm) h2 ((ih' (hE.ms _ h5)).over h8)
theorem dB {E:Env} (hE:l8 E) {n:ByteArray} {r:R2} (h:Fin E n r):vr r.code r.tx.data.toList=true:=by
 obtain ⟨m,ls,a1,a2,a3,a4,rfl⟩:=h;exact (Y_ hE a3 (hE.ms _ a1)).over a4
theorem Ez {r:R2} (h:vr r.code r.tx.data.toList=true):r.code≠6:=fun e=>by
 rw [e] at h;simp [vr] at h
theorem rC {E:Env} (hE:l8 E) {m:M3} {ls:List M.L4} (hm:Z9 m=true) (h:V8 E m ls) (ho:(tn m ls).over=false) {r:R2} (ha:Ro E (tn m ls) r):M.Gf (Yh (tn m ls) r):=by
 have hn:=((Y_ hE h hm).name ho).1;refine ⟨hn,?_⟩;rcases hb:(tn m ls).has with _ | _
 · exact .inr ⟨hb,OA hE (fun n r=>dB hE) hn ha⟩
 refine .inl ⟨hb,?_⟩;rcases ha with ⟨_,rfl⟩ | ⟨h,_⟩
 · rcases hE.sn _ hn with e | e
   · exact .inl (by show (E.sn _).code=0/\(E.sn _).tx=_;rw [e];exact ⟨rfl,rfl⟩)
   exact .inr (by show (E.sn _).code=4/\(E.sn _).tx=_;rw [e];exact ⟨rfl,rfl⟩)
 rw [hb] at h;cases h
theorem M_ {E:Env} (hE:l8 E) {m:M3} {L:List M.L4} (hm:Z9 m=true):V8 E m L->L.length<=15/\∀ x,x∈L->M.Gf x:=
 Ao (P:=fun L=>V8 E m L->L.length<=15/\∀ x,x∈L->M.Gf x) (fun _=>⟨U0,U0⟩) (fun ls x ih h=>by
  obtain ⟨h1,h2,r,rfl,h3⟩:=Eg h _ _ rfl;obtain ⟨_,i2⟩:=ih h1;refine ⟨by have:=((Y_ hE h1 hm).name h2).2;simp;omega,fun y hy=>?_⟩;rcases List.mem_append.1 hy with hy | hy
  · exact i2 y hy
  obtain rfl:=List.mem_singleton.1 hy;exact rC hE hm h1 h2 h3) L
theorem Yl {E:Env} (hE:l8 E) {D O:M3->Prop} {L:M3->List M.L4} (hD:∀ m,D m->m∈E.ms) (hH:∀ m,D m->V8 E m (L m)) (hO:∀ m,D m->O m->(tn m (L m)).over=true)
 (hN:∀ m,D m->¬ O m->(tn m (L m)).over=false/\(tn m (L m)).has=false/\E.pl (tn m (L m)).name=none/\∀ m',m'∈E.ms->m'.nm=(tn m (L m)).name->D m'/\¬ O m') {m:M3} {ls:List M.L4} (h:V8 E m ls):D m->ls <+:L m:=by
 have key:∀ {m:M3} {ls:List M.L4} {r:R2},D m->ls <+:L m->V8 E m (ls++[Yh (tn m ls) r])->(ls=L m->False)->ls++[Yh (tn m ls) r] <+:L m:=by
  intro m ls r hd hp hh hne;obtain ⟨t,e⟩:=hp
  cases t with
  | nil=>exact absurd (by simpa using e) hne
  | cons y t=>
   rcases Kz hE hh _ (hH m hd) with h | ⟨t',h⟩
   · exact h
   rw [<- e] at h;exact ⟨t,by rw [<- e];simp at h;simp [h.1]⟩
 induction h with
 | nil m=>exact fun _=>List.nil_prefix
 | @seen m ls h1 h2 h3 ih=>
  intro hd;refine key hd (ih hd) (h1.seen h2 h3) fun e=>?_;have hno:¬ O m:=fun ho=>by have:=hO m hd ho;rw [<- e,h2] at this;cases this
  have:=(hN m hd hno).2.1;rw [<- e,h3] at this;cases this
 | @plain m ls r h1 h2 h3 h4 ih=>
  intro hd;refine key hd (ih hd) (h1.plain h2 h3 h4) fun e=>?_;have hno:¬ O m:=fun ho=>by have:=hO m hd ho;rw [<- e,h2] at this;cases this
  have:=(hN m hd hno).2.2.1;rw [<- e,h4] at this;cases this
 | @made m m' ls ls' h1 h2 h3 h4 h5 h6 h7 h8 ih ih'=>
  intro hd;refine key hd (ih hd) (h1.made h2 h3 h4 h5 h6 h7 h8) fun e=>?_;have hno:¬ O m:=fun ho=>by have:=hO m hd ho;rw [<- e,h2] at this;cases this
  obtain ⟨hd',hno'⟩:=(hN m hd hno).2.2.2 m' h5 (by rw [<- e];exact h6);have:=Lm (ih' hd') (hH m' hd') h8;have h9:=(hN m' hd' hno').1;rw [<- this,h8] at h9;cases h9
def kH (E:Env) (n:ByteArray) (L:List M.L4):Prop:=(E.pl n≠none/\L=[])\/∃ m,m∈E.ms/\m.nm=n/\V8 E m L/\∀ ls,V8 E m ls->ls <+:L
open M (Ta Tg Yo Jo)
theorem MH {w1:World} {B:Nat} {y0 y1 y2 y3:Value} (h:Ta w1 B [y0,y1,y2,y3]) (v0 v1 v2 v3:Value):Ta ((((w1.setCell ⟨B,0,none⟩ v0).setCell ⟨B,1,none⟩ v1).setCell ⟨B,2,none⟩ v2).setCell ⟨B,3,none⟩ v3) B [v0,v1,v2,v3]:=(((h.set 0 v0 U0).set 1 v1 U0).set 2 v2 U0).set 3 v3 U0
theorem XH {w1:World} {B:Nat} {y0 y1:Value} (h:Ta w1 B [y0,y1]) (v0 v1:Value):Ta ((w1.setCell ⟨B,0,none⟩ v0).setCell ⟨B,1,none⟩ v1) B [v0,v1]:=(h.set 0 v0 U0).set 1 v1 U0
open Classical in
noncomputable def Ii (fs:List G.T.F2) (ms:List M3) (nm:ByteArray):Int×ByteArray:=if G.Ae fs nm/\G.bg ms nm then (4,nm) else (0,⟨#[]⟩)
theorem Uu {fs:List G.T.F2} {ms:List M3} {nm:ByteArray} {r:Bool} (h:r=true↔¬ (G.Ae fs nm/\G.bg ms nm)):Ii fs ms nm=if r then (0,⟨#[]⟩) else (4,nm):=by
 unfold Ii;cases r
 · rw [if_pos (Classical.byContradiction fun hn=>by have:=h.2 hn;cases this)];rfl
 rw [if_neg (h.1 rfl)];rfl
theorem mD {fs:List G.T.F2} {ms:List M3} {nm:ByteArray} {e:Ending} (hp:G.Q6 fs ms) (h:G.vC fs nm e):∃ r,e=.returned (.bool r)/\(r=true↔¬ (G.Ae fs nm/\G.bg ms nm)):=by
 obtain ⟨r,rfl,h⟩:=h;rcases h with ⟨⟨i,hi,hn⟩,rfl⟩ | ⟨ns,hq,q,hq2,hq3⟩
 · exact ⟨true,rfl,fun _ c=>c.1 i hi hn,fun _=>rfl⟩
 obtain rfl:=G.Bc hp hq;exact ⟨q,hq2,hq3⟩
theorem LK (a:Option Addr) (cap:Nat) (fs:List G.T.F2) (ms:List M3) (nm:ByteArray) (w:World) (hl:fs.length<=1048576) (hs:∀ i,(fs.getD i G.T.L6).le 1048576) (hat:G.T.U3 w a fs) (hp:G.Q6 fs ms):
 Calls prog 86 #[.agg #[.slice a fs.length cap],.string nm] w fun e w'=>e=.returned (.agg #[.bool true,.string nm,.int .i64 (Ii fs ms nm).1,.string (Ii fs ms nm).2])/\Below w.heap.size w w':=by
 have hB0:Below w.heap.size w ((w.alloc (.cells #[.slice a fs.length cap] 25)).alloc (.cells #[.bool false,.string ⟨#[]⟩,.int .i64 0,.string ⟨#[]⟩] 45)):=bA.alloc U0 _;have h70:=G.c127 a cap fs nm _ hl hs (G.T.X0 hat hB0);have b0:=Q0 (Yo (w.alloc (.cells #[.slice a fs.length cap] 25)) [.bool false,.string ⟨#[]⟩,.int .i64 0,.string ⟨#[]⟩] 45);have o0:=Q0 (Jo (w.alloc (.cells #[.slice a fs.length cap] 25)) #[.bool false,.string ⟨#[]⟩,.int .i64 0,.string ⟨#[]⟩] 45);have s0:(w.alloc (.cells #[.slice a fs.length cap] 25)).heap.size=w.heap.size+1:=U0;have s1:((w.alloc (.cells #[.slice a fs.length cap] 25)).alloc (.cells #[.bool false,.string ⟨#[]⟩,.int .i64 0,.string ⟨#[]⟩] 45)).heap.size=w.heap.size+2:=U0;rw [s0] at b0 o0;clear hat;go_enter func86,ntmps86
 go_wp2_with fail
 refine h70.mono ?_;rintro e w1 ⟨h18,hb1⟩;obtain ⟨r,rfl,hr⟩:=mD hp h18;have HS:=Q0 (Uu hr);have hB1:=hB0.trans (hb1.mono (by rw [s1];omega));have B1:=b0.out.below hb1 (by rw [s1];omega);have O1:=o0.out.below hb1 (by rw [s1];omega);have x0:=B1 0 _ rfl;have x1:=B1 1 _ rfl;have x2:=B1 2 _ rfl;have x3:=B1 3 _ rfl;have f0:=O1 0;have f1:=O1 1;have f2:=O1 2;have f3:=O1 3;clear h18 hr h70;cases r
 · have HE:=Q0 (MH B1 (.bool true) (.string nm) (.int .i64 4) (.string nm))
   have e0:=HE.out 0 _ rfl;have e1:=HE.out 1 _ rfl;have e2:=HE.out 2 _ rfl;have e3:=HE.out 3 _ rfl;have HB:Hid (Below w.heap.size w ((((w1.setCell ⟨w.heap.size+1,0,none⟩ (.bool true)).setCell ⟨w.heap.size+1,1,none⟩ (.string nm)).setCell ⟨w.heap.size+1,2,none⟩ (.int .i64 4)).setCell ⟨w.heap.size+1,3,none⟩ (.string nm))):=Q0 ((((hB1.setCell U0 _).setCell U0 _).setCell U0 _).setCell U0 _);clear B1 O1;go_wp2;refine bodyPost_ret (v:=.agg #[.bool true,.string nm,.int .i64 4,.string nm]) (by simp [results,Tryz.results86,go_sem,e0,e1,e2,e3]) rfl ⟨by rw [HS.out];rfl,HB.out⟩
 have HE:=Q0 (MH B1 (.bool true) (.string nm) (.int .i64 0) (.string ⟨#[]⟩));have e0:=HE.out 0 _ rfl;have e1:=HE.out 1 _ rfl;have e2:=HE.out 2 _ rfl;have e3:=HE.out 3 _ rfl;have HB:Hid (Below w.heap.size w ((((w1.setCell ⟨w.heap.size+1,0,none⟩ (.bool true)).setCell ⟨w.heap.size+1,1,none⟩ (.string nm)).setCell ⟨w.heap.size+1,2,none⟩ (.int .i64 0)).setCell ⟨w.heap.size+1,3,none⟩ (.string ⟨#[]⟩))):=Q0 ((((hB1.setCell U0 _).setCell U0 _).setCell U0 _).setCell U0 _);clear B1 O1;go_wp2;refine bodyPost_ret (v:=.agg #[.bool true,.string nm,.int .i64 0,.string ⟨#[]⟩]) (by simp [results,Tryz.results86,go_sem,e0,e1,e2,e3]) rfl ⟨by rw [HS.out];rfl,HB.out⟩
theorem oJ (a pa:Option Addr) (cap pc:Nat) (fs:List G.T.F2) (ms:List M3) (nm:ByteArray) (w:World) (hl:fs.length<=40) (hat:G.T.U3 w a fs) (hm:G.T.Asc fs) (hlm:ms.length<=300) (ZN:G.Ab w pa ms) (hmm:G.Vi ms):
 Calls prog 118 #[.agg #[.slice a fs.length cap],.slice pa ms.length pc,.string nm] w fun e w'=>e=.returned (.agg #[.int .i64 (Ii fs ms nm).1,.string (Ii fs ms nm).2])/\Below w.heap.size w w':=by
 have hB0:Below w.heap.size w ((w.alloc (.cells #[.slice a fs.length cap] 25)).alloc (.cells #[.int .i64 0,.string ⟨#[]⟩] 31)):=bA.alloc U0 _;have h93:=G.BJ a pa cap pc fs ms nm _ hl (G.T.X0 hat hB0) hm hlm (G.Ob ZN hB0) hmm;have b0:=Q0 (Yo (w.alloc (.cells #[.slice a fs.length cap] 25)) [.int .i64 0,.string ⟨#[]⟩] 31);have o0:=Q0 (Jo (w.alloc (.cells #[.slice a fs.length cap] 25)) #[.int .i64 0,.string ⟨#[]⟩] 31);have s0:(w.alloc (.cells #[.slice a fs.length cap] 25)).heap.size=w.heap.size+1:=U0;have s1:((w.alloc (.cells #[.slice a fs.length cap] 25)).alloc (.cells #[.int .i64 0,.string ⟨#[]⟩] 31)).heap.size=w.heap.size+2:=U0;rw [s0] at b0 o0;clear hat ZN;go_enter func118,ntmps118
 go_wp2_with fail
 refine h93.mono ?_;rintro e w1 ⟨⟨r,rfl,hr⟩,hb1⟩;have HS:=Q0 (Uu hr);have hB1:=hB0.trans (hb1.mono (by rw [s1];omega));have B1:=b0.out.below hb1 (by rw [s1];omega);have O1:=o0.out.below hb1 (by rw [s1];omega);have x0:=B1 0 _ rfl;have x1:=B1 1 _ rfl;have f0:=O1 0;have f1:=O1 1;clear hr h93;cases r
 · have HE:=Q0 (XH B1 (.int .i64 4) (.string nm))
   have e0:=HE.out 0 _ rfl;have e1:=HE.out 1 _ rfl;have HB:Hid (Below w.heap.size w ((w1.setCell ⟨w.heap.size+1,0,none⟩ (.int .i64 4)).setCell ⟨w.heap.size+1,1,none⟩ (.string nm))):=Q0 ((hB1.setCell U0 _).setCell U0 _);clear B1 O1;go_wp2;refine bodyPost_ret (v:=.agg #[.int .i64 4,.string nm]) (by simp [results,Tryz.results118,go_sem,e0,e1]) rfl ⟨by rw [HS.out];rfl,HB.out⟩
 have HE:=Q0 (XH B1 (.int .i64 0) (.string ⟨#[]⟩));have e0:=HE.out 0 _ rfl;have e1:=HE.out 1 _ rfl;have HB:Hid (Below w.heap.size w ((w1.setCell ⟨w.heap.size+1,0,none⟩ (.int .i64 0)).setCell ⟨w.heap.size+1,1,none⟩ (.string ⟨#[]⟩))):=Q0 ((hB1.setCell U0 _).setCell U0 _);clear B1 O1;go_wp2;refine bodyPost_ret (v:=.agg #[.int .i64 0,.string ⟨#[]⟩]) (by simp [results,Tryz.results118,go_sem,e0,e1]) rfl ⟨by rw [HS.out];rfl,HB.out⟩
end Go.Proofs.YtdpoaadafcaffaaGreatDoor
namespace Go.Proofs.YtdpoaadafcaffaaGreatDoor.G
open Proofs.Tryz
open Go.RowKit
open T (F2 L6 U3 Asc X0 Y3)
variable {fs:List F2} {ms:List M3} {nm:ByteArray} {i:Nat}
open Classical in
noncomputable def Ke (fs:List F2) (ms:List M3) (nm:ByteArray):Option (Int×ByteArray):=
 if h:∃ i,i<fs.length/\(fs.getD i L6).nm=nm then some (0,(fs.getD h.choose L6).tx) else if bg ms nm then some (4,nm) else none
theorem Ms (ht:Y3 fs) (hi:i<fs.length) (hn:(fs.getD i L6).nm=nm):Ke fs ms nm=some (0,(fs.getD i L6).tx):=by
 have h:∃ i,i<fs.length/\(fs.getD i L6).nm=nm:=⟨i,hi,hn⟩;unfold Ke;rw [dif_pos h];have e:=bn ht h.choose_spec.1 hi (h.choose_spec.2.trans hn.symm);rw [e]
theorem Gt (hf:Ae fs nm) (hm:bg ms nm):Ke fs ms nm=some (4,nm):=by
 unfold Ke;rw [dif_neg (fun ⟨i,hi,hn⟩=>hf i hi hn),if_pos hm]
theorem Br (hf:Ae fs nm) (hi:i<ms.length) (hn:(ms.getD i X6).nm=nm):Ke fs ms nm=none:=by
 unfold Ke;rw [dif_neg (fun ⟨i,hi,hn⟩=>hf i hi hn),if_neg (fun h=>h i hi hn)]
def Wh (fs:List F2) (ms:List M3) (nm:ByteArray) (e:Ending):Prop:=e=.returned (.tuple #[.agg #[.int .i64 ((Ke fs ms nm).getD (0,⟨#[]⟩)).1,.string ((Ke fs ms nm).getD (0,⟨#[]⟩)).2],.bool (Ke fs ms nm).isSome])
theorem DJ (a:Option Addr) (cap:Nat) (fs:List F2) (ms:List M3) (nm:ByteArray) (w:World) (hl:fs.length<=1048576) (hs:∀ i,(fs.getD i L6).le 1048576) (hat:U3 w a fs) (ht:Y3 fs) (hp:Q6 fs ms):
 Calls prog 82 #[.agg #[.slice a fs.length cap],.string nm] w fun e w'=>Wh fs ms nm e/\Below w.heap.size w w':=by
 have hB0:∀ o1 o2,Below w.heap.size w ((w.alloc o1).alloc o2):=fun o1 o2=>bA.alloc U0 _;have gU:=fun u (hb:Below w.heap.size w u)=>T.BI a cap fs nm u hl (X0 hat hb);have h16:=fun u (hb:Below w.heap.size w u)=>c119 a cap fs nm u hl hs (X0 hat hb);obtain ⟨b,off,hc⟩:=T.U7 hat;clear hat hs;go_enter func82,ntmps82
 go_wp2_with fail
 refine (gU _ (hB0 _ _)).mono ?_;rintro e w1 ⟨⟨r,rfl,hr⟩,hb1⟩;have hB1:=(hB0 _ _).trans (hb1.mono X3);have hx1:Below (w.heap.size+2) ((w.alloc (.cells #[.slice a fs.length cap] 25)).alloc (.cells #[.int .i64 0,.string ⟨#[]⟩] 31)) w1:=by have h:=hb1;simp at h;exact h
 obtain ⟨t0,⟨z0,z1⟩,y0,y1⟩:=QG hx1;have hz1:w.heap.size+1<w1.heap.size:=by have:=hx1.size;simp at this;omega
 clear hb1 gU hx1 hB0;rcases hr with ⟨rfl,hf⟩ | ⟨i,rfl,hi,hn⟩;rotate_left
 · rcases hc with hss | ⟨ha,hbw,hcell⟩
   · rw [hss] at hi;exact absurd hi (Nat.not_lt_zero _)
   subst ha;have g1:=(hB1.cell (p:=⟨b,off+i*2+1,none⟩) hbw).trans (hcell i hi).2;have HI:Hid (Wh fs ms nm (.returned (.tuple #[.agg #[.int .i64 0,.string (fs.getD i L6).tx],.bool true]))):=by unfold Hid Wh;rw [Ms ht hi hn];rfl
   generalize (fs.getD i L6).tx=tx at*;clear h16 hn hcell;go_wp2;have F:=D9 w1 (w.heap.size+1) (.int .i64 0) (.string tx) _ _ z0 z1;refine bodyPost_ret (v:=.tuple #[.agg #[.int .i64 0,.string tx],.bool true]) (by simp [results,Tryz.results82,go_sem,F.1,F.2]) rfl ⟨HI.out,?_⟩;exact (hB1.setCell U0 _).setCell U0 _
 have HF:Hid (Ae fs nm):=hf;clear hf hc
 go_wp2_with fail
 refine (h16 _ hB1).mono ?_;rintro e w2 ⟨⟨ns,hpt,x,g,rfl,hx⟩,hb2⟩;have hB2:=bT hB1 hb2;obtain rfl:=Bc hp hpt;have HR1:Hid (g=false->Wh fs ms nm (.returned (.tuple #[.agg #[.int .i64 4,.string nm],.bool true]))):=fun hg=>(by
  rcases hx with ⟨hg',_⟩ | ⟨_,hx⟩
  · rw [hg] at hg';cases hg'
  unfold Wh;rw [Gt HF.out hx];rfl)
 have HR2:Hid (g=true->Wh fs ms nm (.returned (.tuple #[.agg #[.int .i64 0,.string ⟨#[]⟩],.bool false]))):=fun hg=>(by
  rcases hx with ⟨_,i,hi,rfl,hn⟩ | ⟨hg',_⟩
  · unfold Wh;rw [Br HF.out hi hn];rfl
  rw [hg] at hg';cases hg')
 have u0:=(hb2.cell (p:=⟨w.heap.size+1,0,none⟩) (by exact hz1)).trans z0;have u1:=(hb2.cell (p:=⟨w.heap.size+1,1,none⟩) (by exact hz1)).trans z1;have g0:=(hb2.frozen (p:=⟨w.heap.size+1,0,none⟩) (by exact hz1)).trans y0;have g1:=(hb2.frozen (p:=⟨w.heap.size+1,1,none⟩) (by exact hz1)).trans y1;have hz2:=Nat.lt_of_lt_of_le hz1 hb2.size;clear hx h16 z0 z1 y0 y1 hb2 t0 hpt;cases g
 · go_wp2
   have F:=D9 w2 (w.heap.size+1) (.int .i64 4) (.string nm) _ _ u0 u1;have qM:Below w.heap.size w ((w2.setCell ⟨w.heap.size+1,0,none⟩ (.int .i64 4)).setCell ⟨w.heap.size+1,1,none⟩ (.string nm)):=(hB2.setCell U0 _).setCell U0 _;have YL:w.heap.size+1<((w2.setCell ⟨w.heap.size+1,0,none⟩ (.int .i64 4)).setCell ⟨w.heap.size+1,1,none⟩ (.string nm)).heap.size:=by simpa using hz2
   generalize ((w2.setCell ⟨w.heap.size+1,0,none⟩ (.int .i64 4)).setCell ⟨w.heap.size+1,1,none⟩ (.string nm))=U at*;have F1:=fun o=>(N9 YL 0 o).trans F.1;have F2:=fun o=>(N9 YL 1 o).trans F.2;refine bodyPost_ret (v:=.tuple #[.agg #[.int .i64 4,.string nm],.bool true]) (by simp [results,Tryz.results82,go_sem,F1,F2]) rfl ⟨HR1.out U0,?_⟩;exact qM.alloc qM.size _
 go_wp2;have F:=D9 w2 (w.heap.size+1) (.int .i64 0) (.string ⟨#[]⟩) _ _ u0 u1;have qM:Below w.heap.size w ((w2.setCell ⟨w.heap.size+1,0,none⟩ (.int .i64 0)).setCell ⟨w.heap.size+1,1,none⟩ (.string ⟨#[]⟩)):=(hB2.setCell U0 _).setCell U0 _;have YL:w.heap.size+1<((w2.setCell ⟨w.heap.size+1,0,none⟩ (.int .i64 0)).setCell ⟨w.heap.size+1,1,none⟩ (.string ⟨#[]⟩)).heap.size:=by simpa using hz2
 generalize ((w2.setCell ⟨w.heap.size+1,0,none⟩ (.int .i64 0)).setCell ⟨w.heap.size+1,1,none⟩ (.string ⟨#[]⟩))=U at*;have F1:=fun o=>(N9 YL 0 o).trans F.1;have F2:=fun o=>(N9 YL 1 o).trans F.2;refine bodyPost_ret (v:=.tuple #[.agg #[.int .i64 0,.string ⟨#[]⟩],.bool false]) (by simp [results,Tryz.results82,go_sem,F1,F2]) rfl ⟨HR2.out U0,?_⟩;exact qM.alloc qM.size _
end Go.Proofs.YtdpoaadafcaffaaGreatDoor.G
namespace Go.Proofs.YtdpoaadafcaffaaGreatDoor
open Proofs.Tryz
open Go.RowKit
open G (Q6 Ub Ae bg Ke qz Vi)
open G.T (F2 L6 Y3)
def toM (x:M3):M3:=⟨x.nm,x.tl,x.ar⟩
def Wt (p:Int×ByteArray):R2:=⟨p.1,p.2⟩
noncomputable def o7 (fs:List F2) (ms:List M3):Env:=⟨ms.map toM,fun n=>Wt (Ii fs ms n),fun n=>(Ke fs ms n).map Wt⟩
theorem Yg {fs:List F2} {ms:List M3} (h:Q6 fs ms):ms=[]\/(G.d_ ms=true/\Ub fs ms):=by
 rcases h with ⟨_,rfl⟩ | ⟨_,_,rfl⟩ | ⟨_,i,hi,hn,ks,ok,hp,⟨h1,h2,rfl⟩ | ⟨_,rfl⟩⟩
 · exact .inl rfl
 · exact .inl rfl
 · exact .inr ⟨(hp.1 h1).1,h2⟩
 exact .inl rfl
theorem Gz {fs:List F2} {ms:List M3} (h:Q6 fs ms) {i:Nat} (hi:i<ms.length):Z9 (ms.getD i X6)=true:=by
 rcases Yg h with rfl | ⟨h1,_⟩
 · exact absurd hi (Nat.not_lt_zero _)
 exact G.Xo (G.jc h1) hi
theorem uy {fs:List F2} {ms:List M3} (h:Q6 fs ms):Ub fs ms:=by
 rcases Yg h with rfl | ⟨_,h1⟩
 · exact fun i hi=>absurd hi (Nat.not_lt_zero _)
 exact h1
theorem Ba {fs:List F2} {ms:List M3} (h:Q6 fs ms):ms.length<=30:=by
 rcases Yg h with rfl | ⟨h1,_⟩
 · exact Nat.zero_le _
 exact ((G.Gc ms).1 h1).1
theorem Zy {fs:List F2} {ms:List M3} (h:Q6 fs ms) (n:ByteArray):Ke fs ms n=none↔∃ i,i<ms.length/\(ms.getD i X6).nm=n:=by
 refine ⟨fun hn=>?_,fun ⟨i,hi,hn⟩=>G.Br (fun j hj e=>uy h i hi j hj (e.trans hn.symm)) hi hn⟩;unfold Ke at hn;split at hn
 · cases hn
 split at hn
 · cases hn
 rename_i hf;exact Classical.byContradiction fun hne=>hf (fun i hi e=>hne ⟨i,hi,e⟩)
theorem Hd {ms:List M3} {m:M3}:m∈ms.map toM↔∃ i,i<ms.length/\toM (ms.getD i X6)=m:=by
 rw [List.mem_map];constructor
 · rintro ⟨x,hx,rfl⟩
   obtain ⟨i,hi,rfl⟩:=List.getElem_of_mem hx;exact ⟨i,hi,by simp [List.getD,List.getElem?_eq_getElem hi]⟩
 rintro ⟨i,hi,rfl⟩;exact ⟨_,by simp [List.getD,List.getElem?_eq_getElem hi],rfl⟩
theorem BF {fs:List F2} {ms:List M3} (ht:Y3 fs) {n:ByteArray} (hn:Y1 n.data.toList=true) {p:Int×ByteArray} (h:Ke fs ms n=some p):vr p.1 p.2.data.toList=true:=by
 unfold Ke at h;split at h;rotate_left
 · split at h
   · cases h
     exact Gd (.inl rfl) hn
   cases h
 rename_i hx;cases h;have:=ht.2 _ hx.choose_spec.1;unfold G.T.f_ G.T.a_ at this;simp only [Bool.and_eq_true,decide_eq_true_eq] at this;refine bq (.inl rfl) ?_;have h2:=this.1.2;have e:∀ b:ByteArray,b.data.toList.length=b.size:=fun b=>rfl;rw [e];show (fs.getD hx.choose L6).tx.size<=300;omega
theorem qc {fs:List F2} {ms:List M3} (ht:Y3 fs) (hp:Q6 fs ms):l8 (o7 fs ms) where
 sn n hn:=by
  show Wt (Ii fs ms n)=_\/Wt (Ii fs ms n)=_;unfold Ii;split
  · exact .inr rfl
  exact .inl rfl
 pl n r hn h:=by
  obtain ⟨p,h1,rfl⟩:=Option.map_eq_some_iff.1 h;exact BF ht hn h1
 ms m hm:=by
  obtain ⟨i,hi,rfl⟩:=Hd.1 hm;exact Gz hp hi
 one m m' hm hm' e:=by
  obtain ⟨i,hi,rfl⟩:=Hd.1 hm;obtain ⟨j,hj,rfl⟩:=Hd.1 hm';rw [G.Nn (G.mg hp) hi hj e]
 made n:=by
  show (Ke fs ms n).map Wt=none↔_;rw [Option.map_eq_none_iff,Zy hp];constructor
  · rintro ⟨i,hi,rfl⟩
    exact ⟨_,Hd.2 ⟨i,hi,rfl⟩,rfl⟩
  rintro ⟨m,hm,rfl⟩;obtain ⟨i,hi,rfl⟩:=Hd.1 hm;exact ⟨i,hi,rfl⟩
theorem Oi {fs:List F2} {ms:List M3} {n:ByteArray}:(o7 fs ms).pl n=none↔Ke fs ms n=none:=Option.map_eq_none_iff
theorem Rs {fs:List F2} {ms:List M3} (ht:Y3 fs) {nm:ByteArray} {e:Ending} (h:qz fs nm e) (hf:bg ms nm):∃ r:R2,e=.returned (.agg #[.int .i64 r.code,.string r.tx])/\(o7 fs ms).pl nm=some r:=by
 obtain ⟨c,t,rfl,⟨rfl,i,hi,hn,rfl⟩ | ⟨rfl,rfl,hF⟩⟩:=h
 · exact ⟨⟨0,_⟩,rfl,by show (Ke fs ms nm).map Wt=_;rw [G.Ms ht hi hn];rfl⟩
 exact ⟨⟨4,t⟩,rfl,by show (Ke fs ms t).map Wt=_;rw [G.Gt hF hf];rfl⟩
def I4 (ls:List M.L4):List Value:=ls.flatMap fun x=>[.bool x.has,.string x.nm,.int .i64 x.cd,.string x.tx]
theorem Rc (ls:List M.L4) (x:M.L4):I4 (ls++[x])=I4 ls++[.bool x.has,.string x.nm,.int .i64 x.cd,.string x.tx]:=by simp [I4]
theorem Yf (ls:List M.L4):(I4 ls).length=ls.length*4:=by
 induction ls with
 | nil=>rfl
 | cons x r ih=>unfold I4 at *;simp only [List.flatMap_cons,List.length_append,List.length_cons,List.length_nil,ih];omega
theorem Yj (ls:List M.L4) (i j:Nat) (h:i<ls.length) (hj:j<4):(I4 ls)[i*4+j]?=[Value.bool (ls.getD i M.A_).has,.string (ls.getD i M.A_).nm,.int .i64 (ls.getD i M.A_).cd,.string (ls.getD i M.A_).tx][j]?:=by
 induction ls generalizing i with
 | nil=>simp at h
 | cons x r ih=>
  show ([Value.bool x.has,.string x.nm,.int .i64 x.cd,.string x.tx]++I4 r)[i*4+j]?=_
  cases i with
  | zero=>rw [List.getElem?_append_left X3];simp
  | succ i=>
   rw [List.getElem?_append_right X3];have:=ih i (by simpa using h);rw [show (i+1)*4+j - [Value.bool x.has,.string x.nm,.int .i64 x.cd,.string x.tx].length=i*4+j by simp;omega];simpa using this
theorem Ec (ls:List M.L4):∀ u∈I4 ls,u.oneCell'=true:=by
 intro u hu;unfold I4 at hu;obtain ⟨x,_,hx⟩:=List.mem_flatMap.1 hu;simp at hx;rcases hx with rfl | rfl | rfl | rfl <;> rfl
theorem Zb {w:World} {base:Nat} {v:Value} {ls:List M.L4} (h:w.ownsRow base 45 4 v ls.length (I4 ls)):∃ a c,v=.slice a ls.length c/\M.Ma w a ls:=by
 have h':=h;rcases h.2 with ⟨hv,h0⟩ | ⟨g,cap,cur,hv,hg,hh,_⟩
 · exact ⟨none,0,by rw [hv,h0],.inl (List.length_eq_zero_iff.1 h0)⟩
 refine ⟨some ⟨g,0,none⟩,cap,hv,?_⟩;subst hv;refine .inr ⟨g,0,rfl,F4 hh,fun i hi=>?_⟩;have e:=fun j hj=>(h'.cellAt (i*4+j) O0).trans (Yj ls i j hi hj);simp only [Nat.zero_add];exact ⟨e 0 O0,e 1 O0,e 2 O0,e 3 O0⟩
theorem Xj {w:World} {ad:Addr} {ls:List M.L4} (h:M.Ma w (some ad) ls):∀ j u,(I4 ls)[j]?=some u->w.cell? (ad.add j)=some u:=fun j u e=>by
 have hj:=(List.getElem?_eq_some_iff.1 e).1;rw [Yf] at hj;rcases h with h | ⟨b,off,ha,hb,hc⟩
 · subst h;simp at hj
 cases ha
 have hi:j / 4<ls.length:=O0;have hm:j % 4<4:=Nat.mod_lt _ J3;have ej:j=j / 4*4+j % 4:=O0;rw [ej,Yj ls _ _ hi hm] at e;obtain ⟨h0,h1,h2,h3⟩:=hc _ hi;rw [Addr.add_lit,ej];rcases (by omega:j % 4=0\/j % 4=1\/j % 4=2\/j % 4=3) with h | h | h | h
 all_goals rw [h] at e ⊢
 · simp at e;subst e;exact h0
 · simp at e;subst e;rw [<- Nat.add_assoc];exact h1
 · simp at e;subst e;rw [<- Nat.add_assoc];exact h2
 simp at e;subst e;rw [<- Nat.add_assoc];exact h3
open G (Ke Q6)
open G.T (F2 L6 Y3 U3)
structure W8 where
 m:M3
 lv:Value
 ls:List M.L4
 ov:Bool
 cd:Int
 tx:ByteArray
 wt:ByteArray
def I8:W8:=⟨X6,.slice none 0 0,[],false,0,⟨#[]⟩,⟨#[]⟩⟩
def W8.vs (x:W8):List Value:=[.string x.m.nm,.string x.m.tl,.string x.m.ar,x.lv,.bool x.ov,.int .i64 x.cd,.string x.tx,.string x.wt]
def Uf (w:World) (a:Option Addr) (ws:List W8):Prop:=
 ws=[]\/∃ b off,a=some ⟨b,off,none⟩/\b<w.heap.size/\∀ i,i<ws.length->∀ j v,(ws.getD i I8).vs[j]?=some v->w.cell? ⟨b,off+i*8+j,none⟩=some v
theorem Vl {w:World} {a:Option Addr} {ws:List W8} (h:Uf w a ws):∃ b off,(ws=[]\/(a=some ⟨b,off,none⟩/\b<w.heap.size/\∀ i,i<ws.length->∀ j v,(ws.getD i I8).vs[j]?=some v->w.cell? ⟨b,off+i*8+j,none⟩=some v)):=by
 rcases h with h | ⟨b,off,h⟩
 · exact ⟨0,0,.inl h⟩
 exact ⟨b,off,.inr h⟩
theorem Gb {w w':World} {a:Option Addr} {ws:List W8} (h:Uf w a ws) (hb:Below w.heap.size w w'):Uf w' a ws:=by
 rcases h with h | ⟨b,off,h1,h2,h3⟩
 · exact .inl h
 exact .inr ⟨b,off,h1,Nat.lt_of_lt_of_le h2 hb.size,fun i hi j v e=>(hb.cell (p:=⟨b,off+i*8+j,none⟩) h2).trans (h3 i hi j v e)⟩
def g_ (ws:List W8) (nm:ByteArray):Option W8:=ws.find? fun x=>decide (x.m.nm=nm)
noncomputable def Sg (fs:List F2) (ms:List M3) (ws:List W8) (nm:ByteArray):R2×Bool:=
 match Ke fs ms nm with
 | some p=>(Wt p,true)
 | none=>match g_ ws nm with
  | some x=>(⟨x.cd,x.tx⟩,x.ov)
  | none=>(⟨0,⟨#[]⟩⟩,false)
def xu (r:R2×Bool) (e:Ending):Prop:=e=.returned (.tuple #[.agg #[.int .i64 r.1.code,.string r.1.tx],.bool r.2])
theorem nu {ws:List W8} {nm:ByteArray} {k:Nat} (hk:k<ws.length) (hp:∀ j,j<k->(ws.getD j I8).m.nm≠nm) (hn:(ws.getD k I8).m.nm=nm):g_ ws nm=some (ws.getD k I8):=by
 unfold g_;rw [List.find?_eq_some_iff_getElem];have e:∀ j (h:j<ws.length),ws.getD j I8=ws[j]:=fun j h=>by simp [List.getD,List.getElem?_eq_getElem h]
 refine ⟨by simpa using hn,k,hk,(e k hk).symm,fun j hj=>?_⟩;have:=hp j hj;rw [e j O0] at this;simpa using this
theorem Dq {ws:List W8} {nm:ByteArray} (hp:∀ j,j<ws.length->(ws.getD j I8).m.nm≠nm):g_ ws nm=none:=by
 unfold g_;rw [List.find?_eq_none];intro x hx;obtain ⟨j,hj,rfl⟩:=List.getElem_of_mem hx;have:=hp j hj;simpa [List.getD,List.getElem?_eq_getElem hj] using this
theorem Kg {u:World} {B b j:Nat} {v0 v1:Value} (hne:b≠B):((u.setCell ⟨B,0,none⟩ v0).setCell ⟨B,1,none⟩ v1).cell? ⟨b,j,none⟩=u.cell? ⟨b,j,none⟩:=by
 rw [World.cell?_setCell_other _ _ _ _ (fun e=>hne (congrArg Addr.block e).symm),World.cell?_setCell_other _ _ _ _ (fun e=>hne (congrArg Addr.block e).symm)]
theorem c46 (a:Option Addr) (cap:Nat) (fs:List F2) (ms:List M3) (wa:Option Addr) (wc:Nat) (ws:List W8) (nm:ByteArray) (w:World) (hl:fs.length<=1048576) (hs:∀ i,(fs.getD i L6).le 1048576) (hat:U3 w a fs) (ht:Y3 fs) (hp:Q6 fs ms) (yQ:ws.length<=300) (hws:Uf w wa ws):
 Calls prog 46 #[.agg #[.slice a fs.length cap],.slice wa ws.length wc,.string nm] w fun e w'=>xu (Sg fs ms ws nm) e/\Below w.heap.size w w':=by
 have hB0:∀ o1 o2,Below w.heap.size w ((w.alloc o1).alloc o2):=fun o1 o2=>bA.alloc U0 _;have AO:=fun u (hb:Below w.heap.size w u)=>G.DJ a cap fs ms nm u hl hs (G.T.X0 hat hb) ht hp;obtain ⟨b,off,hc⟩:=Vl hws;have HC:=Q0 hc;clear hat hs hws hc;go_enter func46,ntmps46
 go_wp2_with fail
 refine (AO _ (hB0 _ _)).mono ?_;rintro e w1 ⟨xV,hb1⟩;have hB1:=(hB0 _ _).trans (hb1.mono X3);have hx1:Below (w.heap.size+2) ((w.alloc (.cells #[.slice a fs.length cap] 25)).alloc (.cells #[.int .i64 0,.string ⟨#[]⟩] 31)) w1:=by have h:=hb1;simp at h;exact h
 obtain ⟨t0,⟨z0,z1⟩,y0,y1⟩:=G.QG hx1;have hz1:w.heap.size+1<w1.heap.size:=by have:=hx1.size;simp at this;omega
 clear hb1 AO hx1 hB0
 cases hpl:Ke fs ms nm with
 | some p=>
  obtain ⟨c,t⟩:=p;have e':e=.returned (.tuple #[.agg #[.int .i64 c,.string t],.bool true]):=by unfold G.Wh at xV;rw [hpl] at xV;exact xV
  subst e';have HR:Hid (xu (Sg fs ms ws nm) (.returned (.tuple #[.agg #[.int .i64 c,.string t],.bool true]))):=by unfold Hid xu Sg;rw [hpl];rfl
  clear xV HC;go_wp2;have F:=G.D9 w1 (w.heap.size+1) (.int .i64 c) (.string t) _ _ z0 z1;have qM:Below w.heap.size w ((w1.setCell ⟨w.heap.size+1,0,none⟩ (.int .i64 c)).setCell ⟨w.heap.size+1,1,none⟩ (.string t)):=(hB1.setCell U0 _).setCell U0 _;have YL:w.heap.size+1<((w1.setCell ⟨w.heap.size+1,0,none⟩ (.int .i64 c)).setCell ⟨w.heap.size+1,1,none⟩ (.string t)).heap.size:=by simpa using hz1
  generalize ((w1.setCell ⟨w.heap.size+1,0,none⟩ (.int .i64 c)).setCell ⟨w.heap.size+1,1,none⟩ (.string t))=U at*;have F1:=fun o=>(G.N9 YL 0 o).trans F.1;have F2:=fun o=>(G.N9 YL 1 o).trans F.2;refine bodyPost_ret (v:=.tuple #[.agg #[.int .i64 c,.string t],.bool true]) (by simp [results,Tryz.results46,go_sem,F1,F2]) rfl ⟨HR.out,?_⟩;exact qM.alloc qM.size _
 | none=>
  have e':e=.returned (.tuple #[.agg #[.int .i64 0,.string ⟨#[]⟩],.bool false]):=by unfold G.Wh at xV;rw [hpl] at xV;exact xV
  subst e';have HN:Hid ((∀ j,j<ws.length->(ws.getD j I8).m.nm≠nm)->xu (Sg fs ms ws nm) (.returned (.tuple #[.agg #[.int .i64 0,.string ⟨#[]⟩],.bool false]))):=fun h=>by unfold xu Sg;rw [hpl,Dq h]
  have HY:Hid (∀ k,k<ws.length->(∀ j,j<k->(ws.getD j I8).m.nm≠nm)->(ws.getD k I8).m.nm=nm->xu (Sg fs ms ws nm) (.returned (.tuple #[.agg #[.int .i64 (ws.getD k I8).cd,.string (ws.getD k I8).tx],.bool (ws.getD k I8).ov]))):=fun k hk h1 h2=>by unfold xu Sg;rw [hpl,nu hk h1 h2]
  obtain ⟨U,hU⟩:∃ U,U=w1.alloc (.cells #[.int .i64 0,.string ⟨#[]⟩] 31):=⟨_,rfl⟩;have HU:=Q0 hU;have qM:Below w.heap.size w U:=by rw [hU];exact hB1.alloc hB1.size _
  have hxU:Below w1.heap.size w1 U:=by rw [hU];exact bA
  have z0:=(hxU.cell (p:=⟨w.heap.size+1,0,none⟩) hz1).trans z0;have z1:=(hxU.cell (p:=⟨w.heap.size+1,1,none⟩) hz1).trans z1;have y0:=(hxU.frozen (p:=⟨w.heap.size+1,0,none⟩) hz1).trans y0;have y1:=(hxU.frozen (p:=⟨w.heap.size+1,1,none⟩) hz1).trans y1;have u0:U.cell? ⟨w1.heap.size,0,none⟩=some (.int .i64 0):=by rw [hU];simp [go_sem]
  have u1:U.cell? ⟨w1.heap.size,1,none⟩=some (.string ⟨#[]⟩):=by rw [hU];simp [go_sem]
  clear xV hxU hU
  go_wp2_with fail
  go_loopw [10] (fun vi wr=>∃ k:Nat,k<=ws.length/\vi=.int .i64 k/\wr=U/\Hid (∀ j,j<k->(ws.getD j I8).m.nm≠nm)) (fun vi _=>ws.length - (intOf vi).toNat)
  case atStart=>exact ⟨0,Nat.zero_le _,rfl,HU.out.symm,fun j h=>absurd h (Nat.not_lt_zero _)⟩
  obtain ⟨k,hk,rfl,rfl,hdone⟩:=hrel;by_cases hlt:k<ws.length;rotate_left
  · have HR:=Q0 (HN.out (fun j hj=>hdone.out j O0))
    have F:=G.D9 wr (w.heap.size+1) (.int .i64 0) (.string ⟨#[]⟩) _ _ z0 z1;clear HY HN hdone;go_wp2;refine bodyPost_ret (v:=.tuple #[.agg #[.int .i64 0,.string ⟨#[]⟩],.bool false]) (by simp [results,Tryz.results46,go_sem,F.1,F.2]) rfl ⟨HR.out,?_⟩;exact (qM.setCell U0 _).setCell U0 _
  rcases HC.out with hss | ⟨ha,hbw,hcell⟩
  · rw [hss] at hlt;exact absurd hlt (Nat.not_lt_zero _)
  subst ha;have g0:=(qM.cell (p:=⟨b,off+k*8,none⟩) hbw).trans (hcell k hlt 0 _ rfl);have g4:=(qM.cell (p:=⟨b,off+k*8+4,none⟩) hbw).trans (hcell k hlt 4 _ rfl);have g5:=(qM.cell (p:=⟨b,off+k*8+5,none⟩) hbw).trans (hcell k hlt 5 _ rfl);have g6:=(qM.cell (p:=⟨b,off+k*8+6,none⟩) hbw).trans (hcell k hlt 6 _ rfl);have qW:=Q0 (HY.out k hlt hdone.out);have HD:Hid ((ws.getD k I8).m.nm≠nm->∀ j,j<k+1->(ws.getD j I8).m.nm≠nm):=fun h j hj=>by
   rcases Nat.lt_or_ge j k with h1 | h1
   · exact hdone.out j h1
   obtain rfl:j=k:=O0;exact h
  generalize ws.getD k I8=x at*;obtain ⟨⟨xn,xt,xa⟩,xl,xs,xo,xc,xx,xw⟩:=x;dsimp only at*;clear hcell;cases hq:(xn.toList==nm.toList);rotate_left
  · have hnm:xn=nm:=by
     have:=beq_iff_eq.1 hq;rw [ByteArray.toList_eq,ByteArray.toList_eq] at this;exact ByteArray.ext (Array.toList_inj.1 this)
    have HR:=Q0 (qW.out hnm);subst hnm;clear HD qW HY HN hdone
    go_wp2_with fail
    refine wp_region_held_drew (S:=fun u=>u.cell? ⟨b,off+k*8+4,none⟩=some (.bool xo)/\u.cell? ⟨b,off+k*8+5,none⟩=some (.int .i64 xc)/\u.cell? ⟨b,off+k*8+6,none⟩=some (.string xx)) I1 ?_ fun hHeld=>?_
    · exact ⟨g4,g5,g6⟩
    refine tq 0 hHeld ?_
    try simp only [qq]
    refine tq 1 hHeld ?_
    try simp only [qq]
    refine tq 2 hHeld ?_ (v:=?_) (hv:=?e)
    case e=>intro wq hSw;(try dsimp only at hSw);obtain ⟨s4,s5,s6⟩:=hSw;go_simp;try with_reducible rfl
    try simp only [qq]
    refine tq 3 hHeld ?_
    try simp only [qq]
    refine tq 4 hHeld ?_ (v:=?_) (hv:=?e)
    case e=>intro wq hSw;(try dsimp only at hSw);obtain ⟨s4,s5,s6⟩:=hSw;go_simp;try with_reducible rfl
    try simp only [qq]
    refine tq 5 hHeld ?_
    try simp only [qq]
    refine tq 6 hHeld ?_
    try simp only [qq]
    refine tq 7 hHeld ?_ (v:=?_) (hv:=?e)
    case e=>intro wq hSw;(try dsimp only at hSw);obtain ⟨s4,s5,s6⟩:=hSw;go_simp;try with_reducible rfl
    try simp only [qq]
    refine tq 8 hHeld ?_
    try simp only [qq]
    refine tq 9 hHeld ?_ (v:=?_) (hv:=?e)
    case e=>intro wq hSw;(try dsimp only at hSw);obtain ⟨s4,s5,s6⟩:=hSw;go_simp;try with_reducible rfl
    try simp only [qq]
    have hbn:b≠w.heap.size+1:=O0;refine rq 10 fun K hK=>?_;go_simp;clear hHeld;refine hK.out _ _ ?_ fun hHeld=>?_
    · exact ⟨(Kg hbn).trans g4,(Kg hbn).trans g5,(Kg hbn).trans g6⟩
    clear hK K;refine tq 11 hHeld ?_
    try simp only [qq]
    refine wpAnyH_done I1 ?_ _;have F:=G.D9 wr (w.heap.size+1) (.int .i64 xc) (.string xx) _ _ z0 z1;go_wp2;refine bodyPost_ret (v:=.tuple #[.agg #[.int .i64 xc,.string xx],.bool xo]) (by simp [results,Tryz.results46,go_sem,F.1,F.2]) rfl ⟨HR.out,?_⟩;have HB:=M.zu (N:=w.heap.size) (B:=w.heap.size+1) O0 [.int .i64 xc,.string xx] 0 qM;exact ⟨HB.os,HB.tape,HB.output,HB.size,HB.block⟩
  have hnm:xn≠nm:=fun e=>by rw [e] at hq;simp at hq
  have aU:=Q0 (HD.out hnm);clear HD qW HY HN hdone;go_wp2;go_roundw
  case rel=>exact ⟨k+1,O0,by go_num,trivial,aU⟩
  case measure=>simp [intOf];omega
end Go.Proofs.YtdpoaadafcaffaaGreatDoor
