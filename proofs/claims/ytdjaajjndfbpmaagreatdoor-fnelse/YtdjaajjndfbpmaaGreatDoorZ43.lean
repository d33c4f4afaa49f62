import Derived.Test.YtdjaajjndfbpmaaGreatDoorZ42
import Derived.Test.YtdjaajjndfbpmaaGreatDoorND
import Derived.Test.YtdjaajjndfbpmaaGreatDoorZ22
import Derived.Test.YtdjaajjndfbpmaaGreatDoorZ39
set_option linter.unusedVariables false
set_option maxHeartbeats 8000000
set_option maxRecDepth 100000
namespace Go.Proofs.YtdjaajjndfbpmaaGreatDoor.G
open Proofs.Tryz
open Go.RowKit
open T (lt Ij Fe Km F_ N_ BM)
variable {ms:List M3} {nm t:ByteArray} {b i j p:Nat} {f:Bool} {u w:World} {v:Value}
theorem c80 (x:M3) (b:ByteArray) (w:World):
 Calls prog 80 #[.agg #[.string x.nm,.string x.tl,.string x.ar],.string b] w fun e w'=>e=.returned (.int .i64 (Ij x.nm b))/\Below w.heap.size w w':=by
 go_enter func80,ntmps80
 go_wp2_with fail
 refine (BM x.nm b _).mono ?_;rintro e w1 ⟨rfl,hw⟩;obtain rfl:=hw.symm;go_wp2;go_ret;exact ⟨rfl,bA⟩
structure ou (ms:List M3) (t:ByteArray) (p:Nat) (f:Bool):Prop where
 le:p<=ms.length
 less:∀ j,j<p->lt (ms.getD j N7).nm t=true
 more:∀ j,p<=j->j<ms.length->lt (ms.getD j N7).nm t=false
 here:f=true↔p<ms.length/\(ms.getD p N7).nm=t
def En (ms:List M3):Prop:=∀ i j,i<j->j<ms.length->lt (ms.getD i N7).nm (ms.getD j N7).nm=true
def Yq (ms:List M3) (t:ByteArray) (i j:Nat):Prop:=(∀ q,q<i->lt (ms.getD q N7).nm t=true)/\∀ q,j<=q->q<ms.length->lt (ms.getD q N7).nm t=false
theorem nE {h:Nat} (a:En ms) (c:Yq ms t i j) (b:h<ms.length) (hx:lt (ms.getD h N7).nm t=true):Yq ms t (h+1) j:=by
 refine ⟨fun q hq=>?_,c.2⟩;rcases U5 q h with h1 | h1
 · exact F_ (a q h h1 b) hx
 obtain rfl:q=h:=O0;exact hx
theorem eB {h:Nat} (a:En ms) (c:Yq ms t i j) (hx:lt (ms.getD h N7).nm t=false):Yq ms t i h:=by
 refine ⟨c.1,fun q hq b=>?_⟩;rcases U5 h q with h1 | h1
 · cases hc:lt (ms.getD q N7).nm t
   · rfl
   rw [F_ (a h q h1 b) hc] at hx;cases hx
 obtain rfl:q=h:=O0;exact hx
theorem TQ (a:Option Addr) (cap:Nat) (ms:List M3) (t:ByteArray) (w:World) (hl:ms.length<=300) (I:Ad w a ms) (F:En ms):
 Calls prog 79 #[.slice a ms.length cap,.string t,.func (.func 80) #[] #[]] w fun e w'=>(∃ p f,e=.returned (.tuple #[.int .i64 (p:Nat),.bool f])/\ou ms t p f)/\Below w.heap.size w w':=by
 obtain ⟨b,l,o⟩:=Pe I;have K:=Q0 o;have J:=Q0 F;clear o I F;go_enter func79,ntmps79
 go_wp2_with fail
 go_loopw [9,10] (fun y v wr=>∃ i j:Nat,i<=j/\j<=ms.length/\y=.int .i64 i/\v=.int .i64 j/\Below w.heap.size w wr/\Hid (Yq ms t i j)) (fun y v _=>(intOf v).toNat - (intOf y).toNat)
 case atStart=>exact ⟨0,ms.length,I5 _,Q6 _,rfl,rfl,F4 _ _,⟨fun q h=>absurd h (F5 _),fun q h k=>O0⟩⟩
 obtain ⟨i,j,hij,H,rfl,rfl,d,n⟩:=hrel;by_cases hlt:i<j;rotate_left
 · obtain rfl:i=j:=O0
   by_cases m:i<ms.length;rotate_left
   · have D:Hid (ou ms t i false):=⟨O0,n.out.1,n.out.2,J4⟩
     have hd:decide ((i:Int)<(ms.length:Int))=false:=Oh O0;go_wp2
     all_goals go_ret2
     all_goals exact ⟨⟨i,false,rfl,D.out⟩,d⟩
   rcases K.out with z | ⟨B,g,c⟩
   · rw [z] at m;exact absurd m (F5 _)
   subst B;have g0:=(d.cell (p:=⟨b,l+i*3,none⟩) g).trans (c i m).1;have g1:=(d.cell (p:=⟨b,l+i*3+1,none⟩) g).trans (c i m).2.1;have g2:=(d.cell (p:=⟨b,l+i*3+2,none⟩) g).trans (c i m).2.2;have D:Hid (∀ f:Bool,(f=true↔(ms.getD i N7).nm=t)->ou ms t i f):=fun f L=>⟨O0,n.out.1,n.out.2,L.trans ⟨fun h=>⟨m,h⟩,fun h=>h.2⟩⟩;generalize ms.getD i N7=x at*;clear c
   go_wp2_with fail
   refine (c80 x t wr).mono ?_;rintro e w1 ⟨rfl,r⟩;have u:=bT d r;go_wp2
   all_goals go_ret2
   all_goals exact ⟨⟨i,_,rfl,D.out _ (by rw [<- Km];simp)⟩,u⟩
 rcases K.out with z | ⟨B,g,c⟩
 · rw [z] at H;simp at H;omega
 subst B;have s:(i+j) / 2<ms.length:=O0;have g0:=(d.cell (p:=⟨b,l+(i+j) / 2*3,none⟩) g).trans (c _ s).1;have g1:=(d.cell (p:=⟨b,l+(i+j) / 2*3+1,none⟩) g).trans (c _ s).2.1;have g2:=(d.cell (p:=⟨b,l+(i+j) / 2*3+2,none⟩) g).trans (c _ s).2.2;have C:Hid (lt (ms.getD ((i+j) / 2) N7).nm t=true->Yq ms t ((i+j) / 2+1) j):=fun hx=>nE J.out n.out s hx;have E:Hid (lt (ms.getD ((i+j) / 2) N7).nm t=false->Yq ms t i ((i+j) / 2)):=fun hx=>eB J.out n.out hx;generalize ms.getD ((i+j) / 2) N7=x at*;clear c
 go_wp2_with fail
 refine (c80 x t wr).mono ?_;rintro e w1 ⟨rfl,r⟩;have u:=bT d r;cases hx:lt x.nm t
 · have o:¬ Ij x.nm t<0:=fun h=>by rw [(Fe _ _).1 h] at hx;cases hx
   have hc1:=Oh o;have A:=Q0 (E.out hx);clear hx r C E;go_wp2;go_roundw
   case rel=>exact ⟨i,(i+j) / 2,O0,O0,rfl,by go_num,u,A⟩
   case measure=>simp [intOf];omega
 have o:=(Fe _ _).2 hx;have A:=Q0 (C.out hx);clear hx r C E;go_wp2;go_roundw
 case rel=>exact ⟨(i+j) / 2+1,j,O0,O0,by go_num,rfl,u,A⟩
 case measure=>simp [intOf];omega
theorem Qx (d:En ms) (h:ou ms nm p f):(f=true->∃ i,i=p/\i<ms.length/\(ms.getD i N7).nm=nm)/\(f=false->∀ j,j<ms.length->(ms.getD j N7).nm≠nm):=by
 refine ⟨fun e=>⟨p,rfl,h.here.1 e⟩,fun e j c b=>?_⟩;subst e;rcases yo j p with h1 | h1 | h1
 · have a:=h.less j h1
   rw [b,N_] at a;cases a
 · subst h1
   have:=h.here.2 ⟨c,b⟩;cases this
 have a:=d p j h1 c;rw [b] at a;have a2:=h.more p P9 O0;rw [a] at a2;cases a2
theorem bR (a:Below (w.heap.size+1) (w.alloc (.cells #[.string ⟨#[]⟩,.string ⟨#[]⟩,.string ⟨#[]⟩] 47)) u):
 (u.cell? ⟨w.heap.size,0,none⟩=some (.string ⟨#[]⟩)/\u.cell? ⟨w.heap.size,1,none⟩=some (.string ⟨#[]⟩)/\u.cell? ⟨w.heap.size,2,none⟩=some (.string ⟨#[]⟩))/\u.frozen? ⟨w.heap.size,0,none⟩=false/\u.frozen? ⟨w.heap.size,1,none⟩=false/\u.frozen? ⟨w.heap.size,2,none⟩=false:=by
 have c:∀ b j,b<w.heap.size+1->u.cell? ⟨b,j,none⟩=(w.alloc (.cells #[.string ⟨#[]⟩,.string ⟨#[]⟩,.string ⟨#[]⟩] 47)).cell? ⟨b,j,none⟩:=fun b j h=>a.cell (by exact h);have f:∀ b j,b<w.heap.size+1->u.frozen? ⟨b,j,none⟩=(w.alloc (.cells #[.string ⟨#[]⟩,.string ⟨#[]⟩,.string ⟨#[]⟩] 47)).frozen? ⟨b,j,none⟩:=fun b j h=>a.frozen (by exact h);rw [c _ _ O0,c _ _ O0,c _ _ O0,f _ _ O0,f _ _ O0,f _ _ O0];simp [go_sem]
def EI (ms:List M3) (nm:ByteArray) (e:Ending):Prop:=∃ (x:M3) (there:Bool),e=.returned (.tuple #[.agg #[.string x.nm,.string x.tl,.string x.ar],.bool there])/\((there=true/\∃ i,i<ms.length/\ms.getD i N7=x/\x.nm=nm)\/(there=false/\∀ j,j<ms.length->(ms.getD j N7).nm≠nm))
theorem c51 (a:Option Addr) (cap:Nat) (ms:List M3) (nm:ByteArray) (w:World) (H:ms.length<=300) (A:Ad w a ms) (y:En ms):
 Calls prog 51 #[.slice a ms.length cap,.string nm] w fun e w'=>EI ms nm e/\Below w.heap.size w w':=by
 have B:Below w.heap.size w (w.alloc (.cells #[.string ⟨#[]⟩,.string ⟨#[]⟩,.string ⟨#[]⟩] 47)):=bA;have C:=TQ a cap ms nm _ H (X_ A B) y;go_enter func51,ntmps51
 go_wp2_with fail
 refine C.mono ?_;rintro e w1 ⟨⟨p,f,rfl,l⟩,z⟩;obtain ⟨o,n⟩:=Qx y l;have t:Below (w.heap.size+1) (w.alloc (.cells #[.string ⟨#[]⟩,.string ⟨#[]⟩,.string ⟨#[]⟩] 47)) w1:=by have h:=z;simp at h;exact h
 have d:=B.trans (t.mono O0);obtain ⟨⟨s,r,q⟩,y0,y1,y2⟩:=bR t;clear z C;cases f
 · have j:Hid (EI ms nm (.returned (.tuple #[.agg #[.string ⟨#[]⟩,.string ⟨#[]⟩,.string ⟨#[]⟩],.bool false]))):=⟨⟨⟨#[]⟩,⟨#[]⟩,⟨#[]⟩⟩,false,rfl,.inr ⟨rfl,n rfl⟩⟩
   clear o n l;go_wp2;have F:=Pb w1 w.heap.size 0 (.string ⟨#[]⟩) (.string ⟨#[]⟩) (.string ⟨#[]⟩) _ _ _ s r q;refine K4 (v:=.tuple #[.agg #[.string ⟨#[]⟩,.string ⟨#[]⟩,.string ⟨#[]⟩],.bool false]) (by simp [results,results51,go_sem,F.1,F.2.1,F.2.2]) rfl ⟨j.out,?_⟩;exact ((d.setCell X0 _).setCell X0 _).setCell X0 _
 obtain ⟨i,rfl,c,u⟩:=o rfl;obtain ⟨b,k,I⟩:=Pe A;rcases I with E | ⟨J,m,g⟩
 · rw [E] at c;exact absurd c (F5 _)
 subst J;have g0:=(d.cell (p:=⟨b,k+i*3,none⟩) m).trans (g i c).1;have g1:=(d.cell (p:=⟨b,k+i*3+1,none⟩) m).trans (g i c).2.1;have g2:=(d.cell (p:=⟨b,k+i*3+2,none⟩) m).trans (g i c).2.2;have j:Hid (EI ms nm (.returned (.tuple #[.agg #[.string (ms.getD i N7).nm,.string (ms.getD i N7).tl,.string (ms.getD i N7).ar],.bool true]))):=⟨_,true,rfl,.inl ⟨rfl,i,c,rfl,u⟩⟩;have D:Hid (∃ x,x=ms.getD i N7):=⟨_,rfl⟩;obtain ⟨x,hx⟩:=D.out;rw [<- hx] at g0 g1 g2 j;clear o n l g D hx u;go_wp2;have F:=Pb w1 w.heap.size 0 (.string x.nm) (.string x.tl) (.string x.ar) _ _ _ s r q;refine K4 (v:=.tuple #[.agg #[.string x.nm,.string x.tl,.string x.ar],.bool true]) (by simp [results,results51,go_sem,F.1,F.2.1,F.2.2]) rfl ⟨j.out,?_⟩;exact ((d.setCell X0 _).setCell X0 _).setCell X0 _
theorem JC (S:List UInt8) (w:World) (xR:S.length<=300) (hv:Wq w):
 Calls prog 92 #[.string (Q3 S)] w fun e w'=>OI w S e w'/\Below w.heap.size w w':=by
 have F:=Q0 hv;clear hv;have hz:(Q3 S).size<=300:=by rw [J3];exact xR
 obtain ⟨i0,hi,hz0,hz1,hz2⟩:=Ze SG;go_enter func92,ntmps92
 go_wp2_with fail
 go_loopw [4,5] (fun v r wr=>∃ (l:List UInt8) (ms:List M3),r=.string (Q3 l)/\Hid (Way S ms l)/\wr.ownsRow w.heap.size 47 3 v ms.length (R5 ms)/\Below w.heap.size w wr) (fun _ r _=>strOf r)
 case atStart=>exact ⟨S,[],rfl,Jm _,F9 _ _ _ _,F4 _ _⟩
 obtain ⟨l,ms,rfl,f,o,O⟩:=hrel;have C:=Q0 (F.out.below O);obtain ⟨hwl,I⟩:=Au f.out;by_cases A:l=[]
 · subst A
   have hnl:(Q3 []).toList=[]:=by rw [I7];rfl
   obtain ⟨W1,W2⟩:=Ov f.out xR;have R:=Q0 W1;have Q:=Q0 W2;clear W1 W2;obtain ⟨ao,cp,hv,hat⟩:=J7 o;subst hv;obtain ⟨u0,x0,V⟩:=C.out.va.g0;obtain ⟨u1,x1,m⟩:=C.out.va.g1;obtain ⟨u2,x2,t⟩:=C.out.va.g2;have g:=c130 ao cp ms wr (fun i=>⟨by have:=(I i).1;omega,by have:=(I i).2.1;omega,by have:=(I i).2.2;omega⟩) O0 hat _ _ _ _ _ _ V m t;clear hat f V m t
   go_wp2_with fail
   refine g.mono ?_;rintro e w5 ⟨hck,hb5⟩;have QW:=bT O hb5;have Y:=ownsRow_below o hb5;rcases hck with ⟨j,rfl⟩ | ⟨j,n,ty,va,rfl⟩
   · have d:=Q0 (R.out j)
     clear R Q j g;go_wp2;go_ret2;exact ⟨⟨ms,_,_,rfl,Y,.inl ⟨rfl,d.out⟩⟩,QW⟩
   have d:=Q0 (Q.out j);clear R Q j g;go_wp2;go_ret2;exact ⟨⟨ms,_,_,rfl,Y,.inr ⟨⟨n,ty,va,rfl⟩,d.out⟩⟩,QW⟩
 have e0:(Q3 l).toList.isEmpty=false:=by
  rw [I7]
  cases l with
  | nil=>exact absurd rfl A
  | cons a r=>rfl
 have e1:¬ (Q3 l).toList=[]:=fun h=>by rw [h] at e0;cases e0
 obtain ⟨ao,cp,hv⟩:=E9 o;subst hv
 go_wp2_with fail
 refine (EF l _ O0 C.out.mx).mono ?_;rintro e w1 ⟨rfl,B⟩;have D:=bT O B;have J:=vF l;have hcl:(Lib.cut l [10]).1.length<=300:=by
  rcases J with ⟨_,h,_⟩ | ⟨_,h,_⟩
  · have:=V3 List.length h
    rw [Q7] at this;omega
  rw [h];omega
 have g:=Q0 J;clear J;generalize (Lib.cut l [10]).1=c at*;generalize (Lib.cut l [10]).2.1=E at*;generalize (Lib.cut l [10]).2.2=cf at*;have hV1:=Q0 (F.out.below D);cases cf
 · have d:Hid (U9 S [] false):=by
    refine Ej f.out A fun y q z e=>?_;rcases g.out with ⟨h1,_⟩ | ⟨_,_,h3⟩
    · cases h1
    apply h3;rw [e];simp
   obtain ⟨t4,v4,g4⟩:=hV1.out.g4;clear g f
   go_wp2_with fail
   go_region
   all_goals go_wp2
   all_goals go_ret2
   all_goals exact ⟨Xp _ _ _ d.out,by first | exact D | exact D.drew⟩
 have p:Hid (l=c++10::E/\(10:UInt8)∉c):=by
  rcases g.out with ⟨_,h⟩ | ⟨h,_⟩
  · exact h
  cases h
 clear g
 go_wp2_with fail
 refine (lF c _ O0 hV1.out.mx).mono ?_;rintro e w2 ⟨⟨y2,rfl⟩,N⟩;have hB2:=bT D N;have hV2:=Q0 (F.out.below hB2);have hrs:=p_ c
 go_wp2_with fail
 refine (sO _ _ O0 hV2.out.mx).mono ?_;rintro e U ⟨⟨x,ok,rfl,K⟩,L⟩;have b:=bT hB2 L;have a2y:=B.trans ((bT N L).mono B.size);have hV3:=Q0 (F.out.below b);have Z:=ownsRow_below o a2y;have hz3:=b.size;obtain ⟨t5,v5,g5⟩:=hV3.out.g5;have g5':=past (by show 4<U.heap.size;have:=hV3.out.va.pos;omega) g5;have s:Hid (¬ (O1 c=[109,97,107,101]/\ok=true)->U9 S [] false):=by
  intro hf;refine Ej f.out A (fun y q z e=>hf ?_);have hca:=(Dp p.out.2 (Ta z) (p.out.1.symm.trans e)).1;obtain ⟨h1,h2⟩:=(zw z).1 hca;refine ⟨h1,?_⟩;cases ok
  · exact absurd h2 (K.2 rfl y z)
  rfl
 have H:Hid (O1 c=[109,97,107,101]->ok=true->Way S (ms++[x]) E/\E.length<l.length):=by
  intro h1 h2;obtain ⟨m,t⟩:=K.1 h2;refine ⟨Iq (a:=c) (by rw [<- p.out.1];exact f.out) ⟨m,(zw m).2 ⟨h1,t⟩⟩,?_⟩;rw [p.out.1];simp;omega
 clear K f p o B N L g5;by_cases hw:O1 c=[109,97,107,101];rotate_left
 · have d:=Q0 (s.out (fun h=>hw h.1))
   have P:¬ (Q3 (O1 c)).toList=[109,97,107,101]:=by rw [I7];simpa [Q3] using hw
   have e3:((Q3 (O1 c)).toList==[109,97,107,101])=false:=by simpa using P
   clear s H;unfold M3.v
   go_wp2_with fail
   go_region
   all_goals go_wp2
   all_goals go_ret2
   all_goals exact ⟨Xp _ _ _ d.out,by first | exact b.alloc b.size _ | exact (b.alloc b.size _).drew⟩
 have P:(Q3 (O1 c)).toList=[109,97,107,101]:=by rw [hw,I7];rfl
 have e3:((Q3 (O1 c)).toList==[109,97,107,101])=true:=by simpa using P
 cases ok
 · have d:=Q0 (s.out X0)
   clear s H hw;unfold M3.v
   go_wp2_with fail
   go_region
   all_goals go_wp2
   all_goals go_ret2
   all_goals exact ⟨Xp _ _ _ d.out,by first | exact b.alloc b.size _ | exact (b.alloc b.size _).drew⟩
 obtain ⟨W,hw2⟩:=H.out hw rfl;have HW:=Q0 W;clear s H W hw;unfold M3.v
 go_wp2_with (at_builtin;refine wpList_append_own _ rfl _ _ 44 rfl w.heap.size 47 i0 (.agg #[.string ⟨#[]⟩,.string ⟨#[]⟩,.string ⟨#[]⟩]) 3 48 underlying44 hi hz0 hz1 hz2 rfl K3 _ _ _ rfl ((Z.alloc _).alloc _) ⟨U.heap.size+1,0,none⟩ 1 1 [_,_,_] rfl rfl (Vh X0 _ _ _ _) (by intro u X;simp at X;rcases X with rfl | rfl | rfl <;> rfl) (by unfold maxLen;omega) O0 J4 ?_;intro v' w4 IR hgrow _;have HG:Hid (Below w.heap.size w w4):=((b.alloc b.size _).alloc J4 _).grown hgrow J4 (fun k j=>(Z.lt k j).1);clear hgrow)
 go_roundw
 case rel=>
  refine ⟨E,ms++[x],rfl,HW,?_,HG.out⟩;rw [Mh,Q7];exact IR
 case measure=>simp only [strOf,J3];exact hw2
theorem IQ (s:ByteArray) (w:World) (a:s.size<=1048576) (hv:Wq w):
 Calls prog 92 #[.string s] w fun e w'=>OI w s.data.toList e w'/\Below w.heap.size w w':=by
 by_cases h:300<s.size
 · exact qE s w a h hv
 have:=JC s.data.toList w J4 hv;rw [Hw] at this;exact this
open T (F2 P6 X3 Asc F3)
theorem ek {fs:List F2} (d:Asc fs) (h:T.Place fs nm p f):(f=true->∃ i,i=p/\i<fs.length/\(fs.getD i P6).nm=nm)/\(f=false->Oa fs nm):=by
 constructor
 · intro a
   exact ⟨p,rfl,(h.here.1 a).1,(h.here.1 a).2⟩
 intro a j b e;rcases yo j p with h1 | h1 | h1
 · have:=h.less j h1
   rw [e,T.N_] at this;cases this
 · subst h1
   have:=h.here.2 ⟨b,e⟩;rw [a] at this;cases this
 have c:=d p j h1 b;rw [e] at c;have a2:=h.more p P9 O0;rw [c] at a2;cases a2
theorem iR (a:Below (w.heap.size+2) ((w.alloc (.cells #[v] 25)).alloc (.cells #[.string ⟨#[]⟩,.string ⟨#[]⟩] 39)) u):
 u.cell? ⟨w.heap.size,0,none⟩=some v/\(u.cell? ⟨w.heap.size+1,0,none⟩=some (.string ⟨#[]⟩)/\u.cell? ⟨w.heap.size+1,1,none⟩=some (.string ⟨#[]⟩))/\u.frozen? ⟨w.heap.size+1,0,none⟩=false/\u.frozen? ⟨w.heap.size+1,1,none⟩=false:=by
 have c:∀ b j,b<w.heap.size+2->u.cell? ⟨b,j,none⟩=((w.alloc (.cells #[v] 25)).alloc (.cells #[.string ⟨#[]⟩,.string ⟨#[]⟩] 39)).cell? ⟨b,j,none⟩:=fun b j h=>a.cell (by exact h);have f:∀ b j,b<w.heap.size+2->u.frozen? ⟨b,j,none⟩=((w.alloc (.cells #[v] 25)).alloc (.cells #[.string ⟨#[]⟩,.string ⟨#[]⟩] 39)).frozen? ⟨b,j,none⟩:=fun b j h=>a.frozen (by exact h);rw [c _ _ O0,c _ _ O0,c _ _ O0,f _ _ O0,f _ _ O0];simp [go_sem]
theorem N9 (u:World) (B:Nat) (a v1 c b:Value) (h0:u.cell? ⟨B,0,none⟩=some c) (h1:u.cell? ⟨B,1,none⟩=some b):
 ((u.setCell ⟨B,0,none⟩ a).setCell ⟨B,1,none⟩ v1).cell? ⟨B,0,none⟩=some a/\((u.setCell ⟨B,0,none⟩ a).setCell ⟨B,1,none⟩ v1).cell? ⟨B,1,none⟩=some v1:=by
 have d:(u.setCell ⟨B,0,none⟩ a).cell? ⟨B,1,none⟩=some b:=by rw [O_ _ _ _ _ (Od O0)];exact h1
 refine ⟨?_,O7 _ _ _ d⟩;rw [O_ _ _ _ _ (Od O0)];exact O7 _ _ _ h0
def bL (fs:List F2) (nm:ByteArray) (e:Ending):Prop:=∃ (x:F2) (there:Bool),e=.returned (.tuple #[.agg #[.string x.nm,.string x.tx],.bool there])/\((there=true/\∃ i,i<fs.length/\fs.getD i P6=x/\x.nm=nm)\/(there=false/\Oa fs nm))
theorem eQ (a:Option Addr) (cap:Nat) (fs:List F2) (nm:ByteArray) (w:World) (E:fs.length<=40) (z:F3 w a fs) (t:Asc fs):
 Calls prog 81 #[.agg #[.slice a fs.length cap],.string nm] w fun e w'=>bL fs nm e/\Below w.heap.size w w':=by
 have A:Below w.heap.size w ((w.alloc (.cells #[.slice a fs.length cap] 25)).alloc (.cells #[.string ⟨#[]⟩,.string ⟨#[]⟩] 39)):=bA.alloc X0 _;have B:=T.c93 a cap fs nm _ E (T.U0 z A) t;go_enter func81,ntmps81
 go_wp2_with fail
 refine B.mono ?_;rintro e w1 ⟨⟨p,f,rfl,j⟩,y⟩;obtain ⟨m,l⟩:=ek t j;have r:Below (w.heap.size+2) ((w.alloc (.cells #[.slice a fs.length cap] 25)).alloc (.cells #[.string ⟨#[]⟩,.string ⟨#[]⟩] 39)) w1:=by have h:=y;simp at h;exact h
 have d:=A.trans (r.mono O0);obtain ⟨t0,⟨o,n⟩,y0,y1⟩:=iR r;clear y B;cases f
 · have g:Hid (bL fs nm (.returned (.tuple #[.agg #[.string ⟨#[]⟩,.string ⟨#[]⟩],.bool false]))):=⟨⟨⟨#[]⟩,⟨#[]⟩⟩,false,rfl,.inr ⟨rfl,l rfl⟩⟩
   clear m l j;go_wp2;have F:=N9 w1 (w.heap.size+1) (.string ⟨#[]⟩) (.string ⟨#[]⟩) _ _ o n;refine K4 (v:=.tuple #[.agg #[.string ⟨#[]⟩,.string ⟨#[]⟩],.bool false]) (by simp [results,results81,go_sem,F.1,F.2]) rfl ⟨g.out,?_⟩;exact (d.setCell X0 _).setCell X0 _
 obtain ⟨i,rfl,c,s⟩:=m rfl;obtain ⟨b,q,H⟩:=T.Y8 z;rcases H with D | ⟨I,u,k⟩
 · rw [D] at c;exact absurd c (F5 _)
 subst I;have g0:=(d.cell (p:=⟨b,q+i*2,none⟩) u).trans (k i c).1;have g1:=(d.cell (p:=⟨b,q+i*2+1,none⟩) u).trans (k i c).2;have g:Hid (bL fs nm (.returned (.tuple #[.agg #[.string (fs.getD i P6).nm,.string (fs.getD i P6).tx],.bool true]))):=⟨_,true,rfl,.inl ⟨rfl,i,c,rfl,s⟩⟩;have C:Hid (∃ x,x=fs.getD i P6):=⟨_,rfl⟩;obtain ⟨x,hx⟩:=C.out;rw [<- hx] at g0 g1 g;clear m l j k C hx s;go_wp2;have F:=N9 w1 (w.heap.size+1) (.string x.nm) (.string x.tx) _ _ o n;refine K4 (v:=.tuple #[.agg #[.string x.nm,.string x.tx],.bool true]) (by simp [results,results81,go_sem,F.1,F.2]) rfl ⟨g.out,?_⟩;exact (d.setCell X0 _).setCell X0 _
open T (F2 P6 F3 Asc U0)
def Ia (ms:List M3) (nm:ByteArray):Prop:=∀ j,j<ms.length->(ms.getD j N7).nm≠nm
def sH (fs:List F2) (ms:List M3) (nm:ByteArray) (e:Ending):Prop:=∃ r,e=.returned (.bool r)/\(r=true↔¬ (Oa fs nm/\Ia ms nm))
theorem NH {fs:List F2} {g:Bool} (d:Asc fs) (h:T.Place fs nm p f) (k:(g=true/\∃ i,i<ms.length/\(ms.getD i N7).nm=nm)\/(g=false/\Ia ms nm)):sH fs ms nm (.returned (.bool (f || g))):=by
 obtain ⟨l,j⟩:=ek d h;refine ⟨_,rfl,?_⟩;cases f
 · rcases k with ⟨rfl,i,b,a⟩ | ⟨rfl,e⟩
   · exact ⟨fun _ c=>c.2 i b a,fun _=>rfl⟩
   exact ⟨(fun h=>by cases h),fun c=>absurd ⟨j rfl,e⟩ c⟩
 obtain ⟨i,_,b,a⟩:=l rfl;exact ⟨fun _ c=>c.1 i b a,fun _=>rfl⟩
theorem EP (a b:Option Addr) (cap pc:Nat) (fs:List F2) (ms:List M3) (nm:ByteArray) (w:World) (q:fs.length<=40) (v:F3 w a fs) (d:Asc fs) (o:ms.length<=300) (u:Ad w b ms) (n:En ms):
 Calls prog 61 #[.agg #[.slice a fs.length cap],.slice b ms.length pc,.string nm] w fun e w'=>sH fs ms nm e/\Below w.heap.size w w':=by
 have l:Below w.heap.size w (w.alloc (.cells #[.slice a fs.length cap] 25)):=bA;have h1:=T.c93 a cap fs nm _ q (U0 v l) d;go_enter func61,ntmps61
 go_wp2_with fail
 refine h1.mono ?_;rintro e w1 ⟨⟨p,f,rfl,c⟩,h⟩;have k:=l.trans (h.mono X0);have h2:=c51 b pc ms nm w1 o (X_ u k) n;clear h1 h
 go_wp2_with fail
 refine h2.mono ?_;rintro e w2 ⟨⟨x,g,rfl,hx⟩,t⟩;have j:=bT k t;have y:Hid (sH fs ms nm (.returned (.bool (f || g)))):=NH d c (by
  rcases hx with ⟨rfl,i,r,rfl,m⟩ | ⟨rfl,s⟩
  · exact .inl ⟨rfl,i,r,m⟩
  exact .inr ⟨rfl,s⟩)
 clear h2 hx c;cases f
 all_goals go_wp2
 all_goals go_ret
 all_goals exact ⟨y.out,j.alloc j.size _⟩
theorem w_ (h:b<w.heap.size) (j:Nat) (o:Obj):(w.alloc o).cell? ⟨b,j,none⟩=w.cell? ⟨b,j,none⟩:=((F4 _ w).alloc P9 o).cell (by exact h)
theorem sM (a:Below (w.heap.size+2) ((w.alloc (.cells #[v] 25)).alloc (.cells #[.int .i64 0,.string ⟨#[]⟩] 34)) u):
 u.cell? ⟨w.heap.size,0,none⟩=some v/\(u.cell? ⟨w.heap.size+1,0,none⟩=some (.int .i64 0)/\u.cell? ⟨w.heap.size+1,1,none⟩=some (.string ⟨#[]⟩))/\u.frozen? ⟨w.heap.size+1,0,none⟩=false/\u.frozen? ⟨w.heap.size+1,1,none⟩=false:=by
 have c:∀ b j,b<w.heap.size+2->u.cell? ⟨b,j,none⟩=((w.alloc (.cells #[v] 25)).alloc (.cells #[.int .i64 0,.string ⟨#[]⟩] 34)).cell? ⟨b,j,none⟩:=fun b j h=>a.cell (by exact h);have f:∀ b j,b<w.heap.size+2->u.frozen? ⟨b,j,none⟩=((w.alloc (.cells #[v] 25)).alloc (.cells #[.int .i64 0,.string ⟨#[]⟩] 34)).frozen? ⟨b,j,none⟩:=fun b j h=>a.frozen (by exact h);rw [c _ _ O0,c _ _ O0,c _ _ O0,f _ _ O0,f _ _ O0];simp [go_sem]
def gG (fs:List F2) (nm:ByteArray) (e:Ending):Prop:=∃ (c:Int) (t:ByteArray),e=.returned (.agg #[.int .i64 c,.string t])/\((c=0/\∃ i,i<fs.length/\(fs.getD i P6).nm=nm/\t=(fs.getD i P6).tx)\/(c=4/\t=nm/\Oa fs nm))
theorem qO (a:Option Addr) (cap:Nat) (fs:List F2) (nm:ByteArray) (w:World) (y:fs.length<=40) (B:F3 w a fs) (t:Asc fs):
 Calls prog 52 #[.agg #[.slice a fs.length cap],.string nm] w fun e w'=>gG fs nm e/\Below w.heap.size w w':=by
 have r:=fun u (A:Below w.heap.size w u)=>eQ a cap fs nm u y (U0 B A) t;have f:∀ o1 o2,Below w.heap.size w ((w.alloc o1).alloc o2):=fun o1 o2=>bA.alloc X0 _;go_enter func52,ntmps52
 go_wp2_with fail
 refine (r _ (f _ _)).mono ?_;rintro e w1 ⟨⟨x,g,rfl,hx⟩,d⟩;have q:=(f _ _).trans (d.mono J4);have n:Below (w.heap.size+2) ((w.alloc (.cells #[.slice a fs.length cap] 25)).alloc (.cells #[.int .i64 0,.string ⟨#[]⟩] 34)) w1:=by have h:=d;simp at h;exact h
 obtain ⟨t0,⟨m,l⟩,y0,y1⟩:=sM n;have p:w.heap.size+1<w1.heap.size:=by have:=n.size;simp at this;omega
 clear r d f;cases g
 · have j:Hid (gG fs nm (.returned (.agg #[.int .i64 4,.string nm]))):=⟨4,nm,rfl,.inr ⟨rfl,rfl,by
    rcases hx with ⟨h,_⟩ | ⟨_,h⟩
    · cases h
    exact h⟩⟩
   clear hx;go_wp2;have F:=N9 w1 (w.heap.size+1) (.int .i64 4) (.string nm) _ _ m l;have c:Below w.heap.size w ((w1.setCell ⟨w.heap.size+1,0,none⟩ (.int .i64 4)).setCell ⟨w.heap.size+1,1,none⟩ (.string nm)):=(q.setCell X0 _).setCell X0 _;have b:w.heap.size+1<((w1.setCell ⟨w.heap.size+1,0,none⟩ (.int .i64 4)).setCell ⟨w.heap.size+1,1,none⟩ (.string nm)).heap.size:=by simpa using p
   generalize ((w1.setCell ⟨w.heap.size+1,0,none⟩ (.int .i64 4)).setCell ⟨w.heap.size+1,1,none⟩ (.string nm))=U at*;have k:=fun o=>(w_ b 0 o).trans F.1;have F2:=fun o=>(w_ b 1 o).trans F.2;refine K4 (v:=.agg #[.int .i64 4,.string nm]) (by simp [results,results52,go_sem,k,F2]) rfl ⟨j.out,?_⟩;exact c.alloc c.size _
 have j:Hid (gG fs nm (.returned (.agg #[.int .i64 0,.string x.tx]))):=⟨0,x.tx,rfl,.inl ⟨rfl,by
  rcases hx with ⟨_,i,z,rfl,s⟩ | ⟨h,_⟩
  · exact ⟨i,z,s,rfl⟩
  cases h⟩⟩
 clear hx;go_wp2;have F:=N9 w1 (w.heap.size+1) (.int .i64 0) (.string x.tx) _ _ m l;have c:Below w.heap.size w ((w1.setCell ⟨w.heap.size+1,0,none⟩ (.int .i64 0)).setCell ⟨w.heap.size+1,1,none⟩ (.string x.tx)):=(q.setCell X0 _).setCell X0 _;have b:w.heap.size+1<((w1.setCell ⟨w.heap.size+1,0,none⟩ (.int .i64 0)).setCell ⟨w.heap.size+1,1,none⟩ (.string x.tx)).heap.size:=by simpa using p
 generalize ((w1.setCell ⟨w.heap.size+1,0,none⟩ (.int .i64 0)).setCell ⟨w.heap.size+1,1,none⟩ (.string x.tx))=U at*;have k:=fun o=>(w_ b 0 o).trans F.1;have F2:=fun o=>(w_ b 1 o).trans F.2;refine K4 (v:=.agg #[.int .i64 0,.string x.tx]) (by simp [results,results52,go_sem,k,F2]) rfl ⟨j.out,?_⟩;exact c.alloc c.size _
structure Zj (w:World):Prop where
 vr:Wq w
 gT:∃ t v,w.cell? ⟨0,0,none⟩=some (.iface t v)
theorem Zj.below {w':World} (h:Zj w) (a:Below w.heap.size w w'):Zj w':=by
 have hp:=h.vr.va.pos;obtain ⟨t,v,h0⟩:=h.gT;exact ⟨h.vr.below a,t,v,(a.cell (p:=⟨0,0,none⟩) (by show 0<w.heap.size;omega)).trans h0⟩
theorem Pt {fs:List F2} (h:X3 fs) (a:i<fs.length):(fs.getD i P6).tx.size<=300:=by
 have:=h.2 i a;unfold T.r_ at this;simp only [V7] at this;have h1:=this.1;unfold T.V9 at h1;simp only [V7,Q_] at h1;have:=h1.2;omega
def FO (w:World) (fs:List F2) (e:Ending) (w':World):Prop:=∃ (ms:List M3) (v er:Value),e=.returned (.tuple #[v,er])/\w'.ownsRow w.heap.size 47 3 v ms.length (R5 ms)/\((er=.nilIface/\H6 fs ms)\/((∃ n ty va,er=.iface 160 (.agg #[.int .i64 n,.iface ty va]))/\H6 fs []))
theorem c59 (a:Option Addr) (cap:Nat) (fs:List F2) (w:World) (t:X3 fs) (I:F3 w a fs) (hv:Zj w):
 Calls prog 59 #[.agg #[.slice a fs.length cap]] w fun e w'=>FO w fs e w'/\Below w.heap.size w w':=by
 have HV:=Q0 hv;have C:=Q0 t;have HAT:=Q0 I;have U:=t.1;have H:=T.di t;have HM:=Q0 H;have hB0:Below w.heap.size w (w.alloc (.cells #[.slice a fs.length cap] 25)):=bA;have N:=eQ a cap fs Rf _ U (T.U0 I hB0) H;clear hv t I H;unfold Rf at N;go_enter func59,ntmps59
 go_wp2_with fail
 refine N.mono ?_;rintro e w1 ⟨⟨x,there,rfl,hx⟩,Z⟩;clear N;have E:Below (w.heap.size+1) (w.alloc (.cells #[.slice a fs.length cap] 25)) w1:=by have h:=Z;simp at h;exact h
 have A:=hB0.trans (E.mono O0);have hz1:w.heap.size+1<=w1.heap.size:=by have:=E.size;simpa using this
 have t1:w1.cell? ⟨w.heap.size,0,none⟩=some (.slice a fs.length cap):=(E.cell (p:=⟨w.heap.size,0,none⟩) X0).trans (by simp [go_sem]);clear Z;cases there
 · have l:Hid (H6 fs []):=by
    rcases hx with ⟨h,_⟩ | ⟨_,h⟩
    · cases h
    exact .inr (.inl ⟨C.out,h,rfl⟩)
   clear hx;go_wp2;go_ret2;exact ⟨⟨[],_,_,rfl,F9 _ _ _ _,.inl ⟨rfl,l.out⟩⟩,A.alloc A.size _⟩
 have g:Hid (∃ i,i<fs.length/\fs.getD i P6=x/\x.nm=Rf):=by
  rcases hx with ⟨_,h⟩ | ⟨h,_⟩
  · exact h
  cases h
 have hxt:x.tx.size<=300:=by
  obtain ⟨i,d,rfl,_⟩:=g.out;exact Pt C.out d
 have s:Hid (∀ ks ok,U9 x.tx.data.toList ks ok->¬ (ok=true/\Tc fs ks)->H6 fs []):=fun ks ok c q=>by
  obtain ⟨i,d,rfl,F⟩:=g.out;exact .inr (.inr ⟨C.out,i,d,F,ks,ok,c,.inr ⟨q,rfl⟩⟩)
 have B:Hid (∀ ks,U9 x.tx.data.toList ks true->Tc fs ks->H6 fs ks):=fun ks c q=>by
  obtain ⟨i,d,rfl,F⟩:=g.out;exact .inr (.inr ⟨C.out,i,d,F,ks,true,c,.inl ⟨rfl,q,rfl⟩⟩)
 clear hx g;have hA1:Below w.heap.size w (w1.alloc (.cells #[.string x.nm,.string x.tx] 39)):=A.alloc A.size _
 go_wp2_with fail
 refine (IQ x.tx _ O0 (HV.out.below hA1).vr).mono ?_;rintro e m ⟨⟨ms,v,er,rfl,S,hor⟩,z⟩;have L:=bT hA1 z;have hz2:w1.heap.size+1<=m.heap.size:=by have:=z.size;simpa using this
 have t2:=(z.cell (p:=⟨w.heap.size,0,none⟩) J4).trans (past (by show w.heap.size<w1.heap.size;omega) t1 _);have R:m.ownsRow w.heap.size 47 3 v ms.length (R5 ms):=D5 S J4;clear S z;obtain ⟨ao,co,hvv⟩:=E9 R;subst hvv;rcases hor with ⟨rfl,c⟩ | ⟨⟨n,ty,va,rfl⟩,c⟩;rotate_left
 · have l:=Q0 (s.out _ _ c X0)
   clear c s B;go_wp2;go_ret2;exact ⟨⟨[],_,_,rfl,F9 _ _ _ _,.inr ⟨⟨n,ty,va,rfl⟩,l.out⟩⟩,L⟩
 have HP:=Q0 c;obtain ⟨hml,hms⟩:=Ak c;clear c
 go_wp2_with fail
 go_loopw [30] (fun i wr=>∃ (k:Nat),k<=ms.length/\i=.int .i64 k/\Hid (∀ j,j<k->Oa fs (ms.getD j N7).nm)/\Below m.heap.size m wr) (fun i _=>ms.length - (intOf i).toNat)
 case atStart=>exact ⟨0,I5 _,rfl,fun j h=>absurd h (F5 _),F4 _ _⟩
 obtain ⟨k,hk,rfl,V,r⟩:=hrel;have J:=bT L r;have Q:=ownsRow_below R r;have UR:=r.size;have tr:=(r.cell (p:=⟨w.heap.size,0,none⟩) (by show w.heap.size<m.heap.size;omega)).trans t2;by_cases u:k<ms.length;rotate_left
 · obtain rfl:k=ms.length:=O0
   have l:=Q0 (B.out _ HP.out (fun i d=>V.out i d));clear s B;go_wp2;go_ret2;exact ⟨⟨ms,_,_,rfl,Q,.inl ⟨rfl,l.out⟩⟩,J⟩
 obtain ⟨ao',co',hv',aT⟩:=J7 Q;injection hv' with e1 e2 e3;subst e1 e3;obtain ⟨b,off,hc⟩:=Pe aT;rcases hc with hss | ⟨hao,hbw,W⟩
 · rw [hss] at u;exact absurd u (F5 _)
 subst hao;obtain ⟨g0,g1,g2⟩:=W k u;have g:Hid (∃ y,y=ms.getD k N7):=⟨_,rfl⟩;obtain ⟨y,D⟩:=g.out;rw [<- D] at g0 g1 g2;have HY:=Q0 D;clear D g W aT;have hAr:∀ o,Below w.heap.size w (wr.alloc o):=fun o=>J.alloc J.size _;have PV:=fun o=>T.c93 a cap fs y.nm (wr.alloc o) U (T.U0 HAT.out (hAr o)) HM.out;have tr':=past (by show w.heap.size<wr.heap.size;omega) tr
 go_wp2_with fail
 refine (PV _).mono ?_;rintro e w3 ⟨⟨p,f,rfl,c⟩,Y⟩;obtain ⟨P,O⟩:=ek HM.out c;have X:=(r.alloc UR _).trans (Y.mono J4);have K:=bT L X;clear PV c Y;cases f
 · have eZ:Hid (∀ j,j<k+1->Oa fs (ms.getD j N7).nm):=fun j hj=>by
    rcases U5 j k with h | h
    · exact V.out j h
    obtain rfl:j=k:=O0;rw [<- HY.out];exact O rfl
   clear P O;go_wp2;go_roundw
   case rel=>exact ⟨k+1,O0,by go_num,eZ,X⟩
   case measure=>simp [intOf];omega
 have l:Hid (H6 fs []):=by
  refine s.out _ _ HP.out fun h=>?_;obtain ⟨i,_,d,q⟩:=P rfl;have:=h.2 k u i d;rw [<- HY.out] at this;exact this q
 obtain ⟨t5,v5,g5⟩:=(HV.out.below K).gT;clear P O s B
 go_wp2_with fail
 try go_region
 all_goals go_wp2
 all_goals go_ret2
 all_goals exact ⟨⟨[],_,_,rfl,F9 _ _ _ _,.inr ⟨⟨_,_,_,rfl⟩,l.out⟩⟩,by first | exact K | exact K.drew⟩
def FQ (w:World) (fs:List F2) (e:Ending) (w':World):Prop:=∃ (ms:List M3) (v:Value),e=.returned v/\w'.ownsRow w.heap.size 47 3 v ms.length (R5 ms)/\H6 fs ms
theorem c28 (a:Option Addr) (cap:Nat) (fs:List F2) (w:World) (F:fs.length<=1048576) (C:∀ i,(fs.getD i P6).le 1048576) (k:F3 w a fs) (hv:Zj w):
 Calls prog 28 #[.agg #[.slice a fs.length cap]] w fun e w'=>FQ w fs e w'/\Below w.heap.size w w':=by
 have y:=Q0 hv;have K:=Q0 k;have t:Below w.heap.size w (w.alloc (.cells #[.slice a fs.length cap] 25)):=bA;have x:=T.c18 a cap fs _ F C (T.U0 k t);clear hv k;go_enter func28,ntmps28
 go_wp2_with fail
 refine x.mono ?_;rintro e w1 ⟨⟨b,rfl,f⟩,s⟩;have j:Below (w.heap.size+1) (w.alloc (.cells #[.slice a fs.length cap] 25)) w1:=by have h:=s;simp at h;exact h
 have g:=t.trans (j.mono O0);have hz1:w.heap.size+1<=w1.heap.size:=by have:=j.size;simpa using this
 have t1:w1.cell? ⟨w.heap.size,0,none⟩=some (.slice a fs.length cap):=(j.cell (p:=⟨w.heap.size,0,none⟩) X0).trans (by simp [go_sem]);clear s x;cases b
 · have I:Hid (H6 fs []):=.inl ⟨(fun h=>by have:=f.2 h;cases this),rfl⟩
   clear f;go_wp2;go_ret;exact ⟨⟨[],_,rfl,F9 _ _ _ _,I.out⟩,g⟩
 have J:=Q0 (f.1 rfl);clear f;have u:=c59 a cap fs w1 J.out (T.U0 K.out g) (y.out.below g)
 go_wp2_with fail
 refine u.mono ?_;rintro e A ⟨⟨ms,v,er,rfl,r,E⟩,H⟩;have m:=bT g H;have q:A.ownsRow w.heap.size 47 3 v ms.length (R5 ms):=D5 r O0;obtain ⟨ao,co,B⟩:=E9 q;subst B;clear u r;rcases E with ⟨rfl,c⟩ | ⟨⟨n,ty,va,rfl⟩,c⟩
 · have o:=Q0 c
   clear c
   go_wp2_with fail
   refine (bI _).mono ?_;rintro e z ⟨rfl,d⟩;have D:=ownsRow_below q d;have l:=bT m d;go_wp2;go_ret;exact ⟨⟨ms,_,rfl,D,o.out⟩,l⟩
 have o:=Q0 c;clear c
 go_wp2_with fail
 refine (pI n ty va _ (y.out.below m).vr.va.g6).mono ?_;rintro e z ⟨rfl,d⟩;have l:=bT m d;go_wp2;go_ret;exact ⟨⟨[],_,rfl,F9 _ _ _ _,o.out⟩,l⟩
def uQ (fs:List F2) (e:Ending) (w':World):Prop:=∃ (ms:List M3) (a:Option Addr) (cap:Nat),e=.returned (.slice a ms.length cap)/\Ad w' a ms/\H6 fs ms
theorem c16 (a:Option Addr) (cap:Nat) (fs:List F2) (w:World) (O:fs.length<=1048576) (hs:∀ i,(fs.getD i P6).le 1048576) (Q:F3 w a fs):
 Calls prog 16 #[.agg #[.slice a fs.length cap]] w fun e w'=>uQ fs e w'/\Below w.heap.size w w':=by
 have U:=Q0 Q;have hB0:Below w.heap.size w (w.alloc (.cells #[.slice a fs.length cap] 25)):=bA;have q:=T.bO a cap fs Rf _ O (T.U0 Q hB0);clear Q;unfold Rf at q;go_enter func16,ntmps16
 go_wp2_with fail
 refine q.mono ?_;rintro e w1 ⟨⟨r,rfl,hr⟩,hb1⟩;have H:Below (w.heap.size+1) (w.alloc (.cells #[.slice a fs.length cap] 25)) w1:=by have h:=hb1;simp at h;exact h
 have hB1:=hB0.trans (H.mono O0);have hz1:w.heap.size+1<=w1.heap.size:=by have:=H.size;simpa using this
 have t1:w1.cell? ⟨w.heap.size,0,none⟩=some (.slice a fs.length cap):=(H.cell (p:=⟨w.heap.size,0,none⟩) X0).trans (by simp [go_sem]);have JV:=T.c8 a cap fs w1 O hs (T.U0 U.out hB1);clear hb1 q
 go_wp2_with fail
 refine JV.mono ?_;rintro e w2 ⟨⟨b,rfl,z⟩,v⟩;have l:=bT hB1 v;have hz2:=v.size;have V:=(v.cell (p:=⟨w.heap.size,0,none⟩) (by show w.heap.size<w1.heap.size;omega)).trans t1;clear JV v t1;cases b
 · have f:Hid (H6 fs []):=.inl ⟨(fun h=>by have:=z.2 h;cases this),rfl⟩
   clear z hr;go_wp2;go_ret;exact ⟨⟨[],_,_,rfl,.inl rfl,f.out⟩,l.alloc l.size _⟩
 have C:=Q0 (z.1 rfl);clear z;rcases hr with ⟨rfl,hno⟩ | ⟨i,rfl,g,J⟩
 · have f:Hid (H6 fs []):=.inr (.inl ⟨C.out,hno,rfl⟩)
   clear hno;go_wp2;go_ret;exact ⟨⟨[],_,_,rfl,.inl rfl,f.out⟩,l.alloc l.size _⟩
 have hxt:=Pt C.out g;have D:Hid (∀ ks ok,U9 (fs.getD i P6).tx.data.toList ks ok->¬ (ok=true/\Tc fs ks)->H6 fs []):=fun ks ok c L=>.inr (.inr ⟨C.out,i,g,J,ks,ok,c,.inr ⟨L,rfl⟩⟩);have B:Hid (∀ ks,U9 (fs.getD i P6).tx.data.toList ks true->Tc fs ks->H6 fs ks):=fun ks c L=>.inr (.inr ⟨C.out,i,g,J,ks,true,c,.inl ⟨rfl,L,rfl⟩⟩);obtain ⟨bf,Y,P⟩:=T.Y8 (T.U0 U.out l);rcases P with I | ⟨ha,hbw,n⟩
 · rw [I] at g;exact absurd g (F5 _)
 subst ha;have g1:=(n i g).2;have s:Hid (∃ x,x=fs.getD i P6):=⟨_,rfl⟩;obtain ⟨x,hx⟩:=s.out;rw [<- hx] at g1 D B hxt;clear n s hx J
 go_wp2_with fail
 refine (vQ x.tx _ O0).mono ?_;rintro e E ⟨⟨ms,ok,am,cm,rfl,aT,c⟩,t⟩;have hB3:=bT l t;have hz3:=t.size;have t3:=(t.cell (p:=⟨w.heap.size,0,none⟩) (by show w.heap.size<w2.heap.size;omega)).trans V;have HP:=Q0 c;obtain ⟨hml,hms⟩:=Ak c;have a0O:=Q0 aT;clear c t V aT
 go_wp2_with fail
 go_loopw [5,6] (fun o i wr=>∃ (k:Nat) (b:Bool),k<=ms.length/\i=.int .i64 k/\o=.bool b/\Hid (b=true↔ok=true/\∀ j,j<k->Oa fs (ms.getD j N7).nm)/\Below E.heap.size E wr) (fun _ i _=>ms.length - (intOf i).toNat)
 case atStart=>exact ⟨0,ok,I5 _,rfl,rfl,⟨fun h=>⟨h,fun j h=>absurd h (F5 _)⟩,fun h=>h.1⟩,F4 _ _⟩
 obtain ⟨k,b,hk,rfl,rfl,m,d⟩:=hrel;have A:=bT hB3 d;have UR:=d.size;have tr:=(d.cell (p:=⟨w.heap.size,0,none⟩) (by show w.heap.size<E.heap.size;omega)).trans t3;by_cases N:k<ms.length;rotate_left
 · obtain rfl:k=ms.length:=O0
   cases b
   · have f:=Q0 (D.out _ _ HP.out (fun h=>by have:=m.out.2 h;cases this))
     clear D B;go_wp2;go_ret;exact ⟨⟨[],_,_,rfl,.inl rfl,f.out⟩,A.alloc A.size _⟩
   obtain ⟨h1,h2⟩:=m.out.1 rfl;subst h1;have f:=Q0 (B.out _ HP.out h2);have a2z:=Q0 (X_ a0O.out d);clear D B h2;go_wp2;go_ret;exact ⟨⟨ms,_,_,rfl,a2z.out,f.out⟩,A⟩
 cases b
 · have eZ:Hid (false=true↔ok=true/\∀ j,j<k+1->Oa fs (ms.getD j N7).nm):=⟨(fun h=>by cases h),fun h=>m.out.2 ⟨h.1,fun j hj=>h.2 j O0⟩⟩
   go_wp2_with fail
   refine F7 (S:=(fun _=>True)) U2 ?_ fun hHeld=>?_
   · ((try dsimp only);(first | done | trivial))
   refine I4 0 hHeld ?_;refine I4 1 hHeld ?_;refine I8 2 hHeld ?_;refine I8 3 hHeld ?_;refine I8 4 hHeld ?_;refine I8 5 hHeld ?_;refine I8 6 hHeld ?_;refine I8 7 hHeld ?_;refine I8 8 hHeld ?_;refine I8 9 hHeld ?_;refine I4 10 hHeld ?_;refine I4 11 hHeld ?_;refine a_ ?_;clear hHeld;go_wp2;go_roundw
   case rel=>exact ⟨k+1,false,O0,by go_num,rfl,eZ,d.drew⟩
   case measure=>simp [intOf];omega
 obtain ⟨bm,X,P⟩:=Pe (X_ a0O.out d);rcases P with I | ⟨hao,a2A,n⟩
 · rw [I] at N;exact absurd N (F5 _)
 subst hao;have g0:=(n k N).1;have s:Hid (∃ y,y=ms.getD k N7):=⟨_,rfl⟩;obtain ⟨y,F⟩:=s.out;rw [<- F] at g0;have HY:=Q0 F;clear F s n;have hwz:w.heap.size<wr.heap.size:=O0;have q:=fun u (hu:Below w.heap.size w u)=>T.bO (some ⟨bf,Y,none⟩) cap fs y.nm u O (T.U0 U.out hu)
 go_wp2_with fail
 refine F7 (S:=(fun u=>u.cell? ⟨w.heap.size,0,none⟩=some (.slice (some ⟨bf,Y,none⟩) fs.length cap)/\u.cell? ⟨bm,X+k*3,none⟩=some (.string y.nm))) U2 ?_ fun hHeld=>?_
 · ((try dsimp only);go_keep)
 refine I4 0 hHeld ?_;refine I4 1 hHeld ?_;refine I4 2 hHeld ?_;refine I4 3 hHeld ?_;refine I4 4 hHeld ?_;refine I4 5 hHeld ?_;refine I4 6 hHeld ?_;refine I4 7 hHeld ?_;refine rq 8 fun K hK=>?_;go_simp;refine (q _ A.drew).mono ?_;rintro e w4 ⟨⟨W,rfl,hr4⟩,hb4⟩;have R:Hid (Below wr.heap.size wr w4):=(F4 _ _).drew.trans hb4;have HR4:=Q0 hr4;clear hr4;have e1:=(R.out.cell (p:=⟨w.heap.size,0,none⟩) (by exact hwz)).trans tr;have e2:=(R.out.cell (p:=⟨bm,X+k*3,none⟩) (by exact a2A)).trans g0
 go_wp2_with fail
 clear hHeld;refine Ls hK fun hHeld=>?_;clear hK K;refine I4 9 hHeld ?_;refine I4 10 hHeld ?_;refine I4 11 hHeld ?_;refine a_ ?_;clear hHeld;have a2B:=d.trans (R.out.mono UR);have HF:Hid (decide (W<0)=true↔ok=true/\∀ j,j<k+1->Oa fs (ms.getD j N7).nm):=by
  constructor
  · intro h
    have h:=of_decide_eq_true h;refine ⟨(m.out.1 (by first | rfl | trivial)).1,fun j hj=>?_⟩;rcases U5 j k with h1 | h1
    · exact (m.out.1 (by first | rfl | trivial)).2 j h1
    obtain rfl:j=k:=O0;rw [<- HY.out];rcases HR4.out with ⟨_,h2⟩ | ⟨Z,h2,_⟩
    · exact h2
    omega
  intro h;apply Xm;rcases HR4.out with ⟨h2,_⟩ | ⟨Z,h2,h3,h4⟩
  · omega
  exact absurd (by rw [<- HY.out];exact h4) (h.2 k O0 Z h3)
 go_wp2;go_roundw
 case rel=>exact ⟨k+1,decide (W<0),O0,by go_num,rfl,HF,a2B⟩
 case measure=>simp [intOf];omega
open T (F2 P6 F3 Asc U0 X3 lt F_)
theorem lG (h:K_ ms=true):En ms:=by
 have h2:=((Ee ms).1 h).2;have step:∀ j,j+1<ms.length->lt (ms.getD j N7).nm (ms.getD (j+1) N7).nm=true:=fun j a=>by
  have:=h2 (j+1) a;unfold La at this;simp only [V7,Rl,Q_] at this;rcases this.2 with h | h
  · omega
  exact h
 intro i j hij
 induction j with
 | zero=>omega
 | succ j ih=>
  intro a;rcases U5 i j with h1 | h1
  · exact F_ (ih h1 O0) (step j a)
  obtain rfl:i=j:=O0;exact step i a
theorem Dv:En []:=fun _ _ _ h=>absurd h (F5 _)
theorem Lf {fs:List F2} (h:H6 fs ms):En ms:=by
 rcases h with ⟨_,rfl⟩ | ⟨_,_,rfl⟩ | ⟨_,i,hi,hn,ks,ok,b,a⟩
 · exact Dv
 · exact Dv
 rcases a with ⟨rfl,_,rfl⟩ | ⟨_,rfl⟩
 · exact lG (b.1 rfl).1
 exact Dv
theorem Yt (a:En ms) (c:i<ms.length) (b:j<ms.length) (e:(ms.getD i N7).nm=(ms.getD j N7).nm):i=j:=by
 rcases yo i j with h1 | h1 | h1
 · have:=a i j h1 b
   rw [e,T.N_] at this;cases this
 · exact h1
 have:=a j i h1 c;rw [e,T.N_] at this;cases this
theorem sQ (a:Below (w.heap.size+2) ((w.alloc (.cells #[v] 25)).alloc (.cells #[.string ⟨#[]⟩,.string ⟨#[]⟩,.string ⟨#[]⟩] 47)) u):
 (u.cell? ⟨w.heap.size+1,0,none⟩=some (.string ⟨#[]⟩)/\u.cell? ⟨w.heap.size+1,1,none⟩=some (.string ⟨#[]⟩)/\u.cell? ⟨w.heap.size+1,2,none⟩=some (.string ⟨#[]⟩))/\u.frozen? ⟨w.heap.size+1,0,none⟩=false/\u.frozen? ⟨w.heap.size+1,1,none⟩=false/\u.frozen? ⟨w.heap.size+1,2,none⟩=false:=by
 have c:∀ b j,b<w.heap.size+2->u.cell? ⟨b,j,none⟩=((w.alloc (.cells #[v] 25)).alloc (.cells #[.string ⟨#[]⟩,.string ⟨#[]⟩,.string ⟨#[]⟩] 47)).cell? ⟨b,j,none⟩:=fun b j h=>a.cell (by exact h);have f:∀ b j,b<w.heap.size+2->u.frozen? ⟨b,j,none⟩=((w.alloc (.cells #[v] 25)).alloc (.cells #[.string ⟨#[]⟩,.string ⟨#[]⟩,.string ⟨#[]⟩] 47)).frozen? ⟨b,j,none⟩:=fun b j h=>a.frozen (by exact h);rw [c _ _ O0,c _ _ O0,c _ _ O0,f _ _ O0,f _ _ O0,f _ _ O0];simp [go_sem]
def IK (fs:List F2) (nm:ByteArray) (e:Ending):Prop:=∃ ms,H6 fs ms/\EI ms nm e
theorem c37 (a:Option Addr) (cap:Nat) (fs:List F2) (nm:ByteArray) (w:World) (K:fs.length<=1048576) (p:∀ i,(fs.getD i P6).le 1048576) (z:F3 w a fs):
 Calls prog 37 #[.agg #[.slice a fs.length cap],.string nm] w fun e w'=>IK fs nm e/\Below w.heap.size w w':=by
 have C:=fun u (N:Below w.heap.size w u)=>c16 a cap fs u K p (U0 z N);have B:∀ o1 o2,Below w.heap.size w ((w.alloc o1).alloc o2):=fun o1 o2=>bA.alloc X0 _;go_enter func37,ntmps37
 go_wp2_with fail
 refine (C _ (B _ _)).mono ?_;rintro e w1 ⟨⟨ms,a1,qY,rfl,r,d⟩,f⟩;have A:=(B _ _).trans (f.mono J4);have o:Below (w.heap.size+2) ((w.alloc (.cells #[.slice a fs.length cap] 25)).alloc (.cells #[.string ⟨#[]⟩,.string ⟨#[]⟩,.string ⟨#[]⟩] 47)) w1:=by have h:=f;simp at h;exact h
 obtain ⟨⟨n,m,l⟩,y0,y1,y2⟩:=sQ o;have hlm:=WE d;obtain ⟨b,off,y⟩:=Pe r;have P:=Q0 y;have H:=Q0 d;clear y r d C f o z p
 go_wp2_with fail
 go_loop [7] (fun i=>∃ k:Nat,k<=ms.length/\i=.int .i64 k/\Hid (∀ j,j<k->(ms.getD j N7).nm≠nm)) (fun i=>ms.length - (intOf i).toNat)
 case atStart=>exact ⟨0,I5 _,rfl,fun j h=>absurd h (F5 _)⟩
 obtain ⟨k,hk,rfl,q⟩:=hrel;by_cases c:k<ms.length;rotate_left
 · have g:Hid (IK fs nm (.returned (.tuple #[.agg #[.string ⟨#[]⟩,.string ⟨#[]⟩,.string ⟨#[]⟩],.bool false]))):=⟨ms,H.out,⟨⟨#[]⟩,⟨#[]⟩,⟨#[]⟩⟩,false,rfl,.inr ⟨rfl,fun j L=>q.out j O0⟩⟩
   go_wp2;have F:=Pb w1 (w.heap.size+1) 0 (.string ⟨#[]⟩) (.string ⟨#[]⟩) (.string ⟨#[]⟩) _ _ _ n m l;refine K4 (v:=.tuple #[.agg #[.string ⟨#[]⟩,.string ⟨#[]⟩,.string ⟨#[]⟩],.bool false]) (by simp [results,results37,go_sem,F.1,F.2.1,F.2.2]) rfl ⟨g.out,?_⟩;exact ((A.setCell X0 _).setCell X0 _).setCell X0 _
 rcases P.out with I | ⟨O,hbw,t⟩
 · rw [I] at c;exact absurd c (F5 _)
 subst O;obtain ⟨g0,g1,g2⟩:=t k c;have E:Hid (∃ x,x=ms.getD k N7):=⟨_,rfl⟩;obtain ⟨x,hx⟩:=E.out;rw [<- hx] at g0 g1 g2;have D:=Q0 hx;clear t hx E;cases hq:(x.nm.toList==nm.toList)
 · have J:Hid (∀ j,j<k+1->(ms.getD j N7).nm≠nm):=fun j L=>by
    rcases U5 j k with h | h
    · exact q.out j h
    obtain rfl:j=k:=O0;rw [<- D.out];intro e;rw [e] at hq;simp at hq
   go_wp2
   go_round
   case rel=>exact ⟨k+1,O0,by go_num,J⟩
   case measure=>simp [intOf];omega
 have s:x.nm=nm:=by
  have:=Vf.1 hq;rw [I7,I7] at this;exact Hd (ag.1 this)
 have g:Hid (IK fs nm (.returned (.tuple #[.agg #[.string x.nm,.string x.tl,.string x.ar],.bool true]))):=⟨ms,H.out,x,true,rfl,.inl ⟨rfl,k,c,D.out.symm,s⟩⟩;clear s;go_wp2;have F:=Pb w1 (w.heap.size+1) 0 (.string x.nm) (.string x.tl) (.string x.ar) _ _ _ n m l;refine K4 (v:=.tuple #[.agg #[.string x.nm,.string x.tl,.string x.ar],.bool true]) (by simp [results,results37,go_sem,F.1,F.2.1,F.2.2]) rfl ⟨g.out,?_⟩;exact ((A.setCell X0 _).setCell X0 _).setCell X0 _
open T (F2 P6 F3 Asc U0 X3)
def KH (fs:List F2) (nm:ByteArray) (e:Ending):Prop:=∃ r,e=.returned (.bool r)/\((∃ i,i<fs.length/\(fs.getD i P6).nm=nm)/\r=true\/∃ ms,H6 fs ms/\sH fs ms nm e)
theorem TP (a:Option Addr) (cap:Nat) (fs:List F2) (nm:ByteArray) (w:World) (t:fs.length<=1048576) (s:∀ i,(fs.getD i P6).le 1048576) (m:F3 w a fs):
 Calls prog 39 #[.agg #[.slice a fs.length cap],.string nm] w fun e w'=>KH fs nm e/\Below w.heap.size w w':=by
 have v:∀ o1,Below w.heap.size w (w.alloc o1):=fun o1=>bA;have y:=fun u (l:Below w.heap.size w u)=>T.bO a cap fs nm u t (U0 m l);have q:=fun u (l:Below w.heap.size w u)=>c37 a cap fs nm u t s (U0 m l);clear m s;go_enter func39,ntmps39
 go_wp2_with fail
 refine (y _ (v _)).mono ?_;rintro e w1 ⟨⟨r,rfl,z⟩,k⟩;have o:=(v _).trans (k.mono X0);have t0:w1.cell? ⟨w.heap.size,0,none⟩=some (.slice a fs.length cap):=(k.cell (p:=⟨w.heap.size,0,none⟩) X0).trans (by simp [go_sem]);clear k y;rcases z with ⟨rfl,d⟩ | ⟨i,rfl,j,b⟩;rotate_left
 · have f:Hid (KH fs nm (.returned (.bool true))):=⟨true,rfl,.inl ⟨⟨i,j,b⟩,rfl⟩⟩
   clear q b;go_wp2;go_ret;exact ⟨f.out,o⟩
 have C:Hid (Oa fs nm):=d;clear d
 go_wp2_with fail
 refine (q _ o).mono ?_;rintro e w2 ⟨⟨ms,A,x,g,rfl,hx⟩,B⟩;have n:=bT o B;have f:Hid (KH fs nm (.returned (.bool g))):=⟨g,rfl,.inr ⟨ms,A,g,rfl,by
  rcases hx with ⟨rfl,i,j,rfl,b⟩ | ⟨rfl,d⟩
  · exact ⟨fun _ c=>c.2 i j b,fun _=>rfl⟩
  exact ⟨(fun h=>by cases h),fun c=>absurd ⟨C.out,d⟩ c⟩⟩⟩
 clear hx q;go_wp2;go_ret
 first
  | exact ⟨f.out,n⟩
  | exact ⟨f.out,n.alloc n.size _⟩
end Go.Proofs.YtdjaajjndfbpmaaGreatDoor.G
namespace Go.Proofs.YtdjaajjndfbpmaaGreatDoor
open Proofs.Tryz
open Go.RowKit
def dO (t:TN) (n:Nat):Prop:=(t.over=true/\vr t.code t.text.data.toList=true)\/(t.over=false/\J2 t.name.data.toList=true/\n<=13)
theorem EN:∀ p:Fin 41,Q8 (Lib.decDigits p.1)=true:=by decide +kernel
theorem Uz {p:Nat} (h:p<=40):vr 2 (Q3 (Lib.decDigits p)).data.toList=true:=by
 have:=EN ⟨p,O0⟩;simpa [vr,Q3] using this
theorem lg {c:Int} {l:List UInt8} (a:c=4\/c=5\/c=7) (h:J2 l=true):vr c l=true:=by
 unfold vr;rw [R3 O0,R3 O0,R3 O0,Y3 a];exact h
theorem yw {c:Int} {l:List UInt8} (a:c=0\/c=1) (h:l.length<=300):vr c l=true:=by
 unfold vr;rw [Y3 a];simpa using h
theorem rJ {x:I3} {nR:List R2} {s a:ST} (e:look x nR s=.inl a):a.pc=s.pc+1:=by
 unfold look at e
 repeat' split at e
 all_goals first | (cases e;done) | (cases e;rfl)
theorem QK {arg:ByteArray} {nR:List R2} {x:I3} {s a:ST} (hx:Zb x=true) (hpc:s.pc<=39) (e:act arg nR x s=.inl a):a.pc<=40:=by
 have ht:x.to<=40:=by
  unfold Zb at hx;simp only [V7,Q_] at hx;exact hx.1.2.2
 unfold act at e;split at e
 · cases e;show s.pc+1<=40;omega
 split at e
 · cases e;show s.pc+1<=40;omega
 split at e
 · split at e
   · cases e
   cases e;show s.pc+1<=40;omega
 split at e
 · split at e
   · cases e
   cases e;show s.pc+1<=40;omega
 split at e
 · cases e;show s.pc+1<=40;omega
 split at e
 · cases e
   show (if s.hand.data.toList=x.tx.data.toList then x.to.toNat else s.pc+1)<=40;by_cases b:s.hand.data.toList=x.tx.data.toList
   · rw [Y3 b];omega
   rw [R3 b];omega
 split at e
 · cases e;show x.to.toNat<=40;omega
 split at e
 · cases e
 split at e
 · cases e
 have:=rJ e;omega
theorem bH {x:I3} {nR:List R2} {s:ST} {t:TN} (h:Fit nR s) (e:look x nR s=.inr t):dO t nR.length:=by
 unfold look at e;split at e
 · cases e;exact .inl ⟨rfl,show vr 4 [63]=true by decide⟩
 rename_i b;have a:J2 s.hand.data.toList=true:=by simpa using b
 split at e
 · cases e;exact .inl ⟨rfl,show vr 3 []=true by decide⟩
 split at e
 · cases e
   exact .inr ⟨rfl,a,by have:=h.looks;omega⟩
 split at e
 · cases e
 split at e
 · cases e;exact .inl ⟨rfl,lg (.inl rfl) a⟩
 split at e
 · cases e
 cases e;exact .inl ⟨rfl,lg (.inr (.inl rfl)) a⟩
theorem mJ {arg:ByteArray} {nR:List R2} {x:I3} {s:ST} {t:TN} (h:Fit nR s) (a:s.pc<=40) (e:act arg nR x s=.inr t):dO t nR.length:=by
 unfold act at e;split at e
 · cases e
 split at e
 · cases e
 split at e
 · split at e
   · cases e;exact .inl ⟨rfl,Uz a⟩
   cases e
 split at e
 · split at e
   · cases e;exact .inl ⟨rfl,Uz a⟩
   cases e
 split at e
 · cases e
 split at e
 · cases e
 split at e
 · cases e
 split at e
 · cases e;exact .inl ⟨rfl,yw (.inl rfl) (show s.out.toArray.toList.length<=300 by have:=h.out;simpa using this)⟩
 split at e
 · cases e;exact .inl ⟨rfl,yw (.inr rfl) (show s.hand.data.toList.length<=300 by have:=h.hand;simpa using this)⟩
 exact bH h e
theorem dC {T:List I3} {arg:ByteArray} {nR:List R2} (d:Zd T=true) (c:arg.size<=300) (b:Tp nR=true):∀ n s,Fit nR s->s.pc<=40->202 - s.steps<=n->dO (ZA T arg nR n s) nR.length
 | 0,s,hf,hp,hn=>by have:=hf.steps;omega
 | n+1,s,hf,hp,hn=>by
  have a:=d;unfold Zd at a;simp only [V7,Q_] at a;unfold ZA
  cases hs:step T arg nR s with
  | inl s'=>
   have e:=hs;unfold step at hs;split at hs
   · cases hs
   rename_i h1;split at hs
   · cases hs
   rename_i h2;have hx:Zb (T.getD s.pc A_)=true:=Nf.1 a.2 _ (by simp [List.getD,F8 (show s.pc<T.length by omega)]);exact dC d c b n s' (QB hx c b hf O0 O0 hs) (QK hx O0 hs) (by have:=(Pw e).2;omega)
  | inr t=>
   unfold step at hs;split at hs
   · cases hs;exact .inl ⟨rfl,Uz hp⟩
   split at hs
   · cases hs;exact .inl ⟨rfl,show vr 3 []=true by decide⟩
   exact mJ hf hp hs
theorem wy {T:List I3} {arg:ByteArray} {nR:List R2} (c:Zd T=true) (b:arg.size<=300) (a:Tp nR=true) (d:nR.length<=14):dO (l9 T arg nR) nR.length:=by
 unfold l9;rw [Y3 ⟨c,b,d,a⟩];exact dC c b a 202 s0 (jo nR) (by simp [s0]) (by simp [s0])
noncomputable def oL (tl ar:ByteArray) (ls:List M.L4):TN×RS:=ls.foldl (fun p x=>P7 tl ar p.2 ⟨x.cd,x.tx⟩) (⟨false,0,⟨#[]⟩,false,tl,0⟩,Mj)
theorem Sw (tl ar:ByteArray) (ls:List M.L4) (x:M.L4):oL tl ar (ls++[x])=P7 tl ar (oL tl ar ls).2 ⟨x.cd,x.tx⟩:=by
 unfold oL;rw [Ev];rfl
noncomputable def tn (m:M3) (ls:List M.L4):TN:=(oL m.tl m.ar ls).1
noncomputable def Sg (m:M3) (ls:List M.L4):RS:=(oL m.tl m.ar ls).2
theorem Hl (m:M3) (ls:List M.L4) (x:M.L4):tn m (ls++[x])=(P7 m.tl m.ar (Sg m ls) ⟨x.cd,x.tx⟩).1:=by unfold tn Sg;rw [Sw]
theorem Wl (m:M3) (ls:List M.L4) (x:M.L4):Sg m (ls++[x])=(P7 m.tl m.ar (Sg m ls) ⟨x.cd,x.tx⟩).2:=by unfold Sg;rw [Sw]
structure RInv (m:M3) (ls:List M.L4):Prop where
 over:(tn m ls).over=true->vr (tn m ls).code (tn m ls).text.data.toList=true
 name:(tn m ls).over=false->J2 (tn m ls).name.data.toList=true/\ls.length<=14
 has:(tn m ls).over=false->ls≠[]->(Sg m ls).has=true/\Zd (Sg m ls).T=true/\(Sg m ls).nR.length+1=ls.length/\Tp (Sg m ls).nR=true
theorem pG {m:M3} (a:W_ m=true):RInv m []:=by
 have e:J2 m.tl.data.toList=true:=by
  have h:=a;unfold W_ at h;simp only [V7] at h;exact h.1.2
 exact ⟨fun h=>by simp [tn,oL] at h,fun _=>⟨e,X0⟩,fun _ h=>absurd rfl h⟩
theorem Lm {m:M3} (a:W_ m=true):J2 m.nm.data.toList=true/\J2 m.tl.data.toList=true/\m.ar.size<=300:=by
 have h:=a;unfold W_ at h;simp only [V7,Q_] at h;exact ⟨h.1.1,h.1.2,by have:=h.2;omega⟩
theorem Ig {m:M3} {ls:List M.L4} {t:TN} (e:tn m ls=t) (h:t.over=true) (h2:vr t.code t.text.data.toList=true):RInv m ls:=by
 subst e;exact ⟨fun _=>h2,fun k=>(by rw [h] at k;cases k),fun k=>(by rw [h] at k;cases k)⟩
theorem Zn {m:M3} (u:W_ m=true) {ls:List M.L4} (h:RInv m ls) (ho:(tn m ls).over=false) {x:M.L4} (hx:vr x.cd x.tx.data.toList=true):RInv m (ls++[x]):=by
 obtain ⟨_,l,s⟩:=Lm u;have hlen:=(h.name ho).2;by_cases i:(Sg m ls).has=true
 · have n:ls≠[]:=fun e=>by subst e;simp [Sg,oL,Mj] at i
   obtain ⟨_,g,hl,r⟩:=h.has ho n;have q:Tp ((Sg m ls).nR++[⟨x.cd,x.tx⟩])=true:=by
    unfold Tp at r ⊢;rw [Vi,r];simp [hx]
   have f:=wy g s q J4;have k:tn m (ls++[x])=l9 (Sg m ls).T m.ar ((Sg m ls).nR++[⟨x.cd,x.tx⟩]):=by rw [Hl,P7,Y3 i]
   have o:Sg m (ls++[x])=⟨true,(Sg m ls).T,(Sg m ls).nR++[⟨x.cd,x.tx⟩]⟩:=by rw [Wl,P7,Y3 i]
   rw [<- k] at f;rcases f with ⟨b,a⟩ | ⟨b,a,p⟩
   · exact Ig rfl b a
   have:(ls++[x]).length<=14:=by simp at p ⊢;omega
   exact ⟨fun h=>(by rw [b] at h;cases h),fun _=>⟨a,this⟩,fun _ _=>by rw [o];exact ⟨rfl,g,J4,q⟩⟩
 have v:=Ph fun n=>i (h.has ho n).1;subst v;have j:Sg m []=Mj:=rfl;by_cases h0:x.cd=0;rotate_left
 · by_cases t:x.cd=4
   · have c:tn m ([]++[x])=l6 4 m.tl 0:=by rw [Hl,j];simp [P7,Mj,t]
     exact Ig c rfl (lg (.inl rfl) l)
   have c:tn m ([]++[x])=l6 5 m.tl 0:=by rw [Hl,j];simp [P7,Mj,h0,t]
   exact Ig c rfl (lg (.inr (.inl rfl)) l)
 have e:P7 m.tl m.ar Mj ⟨x.cd,x.tx⟩=(Oc m.tl m.ar x.tx.data.toList,⟨(Ca x.tx.data.toList).2,(Ca x.tx.data.toList).1,[]⟩):=by simp [P7,Mj,h0]
 have k:tn m ([]++[x])=Oc m.tl m.ar x.tx.data.toList:=by rw [Hl,j,e]
 have o:Sg m ([]++[x])=⟨(Ca x.tx.data.toList).2,(Ca x.tx.data.toList).1,[]⟩:=by rw [Wl,j,e]
 by_cases d:(Ca x.tx.data.toList).2=true;rotate_left
 · have c:tn m ([]++[x])=l6 7 m.tl 0:=by rw [k,Oc,R3 d]
   exact Ig c rfl (lg (.inr (.inr rfl)) l)
 have g:Zd (Ca x.tx.data.toList).1=true:=by
  rcases Yx x.tx.data.toList with h | h
  · rw [h] at d;cases d
  exact (h.1 d).1
 have f:=wy g s (nR:=[]) rfl X0;have c:tn m ([]++[x])=l9 (Ca x.tx.data.toList).1 m.ar []:=by rw [k,Oc,Y3 d]
 rw [<- c] at f;rcases f with ⟨b,a⟩ | ⟨b,a,p⟩
 · exact Ig rfl b a
 exact ⟨fun h=>(by rw [b] at h;cases h),fun _=>⟨a,X0⟩,fun _ _=>by rw [o];exact ⟨d,g,X0,rfl⟩⟩
structure Env where
 ms:List M3
 sn:ByteArray->R2
 pl:ByteArray->Option R2
structure Y7 (E:Env):Prop where
 sn:∀ n,J2 n.data.toList=true->E.sn n=⟨0,⟨#[]⟩⟩\/E.sn n=⟨4,n⟩
 pl:∀ n r,J2 n.data.toList=true->E.pl n=some r->vr r.code r.tx.data.toList=true
 ms:∀ m,m∈E.ms->W_ m=true
 one:∀ m m',m∈E.ms->m'∈E.ms->m.nm=m'.nm->m=m'
 made:∀ n,E.pl n=none↔∃ m,m∈E.ms/\m.nm=n
def oq (t:TN) (r:R2):M.L4:=⟨t.has,t.name,r.code,r.tx⟩
def Pj (t:TN):R2:=⟨t.code,t.text⟩
inductive I9 (E:Env):M3->List M.L4->Prop
 | nil (m:M3):I9 E m []
 | seen {m:M3} {ls:List M.L4}:I9 E m ls->(tn m ls).over=false->(tn m ls).has=true->I9 E m (ls++[oq (tn m ls) (E.sn (tn m ls).name)])
 | plain {m:M3} {ls:List M.L4} {r:R2}:I9 E m ls->(tn m ls).over=false->(tn m ls).has=false->E.pl (tn m ls).name=some r->I9 E m (ls++[oq (tn m ls) r])
 | made {m m':M3} {ls ls':List M.L4}:I9 E m ls->(tn m ls).over=false->(tn m ls).has=false->E.pl (tn m ls).name=none->m'∈E.ms->m'.nm=(tn m ls).name->I9 E m' ls'->(tn m' ls').over=true->I9 E m (ls++[oq (tn m ls) (Pj (tn m' ls'))])
def Fin (E:Env) (n:ByteArray) (r:R2):Prop:=∃ m ls,m∈E.ms/\m.nm=n/\I9 E m ls/\(tn m ls).over=true/\r=Pj (tn m ls)
def Zy (E:Env) (t:TN) (r:R2):Prop:=(t.has=true/\r=E.sn t.name)\/(t.has=false/\(E.pl t.name=some r\/(E.pl t.name=none/\Fin E t.name r)))
theorem Jw {E:Env} {m:M3} {ls:List M.L4} {r:R2} (h:I9 E m ls) (ho:(tn m ls).over=false) (a:Zy E (tn m ls) r):I9 E m (ls++[oq (tn m ls) r]):=by
 rcases a with ⟨h1,rfl⟩ | ⟨h1,h2 | ⟨h2,m',ls',h3,d,c,b,rfl⟩⟩
 · exact h.seen ho h1
 · exact h.plain ho h1 h2
 exact h.made ho h1 h2 h3 d c b
theorem Tn {E:Env} {m:M3} {L:List M.L4} (h:I9 E m L):∀ ls x,L=ls++[x]->I9 E m ls/\(tn m ls).over=false/\∃ r,x=oq (tn m ls) r/\Zy E (tn m ls) r:=by
 cases h with
 | nil=>intro ls x e;simp at e
 | seen h1 h2 h3=>intro ls x e;obtain ⟨b,a⟩:=iA e rfl;subst b;cases a;exact ⟨h1,h2,_,rfl,.inl ⟨h3,rfl⟩⟩
 | plain h1 h2 h3 h4=>intro ls x e;obtain ⟨b,a⟩:=iA e rfl;subst b;cases a;exact ⟨h1,h2,_,rfl,.inr ⟨h3,.inl h4⟩⟩
 | made h1 h2 h3 h4 h5 h6 h7 h8=>intro ls x e;obtain ⟨b,a⟩:=iA e rfl;subst b;cases a;exact ⟨h1,h2,_,rfl,.inr ⟨h3,.inr ⟨h4,_,_,h5,h6,h7,h8,rfl⟩⟩⟩
theorem ku {α:Type} {P:List α->Prop} (h0:P []) (h1:∀ ls x,P ls->P (ls++[x])) (l:List α):P l:=by
 have:∀ r:List α,P r.reverse:=fun r=>by
  induction r with
  | nil=>exact h0
  | cons x r ih=>rw [List.reverse_cons];exact h1 _ _ ih
 simpa using this l.reverse
theorem CG {E:Env} {m:M3} (b a:List M.L4):I9 E m (a++b)->I9 E m a:=
 ku (P:=fun b=>I9 E m (a++b)->I9 E m a) (fun h=>by simpa using h) (fun b x c h=>by
  rw [<- y_] at h;exact c (Tn h _ _ rfl).1) b
theorem Gg {E:Env} {m:M3} {a b:List M.L4} {x:M.L4} (h:I9 E m (a++x::b)):(tn m a).over=false/\∃ r,x=oq (tn m a) r/\Zy E (tn m a) r:=by
 have c:I9 E m ((a++[x])++b):=by simpa using h
 exact (Tn (CG b _ c) _ _ rfl).2
theorem Qq {E:Env} {m:M3} {a b:List M.L4} (c:a <+:b) (d:I9 E m b) (e:(tn m a).over=true):a=b:=by
 obtain ⟨t,rfl⟩:=c
 cases t with
 | nil=>simp
 | cons y t=>have:=(Gg d).1;rw [e] at this;cases this
def eP (a b:List M.L4):Prop:=a <+:b\/b <+:a
theorem zF {E:Env} (hE:Y7 E) {m:M3} {L:List M.L4} (h:I9 E m L):∀ a,I9 E m a->eP L a:=by
 have key:∀ {m:M3} {ls:List M.L4} {r:R2},(∀ a,I9 E m a->eP ls a)->(∀ b,Zy E (tn m ls) b->r=b)->∀ a,I9 E m a->eP (ls++[oq (tn m ls) r]) a:=by
  intro m ls r c n a g;rcases c a g with ⟨t,rfl⟩ | e
  · cases t with
    | nil=>exact .inr X0
    | cons y t=>
     obtain ⟨_,b,rfl,d⟩:=Gg g;obtain rfl:=n b d;exact .inl ⟨t,X0⟩
  exact .inr (e.trans (List.prefix_append _ _))
 induction h with
 | nil m=>intro a _;exact .inl (List.nil_prefix)
 | seen h1 h2 h3 c=>
  refine key c fun b d=>?_;rcases d with ⟨_,rfl⟩ | ⟨h,_⟩
  · rfl
  rw [h3] at h;cases h
 | plain h1 h2 h3 h4 c=>
  refine key c fun b d=>?_;rcases d with ⟨h,_⟩ | ⟨_,h | ⟨h,_⟩⟩
  · rw [h3] at h;cases h
  · rw [h4] at h;exact j6 h
  rw [h4] at h;cases h
 | made h1 h2 h3 h4 h5 h6 h7 h8 c ih'=>
  refine key c fun b d=>?_;rcases d with ⟨h,_⟩ | ⟨_,h | ⟨_,m2,i,l,k,f,j,rfl⟩⟩
  · rw [h3] at h;cases h
  · rw [h4] at h;cases h
  obtain rfl:=hE.one _ _ h5 l (h6.trans k.symm);rcases ih' i f with e | e
  · rw [Qq e f h8]
  rw [Qq e h7 j]
theorem YG {E:Env} (hE:Y7 E) (b:∀ n r,Fin E n r->vr r.code r.tx.data.toList=true) {t:TN} {r:R2} (a:J2 t.name.data.toList=true) (h:Zy E t r):vr r.code r.tx.data.toList=true:=by
 rcases h with ⟨_,rfl⟩ | ⟨_,h | ⟨_,h⟩⟩
 · rcases hE.sn _ a with e | e
   · rw [e];decide
   rw [e];exact lg (.inl rfl) a
 · exact hE.pl _ _ a h
 exact b _ _ h
theorem S_ {E:Env} (hE:Y7 E) {m:M3} {L:List M.L4} (h:I9 E m L):W_ m=true->RInv m L:=by
 induction h with
 | nil m=>exact fun a=>pG a
 | seen h1 h2 h3 ih=>
  intro a;refine Zn a (ih a) h2 ?_;rcases hE.sn _ ((ih a).name h2).1 with e | e
  · rw [e];exact show vr 0 []=true by decide
  rw [e];exact lg (.inl rfl) ((ih a).name h2).1
 | plain h1 h2 h3 h4 ih=>intro a;exact Zn a (ih a) h2 (hE.pl _ _ ((ih a).name h2).1 h4)
 | made h1 h2 h3 h4 h5 h6 h7 h8 ih ih'=>intro a;exact Zn a (ih a) h2 ((ih' (hE.ms _ h5)).over h8)
theorem ZE {E:Env} (hE:Y7 E) {n:ByteArray} {r:R2} (h:Fin E n r):vr r.code r.tx.data.toList=true:=by
 obtain ⟨m,ls,c,a2,b,a,rfl⟩:=h;exact (S_ hE b (hE.ms _ c)).over a
theorem gL {r:R2} (h:vr r.code r.tx.data.toList=true):r.code≠6:=fun e=>by
 rw [e] at h;simp [vr] at h
theorem JH {E:Env} (hE:Y7 E) {m:M3} {ls:List M.L4} (c:W_ m=true) (h:I9 E m ls) (ho:(tn m ls).over=false) {r:R2} (b:Zy E (tn m ls) r):M.Lj (oq (tn m ls) r):=by
 have a:=((S_ hE h c).name ho).1;refine ⟨a,?_⟩;rcases hb:(tn m ls).has with _ | _
 · exact .inr ⟨hb,YG hE (fun n r=>ZE hE) a b⟩
 refine .inl ⟨hb,?_⟩;rcases b with ⟨_,rfl⟩ | ⟨h,_⟩
 · rcases hE.sn _ a with e | e
   · exact .inl (by show (E.sn _).code=0/\(E.sn _).tx=_;rw [e];exact ⟨rfl,rfl⟩)
   exact .inr (by show (E.sn _).code=4/\(E.sn _).tx=_;rw [e];exact ⟨rfl,rfl⟩)
 rw [hb] at h;cases h
theorem ze {E:Env} (hE:Y7 E) {m:M3} {L:List M.L4} (b:W_ m=true):I9 E m L->L.length<=15/\∀ x,x∈L->M.Lj x:=
 ku (P:=fun L=>I9 E m L->L.length<=15/\∀ x,x∈L->M.Lj x) (fun _=>⟨X0,X0⟩) (fun ls x c h=>by
  obtain ⟨h1,h2,r,rfl,h3⟩:=Tn h _ _ rfl;obtain ⟨_,d⟩:=c h1;refine ⟨by have:=((S_ hE h1 b).name h2).2;simp;omega,fun y a=>?_⟩;rcases P8.1 a with a | a
  · exact d y a
  obtain rfl:=R9.1 a;exact JH hE b h1 h2 h3) L
theorem Qr {E:Env} (hE:Y7 E) {D O:M3->Prop} {L:M3->List M.L4} (hD:∀ m,D m->m∈E.ms) (g:∀ m,D m->I9 E m (L m)) (f:∀ m,D m->O m->(tn m (L m)).over=true)
 (c:∀ m,D m->¬ O m->(tn m (L m)).over=false/\(tn m (L m)).has=false/\E.pl (tn m (L m)).name=none/\∀ m',m'∈E.ms->m'.nm=(tn m (L m)).name->D m'/\¬ O m') {m:M3} {ls:List M.L4} (h:I9 E m ls):D m->ls <+:L m:=by
 have key:∀ {m:M3} {ls:List M.L4} {r:R2},D m->ls <+:L m->I9 E m (ls++[oq (tn m ls) r])->(ls=L m->False)->ls++[oq (tn m ls) r] <+:L m:=by
  intro m ls r a i l k;obtain ⟨t,e⟩:=i
  cases t with
  | nil=>exact absurd (by simpa using e) k
  | cons y t=>
   rcases zF hE l _ (g m a) with h | ⟨t',h⟩
   · exact h
   rw [<- e] at h;exact ⟨t,by rw [<- e];simp at h;simp [h.1]⟩
 induction h with
 | nil m=>exact fun _=>List.nil_prefix
 | @seen m ls h1 h2 h3 ih=>
  intro a;refine key a (ih a) (h1.seen h2 h3) fun e=>?_;have b:¬ O m:=fun ho=>by have:=f m a ho;rw [<- e,h2] at this;cases this
  have:=(c m a b).2.1;rw [<- e,h3] at this;cases this
 | @plain m ls r h1 h2 h3 h4 ih=>
  intro a;refine key a (ih a) (h1.plain h2 h3 h4) fun e=>?_;have b:¬ O m:=fun ho=>by have:=f m a ho;rw [<- e,h2] at this;cases this
  have:=(c m a b).2.2.1;rw [<- e,h4] at this;cases this
 | @made m m' ls ls' h1 h2 h3 h4 h5 h6 h7 h8 ih ih'=>
  intro a;refine key a (ih a) (h1.made h2 h3 h4 h5 h6 h7 h8) fun e=>?_;have b:¬ O m:=fun ho=>by have:=f m a ho;rw [<- e,h2] at this;cases this
  obtain ⟨d,j⟩:=(c m a b).2.2.2 m' h5 (by rw [<- e];exact h6);have:=Qq (ih' d) (g m' d) h8;have h9:=(c m' d j).1;rw [<- this,h8] at h9;cases h9
def BN (E:Env) (n:ByteArray) (L:List M.L4):Prop:=(E.pl n≠none/\L=[])\/∃ m,m∈E.ms/\m.nm=n/\I9 E m L/\∀ ls,I9 E m ls->ls <+:L
open M (Lc Uj nu pu)
theorem xM {w1:World} {B:Nat} {f e d c:Value} (h:Lc w1 B [f,e,d,c]) (b v1 v2 a:Value):Lc ((((w1.setCell ⟨B,0,none⟩ b).setCell ⟨B,1,none⟩ v1).setCell ⟨B,2,none⟩ v2).setCell ⟨B,3,none⟩ a) B [b,v1,v2,a]:=(((h.set 0 b X0).set 1 v1 X0).set 2 v2 X0).set 3 a X0
theorem VN {w1:World} {B:Nat} {c b:Value} (h:Lc w1 B [c,b]) (a v1:Value):Lc ((w1.setCell ⟨B,0,none⟩ a).setCell ⟨B,1,none⟩ v1) B [a,v1]:=(h.set 0 a X0).set 1 v1 X0
open Classical in
noncomputable def Jg (fs:List G.T.F2) (ms:List M3) (nm:ByteArray):Int×ByteArray:=if G.Oa fs nm/\G.Ia ms nm then (4,nm) else (0,⟨#[]⟩)
theorem Jp {fs:List G.T.F2} {ms:List M3} {nm:ByteArray} {r:Bool} (h:r=true↔¬ (G.Oa fs nm/\G.Ia ms nm)):Jg fs ms nm=if r then (0,⟨#[]⟩) else (4,nm):=by
 unfold Jg;cases r
 · rw [Y3 (Ph fun a=>by have:=h.2 a;cases this)];rfl
 rw [R3 (h.1 rfl)];rfl
theorem RI {fs:List G.T.F2} {ms:List M3} {nm:ByteArray} {e:Ending} (f:G.H6 fs ms) (h:G.KH fs nm e):∃ r,e=.returned (.bool r)/\(r=true↔¬ (G.Oa fs nm/\G.Ia ms nm)):=by
 obtain ⟨r,rfl,h⟩:=h;rcases h with ⟨⟨i,j,g⟩,rfl⟩ | ⟨ns,d,q,b,a⟩
 · exact ⟨true,rfl,fun _ c=>c.1 i j g,fun _=>rfl⟩
 obtain rfl:=G.o_ f d;exact ⟨q,b,a⟩
theorem c91 (a:Option Addr) (cap:Nat) (fs:List G.T.F2) (ms:List M3) (nm:ByteArray) (w:World) (z:fs.length<=1048576) (x:∀ i,(fs.getD i G.T.P6).le 1048576) (o:G.T.F3 w a fs) (y:G.H6 fs ms):
 Calls prog 91 #[.agg #[.slice a fs.length cap],.string nm] w fun e w'=>e=.returned (.agg #[.bool true,.string nm,.int .i64 (Jg fs ms nm).1,.string (Jg fs ms nm).2])/\Below w.heap.size w w':=by
 have q:Below w.heap.size w ((w.alloc (.cells #[.slice a fs.length cap] 25)).alloc (.cells #[.bool false,.string ⟨#[]⟩,.int .i64 0,.string ⟨#[]⟩] 52)):=bA.alloc X0 _;have s:=G.TP a cap fs nm _ z x (G.T.U0 o q);have b0:=Q0 (nu (w.alloc (.cells #[.slice a fs.length cap] 25)) [.bool false,.string ⟨#[]⟩,.int .i64 0,.string ⟨#[]⟩] 52);have m:=Q0 (pu (w.alloc (.cells #[.slice a fs.length cap] 25)) #[.bool false,.string ⟨#[]⟩,.int .i64 0,.string ⟨#[]⟩] 52);have s0:(w.alloc (.cells #[.slice a fs.length cap] 25)).heap.size=w.heap.size+1:=X0;have d:((w.alloc (.cells #[.slice a fs.length cap] 25)).alloc (.cells #[.bool false,.string ⟨#[]⟩,.int .i64 0,.string ⟨#[]⟩] 52)).heap.size=w.heap.size+2:=X0;rw [s0] at b0 m;clear o;go_enter func91,ntmps91
 go_wp2_with fail
 refine s.mono ?_;rintro e w1 ⟨t,f⟩;obtain ⟨r,rfl,n⟩:=RI y t;have u:=Q0 (Jp n);have p:=q.trans (f.mono (by rw [d];omega));have B1:=b0.out.below f (by rw [d];omega);have c:=m.out.below f (by rw [d];omega);have x0:=B1 0 _ rfl;have x1:=B1 1 _ rfl;have x2:=B1 2 _ rfl;have x3:=B1 3 _ rfl;have f0:=c 0;have f1:=c 1;have f2:=c 2;have f3:=c 3;clear t n s;cases r
 · have b:=Q0 (xM B1 (.bool true) (.string nm) (.int .i64 4) (.string nm))
   have k:=b.out 0 _ rfl;have j:=b.out 1 _ rfl;have h:=b.out 2 _ rfl;have g:=b.out 3 _ rfl;have l:Hid (Below w.heap.size w ((((w1.setCell ⟨w.heap.size+1,0,none⟩ (.bool true)).setCell ⟨w.heap.size+1,1,none⟩ (.string nm)).setCell ⟨w.heap.size+1,2,none⟩ (.int .i64 4)).setCell ⟨w.heap.size+1,3,none⟩ (.string nm))):=Q0 ((((p.setCell X0 _).setCell X0 _).setCell X0 _).setCell X0 _);clear B1 c;go_wp2;refine K4 (v:=.agg #[.bool true,.string nm,.int .i64 4,.string nm]) (by simp [results,results91,go_sem,k,j,h,g]) rfl ⟨by rw [u.out];rfl,l.out⟩
 have b:=Q0 (xM B1 (.bool true) (.string nm) (.int .i64 0) (.string ⟨#[]⟩));have k:=b.out 0 _ rfl;have j:=b.out 1 _ rfl;have h:=b.out 2 _ rfl;have g:=b.out 3 _ rfl;have l:Hid (Below w.heap.size w ((((w1.setCell ⟨w.heap.size+1,0,none⟩ (.bool true)).setCell ⟨w.heap.size+1,1,none⟩ (.string nm)).setCell ⟨w.heap.size+1,2,none⟩ (.int .i64 0)).setCell ⟨w.heap.size+1,3,none⟩ (.string ⟨#[]⟩))):=Q0 ((((p.setCell X0 _).setCell X0 _).setCell X0 _).setCell X0 _);clear B1 c;go_wp2;refine K4 (v:=.agg #[.bool true,.string nm,.int .i64 0,.string ⟨#[]⟩]) (by simp [results,results91,go_sem,k,j,h,g]) rfl ⟨by rw [u.out];rfl,l.out⟩
theorem xO (a f:Option Addr) (cap pc:Nat) (fs:List G.T.F2) (ms:List M3) (nm:ByteArray) (w:World) (y:fs.length<=40) (o:G.T.F3 w a fs) (u:G.T.Asc fs) (x:ms.length<=300) (n:G.Ad w f ms) (t:G.En ms):
 Calls prog 122 #[.agg #[.slice a fs.length cap],.slice f ms.length pc,.string nm] w fun e w'=>e=.returned (.agg #[.int .i64 (Jg fs ms nm).1,.string (Jg fs ms nm).2])/\Below w.heap.size w w':=by
 have h:Below w.heap.size w ((w.alloc (.cells #[.slice a fs.length cap] 25)).alloc (.cells #[.int .i64 0,.string ⟨#[]⟩] 34)):=bA.alloc X0 _;have q:=G.EP a f cap pc fs ms nm _ y (G.T.U0 o h) u x (G.X_ n h) t;have b0:=Q0 (nu (w.alloc (.cells #[.slice a fs.length cap] 25)) [.int .i64 0,.string ⟨#[]⟩] 34);have l:=Q0 (pu (w.alloc (.cells #[.slice a fs.length cap] 25)) #[.int .i64 0,.string ⟨#[]⟩] 34);have s0:(w.alloc (.cells #[.slice a fs.length cap] 25)).heap.size=w.heap.size+1:=X0;have d:((w.alloc (.cells #[.slice a fs.length cap] 25)).alloc (.cells #[.int .i64 0,.string ⟨#[]⟩] 34)).heap.size=w.heap.size+2:=X0;rw [s0] at b0 l;clear o n;go_enter func122,ntmps122
 go_wp2_with fail
 refine q.mono ?_;rintro e w1 ⟨⟨r,rfl,m⟩,g⟩;have s:=Q0 (Jp m);have p:=h.trans (g.mono (by rw [d];omega));have B1:=b0.out.below g (by rw [d];omega);have c:=l.out.below g (by rw [d];omega);have x0:=B1 0 _ rfl;have x1:=B1 1 _ rfl;have f0:=c 0;have f1:=c 1;clear m q;cases r
 · have b:=Q0 (VN B1 (.int .i64 4) (.string nm))
   have j:=b.out 0 _ rfl;have i:=b.out 1 _ rfl;have k:Hid (Below w.heap.size w ((w1.setCell ⟨w.heap.size+1,0,none⟩ (.int .i64 4)).setCell ⟨w.heap.size+1,1,none⟩ (.string nm))):=Q0 ((p.setCell X0 _).setCell X0 _);clear B1 c;go_wp2;refine K4 (v:=.agg #[.int .i64 4,.string nm]) (by simp [results,results122,go_sem,j,i]) rfl ⟨by rw [s.out];rfl,k.out⟩
 have b:=Q0 (VN B1 (.int .i64 0) (.string ⟨#[]⟩));have j:=b.out 0 _ rfl;have i:=b.out 1 _ rfl;have k:Hid (Below w.heap.size w ((w1.setCell ⟨w.heap.size+1,0,none⟩ (.int .i64 0)).setCell ⟨w.heap.size+1,1,none⟩ (.string ⟨#[]⟩))):=Q0 ((p.setCell X0 _).setCell X0 _);clear B1 c;go_wp2;refine K4 (v:=.agg #[.int .i64 0,.string ⟨#[]⟩]) (by simp [results,results122,go_sem,j,i]) rfl ⟨by rw [s.out];rfl,k.out⟩
end Go.Proofs.YtdjaajjndfbpmaaGreatDoor
namespace Go.Proofs.YtdjaajjndfbpmaaGreatDoor.G
open Proofs.Tryz
open Go.RowKit
open T (F2 P6 F3 Asc U0 X3)
variable {fs:List F2} {ms:List M3} {nm:ByteArray} {i:Nat}
open Classical in
noncomputable def jf (fs:List F2) (ms:List M3) (nm:ByteArray):Option (Int×ByteArray):=
 if h:∃ i,i<fs.length/\(fs.getD i P6).nm=nm then some (0,(fs.getD h.choose P6).tx) else if Ia ms nm then some (4,nm) else none
theorem Ti (c:X3 fs) (b:i<fs.length) (a:(fs.getD i P6).nm=nm):jf fs ms nm=some (0,(fs.getD i P6).tx):=by
 have h:∃ i,i<fs.length/\(fs.getD i P6).nm=nm:=⟨i,b,a⟩;unfold jf;rw [dif_pos h];have e:=Ht c h.choose_spec.1 b (h.choose_spec.2.trans a.symm);rw [e]
theorem Li (d:Oa fs nm) (b:Ia ms nm):jf fs ms nm=some (4,nm):=by
 unfold jf;rw [dif_neg (fun ⟨i,c,a⟩=>d i c a),Y3 b]
theorem Gl (c:Oa fs nm) (b:i<ms.length) (a:(ms.getD i N7).nm=nm):jf fs ms nm=none:=by
 unfold jf;rw [dif_neg (fun ⟨i,b,a⟩=>c i b a),R3 (fun h=>h i b a)]
def Ul (fs:List F2) (ms:List M3) (nm:ByteArray) (e:Ending):Prop:=e=.returned (.tuple #[.agg #[.int .i64 ((jf fs ms nm).getD (0,⟨#[]⟩)).1,.string ((jf fs ms nm).getD (0,⟨#[]⟩)).2],.bool (jf fs ms nm).isSome])
theorem kN (a:Option Addr) (cap:Nat) (fs:List F2) (ms:List M3) (nm:ByteArray) (w:World) (O:fs.length<=1048576) (L:∀ i,(fs.getD i P6).le 1048576) (q:F3 w a fs) (Z:X3 fs) (hp:H6 fs ms):
 Calls prog 38 #[.agg #[.slice a fs.length cap],.string nm] w fun e w'=>Ul fs ms nm e/\Below w.heap.size w w':=by
 have D:∀ o1 o2,Below w.heap.size w ((w.alloc o1).alloc o2):=fun o1 o2=>bA.alloc X0 _;have V:=fun u (C:Below w.heap.size w u)=>T.bO a cap fs nm u O (U0 q C);have E:=fun u (C:Below w.heap.size w u)=>c37 a cap fs nm u O L (U0 q C);obtain ⟨b,Y,R⟩:=T.Y8 q;clear q L;go_enter func38,ntmps38
 go_wp2_with fail
 refine (V _ (D _ _)).mono ?_;rintro e w1 ⟨⟨r,rfl,hr⟩,B⟩;have s:=(D _ _).trans (B.mono J4);have z:Below (w.heap.size+2) ((w.alloc (.cells #[.slice a fs.length cap] 25)).alloc (.cells #[.int .i64 0,.string ⟨#[]⟩] 34)) w1:=by have h:=B;simp at h;exact h
 obtain ⟨X,⟨y,t⟩,J,I⟩:=sM z;have j:w.heap.size+1<w1.heap.size:=by have:=z.size;simp at this;omega
 clear B V z D;rcases hr with ⟨rfl,P⟩ | ⟨i,rfl,f,n⟩;rotate_left
 · rcases R with hss | ⟨ha,hbw,Q⟩
   · rw [hss] at f;exact absurd f (F5 _)
   subst ha;have g1:=(s.cell (p:=⟨b,Y+i*2+1,none⟩) hbw).trans (Q i f).2;have HI:Hid (Ul fs ms nm (.returned (.tuple #[.agg #[.int .i64 0,.string (fs.getD i P6).tx],.bool true]))):=by unfold Hid Ul;rw [Ti Z f n];rfl
   generalize (fs.getD i P6).tx=tx at*;clear E n Q;go_wp2;have F:=N9 w1 (w.heap.size+1) (.int .i64 0) (.string tx) _ _ y t;refine K4 (v:=.tuple #[.agg #[.int .i64 0,.string tx],.bool true]) (by simp [results,results38,go_sem,F.1,F.2]) rfl ⟨HI.out,?_⟩;exact (s.setCell X0 _).setCell X0 _
 have W:Hid (Oa fs nm):=P;clear P R
 go_wp2_with fail
 refine (E _ s).mono ?_;rintro e c ⟨⟨ns,N,x,g,rfl,hx⟩,d⟩;have S:=bT s d;obtain rfl:=o_ hp N;have HR1:Hid (g=false->Ul fs ms nm (.returned (.tuple #[.agg #[.int .i64 4,.string nm],.bool true]))):=fun A=>(by
  rcases hx with ⟨l,_⟩ | ⟨_,hx⟩
  · rw [A] at l;cases l
  unfold Ul;rw [Li W.out hx];rfl)
 have HR2:Hid (g=true->Ul fs ms nm (.returned (.tuple #[.agg #[.int .i64 0,.string ⟨#[]⟩],.bool false]))):=fun A=>(by
  rcases hx with ⟨_,i,f,rfl,n⟩ | ⟨l,_⟩
  · unfold Ul;rw [Gl W.out f n];rfl
  rw [A] at l;cases l)
 have u0:=(d.cell (p:=⟨w.heap.size+1,0,none⟩) (by exact j)).trans y;have u1:=(d.cell (p:=⟨w.heap.size+1,1,none⟩) (by exact j)).trans t;have g0:=(d.frozen (p:=⟨w.heap.size+1,0,none⟩) (by exact j)).trans J;have g1:=(d.frozen (p:=⟨w.heap.size+1,1,none⟩) (by exact j)).trans I;have K:=D7 j d.size;clear hx E y t J I d X N;cases g
 · go_wp2
   have F:=N9 c (w.heap.size+1) (.int .i64 4) (.string nm) _ _ u0 u1;have m:Below w.heap.size w ((c.setCell ⟨w.heap.size+1,0,none⟩ (.int .i64 4)).setCell ⟨w.heap.size+1,1,none⟩ (.string nm)):=(S.setCell X0 _).setCell X0 _;have k:w.heap.size+1<((c.setCell ⟨w.heap.size+1,0,none⟩ (.int .i64 4)).setCell ⟨w.heap.size+1,1,none⟩ (.string nm)).heap.size:=by simpa using K
   generalize ((c.setCell ⟨w.heap.size+1,0,none⟩ (.int .i64 4)).setCell ⟨w.heap.size+1,1,none⟩ (.string nm))=U at*;have H:=fun o=>(w_ k 0 o).trans F.1;have F2:=fun o=>(w_ k 1 o).trans F.2;refine K4 (v:=.tuple #[.agg #[.int .i64 4,.string nm],.bool true]) (by simp [results,results38,go_sem,H,F2]) rfl ⟨HR1.out X0,?_⟩;exact m.alloc m.size _
 go_wp2;have F:=N9 c (w.heap.size+1) (.int .i64 0) (.string ⟨#[]⟩) _ _ u0 u1;have m:Below w.heap.size w ((c.setCell ⟨w.heap.size+1,0,none⟩ (.int .i64 0)).setCell ⟨w.heap.size+1,1,none⟩ (.string ⟨#[]⟩)):=(S.setCell X0 _).setCell X0 _;have k:w.heap.size+1<((c.setCell ⟨w.heap.size+1,0,none⟩ (.int .i64 0)).setCell ⟨w.heap.size+1,1,none⟩ (.string ⟨#[]⟩)).heap.size:=by simpa using K
 generalize ((c.setCell ⟨w.heap.size+1,0,none⟩ (.int .i64 0)).setCell ⟨w.heap.size+1,1,none⟩ (.string ⟨#[]⟩))=U at*;have H:=fun o=>(w_ k 0 o).trans F.1;have F2:=fun o=>(w_ k 1 o).trans F.2;refine K4 (v:=.tuple #[.agg #[.int .i64 0,.string ⟨#[]⟩],.bool false]) (by simp [results,results38,go_sem,H,F2]) rfl ⟨HR2.out X0,?_⟩;exact m.alloc m.size _
end Go.Proofs.YtdjaajjndfbpmaaGreatDoor.G
namespace Go.Proofs.YtdjaajjndfbpmaaGreatDoor
open Proofs.Tryz
open Go.RowKit
open G (H6 Tc Oa Ia jf gG En)
open G.T (F2 P6 X3)
def toM (x:M3):M3:=⟨x.nm,x.tl,x.ar⟩
def Rq (p:Int×ByteArray):R2:=⟨p.1,p.2⟩
noncomputable def P5 (fs:List F2) (ms:List M3):Env:=⟨ms.map toM,fun n=>Rq (Jg fs ms n),fun n=>(jf fs ms n).map Rq⟩
theorem Dk {fs:List F2} {ms:List M3} (h:H6 fs ms):ms=[]\/(G.K_ ms=true/\Tc fs ms):=by
 rcases h with ⟨_,rfl⟩ | ⟨_,_,rfl⟩ | ⟨_,i,hi,hn,ks,ok,a,⟨h1,h2,rfl⟩ | ⟨_,rfl⟩⟩
 · exact .inl rfl
 · exact .inl rfl
 · exact .inr ⟨(a.1 h1).1,h2⟩
 exact .inl rfl
theorem KG {fs:List F2} {ms:List M3} (h:H6 fs ms) {i:Nat} (a:i<ms.length):W_ (ms.getD i N7)=true:=by
 rcases Dk h with rfl | ⟨h1,_⟩
 · exact absurd a (F5 _)
 exact G.sw (G.Be h1) a
theorem OC {fs:List F2} {ms:List M3} (h:H6 fs ms):Tc fs ms:=by
 rcases Dk h with rfl | ⟨_,h1⟩
 · exact fun i a=>absurd a (F5 _)
 exact h1
theorem Fa {fs:List F2} {ms:List M3} (h:H6 fs ms):ms.length<=30:=by
 rcases Dk h with rfl | ⟨h1,_⟩
 · exact I5 _
 exact ((G.Ee ms).1 h1).1
theorem Hy {fs:List F2} {ms:List M3} (h:H6 fs ms) (n:ByteArray):jf fs ms n=none↔∃ i,i<ms.length/\(ms.getD i N7).nm=n:=by
 refine ⟨fun a=>?_,fun ⟨i,b,a⟩=>G.Gl (fun j d e=>OC h i b j d (e.trans a.symm)) b a⟩;unfold jf at a;split at a
 · cases a
 split at a
 · cases a
 rename_i f;exact Ph fun c=>f (fun i b e=>c ⟨i,b,e⟩)
theorem jd {ms:List M3} {m:M3}:m∈ms.map toM↔∃ i,i<ms.length/\toM (ms.getD i N7)=m:=by
 rw [D9];constructor
 · rintro ⟨x,hx,rfl⟩
   obtain ⟨i,a,rfl⟩:=Lb hx;exact ⟨i,a,by simp [List.getD,F8 a]⟩
 rintro ⟨i,a,rfl⟩;exact ⟨_,by simp [List.getD,F8 a],rfl⟩
theorem mM {fs:List F2} {ms:List M3} (a:X3 fs) {n:ByteArray} (c:J2 n.data.toList=true) {p:Int×ByteArray} (h:jf fs ms n=some p):vr p.1 p.2.data.toList=true:=by
 unfold jf at h;split at h;rotate_left
 · split at h
   · cases h
     exact lg (.inl rfl) c
   cases h
 rename_i hx;cases h;have:=a.2 _ hx.choose_spec.1;unfold G.T.r_ G.T.V9 at this;simp only [V7,Q_] at this;refine yw (.inl rfl) ?_;have h2:=this.1.2;have e:∀ b:ByteArray,b.data.toList.length=b.size:=fun b=>rfl;rw [e];show (fs.getD hx.choose P6).tx.size<=300;omega
theorem zb {fs:List F2} {ms:List M3} (d:X3 fs) (c:H6 fs ms):Y7 (P5 fs ms) where
 sn n hn:=by
  show Rq (Jg fs ms n)=_\/Rq (Jg fs ms n)=_;unfold Jg;split
  · exact .inr rfl
  exact .inl rfl
 pl n r hn h:=by
  obtain ⟨p,h1,rfl⟩:=Uo.1 h;exact mM d hn h1
 ms m b:=by
  obtain ⟨i,a,rfl⟩:=jd.1 b;exact KG c a
 one m m' b hm' e:=by
  obtain ⟨i,a,rfl⟩:=jd.1 b;obtain ⟨j,f,rfl⟩:=jd.1 hm';rw [G.Yt (G.Lf c) a f e]
 made n:=by
  show (jf fs ms n).map Rq=none↔_;rw [Option.map_eq_none_iff,Hy c];constructor
  · rintro ⟨i,a,rfl⟩
    exact ⟨_,jd.2 ⟨i,a,rfl⟩,rfl⟩
  rintro ⟨m,b,rfl⟩;obtain ⟨i,a,rfl⟩:=jd.1 b;exact ⟨i,a,rfl⟩
theorem ym {fs:List F2} {ms:List M3} {n:ByteArray}:(P5 fs ms).pl n=none↔jf fs ms n=none:=Option.map_eq_none_iff
theorem Iw {fs:List F2} {ms:List M3} (a:X3 fs) {nm:ByteArray} {e:Ending} (h:gG fs nm e) (f:Ia ms nm):∃ r:R2,e=.returned (.agg #[.int .i64 r.code,.string r.tx])/\(P5 fs ms).pl nm=some r:=by
 obtain ⟨c,t,rfl,⟨rfl,i,d,b,rfl⟩ | ⟨rfl,rfl,hF⟩⟩:=h
 · exact ⟨⟨0,_⟩,rfl,by show (jf fs ms nm).map Rq=_;rw [G.Ti a d b];rfl⟩
 exact ⟨⟨4,t⟩,rfl,by show (jf fs ms t).map Rq=_;rw [G.Li hF f];rfl⟩
def R4 (ls:List M.L4):List Value:=ls.flatMap fun x=>[.bool x.has,.string x.nm,.int .i64 x.cd,.string x.tx]
theorem Af (ls:List M.L4) (x:M.L4):R4 (ls++[x])=R4 ls++[.bool x.has,.string x.nm,.int .i64 x.cd,.string x.tx]:=by simp [R4]
theorem Qi (ls:List M.L4):(R4 ls).length=ls.length*4:=by
 induction ls with
 | nil=>rfl
 | cons x r ih=>unfold R4 at *;simp only [List.flatMap_cons,List.length_append,List.length_cons,List.length_nil,ih];omega
theorem Jo (ls:List M.L4) (i j:Nat) (h:i<ls.length) (hj:j<4):(R4 ls)[i*4+j]?=[Value.bool (ls.getD i M.Ga).has,.string (ls.getD i M.Ga).nm,.int .i64 (ls.getD i M.Ga).cd,.string (ls.getD i M.Ga).tx][j]?:=by
 induction ls generalizing i with
 | nil=>simp at h
 | cons x r ih=>
  show ([Value.bool x.has,.string x.nm,.int .i64 x.cd,.string x.tx]++R4 r)[i*4+j]?=_
  cases i with
  | zero=>rw [Eb J4];simp
  | succ i=>
   rw [ji J4];have:=ih i (by simpa using h);rw [show (i+1)*4+j - [Value.bool x.has,.string x.nm,.int .i64 x.cd,.string x.tx].length=i*4+j by simp;omega];simpa using this
theorem He (ls:List M.L4):∀ u∈R4 ls,u.oneCell'=true:=by
 intro u a;unfold R4 at a;obtain ⟨x,_,hx⟩:=Tk.1 a;simp at hx;rcases hx with rfl | rfl | rfl | rfl <;> rfl
theorem yf {w:World} {base:Nat} {v:Value} {ls:List M.L4} (h:w.ownsRow base 52 4 v ls.length (R4 ls)):∃ a c,v=.slice a ls.length c/\M.Ac w a ls:=by
 have k:=h;rcases h.2 with ⟨hv,h0⟩ | ⟨g,cap,cur,hv,hg,f,_⟩
 · exact ⟨none,0,by rw [hv,h0],.inl (Ce.1 h0)⟩
 refine ⟨some ⟨g,0,none⟩,cap,hv,?_⟩;subst hv;refine .inr ⟨g,0,rfl,Q4 f,fun i d=>?_⟩;have e:=fun j b=>(k.cellAt (i*4+j) O0).trans (Jo ls i j d b);simp only [R7];exact ⟨e 0 O0,e 1 O0,e 2 O0,e 3 O0⟩
theorem Wo {w:World} {f:Addr} {ls:List M.L4} (h:M.Ac w (some f) ls):∀ j u,(R4 ls)[j]?=some u->w.cell? (f.add j)=some u:=fun j u e=>by
 have a:=(Jd.1 e).1;rw [Qi] at a;rcases h with h | ⟨b,off,k,hb,i⟩
 · subst h;simp at a
 cases k
 have c:j / 4<ls.length:=O0;have g:j % 4<4:=Gv _ K3;have d:j=j / 4*4+j % 4:=O0;rw [d,Jo ls _ _ c g] at e;obtain ⟨h0,h1,h2,h3⟩:=i _ c;rw [Qj,d];rcases (by omega:j % 4=0\/j % 4=1\/j % 4=2\/j % 4=3) with h | h | h | h
 all_goals rw [h] at e ⊢
 · simp at e;subst e;exact h0
 · simp at e;subst e;rw [<- xk];exact h1
 · simp at e;subst e;rw [<- xk];exact h2
 simp at e;subst e;rw [<- xk];exact h3
open G (jf H6)
open G.T (F2 P6 X3 F3)
structure W8 where
 m:M3
 lv:Value
 ls:List M.L4
 ov:Bool
 cd:Int
 tx:ByteArray
 wt:ByteArray
def J9:W8:=⟨N7,.slice none 0 0,[],false,0,⟨#[]⟩,⟨#[]⟩⟩
def W8.vs (x:W8):List Value:=[.string x.m.nm,.string x.m.tl,.string x.m.ar,x.lv,.bool x.ov,.int .i64 x.cd,.string x.tx,.string x.wt]
def Zh (w:World) (a:Option Addr) (ws:List W8):Prop:=
 ws=[]\/∃ b off,a=some ⟨b,off,none⟩/\b<w.heap.size/\∀ i,i<ws.length->∀ j v,(ws.getD i J9).vs[j]?=some v->w.cell? ⟨b,off+i*8+j,none⟩=some v
theorem Zr {w:World} {a:Option Addr} {ws:List W8} (h:Zh w a ws):∃ b c,(ws=[]\/(a=some ⟨b,c,none⟩/\b<w.heap.size/\∀ i,i<ws.length->∀ j v,(ws.getD i J9).vs[j]?=some v->w.cell? ⟨b,c+i*8+j,none⟩=some v)):=by
 rcases h with h | ⟨b,c,h⟩
 · exact ⟨0,0,.inl h⟩
 exact ⟨b,c,.inr h⟩
theorem Xd {w w':World} {a:Option Addr} {ws:List W8} (h:Zh w a ws) (d:Below w.heap.size w w'):Zh w' a ws:=by
 rcases h with h | ⟨b,c,h1,h2,h3⟩
 · exact .inl h
 exact .inr ⟨b,c,h1,D7 h2 d.size,fun i f j v e=>(d.cell (p:=⟨b,c+i*8+j,none⟩) h2).trans (h3 i f j v e)⟩
def L_ (ws:List W8) (nm:ByteArray):Option W8:=ws.find? fun x=>decide (x.m.nm=nm)
noncomputable def Rj (fs:List F2) (ms:List M3) (ws:List W8) (nm:ByteArray):R2×Bool:=
 match jf fs ms nm with
 | some p=>(Rq p,true)
 | none=>match L_ ws nm with
  | some x=>(⟨x.cd,x.tx⟩,x.ov)
  | none=>(⟨0,⟨#[]⟩⟩,false)
def oz (r:R2×Bool) (e:Ending):Prop:=e=.returned (.tuple #[.agg #[.int .i64 r.1.code,.string r.1.tx],.bool r.2])
theorem aB {ws:List W8} {nm:ByteArray} {k:Nat} (a:k<ws.length) (b:∀ j,j<k->(ws.getD j J9).m.nm≠nm) (c:(ws.getD k J9).m.nm=nm):L_ ws nm=some (ws.getD k J9):=by
 unfold L_;rw [List.find?_eq_some_iff_getElem];have e:∀ j (h:j<ws.length),ws.getD j J9=ws[j]:=fun j h=>by simp [List.getD,F8 h]
 refine ⟨by simpa using c,k,a,(e k a).symm,fun j d=>?_⟩;have:=b j d;rw [e j O0] at this;simpa using this
theorem Iy {ws:List W8} {nm:ByteArray} (b:∀ j,j<ws.length->(ws.getD j J9).m.nm≠nm):L_ ws nm=none:=by
 unfold L_;rw [cB];intro x hx;obtain ⟨j,a,rfl⟩:=Lb hx;have:=b j a;simpa [List.getD,F8 a] using this
theorem Bj {u:World} {B b j:Nat} {c v1:Value} (a:b≠B):((u.setCell ⟨B,0,none⟩ c).setCell ⟨B,1,none⟩ v1).cell? ⟨b,j,none⟩=u.cell? ⟨b,j,none⟩:=by
 rw [O_ _ _ _ _ (fun e=>a (V3 Addr.block e).symm),O_ _ _ _ _ (fun e=>a (V3 Addr.block e).symm)]
theorem JP (a:Option Addr) (cap:Nat) (fs:List F2) (ms:List M3) (wa:Option Addr) (wc:Nat) (ws:List W8) (nm:ByteArray) (w:World) (hl:fs.length<=1048576) (hs:∀ i,(fs.getD i P6).le 1048576) (hat:F3 w a fs) (ht:X3 fs) (hp:H6 fs ms) (GU:ws.length<=300) (hws:Zh w wa ws):
 Calls prog 62 #[.agg #[.slice a fs.length cap],.slice wa ws.length wc,.string nm] w fun e w'=>oz (Rj fs ms ws nm) e/\Below w.heap.size w w':=by
 have hB0:∀ o1 o2,Below w.heap.size w ((w.alloc o1).alloc o2):=fun o1 o2=>bA.alloc X0 _;have PV:=fun u (hb:Below w.heap.size w u)=>G.kN a cap fs ms nm u hl hs (G.T.U0 hat hb) ht hp;obtain ⟨b,g,hc⟩:=Zr hws;have HC:=Q0 hc;clear hat hs hws hc;go_enter func62,ntmps62
 go_wp2_with fail
 refine (PV _ (hB0 _ _)).mono ?_;rintro e w1 ⟨f,Y⟩;have Z:=(hB0 _ _).trans (Y.mono J4);have W:Below (w.heap.size+2) ((w.alloc (.cells #[.slice a fs.length cap] 25)).alloc (.cells #[.int .i64 0,.string ⟨#[]⟩] 34)) w1:=by have h:=Y;simp at h;exact h
 obtain ⟨t0,⟨s,r⟩,y0,y1⟩:=G.sM W;have y:w.heap.size+1<w1.heap.size:=by have:=W.size;simp at this;omega
 clear Y PV W hB0
 cases hpl:jf fs ms nm with
 | some p=>
  obtain ⟨c,t⟩:=p;have e':e=.returned (.tuple #[.agg #[.int .i64 c,.string t],.bool true]):=by unfold G.Ul at f;rw [hpl] at f;exact f
  subst e';have C:Hid (oz (Rj fs ms ws nm) (.returned (.tuple #[.agg #[.int .i64 c,.string t],.bool true]))):=by unfold Hid oz Rj;rw [hpl];rfl
  clear f HC;go_wp2;have F:=G.N9 w1 (w.heap.size+1) (.int .i64 c) (.string t) _ _ s r;have d:Below w.heap.size w ((w1.setCell ⟨w.heap.size+1,0,none⟩ (.int .i64 c)).setCell ⟨w.heap.size+1,1,none⟩ (.string t)):=(Z.setCell X0 _).setCell X0 _;have a0P:w.heap.size+1<((w1.setCell ⟨w.heap.size+1,0,none⟩ (.int .i64 c)).setCell ⟨w.heap.size+1,1,none⟩ (.string t)).heap.size:=by simpa using y
  generalize ((w1.setCell ⟨w.heap.size+1,0,none⟩ (.int .i64 c)).setCell ⟨w.heap.size+1,1,none⟩ (.string t))=U at*;have F1:=fun o=>(G.w_ a0P 0 o).trans F.1;have F2:=fun o=>(G.w_ a0P 1 o).trans F.2;refine K4 (v:=.tuple #[.agg #[.int .i64 c,.string t],.bool true]) (by simp [results,results62,go_sem,F1,F2]) rfl ⟨C.out,?_⟩;exact d.alloc d.size _
 | none=>
  have e':e=.returned (.tuple #[.agg #[.int .i64 0,.string ⟨#[]⟩],.bool false]):=by unfold G.Ul at f;rw [hpl] at f;exact f
  subst e';have O:Hid ((∀ j,j<ws.length->(ws.getD j J9).m.nm≠nm)->oz (Rj fs ms ws nm) (.returned (.tuple #[.agg #[.int .i64 0,.string ⟨#[]⟩],.bool false]))):=fun h=>by unfold oz Rj;rw [hpl,Iy h]
  have L:Hid (∀ k,k<ws.length->(∀ j,j<k->(ws.getD j J9).m.nm≠nm)->(ws.getD k J9).m.nm=nm->oz (Rj fs ms ws nm) (.returned (.tuple #[.agg #[.int .i64 (ws.getD k J9).cd,.string (ws.getD k J9).tx],.bool (ws.getD k J9).ov]))):=fun k hk h1 h2=>by unfold oz Rj;rw [hpl,aB hk h1 h2]
  obtain ⟨U,q⟩:∃ U,U=w1.alloc (.cells #[.int .i64 0,.string ⟨#[]⟩] 34):=⟨_,rfl⟩;have HU:=Q0 q;have d:Below w.heap.size w U:=by rw [q];exact Z.alloc Z.size _
  have z:Below w1.heap.size w1 U:=by rw [q];exact bA
  have s:=(z.cell (p:=⟨w.heap.size+1,0,none⟩) y).trans s;have r:=(z.cell (p:=⟨w.heap.size+1,1,none⟩) y).trans r;have y0:=(z.frozen (p:=⟨w.heap.size+1,0,none⟩) y).trans y0;have y1:=(z.frozen (p:=⟨w.heap.size+1,1,none⟩) y).trans y1;have u0:U.cell? ⟨w1.heap.size,0,none⟩=some (.int .i64 0):=by rw [q];simp [go_sem]
  have u1:U.cell? ⟨w1.heap.size,1,none⟩=some (.string ⟨#[]⟩):=by rw [q];simp [go_sem]
  clear f z q
  go_wp2_with fail
  go_loopw [10] (fun Q wr=>∃ k:Nat,k<=ws.length/\Q=.int .i64 k/\wr=U/\Hid (∀ j,j<k->(ws.getD j J9).m.nm≠nm)) (fun Q _=>ws.length - (intOf Q).toNat)
  case atStart=>exact ⟨0,I5 _,rfl,HU.out.symm,fun j h=>absurd h (F5 _)⟩
  obtain ⟨k,hk,rfl,rfl,n⟩:=hrel;by_cases l:k<ws.length;rotate_left
  · have C:=Q0 (O.out (fun j hj=>n.out j O0))
    have F:=G.N9 wr (w.heap.size+1) (.int .i64 0) (.string ⟨#[]⟩) _ _ s r;clear L O n;go_wp2;refine K4 (v:=.tuple #[.agg #[.int .i64 0,.string ⟨#[]⟩],.bool false]) (by simp [results,results62,go_sem,F.1,F.2]) rfl ⟨C.out,?_⟩;exact (d.setCell X0 _).setCell X0 _
  rcases HC.out with hss | ⟨ha,J,A⟩
  · rw [hss] at l;exact absurd l (F5 _)
  subst ha;have g0:=(d.cell (p:=⟨b,g+k*8,none⟩) J).trans (A k l 0 _ rfl);have g4:=(d.cell (p:=⟨b,g+k*8+4,none⟩) J).trans (A k l 4 _ rfl);have g5:=(d.cell (p:=⟨b,g+k*8+5,none⟩) J).trans (A k l 5 _ rfl);have g6:=(d.cell (p:=⟨b,g+k*8+6,none⟩) J).trans (A k l 6 _ rfl);have HY':=Q0 (L.out k l n.out);have HD:Hid ((ws.getD k J9).m.nm≠nm->∀ j,j<k+1->(ws.getD j J9).m.nm≠nm):=fun h j hj=>by
   rcases U5 j k with h1 | h1
   · exact n.out j h1
   obtain rfl:j=k:=O0;exact h
  generalize ws.getD k J9=x at*;obtain ⟨⟨P,xt,xa⟩,xl,xs,xo,H,E,xw⟩:=x;dsimp only at*;clear A;cases hq:(P.toList==nm.toList);rotate_left
  · have I:P=nm:=by
     have:=Vf.1 hq;rw [I7,I7] at this;exact Hd (ag.1 this)
    have C:=Q0 (HY'.out I);subst I;clear HD HY' L O n
    go_wp2_with fail
    refine F7 (S:=fun u=>u.cell? ⟨b,g+k*8+4,none⟩=some (.bool xo)/\u.cell? ⟨b,g+k*8+5,none⟩=some (.int .i64 H)/\u.cell? ⟨b,g+k*8+6,none⟩=some (.string E)) U2 ?_ fun hHeld=>?_
    · exact ⟨g4,g5,g6⟩
    refine I4 0 hHeld ?_;refine I4 1 hHeld ?_;refine tq 2 hHeld ?_ (v:=?_) (hv:=?e)
    case e=>intro wq hSw;(try dsimp only at hSw);obtain ⟨s4,V,R⟩:=hSw;go_simp;try with_reducible rfl
    try simp only [qq]
    refine I4 3 hHeld ?_;refine tq 4 hHeld ?_ (v:=?_) (hv:=?e)
    case e=>intro wq hSw;(try dsimp only at hSw);obtain ⟨s4,V,R⟩:=hSw;go_simp;try with_reducible rfl
    try simp only [qq]
    refine I4 5 hHeld ?_;refine I4 6 hHeld ?_;refine tq 7 hHeld ?_ (v:=?_) (hv:=?e)
    case e=>intro wq hSw;(try dsimp only at hSw);obtain ⟨s4,V,R⟩:=hSw;go_simp;try with_reducible rfl
    try simp only [qq]
    refine I4 8 hHeld ?_;refine tq 9 hHeld ?_ (v:=?_) (hv:=?e)
    case e=>intro wq hSw;(try dsimp only at hSw);obtain ⟨s4,V,R⟩:=hSw;go_simp;try with_reducible rfl
    try simp only [qq]
    have X:b≠w.heap.size+1:=O0;refine rq 10 fun K hK=>?_;go_simp;clear hHeld;refine hK.out _ _ ?_ fun hHeld=>?_
    · exact ⟨(Bj X).trans g4,(Bj X).trans g5,(Bj X).trans g6⟩
    clear hK K;refine I4 11 hHeld ?_;refine a_ ?_;have F:=G.N9 wr (w.heap.size+1) (.int .i64 H) (.string E) _ _ s r;go_wp2;refine K4 (v:=.tuple #[.agg #[.int .i64 H,.string E],.bool xo]) (by simp [results,results62,go_sem,F.1,F.2]) rfl ⟨C.out,?_⟩;have D:=M.EA (N:=w.heap.size) (B:=w.heap.size+1) O0 [.int .i64 H,.string E] 0 d;exact ⟨D.os,D.tape,D.output,D.size,D.block⟩
  have I:P≠nm:=fun e=>by rw [e] at hq;simp at hq
  have HD':=Q0 (HD.out I);clear HD HY' L O n;go_wp2;go_roundw
  case rel=>exact ⟨k+1,O0,by go_num,trivial,HD'⟩
  case measure=>simp [intOf];omega
end Go.Proofs.YtdjaajjndfbpmaaGreatDoor
