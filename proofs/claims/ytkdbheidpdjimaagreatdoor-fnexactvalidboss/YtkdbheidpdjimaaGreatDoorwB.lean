import Derived.Test.YtkdbheidpdjimaaGreatDoorpC
import Derived.Test.YtkdbheidpdjimaaGreatDoorpS
import Derived.Test.YtkdbheidpdjimaaGreatDoorvS
import Derived.Test.YtkdbheidpdjimaaGreatDoorvY
set_option linter.unusedVariables false
set_option maxHeartbeats 8000000
set_option maxRecDepth 100000
namespace Go.Proofs.YtkdbheidpdjimaaGreatDoor.G
open Proofs.Tryz Go.RowKit
open T (F2 P8 J_ Asc J6 U5 lt Kw Po Ju og Yc Na yg)
section
variable {ms:List M3} {nm t:BY} {b i j p:Nat} {f:Bool} {u w:World} {v:Value}
theorem vZ (x:M3) (b:BY) (w:World):
 Calls prog 129 #[.agg #[.string x.nm,.string x.tl,.string x.ar],.string b] w fun e w'=>e=.returned (.int .i64 (Kw x.nm b))/\Below w.heap.size w w':=by
 go_enter func129,ntmps129
 go_wp2_with fail
 refine (T.c130 x.nm b _).mono ?_;rintro e w1 ⟨rfl,hw⟩;obtain rfl:=hw.symm;go_wp2;go_ret;exact ⟨rfl,o7⟩
structure VD (ms:List M3) (t:BY) (p:Nat) (f:Bool):Prop where
 le:p<=ms.length
 less:∀ j,j<p->lt (ms.getD j H_).nm t=true
 more:∀ j,p<=j->j<ms.length->lt (ms.getD j H_).nm t=false
 here:f=true↔p<ms.length/\(ms.getD p H_).nm=t
def iF (ms:List M3):Prop:=∀ i j,i<j->j<ms.length->lt (ms.getD i H_).nm (ms.getD j H_).nm=true
def Yx (ms:List M3) (t:BY) (i j:Nat):Prop:=(∀ q,q<i->lt (ms.getD q H_).nm t=true)/\∀ q,j<=q->q<ms.length->lt (ms.getD q H_).nm t=false
theorem ZQ {h:Nat} (hm:iF ms) (a:Yx ms t i j) (hl:h<ms.length) (hx:lt (ms.getD h H_).nm t=true):Yx ms t (h+1) j:=by
 refine ⟨fun q hq=>?_,a.2⟩;rcases o8 q h with h1 | h1
 · exact og (hm q h h1 hl) hx
 obtain rfl:q=h:=O0;exact hx
theorem wI {h:Nat} (hm:iF ms) (a:Yx ms t i j) (hx:lt (ms.getD h H_).nm t=false):Yx ms t i h:=by
 refine ⟨a.1,fun q hq hl=>?_⟩;rcases o8 h q with h1 | h1
 · cases hc:lt (ms.getD q H_).nm t
   · rfl
   rw [og (hm h q h1 hl) hc] at hx;cases hx
 obtain rfl:q=h:=O0;exact hx
theorem a1y (a:OA) (I:Nat) (ms:List M3) (t:BY) (w:World) (hl:ms.length<=300) (C:Pn w a ms) (hm:iF ms):
 Calls prog 128 #[.slice a ms.length I,.string t,.func (.func 129) #[] #[]] w fun e w'=>(∃ p f,e=.returned (.tuple #[.int .i64 (p:Nat),.bool f])/\VD ms t p f)/\Below w.heap.size w w':=by
 obtain ⟨b,off,hc⟩:=uj C;have E:=U0 hc;have D:=U0 hm;clear hc C hm;go_enter func128,ntmps128
 go_wp2_with fail
 go_loopw [9,10] (fun u s wr=>∃ i j:Nat,i<=j/\j<=ms.length/\u=.int .i64 i/\s=.int .i64 j/\Below w.heap.size w wr/\Hid (Yx ms t i j)) (fun u s _=>(intOf s).toNat - (intOf u).toNat)
 case atStart=>exact ⟨0,ms.length,D5 _,Y9 _,rfl,rfl,Z4 _ _,⟨fun q h=>absurd h (o9 _),fun q h k=>O0⟩⟩
 obtain ⟨i,j,hij,B,rfl,rfl,d,l⟩:=hrel;by_cases hlt:i<j;rotate_left
 · obtain rfl:i=j:=O0;by_cases m:i<ms.length;rotate_left
   · have z:Hid (VD ms t i false):=⟨O0,l.out.1,l.out.2,U7⟩;have hd:decide ((i:Int)<(ms.length:Int))=false:=P9 O0;go_wp2
     all_goals go_ret2
     all_goals exact ⟨⟨i,false,rfl,z.out⟩,d⟩
   obtain ⟨ha,g,c⟩:=Nc E.out m;subst ha;have g0:=(d.cell (p:=⟨b,off+i*3,none⟩) g).trans (c i m).1;have g1:=(d.cell (p:=⟨b,off+i*3+1,none⟩) g).trans (c i m).2.1;have g2:=(d.cell (p:=⟨b,off+i*3+2,none⟩) g).trans (c i m).2.2;have z:Hid (∀ f:Bool,(f=true↔(ms.getD i H_).nm=t)->VD ms t i f):=fun f hf=>⟨O0,l.out.1,l.out.2,hf.trans ⟨fun h=>⟨m,h⟩,fun h=>h.2⟩⟩;generalize ms.getD i H_=x at*;clear c
   go_wp2_with fail
   refine (vZ x t wr).mono ?_;rintro e F ⟨rfl,n⟩;have r:=G7 d n;go_wp2
   all_goals go_ret2
   all_goals exact ⟨⟨i,_,rfl,z.out _ (by rw [<- Ju];simp)⟩,r⟩
 rcases E.out with H | ⟨ha,g,c⟩
 · rw [H] at B;simp at B;omega
 subst ha;have o:(i+j) / 2<ms.length:=O0;have g0:=(d.cell (p:=⟨b,off+(i+j) / 2*3,none⟩) g).trans (c _ o).1;have g1:=(d.cell (p:=⟨b,off+(i+j) / 2*3+1,none⟩) g).trans (c _ o).2.1;have g2:=(d.cell (p:=⟨b,off+(i+j) / 2*3+2,none⟩) g).trans (c _ o).2.2;have y:Hid (lt (ms.getD ((i+j) / 2) H_).nm t=true->Yx ms t ((i+j) / 2+1) j):=fun hx=>ZQ D.out l.out o hx;have A:Hid (lt (ms.getD ((i+j) / 2) H_).nm t=false->Yx ms t i ((i+j) / 2)):=fun hx=>wI D.out l.out hx;generalize ms.getD ((i+j) / 2) H_=x at*;clear c
 go_wp2_with fail
 refine (vZ x t wr).mono ?_;rintro e F ⟨rfl,n⟩;have r:=G7 d n;cases hx:lt x.nm t
 · have hc:¬ Kw x.nm t<0:=fun h=>by rw [(Po _ _).1 h] at hx;cases hx
   have hc1:=P9 hc;have v:=U0 (A.out hx);clear hx n y A;go_wp2;go_roundw
   case rel=>exact ⟨i,(i+j) / 2,O0,O0,rfl,by go_num,r,v⟩
   case measure=>simp [intOf];omega
 have hc:=(Po _ _).2 hx;have v:=U0 (y.out hx);clear hx n y A;go_wp2;go_roundw
 case rel=>exact ⟨(i+j) / 2+1,j,O0,O0,by go_num,rfl,r,v⟩
 case measure=>simp [intOf];omega
theorem fH (hm:iF ms) (h:VD ms nm p f):(f=true->∃ i,i=p/\i<ms.length/\(ms.getD i H_).nm=nm)/\(f=false->∀ j,j<ms.length->(ms.getD j H_).nm≠nm):=by
 refine ⟨fun e=>⟨p,rfl,h.here.1 e⟩,fun e j c b=>?_⟩;subst e;rcases Aw j p with h1 | h1 | h1
 · have a:=h.less j h1;rw [b,Yc] at a;cases a
 · subst h1;have:=h.here.2 ⟨c,b⟩;cases this
 have a:=hm p j h1 c;rw [b] at a;have a2:=h.more p x9 O0;rw [a] at a2;cases a2
theorem rzM (a:Below (w.heap.size+1) (w.alloc (.cells #[.string ⟨#[]⟩,.string ⟨#[]⟩,.string ⟨#[]⟩] 101)) u):
 (u.cell? ⟨w.heap.size,0,none⟩=some (.string ⟨#[]⟩)/\u.cell? ⟨w.heap.size,1,none⟩=some (.string ⟨#[]⟩)/\u.cell? ⟨w.heap.size,2,none⟩=some (.string ⟨#[]⟩))/\u.frozen? ⟨w.heap.size,0,none⟩=false/\u.frozen? ⟨w.heap.size,1,none⟩=false/\u.frozen? ⟨w.heap.size,2,none⟩=false:=by
 have c:∀ b j,b<w.heap.size+1->u.cell? ⟨b,j,none⟩=(w.alloc (.cells #[vE,vE,vE] 101)).cell? ⟨b,j,none⟩:=fun b j h=>a.cell (by exact h);have f:∀ b j,b<w.heap.size+1->u.frozen? ⟨b,j,none⟩=(w.alloc (.cells #[vE,vE,vE] 101)).frozen? ⟨b,j,none⟩:=fun b j h=>a.frozen (by exact h);rw [c _ _ O0,c _ _ O0,c _ _ O0,f _ _ O0,f _ _ O0,f _ _ O0];simp [go_sem]
def zT (ms:List M3) (nm:BY) (e:Ending):Prop:=∃ (x:M3) (there:Bool),e=.returned (.tuple #[.agg #[.string x.nm,.string x.tl,.string x.ar],.bool there])/\((there=true/\∃ i,i<ms.length/\ms.getD i H_=x/\x.nm=nm)\/(there=false/\∀ j,j<ms.length->(ms.getD j H_).nm≠nm))
theorem c79 (a:OA) (B:Nat) (ms:List M3) (nm:BY) (w:World) (hl:ms.length<=300) (y:Pn w a ms) (hm:iF ms):
 Calls prog 79 #[.slice a ms.length B,.string nm] w fun e w'=>zT ms nm e/\Below w.heap.size w w':=by
 have z:Below w.heap.size w (w.alloc (.cells #[vE,vE,vE] 101)):=o7;have A:=a1y a B ms nm _ hl (Ol y z) hm;go_enter func79,ntmps79
 go_wp2_with fail
 refine A.mono ?_;rintro e j ⟨⟨p,f,rfl,k⟩,u⟩;obtain ⟨n,m⟩:=fH hm k;have s:Below (w.heap.size+1) (w.alloc (.cells #[vE,vE,vE] 101)) j:=lF u;have d:=z.trans (s.mono O0);obtain ⟨⟨r,q,o⟩,y0,y1,y2⟩:=rzM s;clear u A;cases f
 · have h:Hid (zT ms nm (.returned (.tuple #[.agg #[vE,vE,vE],.bool false]))):=⟨⟨⟨#[]⟩,⟨#[]⟩,⟨#[]⟩⟩,false,rfl,.inr ⟨rfl,m rfl⟩⟩;clear n m k;go_wp2;have F:=Yp j w.heap.size 0 vE vE vE _ _ _ r q o;refine P7 (v:=.tuple #[.agg #[vE,vE,vE],.bool false]) (by simp [results,results79,go_sem,F.1,F.2.1,F.2.2]) rfl ⟨h.out,?_⟩;exact ((d.setCell I4 _).setCell I4 _).setCell I4 _
 obtain ⟨i,rfl,c,t⟩:=n rfl;obtain ⟨b,off,hc⟩:=uj y;obtain ⟨ha,l,g⟩:=Nc hc c;subst ha;have g0:=(d.cell (p:=⟨b,off+i*3,none⟩) l).trans (g i c).1;have g1:=(d.cell (p:=⟨b,off+i*3+1,none⟩) l).trans (g i c).2.1;have g2:=(d.cell (p:=⟨b,off+i*3+2,none⟩) l).trans (g i c).2.2;have h:Hid (zT ms nm (.returned (.tuple #[.agg #[vS (ms.getD i H_).nm,vS (ms.getD i H_).tl,vS (ms.getD i H_).ar],.bool true]))):=⟨_,true,rfl,.inl ⟨rfl,i,c,rfl,t⟩⟩;have C:Hid (∃ x,x=ms.getD i H_):=⟨_,rfl⟩;obtain ⟨x,hx⟩:=C.out;rw [<- hx] at g0 g1 g2 h;clear n m k g C hx t;go_wp2;have F:=Yp j w.heap.size 0 (vS x.nm) (vS x.tl) (vS x.ar) _ _ _ r q o;refine P7 (v:=.tuple #[.agg #[vS x.nm,vS x.tl,vS x.ar],.bool true]) (by simp [results,results79,go_sem,F.1,F.2.1,F.2.2]) rfl ⟨h.out,?_⟩;exact ((d.setCell I4 _).setCell I4 _).setCell I4 _
theorem zI (S:List UInt8) (w:World) (a2v:S.length<=300) (hv:Rz w):
 Calls prog 135 #[.string (Y2 S)] w fun e w'=>yV w S e w'/\Below w.heap.size w w':=by
 have C:=U0 hv;clear hv;have hz:(Y2 S).size<=300:=by rw [J5];exact a2v
 obtain ⟨i0,hi,hz0,hz1,hz2⟩:=info_parts LK;go_enter func135,ntmps135
 go_wp2_with fail
 go_loopw [4,5] (fun v r wr=>∃ (l:List UInt8) (ms:List M3),r=.string (Y2 l)/\Hid (Way S ms l)/\wr.ownsRow w.heap.size 101 3 v ms.length (Xa ms)/\Below w.heap.size w wr) (fun _ r _=>T.strOf r)
 case atStart=>exact ⟨S,[],rfl,zM _,ng _ _ _ _,Z4 _ _⟩
 obtain ⟨l,ms,rfl,d,m,J⟩:=hrel;have A:=U0 (C.out.below J);obtain ⟨hwl,E⟩:=fV d.out;by_cases hl:l=[]
 · subst hl;have hnl:(Y2 []).toList=[]:=by rw [ByteArray.toList_eq];rfl
   obtain ⟨W1,W2⟩:=gU d.out a2v;have N:=U0 W1;have L:=U0 W2;clear W1 W2;obtain ⟨ao,cp,hv,Y⟩:=Jp m;subst hv;obtain ⟨u0,x0,P⟩:=A.out.va.g0;obtain ⟨u1,x1,j⟩:=A.out.va.g1;obtain ⟨u2,x2,s⟩:=A.out.va.g2;have f:=c194 ao cp ms wr (fun i=>⟨by have:=(E i).1;omega,by have:=(E i).2.1;omega,by have:=(E i).2.2;omega⟩) O0 Y _ _ _ _ _ _ P j s;clear Y d P j s
   go_wp2_with fail
   refine f.mono ?_;rintro e w5 ⟨hck,X⟩;have hB5:=G7 J X;have U:=ownsRow_below m X;rcases hck with ⟨g,rfl⟩ | ⟨g,n,ty,va,rfl⟩
   · have c:=U0 (N.out g);clear N L g f;go_wp2;go_ret2;exact ⟨⟨ms,_,_,rfl,U,.inl ⟨rfl,c.out⟩⟩,hB5⟩
   have c:=U0 (L.out g);clear N L g f;go_wp2;go_ret2;exact ⟨⟨ms,_,_,rfl,U,.inr ⟨⟨n,ty,va,rfl⟩,c.out⟩⟩,hB5⟩
 have e0:(Y2 l).toList.isEmpty=false:=by
  rw [ByteArray.toList_eq]
  cases l with
  | nil=>exact absurd rfl hl
  | cons a r=>rfl
 have e1:¬ (Y2 l).toList=[]:=fun h=>by rw [h] at e0;cases e0
 obtain ⟨ao,cp,hv⟩:=Dp m;subst hv
 go_wp2_with fail
 refine (a0h l _ O0 A.out.mx).mono ?_;rintro e w1 ⟨rfl,z⟩;have B:=G7 J z;have hc:=UX l;have hcl:(Lib.cut l [10]).1.length<=300:=by
  rcases hc with ⟨_,h,_⟩ | ⟨_,h,_⟩
  · have:=P5 List.length h;rw [N9] at this;omega
  rw [h];omega
 have f:=U0 hc;clear hc;generalize (Lib.cut l [10]).1=ca at*;generalize (Lib.cut l [10]).2.1=cb at*;generalize (Lib.cut l [10]).2.2=cf at*;have hV1:=U0 (C.out.below B);cases cf
 · have c:Hid (Va S [] false):=by
    refine JC d.out hl fun y q t e=>?_;rcases f.out with ⟨h1,_⟩ | ⟨_,_,h3⟩
    · cases h1
    apply h3;rw [e];simp
   obtain ⟨t4,v4,g4⟩:=hV1.out.g4;clear f d
   go_wp2_with fail
   go_region
   all_goals go_wp2
   all_goals go_ret2
   all_goals exact ⟨Qw _ _ _ c.out,by first | exact B | exact B.drew⟩
 have o:Hid (l=ca++10::cb/\(10:UInt8)∉ca):=by
  rcases f.out with ⟨_,h⟩ | ⟨h,_⟩
  · exact h
  cases h
 clear f
 go_wp2_with fail
 refine (wP ca _ O0 hV1.out.mx).mono ?_;rintro e w2 ⟨⟨y2,rfl⟩,I⟩;have hB2:=G7 B I;have hV2:=U0 (C.out.below hB2);have hrs:=X7 ca
 go_wp2_with fail
 refine (c193 _ _ O0 hV2.out.mx).mono ?_;rintro e O ⟨⟨x,ok,rfl,F⟩,H⟩;have b:=G7 hB2 H;have a6A:=z.trans ((G7 I H).mono z.size);have Z:=U0 (C.out.below b);have V:=ownsRow_below m a6A;have hz3:=b.size;obtain ⟨t5,v5,g5⟩:=Z.out.g5;have g5':=past (by show 3<O.heap.size;have:=Z.out.va.pos;omega) g5;have p:Hid (¬ (O1 ca=[109,97,107,101]/\ok=true)->Va S [] false):=by
  intro hf;refine JC d.out hl (fun y q t e=>hf ?_);have hca:=(GK o.out.2 (Vp t) (o.out.1.symm.trans e)).1;obtain ⟨h1,h2⟩:=(dF t).1 hca;refine ⟨h1,?_⟩;cases ok
  · exact absurd h2 (F.2 rfl y t)
  rfl
 have D:Hid (O1 ca=[109,97,107,101]->ok=true->Way S (ms++[x]) cb/\cb.length<l.length):=by
  intro h1 h2;obtain ⟨j,s⟩:=F.1 h2;refine ⟨qO (a:=ca) (by rw [<- o.out.1];exact d.out) ⟨j,(dF j).2 ⟨h1,s⟩⟩,?_⟩;rw [o.out.1];simp;omega
 clear F d o m z I H g5;by_cases hw:O1 ca=[109,97,107,101];rotate_left
 · have c:=U0 (p.out (fun h=>hw h.1));have K:¬ (Y2 (O1 ca)).toList=[109,97,107,101]:=by rw [ByteArray.toList_eq];simpa [Y2] using hw
   have e3:((Y2 (O1 ca)).toList==[109,97,107,101])=false:=by simpa using K
   clear p D;unfold M3.v
   go_wp2_with fail
   go_region
   all_goals go_wp2
   all_goals go_ret2
   all_goals exact ⟨Qw _ _ _ c.out,by first | exact b.alloc b.size _ | exact (b.alloc b.size _).drew⟩
 have K:(Y2 (O1 ca)).toList=[109,97,107,101]:=by rw [hw,ByteArray.toList_eq];rfl
 have e3:((Y2 (O1 ca)).toList==[109,97,107,101])=true:=by simpa using K
 cases ok
 · have c:=U0 (p.out I4);clear p D hw;unfold M3.v
   go_wp2_with fail
   go_region
   all_goals go_wp2
   all_goals go_ret2
   all_goals exact ⟨Qw _ _ _ c.out,by first | exact b.alloc b.size _ | exact (b.alloc b.size _).drew⟩
 obtain ⟨Q,hw2⟩:=D.out hw rfl;have HW:=U0 Q;clear p D Q hw;unfold M3.v
 go_wp2_with (at_builtin;refine wpList_append_own _ rfl _ _ 80 rfl w.heap.size 101 i0 (.agg #[.string ⟨#[]⟩,.string ⟨#[]⟩,.string ⟨#[]⟩]) 3 48 underlying80 hi hz0 hz1 hz2 rfl O6 _ _ _ rfl ((V.alloc _).alloc _) ⟨O.heap.size+1,0,none⟩ 1 1 [_,_,_] rfl rfl (YV I4 _ _ _ _) (by intro u R;simp at R;rcases R with rfl | rfl | rfl <;> rfl) (by unfold maxLen;omega) O0 U7 ?_;intro v' w4 hown4 W _;have HG:Hid (Below w.heap.size w w4):=((b.alloc b.size _).alloc U7 _).grown W U7 (fun k g=>(V.lt k g).1);clear W)
 go_roundw
 case rel=>
  refine ⟨cb,ms++[x],rfl,HW,?_,HG.out⟩;rw [Ir,N9];exact hown4
 case measure=>simp only [T.strOf,J5];exact hw2
theorem a2k (s:BY) (w:World) (a:s.size<=1048576) (hv:Rz w):
 Calls prog 135 #[.string s] w fun e w'=>yV w s.data.toList e w'/\Below w.heap.size w w':=by
 by_cases h:300<s.size
 · exact ZL s w a h hv
 have:=zI s.data.toList w U7 hv;rw [qp] at this;exact this
theorem Qz {fs:List F2} (hm:T.Asc fs) (h:T.Place fs nm p f):(f=true->∃ i,i=p/\i<fs.length/\(fs.getD i P8).nm=nm)/\(f=false->Free fs nm):=by
 constructor
 · intro hf;exact ⟨p,rfl,(h.here.1 hf).1,(h.here.1 hf).2⟩
 intro hf j a e;rcases Aw j p with h1 | h1 | h1
 · have:=h.less j h1;rw [e,T.Yc] at this;cases this
 · subst h1;have:=h.here.2 ⟨a,e⟩;rw [hf] at this;cases this
 have b:=hm p j h1 a;rw [e] at b;have a2:=h.more p x9 O0;rw [b] at a2;cases a2
theorem rzF (a:Below (w.heap.size+2) ((w.alloc (.cells #[v] 41)).alloc (.cells #[.string ⟨#[]⟩,.string ⟨#[]⟩] 99)) u):
 u.cell? ⟨w.heap.size,0,none⟩=some v/\(u.cell? ⟨w.heap.size+1,0,none⟩=some (.string ⟨#[]⟩)/\u.cell? ⟨w.heap.size+1,1,none⟩=some (.string ⟨#[]⟩))/\u.frozen? ⟨w.heap.size+1,0,none⟩=false/\u.frozen? ⟨w.heap.size+1,1,none⟩=false:=by
 have c:∀ b j,b<w.heap.size+2->u.cell? ⟨b,j,none⟩=((w.alloc (.cells #[v] 41)).alloc (.cells #[vE,vE] 99)).cell? ⟨b,j,none⟩:=fun b j h=>a.cell (by exact h);have f:∀ b j,b<w.heap.size+2->u.frozen? ⟨b,j,none⟩=((w.alloc (.cells #[v] 41)).alloc (.cells #[vE,vE] 99)).frozen? ⟨b,j,none⟩:=fun b j h=>a.frozen (by exact h);rw [c _ _ O0,c _ _ O0,c _ _ O0,f _ _ O0,f _ _ O0];simp [go_sem]
theorem oH (u:World) (B:Nat) (a b x0 x1:Value) (h0:u.cell? ⟨B,0,none⟩=some x0) (h1:u.cell? ⟨B,1,none⟩=some x1):
 ((u.setCell ⟨B,0,none⟩ a).setCell ⟨B,1,none⟩ b).cell? ⟨B,0,none⟩=some a/\((u.setCell ⟨B,0,none⟩ a).setCell ⟨B,1,none⟩ b).cell? ⟨B,1,none⟩=some b:=by
 have c:(u.setCell ⟨B,0,none⟩ a).cell? ⟨B,1,none⟩=some x1:=by rw [La _ _ _ _ (Xd O0)];exact h1
 refine ⟨?_,Bf _ _ _ c⟩;rw [La _ _ _ _ (Xd O0)];exact Bf _ _ _ h0
def eX (fs:List F2) (nm:BY) (e:Ending):Prop:=∃ (x:F2) (there:Bool),e=.returned (.tuple #[.agg #[.string x.nm,.string x.tx],.bool there])/\((there=true/\∃ i,i<fs.length/\fs.getD i P8=x/\x.nm=nm)\/(there=false/\Free fs nm))
theorem a1u (a:OA) (g:Nat) (fs:List F2) (nm:BY) (w:World) (hl:fs.length<=40) (y:J6 w a fs) (hm:T.Asc fs):
 Calls prog 134 #[.agg #[.slice a fs.length g],.string nm] w fun e w'=>eX fs nm e/\Below w.heap.size w w':=by
 have z:Below w.heap.size w ((w.alloc (.cells #[vL a fs.length g] 41)).alloc (.cells #[vE,vE] 99)):=o7.alloc I4 _;have A:=T.EU a g fs nm _ hl (T.U5 y z) hm;go_enter func134,ntmps134
 go_wp2_with fail
 refine A.mono ?_;rintro e j ⟨⟨p,f,rfl,k⟩,u⟩;obtain ⟨n,m⟩:=Qz hm k;have r:Below (w.heap.size+2) ((w.alloc (.cells #[vL a fs.length g] 41)).alloc (.cells #[vE,vE] 99)) j:=lF u;have d:=z.trans (r.mono O0);obtain ⟨t0,⟨q,o⟩,y0,y1⟩:=rzF r;clear u A;cases f
 · have h:Hid (eX fs nm (.returned (.tuple #[.agg #[vE,vE],.bool false]))):=⟨⟨⟨#[]⟩,⟨#[]⟩⟩,false,rfl,.inr ⟨rfl,m rfl⟩⟩;clear n m k;go_wp2;have F:=oH j (w.heap.size+1) vE vE _ _ q o;refine P7 (v:=.tuple #[.agg #[vE,vE],.bool false]) (by simp [results,results134,go_sem,F.1,F.2]) rfl ⟨h.out,?_⟩;exact (d.setCell I4 _).setCell I4 _
 obtain ⟨i,rfl,c,s⟩:=n rfl;obtain ⟨b,off,hc⟩:=T.h_ y;obtain ⟨ha,t,l⟩:=Nc hc c;subst ha;have g0:=(d.cell (p:=⟨b,off+i*2,none⟩) t).trans (l i c).1;have g1:=(d.cell (p:=⟨b,off+i*2+1,none⟩) t).trans (l i c).2;have h:Hid (eX fs nm (.returned (.tuple #[.agg #[vS (fs.getD i P8).nm,vS (fs.getD i P8).tx],.bool true]))):=⟨_,true,rfl,.inl ⟨rfl,i,c,rfl,s⟩⟩;have B:Hid (∃ x,x=fs.getD i P8):=⟨_,rfl⟩;obtain ⟨x,hx⟩:=B.out;rw [<- hx] at g0 g1 h;clear n m k l B hx s;go_wp2;have F:=oH j (w.heap.size+1) (vS x.nm) (vS x.tx) _ _ q o;refine P7 (v:=.tuple #[.agg #[vS x.nm,vS x.tx],.bool true]) (by simp [results,results134,go_sem,F.1,F.2]) rfl ⟨h.out,?_⟩;exact (d.setCell I4 _).setCell I4 _
structure Yr (w:World):Prop where
 vr:Rz w
 gT:∃ t v,w.cell? ⟨0,0,none⟩=some (.iface t v)
theorem Yr.below {w':World} (h:Yr w) (a:Below w.heap.size w w'):Yr w':=by
 have hp:=h.vr.va.pos;obtain ⟨t,v,h0⟩:=h.gT;exact ⟨h.vr.below a,t,v,(a.cell (p:=⟨0,0,none⟩) (by show 0<w.heap.size;omega)).trans h0⟩
theorem wB {fs:List F2} (h:J_ fs) (a:i<fs.length):(fs.getD i P8).tx.size<=300:=by
 have:=h.2 i a;unfold T.Ie at this;simp only [Fa] at this;have h1:=this.1;unfold T.V_ at h1;simp only [Fa,Fe] at h1;have:=h1.2;omega
def QX (w:World) (fs:List F2) (e:Ending) (w':World):Prop:=∃ (ms:List M3) (v er:Value),e=.returned (.tuple #[v,er])/\w'.ownsRow w.heap.size 101 3 v ms.length (Xa ms)/\((er=.nilIface/\Sj fs ms)\/((∃ n ty va,er=.iface 230 (.agg #[.int .i64 n,.iface ty va]))/\Sj fs []))
theorem c82 (a:OA) (r:Nat) (fs:List F2) (w:World) (A:J_ fs) (K:J6 w a fs) (hv:Yr w):
 Calls prog 82 #[.agg #[.slice a fs.length r]] w fun e w'=>QX w fs e w'/\Below w.heap.size w w':=by
 have HV:=U0 hv;have E:=U0 A;have HAT:=U0 K;have hl:=A.1;have hm:=T.ji A;have HM:=U0 hm;have hB0:Below w.heap.size w (w.alloc (.cells #[vL a fs.length r] 41)):=o7;have P:=a1u a r fs Vr _ hl (T.U5 K hB0) hm;clear hv A K hm;unfold Vr at P;go_enter func82,ntmps82
 go_wp2_with fail
 refine P.mono ?_;rintro e q ⟨⟨x,there,rfl,hx⟩,hb1⟩;clear P;have H:Below (w.heap.size+1) (w.alloc (.cells #[vL a fs.length r] 41)) q:=lF hb1;have C:=hB0.trans (H.mono O0);have hz1:w.heap.size+1<=q.heap.size:=by have:=H.size;simpa using this
 have t1:q.cell? ⟨w.heap.size,0,none⟩=some (vL a fs.length r):=(H.cell (p:=⟨w.heap.size,0,none⟩) I4).trans (by simp [go_sem]);clear hb1;cases there
 · have m:Hid (Sj fs []):=by
    rcases hx with ⟨h,_⟩ | ⟨_,h⟩
    · cases h
    exact .inr (.inl ⟨E.out,h,rfl⟩)
   clear hx;go_wp2;go_ret2;exact ⟨⟨[],_,_,rfl,ng _ _ _ _,.inl ⟨rfl,m.out⟩⟩,C.alloc C.size _⟩
 have l:Hid (∃ i,i<fs.length/\fs.getD i P8=x/\x.nm=Vr):=by
  rcases hx with ⟨_,h⟩ | ⟨h,_⟩
  · exact h
  cases h
 have hxt:x.tx.size<=300:=by
  obtain ⟨i,g,rfl,_⟩:=l.out;exact wB E.out g
 have z:Hid (∀ d ok,Va x.tx.data.toList d ok->¬ (ok=true/\Jm fs d)->Sj fs []):=fun d ok c t=>by
  obtain ⟨i,g,rfl,I⟩:=l.out;exact .inr (.inr ⟨E.out,i,g,I,d,ok,c,.inr ⟨t,rfl⟩⟩)
 have D:Hid (∀ d,Va x.tx.data.toList d true->Jm fs d->Sj fs d):=fun d c t=>by
  obtain ⟨i,g,rfl,I⟩:=l.out;exact .inr (.inr ⟨E.out,i,g,I,d,true,c,.inl ⟨rfl,t,rfl⟩⟩)
 clear hx l;have hA1:Below w.heap.size w (q.alloc (.cells #[vS x.nm,vS x.tx] 99)):=C.alloc C.size _
 go_wp2_with fail
 refine (a2k x.tx _ O0 (HV.out.below hA1).vr).mono ?_;rintro e s ⟨⟨ms,v,er,rfl,V,hor⟩,B⟩;have O:=G7 hA1 B;have hz2:q.heap.size+1<=s.heap.size:=by have:=B.size;simpa using this
 have t2:=(B.cell (p:=⟨w.heap.size,0,none⟩) U7).trans (past (by show w.heap.size<q.heap.size;omega) t1 _);have U:s.ownsRow w.heap.size 101 3 v ms.length (Xa ms):=yg V U7;clear V B;obtain ⟨ao,co,hvv⟩:=Dp U;subst hvv;rcases hor with ⟨rfl,c⟩ | ⟨⟨n,ty,va,rfl⟩,c⟩;rotate_left
 · have m:=U0 (z.out _ _ c I4);clear c z D;go_wp2;go_ret2;exact ⟨⟨[],_,_,rfl,ng _ _ _ _,.inr ⟨⟨n,ty,va,rfl⟩,m.out⟩⟩,O⟩
 have HP:=U0 c;obtain ⟨hml,hms⟩:=Tq c;clear c
 go_wp2_with fail
 go_loopw [30] (fun i wr=>∃ (k:Nat),k<=ms.length/\i=.int .i64 k/\Hid (∀ j,j<k->Free fs (ms.getD j H_).nm)/\Below s.heap.size s wr) (fun i _=>ms.length - (intOf i).toNat)
 case atStart=>exact ⟨0,D5 _,rfl,fun j h=>absurd h (o9 _),Z4 _ _⟩
 obtain ⟨k,hk,rfl,W,u⟩:=hrel;have L:=G7 O u;have S:=ownsRow_below U u;have hzr:=u.size;have tr:=(u.cell (p:=⟨w.heap.size,0,none⟩) (by show w.heap.size<s.heap.size;omega)).trans t2;by_cases J:k<ms.length;rotate_left
 · obtain rfl:k=ms.length:=O0;have m:=U0 (D.out _ HP.out (fun i g=>W.out i g));clear z D;go_wp2;go_ret2;exact ⟨⟨ms,_,_,rfl,S,.inl ⟨rfl,m.out⟩⟩,L⟩
 obtain ⟨ao',co',hv',a4t⟩:=Jp S;injection hv' with e1 e2 e3;subst e1 e3;obtain ⟨b,off,hc⟩:=uj a4t;obtain ⟨hao,hbw,X⟩:=Nc hc J;subst hao;obtain ⟨g0,g1,g2⟩:=X k J;have l:Hid (∃ y,y=ms.getD k H_):=⟨_,rfl⟩;obtain ⟨y,F⟩:=l.out;rw [<- F] at g0 g1 g2;have HY:=U0 F;clear F l X a4t;have hAr:∀ o,Below w.heap.size w (wr.alloc o):=fun o=>L.alloc L.size _;have h35:=fun o=>T.EU a r fs y.nm (wr.alloc o) hl (T.U5 HAT.out (hAr o)) HM.out;have tr':=past (by show w.heap.size<wr.heap.size;omega) tr
 go_wp2_with fail
 refine (h35 _).mono ?_;rintro e w3 ⟨⟨p,f,rfl,c⟩,Z⟩;obtain ⟨R,Q⟩:=Qz HM.out c;have Y:=(u.alloc hzr _).trans (Z.mono U7);have N:=G7 O Y;clear h35 c Z;cases f
 · have a5l:Hid (∀ j,j<k+1->Free fs (ms.getD j H_).nm):=fun j hj=>by
    rcases o8 j k with h | h
    · exact W.out j h
    obtain rfl:j=k:=O0;rw [<- HY.out];exact Q rfl
   clear R Q;go_wp2;go_roundw
   case rel=>exact ⟨k+1,O0,by go_num,a5l,Y⟩
   case measure=>simp [intOf];omega
 have m:Hid (Sj fs []):=by
  refine z.out _ _ HP.out fun h=>?_;obtain ⟨i,_,g,t⟩:=R rfl;have:=h.2 k J i g;rw [<- HY.out] at this;exact this t
 obtain ⟨t5,v5,g5⟩:=(HV.out.below N).gT;clear R Q z D
 go_wp2_with fail
 try go_region
 all_goals go_wp2
 all_goals go_ret2
 all_goals exact ⟨⟨[],_,_,rfl,ng _ _ _ _,.inr ⟨⟨_,_,_,rfl⟩,m.out⟩⟩,by first | exact N | exact N.drew⟩
def Is7 (w:World) (fs:List F2) (e:Ending) (w':World):Prop:=∃ (ms:List M3) (v:Value),e=.returned v/\w'.ownsRow w.heap.size 101 3 v ms.length (Xa ms)/\Sj fs ms
theorem c41 (a:OA) (c:Nat) (fs:List F2) (w:World) (hl:fs.length<=1048576) (E:∀ i,(fs.getD i P8).le 1048576) (m:J6 w a fs) (hv:Yr w):
 Calls prog 41 #[.agg #[.slice a fs.length c]] w fun e w'=>Is7 w fs e w'/\Below w.heap.size w w':=by
 have A:=U0 hv;have L:=U0 m;have x:Below w.heap.size w (w.alloc (.cells #[vL a fs.length c] 41)):=o7;have z:=T.c81 a c fs _ hl E (T.U5 m x);clear hv m;go_enter func41,ntmps41
 go_wp2_with fail
 refine z.mono ?_;rintro e f ⟨⟨b,rfl,j⟩,u⟩;have l:Below (w.heap.size+1) (w.alloc (.cells #[vL a fs.length c] 41)) f:=lF u;have k:=x.trans (l.mono O0);have hz1:w.heap.size+1<=f.heap.size:=by have:=l.size;simpa using this
 have t1:f.cell? ⟨w.heap.size,0,none⟩=some (vL a fs.length c):=(l.cell (p:=⟨w.heap.size,0,none⟩) I4).trans (by simp [go_sem]);clear u z;cases b
 · have J:Hid (Sj fs []):=.inl ⟨(fun h=>by have:=j.2 h;cases this),rfl⟩;clear j;go_wp2;go_ret;exact ⟨⟨[],_,rfl,ng _ _ _ _,J.out⟩,k⟩
 have K:=U0 (j.1 rfl);clear j;have y:=c82 a c fs f K.out (T.U5 L.out k) (A.out.below k)
 go_wp2_with fail
 refine y.mono ?_;rintro e C ⟨⟨ms,v,er,rfl,t,H⟩,I⟩;have q:=G7 k I;have s:C.ownsRow w.heap.size 101 3 v ms.length (Xa ms):=yg t O0;obtain ⟨ao,co,D⟩:=Dp s;subst D;clear y t;rcases H with ⟨rfl,d⟩ | ⟨⟨n,ty,va,rfl⟩,d⟩
 · have r:=U0 d;clear d
   go_wp2_with fail
   refine (NS _).mono ?_;rintro e B ⟨rfl,g⟩;have F:=ownsRow_below s g;have o:=G7 q g;go_wp2;go_ret;exact ⟨⟨ms,_,rfl,F,r.out⟩,o⟩
 have r:=U0 d;clear d
 go_wp2_with fail
 refine (lU n ty va _ (A.out.below q).vr.va.g6).mono ?_;rintro e B ⟨rfl,g⟩;have o:=G7 q g;go_wp2;go_ret;exact ⟨⟨[],_,rfl,ng _ _ _ _,r.out⟩,o⟩
def Is5 (fs:List F2) (e:Ending) (w':World):Prop:=∃ (ms:List M3) (a:OA) (cap:Nat),e=.returned (.slice a ms.length cap)/\Pn w' a ms/\Sj fs ms
theorem c105 (a:OA) (d:Nat) (fs:List F2) (w:World) (hl:fs.length<=1048576) (hs:∀ i,(fs.getD i P8).le 1048576) (P:J6 w a fs):
 Calls prog 105 #[.agg #[.slice a fs.length d]] w fun e w'=>Is5 fs e w'/\Below w.heap.size w w':=by
 have R:=U0 P;have hB0:Below w.heap.size w (w.alloc (.cells #[vL a fs.length d] 41)):=o7;have v:=T.vX a d fs Vr _ hl (T.U5 P hB0);clear P;unfold Vr at v;go_enter func105,ntmps105
 go_wp2_with fail
 refine v.mono ?_;rintro e n ⟨⟨r,rfl,hr⟩,hb1⟩;have L:Below (w.heap.size+1) (w.alloc (.cells #[vL a fs.length d] 41)) n:=lF hb1;have hB1:=hB0.trans (L.mono O0);have hz1:w.heap.size+1<=n.heap.size:=by have:=L.size;simpa using this
 have t1:n.cell? ⟨w.heap.size,0,none⟩=some (vL a fs.length d):=(L.cell (p:=⟨w.heap.size,0,none⟩) I4).trans (by simp [go_sem]);have h15:=T.c156 a d fs n hl hs (T.U5 R.out hB1);clear hb1 v
 go_wp2_with fail
 refine h15.mono ?_;rintro e w2 ⟨⟨b,rfl,C⟩,B⟩;have m:=G7 hB1 B;have hz2:=B.size;have t2:=(B.cell (p:=⟨w.heap.size,0,none⟩) (by show w.heap.size<n.heap.size;omega)).trans t1;clear h15 B t1;cases b
 · have l:Hid (Sj fs []):=.inl ⟨(fun h=>by have:=C.2 h;cases this),rfl⟩;clear C hr;go_wp2;go_ret;exact ⟨⟨[],_,_,rfl,.inl rfl,l.out⟩,m.alloc m.size _⟩
 have F:=U0 (C.1 rfl);clear C;rcases hr with ⟨rfl,Y⟩ | ⟨i,rfl,q,N⟩
 · have l:Hid (Sj fs []):=.inr (.inl ⟨F.out,Y,rfl⟩);clear Y;go_wp2;go_ret;exact ⟨⟨[],_,_,rfl,.inl rfl,l.out⟩,m.alloc m.size _⟩
 have hxt:=wB F.out q;have H:Hid (∀ c ok,Va (fs.getD i P8).tx.data.toList c ok->¬ (ok=true/\Jm fs c)->Sj fs []):=fun c ok f O=>.inr (.inr ⟨F.out,i,q,N,c,ok,f,.inr ⟨O,rfl⟩⟩);have E:Hid (∀ c,Va (fs.getD i P8).tx.data.toList c true->Jm fs c->Sj fs c):=fun c f O=>.inr (.inr ⟨F.out,i,q,N,c,true,f,.inl ⟨rfl,O,rfl⟩⟩);obtain ⟨bf,off,hc⟩:=T.h_ (T.U5 R.out m);obtain ⟨ha,hbw,t⟩:=Nc hc q;subst ha;have g1:=(t i q).2;have z:Hid (∃ x,x=fs.getD i P8):=⟨_,rfl⟩;obtain ⟨x,hx⟩:=z.out;rw [<- hx] at g1 H E hxt;clear t z hx N
 go_wp2_with fail
 refine (c164 x.tx _ O0).mono ?_;rintro e I ⟨⟨ms,ok,am,cm,rfl,a4t,f⟩,A⟩;have hB3:=G7 m A;have hz3:=A.size;have t3:=(A.cell (p:=⟨w.heap.size,0,none⟩) (by show w.heap.size<w2.heap.size;omega)).trans t2;have HP:=U0 f;obtain ⟨hml,hms⟩:=Tq f;have a5H:=U0 a4t;clear f A t2 a4t
 go_wp2_with fail
 go_loopw [5,6] (fun o i wr=>∃ (k:Nat) (b:Bool),k<=ms.length/\i=.int .i64 k/\o=.bool b/\Hid (b=true↔ok=true/\∀ j,j<k->Free fs (ms.getD j H_).nm)/\Below I.heap.size I wr) (fun _ i _=>ms.length - (intOf i).toNat)
 case atStart=>exact ⟨0,ok,D5 _,rfl,rfl,⟨fun h=>⟨h,fun j h=>absurd h (o9 _)⟩,fun h=>h.1⟩,Z4 _ _⟩
 obtain ⟨k,b,hk,rfl,rfl,s,g⟩:=hrel;have D:=G7 hB3 g;have hzr:=g.size;have tr:=(g.cell (p:=⟨w.heap.size,0,none⟩) (by show w.heap.size<I.heap.size;omega)).trans t3;by_cases Z:k<ms.length;rotate_left
 · obtain rfl:k=ms.length:=O0;cases b
   · have l:=U0 (H.out _ _ HP.out (fun h=>by have:=s.out.2 h;cases this));clear H E;go_wp2;go_ret;exact ⟨⟨[],_,_,rfl,.inl rfl,l.out⟩,D.alloc D.size _⟩
   obtain ⟨h1,h2⟩:=s.out.1 rfl;subst h1;have l:=U0 (E.out _ HP.out h2);have a6B:=U0 (Ol a5H.out g);clear H E h2;go_wp2;go_ret;exact ⟨⟨ms,_,_,rfl,a6B.out,l.out⟩,D⟩
 cases b
 · have a5l:Hid (false=true↔ok=true/\∀ j,j<k+1->Free fs (ms.getD j H_).nm):=⟨(fun h=>by cases h),fun h=>s.out.2 ⟨h.1,fun j hj=>h.2 j O0⟩⟩
   go_wp2_with fail
   refine wp_region_held_drew (S:=(fun _=>True)) J3 ?_ fun hHeld=>?_
   · ((try dsimp only);(first | done | trivial))
   refine Y0 0 ?_;refine Y0 1 ?_;refine Y4 2 ?_;refine Y4 3 ?_;refine Y4 4 ?_;refine Y4 5 ?_;refine Y4 6 ?_;refine Y4 7 ?_;refine Y4 8 ?_;refine Y4 9 ?_;refine Y0 10 ?_;refine Y0 11 ?_;refine wpAnyH_done J3 ?_ _;clear hHeld;go_wp2;go_roundw
   case rel=>exact ⟨k+1,false,O0,by go_num,rfl,a5l,g.drew⟩
   case measure=>simp [intOf];omega
 obtain ⟨bm,V,hc⟩:=uj (Ol a5H.out g);obtain ⟨hao,a6C,t⟩:=Nc hc Z;subst hao;have g0:=(t k Z).1;have z:Hid (∃ y,y=ms.getD k H_):=⟨_,rfl⟩;obtain ⟨y,J⟩:=z.out;rw [<- J] at g0;have HY:=U0 J;clear J z t;have hwz:w.heap.size<wr.heap.size:=O0;have v:=fun u (hu:Below w.heap.size w u)=>T.vX (some ⟨bf,off,none⟩) d fs y.nm u hl (T.U5 R.out hu)
 go_wp2_with fail
 refine wp_region_held_drew (S:=(fun u=>u.cell? ⟨w.heap.size,0,none⟩=some (vL (some ⟨bf,off,none⟩) fs.length d)/\u.cell? ⟨bm,V+k*3,none⟩=some (vS y.nm))) J3 ?_ fun hHeld=>?_
 · ((try dsimp only);go_keep)
 refine Y0 0 ?_;refine Y0 1 ?_;refine Y0 2 ?_;refine Y0 3 ?_;refine Y0 4 ?_;refine Y0 5 ?_;refine Y0 6 ?_;refine Y0 7 ?_;refine rq 8 fun K hK=>?_;go_simp;refine (v _ D.drew).mono ?_;rintro e w4 ⟨⟨U,rfl,X⟩,hb4⟩;have Q:Hid (Below wr.heap.size wr w4):=(Z4 _ _).drew.trans hb4;have HR4:=U0 X;clear X;have e1:=(Q.out.cell (p:=⟨w.heap.size,0,none⟩) (by exact hwz)).trans tr;have e2:=(Q.out.cell (p:=⟨bm,V+k*3,none⟩) (by exact a6C)).trans g0
 go_wp2_with fail
 clear hHeld;refine VA hK fun hHeld=>?_;clear hK K;refine Y0 9 ?_;refine Y0 10 ?_;refine Y0 11 ?_;refine wpAnyH_done J3 ?_ _;clear hHeld;have a6D:=g.trans (Q.out.mono hzr);have HF:Hid (decide (U<0)=true↔ok=true/\∀ j,j<k+1->Free fs (ms.getD j H_).nm):=by
  constructor
  · intro h;have h:=lI h;refine ⟨(s.out.1 (by first | rfl | trivial)).1,fun j hj=>?_⟩;rcases o8 j k with h1 | h1
    · exact (s.out.1 (by first | rfl | trivial)).2 j h1
    obtain rfl:j=k:=O0;rw [<- HY.out];rcases HR4.out with ⟨_,h2⟩ | ⟨W,h2,_⟩
    · exact h2
    omega
  intro h;apply y_;rcases HR4.out with ⟨h2,_⟩ | ⟨W,h2,h3,h4⟩
  · omega
  exact absurd (by rw [<- HY.out];exact h4) (h.2 k O0 W h3)
 go_wp2;go_roundw
 case rel=>exact ⟨k+1,decide (U<0),O0,by go_num,rfl,HF,a6D⟩
 case measure=>simp [intOf];omega
theorem EO (h:Zd ms=true):iF ms:=by
 have h2:=((Jj ms).1 h).2;have b:∀ j,j+1<ms.length->lt (ms.getD j H_).nm (ms.getD (j+1) H_).nm=true:=fun j a=>by
  have:=h2 (j+1) a;unfold stepM at this;simp only [Fa,iI,Fe] at this;rcases this.2 with h | h
  · omega
  exact h
 intro i j hij
 induction j with
 | zero=>omega
 | succ j ih=>
  intro a;rcases o8 i j with h1 | h1
  · exact og (ih h1 O0) (b j a)
  obtain rfl:i=j:=O0;exact b i a
theorem IE:iF []:=fun _ _ _ h=>absurd h (o9 _)
theorem uO {fs:List F2} (h:Sj fs ms):iF ms:=by
 rcases h with ⟨_,rfl⟩ | ⟨_,_,rfl⟩ | ⟨_,i,hi,hn,ks,ok,a,hr⟩
 · exact IE
 · exact IE
 rcases hr with ⟨rfl,_,rfl⟩ | ⟨_,rfl⟩
 · exact EO (a.1 rfl).1
 exact IE
theorem rzN (a:Below (w.heap.size+2) ((w.alloc (.cells #[v] 41)).alloc (.cells #[.string ⟨#[]⟩,.string ⟨#[]⟩,.string ⟨#[]⟩] 101)) u):
 (u.cell? ⟨w.heap.size+1,0,none⟩=some (.string ⟨#[]⟩)/\u.cell? ⟨w.heap.size+1,1,none⟩=some (.string ⟨#[]⟩)/\u.cell? ⟨w.heap.size+1,2,none⟩=some (.string ⟨#[]⟩))/\u.frozen? ⟨w.heap.size+1,0,none⟩=false/\u.frozen? ⟨w.heap.size+1,1,none⟩=false/\u.frozen? ⟨w.heap.size+1,2,none⟩=false:=by
 have c:∀ b j,b<w.heap.size+2->u.cell? ⟨b,j,none⟩=((w.alloc (.cells #[v] 41)).alloc (.cells #[vE,vE,vE] 101)).cell? ⟨b,j,none⟩:=fun b j h=>a.cell (by exact h);have f:∀ b j,b<w.heap.size+2->u.frozen? ⟨b,j,none⟩=((w.alloc (.cells #[v] 41)).alloc (.cells #[vE,vE,vE] 101)).frozen? ⟨b,j,none⟩:=fun b j h=>a.frozen (by exact h);rw [c _ _ O0,c _ _ O0,c _ _ O0,f _ _ O0,f _ _ O0,f _ _ O0];simp [go_sem]
def EP (fs:List F2) (nm:BY) (e:Ending):Prop:=∃ ms,Sj fs ms/\zT ms nm e
theorem c57 (a:OA) (l:Nat) (fs:List F2) (nm:BY) (w:World) (hl:fs.length<=1048576) (r:∀ i,(fs.getD i P8).le 1048576) (z:J6 w a fs):
 Calls prog 57 #[.agg #[.slice a fs.length l],.string nm] w fun e w'=>EP fs nm e/\Below w.heap.size w w':=by
 have C:=fun u (K:Below w.heap.size w u)=>c105 a l fs u hl r (U5 z K);have B:∀ o1 o2,Below w.heap.size w ((w.alloc o1).alloc o2):=fun o1 o2=>o7.alloc I4 _;go_enter func57,ntmps57
 go_wp2_with fail
 refine (C _ (B _ _)).mono ?_;rintro e c ⟨⟨ms,a1,cap1,rfl,t,d⟩,g⟩;have A:=(B _ _).trans (g.mono U7);have q:Below (w.heap.size+2) ((w.alloc (.cells #[vL a fs.length l] 41)).alloc (.cells #[vE,vE,vE] 101)) c:=lF g;obtain ⟨⟨p,o,n⟩,y0,y1,y2⟩:=rzN q;have hlm:=vG d;obtain ⟨b,off,hc⟩:=uj t;have L:=U0 hc;have H:=U0 d;clear hc t d C g q z r
 go_wp2_with fail
 go_loop [7] (fun i=>∃ k:Nat,k<=ms.length/\i=.int .i64 k/\Hid (∀ j,j<k->(ms.getD j H_).nm≠nm)) (fun i=>ms.length - (intOf i).toNat)
 case atStart=>exact ⟨0,D5 _,rfl,fun j h=>absurd h (o9 _)⟩
 obtain ⟨k,hk,rfl,s⟩:=hrel;by_cases f:k<ms.length;rotate_left
 · have m:Hid (EP fs nm (.returned (.tuple #[.agg #[vE,vE,vE],.bool false]))):=⟨ms,H.out,⟨⟨#[]⟩,⟨#[]⟩,⟨#[]⟩⟩,false,rfl,.inr ⟨rfl,fun j J=>s.out j O0⟩⟩;go_wp2;have F:=Yp c (w.heap.size+1) 0 vE vE vE _ _ _ p o n;refine P7 (v:=.tuple #[.agg #[vE,vE,vE],.bool false]) (by simp [results,results57,go_sem,F.1,F.2.1,F.2.2]) rfl ⟨m.out,?_⟩;exact ((A.setCell I4 _).setCell I4 _).setCell I4 _
 obtain ⟨ha,hbw,y⟩:=Nc L.out f;subst ha;obtain ⟨g0,g1,g2⟩:=y k f;have E:Hid (∃ x,x=ms.getD k H_):=⟨_,rfl⟩;obtain ⟨x,hx⟩:=E.out;rw [<- hx] at g0 g1 g2;have D:=U0 hx;clear y hx E;cases hq:(x.nm.toList==nm.toList)
 · have I:Hid (∀ j,j<k+1->(ms.getD j H_).nm≠nm):=fun j J=>by
    rcases o8 j k with h | h
    · exact s.out j h
    obtain rfl:j=k:=O0;rw [<- D.out];intro e;rw [e] at hq;simp at hq
   go_wp2
   go_round
   case rel=>exact ⟨k+1,O0,by go_num,I⟩
   case measure=>simp [intOf];omega
 have he:x.nm=nm:=by
  have:=Zn.1 hq;rw [ByteArray.toList_eq,ByteArray.toList_eq] at this;exact qg (Rl.1 this)
 have m:Hid (EP fs nm (.returned (.tuple #[.agg #[vS x.nm,vS x.tl,vS x.ar],.bool true]))):=⟨ms,H.out,x,true,rfl,.inl ⟨rfl,k,f,D.out.symm,he⟩⟩;clear he;go_wp2;have F:=Yp c (w.heap.size+1) 0 (vS x.nm) (vS x.tl) (vS x.ar) _ _ _ p o n;refine P7 (v:=.tuple #[.agg #[vS x.nm,vS x.tl,vS x.ar],.bool true]) (by simp [results,results57,go_sem,F.1,F.2.1,F.2.2]) rfl ⟨m.out,?_⟩;exact ((A.setCell I4 _).setCell I4 _).setCell I4 _
end
end Go.Proofs.YtkdbheidpdjimaaGreatDoor.G
namespace Go.Proofs.YtkdbheidpdjimaaGreatDoor
open Proofs.Tryz Go.RowKit
def RH (rt:LB):Prop:=rt.length<=10/\∀ i,i<rt.length->o6 (rt.getD i ByteArray.empty).data.toList=true/\rt.getD i ByteArray.empty∉rt.take i
theorem rG {w:World} {b off k:Nat} {rt:LB} (hk:k<=rt.length) (hl:b<w.heap.size) (h:∀ i,i<rt.length->w.cell? ⟨b,off+i,none⟩=some (.string (rt.getD i ByteArray.empty))):G.nG w (some ⟨b,off,none⟩) (rt.take k):=.inr ⟨b,off,rfl,hl,fun i a=>by
 have h1:i<rt.length:=by simp at a;omega
 have h2:i<k:=by simp at a;omega
 rw [h i h1];simp [List.getD,h1,h2]⟩
theorem Ro {α:Type} {l:List α} {k:Nat} (a:k<=l.length):(l.take k).length=k:=by rw [B_,Vk a]
theorem c39 (a:OA) (o:Nat) (rt:LB) (w:World) (hcp:rt.length<=o) (hl:rt.length<=1048576) (q:∀ i,(rt.getD i ByteArray.empty).size<=1048576) (r:y8 w a rt):
 Calls prog 39 #[.slice a rt.length o] w fun e w'=>Rb (RH rt) e/\w'=w:=by
 obtain ⟨b,off,hc⟩:=Q_ r;have D:=U0 hc;have y:=U0 q;clear hc r q;go_enter func39,ntmps39;by_cases t:rt.length<=10;rotate_left
 · have d:Hid (¬ RH rt):=fun h=>t h.1;have z:(10:Int)<rt.length:=O0;go_wp2;go_ret;exact ⟨G5 d.out,rfl⟩
 have z:¬ (10:Int)<rt.length:=O0
 go_wp2_with fail
 go_loop [10] (fun i=>∃ k:Nat,k<=rt.length/\i=.int .i64 k/\Hid (∀ j,j<k->o6 (rt.getD j ByteArray.empty).data.toList=true/\rt.getD j ByteArray.empty∉rt.take j)) (fun i=>rt.length - (intOf i).toNat)
 case atStart=>exact ⟨0,D5 _,rfl,fun j h=>absurd h (o9 _)⟩
 case round=>
  obtain ⟨k,g,rfl,hd⟩:=hrel;by_cases f:k<rt.length;rotate_left
  · obtain rfl:k=rt.length:=O0;have x:Hid (RH rt):=⟨t,hd.out⟩;go_wp2;go_ret;exact ⟨C_ x.out,rfl⟩
  obtain ⟨ha,v,n⟩:=Nc D.out f;subst ha;have g0:=n k f;have hsz:=y.out k;have C:Hid (o6 (rt.getD k ByteArray.empty).data.toList=true/\rt.getD k ByteArray.empty∉rt.take k->∀ j,j<k+1->o6 (rt.getD j ByteArray.empty).data.toList=true/\rt.getD j ByteArray.empty∉rt.take j):=fun l j hj=>by
   rcases o8 j k with h | h
   · exact hd.out j h
   · obtain rfl:j=k:=O0;exact l
  have d:Hid (¬ (o6 (rt.getD k ByteArray.empty).data.toList=true/\rt.getD k ByteArray.empty∉rt.take k)->¬ RH rt):=fun l h=>l (h.2 k f);have m:=fun s=>G.c78 (some (aA b off)) o (rt.take k) s w (by rw [Ro g];omega) (rG g v n);simp only [Ro g] at m;have A:=U0 m;generalize rt.getD k ByteArray.empty=X at*;clear n hd m
  go_wp2_with fail
  refine (QN X w O0).mono ?_;rintro e u ⟨rfl,hw⟩;obtain rfl:=hw.symm;by_cases c:o6 X.data.toList=true;rotate_left
  · have p:=U0 (d.out (fun h=>c h.1));rw [Uh.2 c];go_wp2;go_ret;exact ⟨G5 p.out,rfl⟩
  rw [c]
  go_wp2_with fail
  refine (A.out X).mono ?_;rintro e u ⟨rfl,hw⟩;obtain rfl:=hw.symm;by_cases hm:X∈rt.take k
  · have p:=U0 (d.out (fun h=>h.2 hm));rw [G.Yh.2 hm];go_wp2;go_ret;exact ⟨G5 p.out,rfl⟩
  have B:=U0 (C.out ⟨c,hm⟩);rw [Uh.2 (fun h=>hm (G.Yh.1 h))];go_wp2
  go_round
  case rel=>exact ⟨k+1,O0,by go_num,B⟩
  case measure=>simp [intOf];omega
theorem mD {P:Program} {ops:Array Oper} {Q:Exit->Act->World->Prop} {b:List Oper} {o:Oper} {a:Act} {w:World} (hw:Region.wanted o (yielded ops a.tmps)=true) (ty:TypeId) (x:Operand) (ho:o.op=.load ty x) {B:Nat} {t:TypeId} {cs:List Value} {d:TypeDesc} (hx:a.eval x=.pointer (some ⟨B,0,none⟩)) (hB:Cl w B t cs) (c:P.underlying ty=some d) (hd:(match d with | .struct _ | .array _ _=>true | _=>false)=true) (e:(P.info? ty).map (·.size)=some cs.length) (h:wpList P ops Q b (a.put o.dst (.agg cs.toArray)) w):wpList P ops Q (o::b) a w:=by
 refine wpList_step fun K f=>?_;rw [G8 hw];unfold Oper.wp;rw [Y8 ty x ho hx (fun i v hv=>by rw [E8,hB.cell];exact hv) c hd e];exact f _ _ h
def pF (ms:List M3) (rn:List Rn):Prop:=∀ i,i<rn.length->(∃ j,j<ms.length/\(ms.getD j H_).nm=(rn.getD i Aa).nm)/\Ig (rn.getD i Aa)/\(0<i->Op.bytesLess (rn.getD (i - 1) Aa).nm.toList (rn.getD i Aa).nm.toList=true)
theorem EQ (x:Rn) (b:OA) (a:Nat):∀ v∈Ht (x,.slice b x.ls.length a),v.oneCell'=true:=fun v hv=>by
 simp [Ht] at hv;rcases hv with rfl|rfl|rfl|rfl|rfl|rfl<;>rfl
theorem c40 (a pa:OA) (cap pc:Nat) (rn:List Rn) (ms:List M3) (w:World) (hl:rn.length<=1048576) (Y:∀ i,(rn.getD i Aa).le 1048576) (hm:ms.length<=300) (hasc:G.iF ms) (hat:Dj w a rn) (Z:G.Pn w pa ms):
 Calls prog 40 #[.slice a rn.length cap,.slice pa ms.length pc] w fun e w'=>Rb (pF ms rn) e/\Bw w w':=by
 obtain ⟨b,off,hc⟩:=P_ hat;have HC:=U0 hc;have HS:=U0 Y;have HA:=U0 hasc;have HK:=U0 Z;clear hc hat Y hasc Z;go_enter func40,ntmps40
 go_wp2_with fail
 go_loopw [11] (fun i wr=>∃ k:Nat,k<=rn.length/\i=.int .i64 k/\Hid (∀ i,i<k->(∃ j,j<ms.length/\(ms.getD j H_).nm=(rn.getD i Aa).nm)/\Ig (rn.getD i Aa)/\(0<i->Op.bytesLess (rn.getD (i - 1) Aa).nm.toList (rn.getD i Aa).nm.toList=true))/\Below w.heap.size w wr) (fun i _=>rn.length - (intOf i).toNat)
 case atStart=>exact ⟨0,D5 _,rfl,fun j h=>absurd h (o9 _),Z4 _ _⟩
 case round=>
  obtain ⟨k,hk,rfl,hd,l⟩:=hrel;by_cases F:k<rn.length;rotate_left
  · obtain rfl:k=rn.length:=O0;have HY:Hid (pF ms rn):=hd.out;go_wp2;go_ret;exact ⟨C_ HY.out,l⟩
  obtain ⟨ha,J,I⟩:=Nc HC.out F;subst ha;have P:=U0 l;have a3r:=m_ J l.size;obtain ⟨d,c,gB,gL⟩:=(I k F).below J l;have HP:Hid (wr.cell? (aA b (off+(k - 1)*6))=some (vS (rn.getD (k - 1) Aa).nm)):=by
   obtain ⟨_,_,g,_⟩:=(I (k - 1) O0).below J l;exact g 0 _ rfl
  have hxs:=U0 (HS.out k);have N:Hid (¬ ((∃ j,j<ms.length/\(ms.getD j H_).nm=(rn.getD k Aa).nm)/\Ig (rn.getD k Aa)/\(0<k->Op.bytesLess (rn.getD (k - 1) Aa).nm.toList (rn.getD k Aa).nm.toList=true))->¬ pF ms rn):=fun H h=>H (h k F);have HD:Hid (((∃ j,j<ms.length/\(ms.getD j H_).nm=(rn.getD k Aa).nm)/\Ig (rn.getD k Aa)/\(0<k->Op.bytesLess (rn.getD (k - 1) Aa).nm.toList (rn.getD k Aa).nm.toList=true))->∀ i,i<k+1->(∃ j,j<ms.length/\(ms.getD j H_).nm=(rn.getD i Aa).nm)/\Ig (rn.getD i Aa)/\(0<i->Op.bytesLess (rn.getD (i - 1) Aa).nm.toList (rn.getD i Aa).nm.toList=true)):=fun H j hj=>by
   rcases o8 j k with h | h
   · exact hd.out j h
   · obtain rfl:j=k:=O0;exact H
  generalize rn.getD k Aa=x at*;generalize rn.getD (k - 1) Aa=y at*;have GB:=U0 gB;have GL:=U0 gL;clear I hd gB gL l
  go_upto_region 4 with (first | (refine Z9 rfl (Y8 115 _ rfl (B:=b) (j:=off+k*6) (cs:=Ht (x,vL d x.ls.length c)) rfl GB.out underlying115 rfl J3) ?_) | (refine Z8 rfl 115 _ _ rfl (B:=wr.heap.size) (j:=0) rfl (vs:=Ht (x,vL d x.ls.length c)) rfl (G6 wr [vE,vO,vE,vN,vO,vE] 115) x9 (EQ x d c) J3 ?_;intro z cz X))
  have C:Hid (Cl z wr.heap.size 115 [vS x.nm,vI x.md,vS x.wt,vL d x.ls.length c,vI x.cd,vS x.tx]):=cz;have Q:=U0 ((o7 (w:=wr) (o:=.cells #[vE,vO,vE,vN,vO,vE] 115)).trans (X.below x9));clear cz X;have W:=C.out.cell 0;simp only [@gz Value] at W
  go_wp2_with fail
  refine (G.c79 pa pc ms x.nm z hm (G.Ol HK.out (G7 P.out Q.out)) HA.out).mono ?_;rintro e U ⟨⟨m,th,rfl,f⟩,hb1⟩;clear W
  go_upto_region 5 with fail
  have R:=U0 (G7 hb1 (o7 (w:=U) (o:=.cells #[vS m.nm,vS m.tl,vS m.ar] 101)));generalize U.alloc (.cells #[vS m.nm,vS m.tl,vS m.ar] 101)=V at*;have CV:=U0 (C.out.below R.out C.out.lt);have E:=U0 (G7 Q.out R.out);have r:Bw V V.drew:=(Z4 _ _).drew;have D:=U0 (CV.out.below r CV.out.lt);have HQ:=U0 (G7 P.out E.out);clear hb1 C Q R;refine wp_region_held_drew (S:=fun u=>Cl u wr.heap.size 115 [vS x.nm,vI x.md,vS x.wt,vL d x.ls.length c,vI x.cd,vS x.tx]/\u.cell? (aA b (off+(k - 1)*6))=some (vS y.nm)/\u.cell? (aW wr 0)=some (vS x.nm)) J3 ⟨D.out,((G7 E.out r).cell (by exact a3r)).trans HP.out,D.out.cell 0⟩ fun hH=>?_
  cases th with
  | false=>
   have n:=U0 (N.out (fun h=>by
    rcases f with ⟨h,_⟩ | ⟨_,f⟩
    · cases h
    obtain ⟨j,hj,e⟩:=h.1;exact f j hj e))
   clear f;refine Y0 0 ?_;refine Y0 1 ?_;refine Y0 2 ?_;refine Y4 3 ?_;refine Y4 4 ?_;refine Y4 5 ?_;refine Y0 6 ?_;refine Y0 7 ?_;refine Y4 8 ?_;refine Y4 9 ?_;refine Y4 10 ?_;refine Y4 11 ?_;refine Y4 12 ?_;refine Y4 13 ?_;refine Y4 14 ?_;refine Y4 15 ?_;refine Y4 16 ?_;refine Y4 17 ?_;refine Y4 18 ?_;refine Y4 19 ?_;refine Y4 20 ?_;refine Y0 21 ?_;refine wdn ?_;go_wp2;go_ret;exact ⟨G5 n.out,HQ.out.drew⟩
  | true=>
   have HM:Hid (∃ j,j<ms.length/\(ms.getD j H_).nm=x.nm):=by
    rcases f with ⟨_,i,hi,e1,e2⟩ | ⟨h,_⟩
    · exact ⟨i,hi,by rw [e1];exact e2⟩
    cases h
   clear f;refine Y0 0 ?_;refine Y0 1 ?_;refine Y0 2 ?_;refine tq 3 hH ?_ (hv:=fun u hu=>Y8 115 _ rfl (B:=wr.heap.size) (j:=0) (cs:=[vS x.nm,vI x.md,vS x.wt,vL d x.ls.length c,vI x.cd,vS x.tx]) rfl (fun q v e=>by rw [E8];exact (hu.1.cell q).trans e) underlying115 rfl J3)
   try simp only [qq]
   refine rq 4 fun K hK=>?_;go_simp;refine (c80 x d c V.drew hxs.out (N7 GL.out (G7 E.out r))).mono ?_;rintro e w2 ⟨⟨bo,rfl,t⟩,L⟩;have B2:=U0 (G7 E.out (r.trans (L.mono x9)));have C2:=U0 (D.out.below L D.out.lt);have A:=U0 (G7 P.out B2.out);have HP2:=U0 (((B2.out).cell (p:=(aA b (off+(k - 1)*6))) a3r).trans HP.out);clear L
   go_wp2_with fail
   refine J8 hK ⟨C2.out,HP2.out,C2.out.cell 0⟩ fun hH=>?_;clear hK K
   cases bo with
   | false=>
    have n:=U0 (N.out (fun h=>by have:=t.2 h.2.1;cases this));clear t;refine Y0 5 ?_;refine Y0 6 ?_;refine Y0 7 ?_;refine Y4 8 ?_;refine Y4 9 ?_;refine Y4 10 ?_;refine Y4 11 ?_;refine Y4 12 ?_;refine Y4 13 ?_;refine Y4 14 ?_;refine Y4 15 ?_;refine Y4 16 ?_;refine Y4 17 ?_;refine Y4 18 ?_;refine Y4 19 ?_;refine Y4 20 ?_;refine Y0 21 ?_;refine wdn ?_;go_wp2;go_ret;exact ⟨G5 n.out,A.out⟩
   | true=>
    have HR:=U0 (t.1 rfl);clear t;by_cases h0:k=0
    · have O:=U0 (HD.out ⟨HM.out,HR.out,fun h=>O0⟩);have zk:¬ (0:Int)<k:=O0;subst h0;refine Y0 5 ?_;refine Y0 6 ?_;refine Y0 7 ?_;refine Y0 8 ?_;refine Y0 9 ?_;refine Y0 10 ?_;refine Y4 11 ?_;refine Y4 12 ?_;refine Y4 13 ?_;refine Y4 14 ?_;refine Y4 15 ?_;refine Y4 16 ?_;refine Y4 17 ?_;refine Y4 18 ?_;refine Y4 19 ?_;refine Y0 20 ?_;refine Y0 21 ?_;refine wdn ?_;go_wp2;go_roundw
      case rel=>exact ⟨0+1,O0,by go_num,O,A.out⟩
      case measure=>simp [intOf];omega
    have zk:(0:Int)<k:=O0;have zs1:(k:Int) - 1=((k - 1:Nat):Int):=O0;have hk1:k - 1<rn.length:=O0;refine Y0 5 ?_;refine Y0 6 ?_;refine Y0 7 ?_;refine Y0 8 ?_;refine Y0 9 ?_;rw [show decide (0<k)=true from y_ O0];refine Y0 10 ?_;refine Y0 11 ?_;refine Y0 12 ?_;refine Y0 13 ?_;rw [T.Na (k - 1) O0];refine Y0 14 ?_;refine Y0 15 ?_;refine Y0 16 ?_;refine Y0 17 ?_;refine Y0 18 ?_;refine Y0 19 ?_;by_cases s:Op.bytesLess y.nm.toList x.nm.toList=true
    · have O:=U0 (HD.out ⟨HM.out,HR.out,fun _=>s⟩);rw [s,jJ];refine Y0 20 ?_;refine Y0 21 ?_;refine wdn ?_;go_wp2;go_roundw
      case rel=>exact ⟨k+1,O0,by go_num,O,A.out⟩
      case measure=>simp [intOf];omega
    have n:=U0 (N.out (fun h=>s (h.2.2 O0)));rw [Uh.2 s,QH];refine Y0 20 ?_;refine Y0 21 ?_;refine wdn ?_;go_wp2;go_ret;exact ⟨G5 n.out,A.out⟩
