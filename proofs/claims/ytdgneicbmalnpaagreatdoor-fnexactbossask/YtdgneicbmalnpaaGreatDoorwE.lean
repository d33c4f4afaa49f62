import Derived.Test.YtdgneicbmalnpaaGreatDoorvV
set_option linter.all false
set_option maxHeartbeats 0
set_option maxRecDepth 99999
open Go.Value renaming slice->Sa,string->Sb,int->Sc,pointer->Sd
open Go.IntKind renaming i64->Se
open Go.Ending renaming returned->Sf
open Go.Obj renaming cells->Sg
namespace Go.Proofs.YtdgneicbmalnpaaGreatDoor.G
open Proofs.Tryz Go.RowKit
open T (F2 o9 G_ Asc P6 J5 lt Pv mr Dx Gg Xd Yb Og)
section
variable{ms:List M3}{nm t:BY}{b i j p:Nat}{f:Bool}{u w:World}{v:Value}
theorem a2N(x:M3)(b:BY)(w:World):
 Calls prog 231 #[.agg #[Sb x.nm,Sb x.tl,Sb x.ar],Sb b] w λe w'=>e=Sf (Sc Se (Pv x.nm b))/\Below w.heap.size w w':=by
 go_in
 go_wp2_with fail
 refine(T.c232 x.nm b _).mono ?_;rintro e w1⟨rfl,hw⟩;obtain rfl:=hw.symm;go_wp2;go_ret;exact⟨rfl,U6⟩
structure NG(ms:List M3)(t:BY)(p:Nat)(f:Bool):Prop where
 le:p<=ms.length
 less:∀j,j<p->lt (ms.getD j J_).nm t=true
 more:∀j,p<=j->j<ms.length->lt (ms.getD j J_).nm t=false
 here:f=true↔p<ms.length/\(ms.getD p J_).nm=t
def UC(ms:List M3):Prop:=∀i j,i<j->j<ms.length->lt (ms.getD i J_).nm (ms.getD j J_).nm=true
def Wu(ms:List M3)(t:BY)(i j:Nat):Prop:=(∀q,q<i->lt (ms.getD q J_).nm t=true)/\∀q,j<=q->q<ms.length->lt (ms.getD q J_).nm t=false
theorem UQ{h:Nat}(hm:UC ms)(a:Wu ms t i j)(hl:h<ms.length)(hx:lt (ms.getD h J_).nm t=true):Wu ms t (h+1) j:=by
 refine⟨λq hq=>?_,a.2⟩;rcases Z7 q h with h1|h1
 ·exact Gg (hm q h h1 hl) hx
 obtain rfl:q=h:=O0;exact hx
theorem zJ{h:Nat}(hm:UC ms)(a:Wu ms t i j)(hx:lt (ms.getD h J_).nm t=false):Wu ms t i h:=by
 refine⟨a.1,λq hq hl=>?_⟩;rcases Z7 h q with h1|h1
 ·cases hc:lt (ms.getD q J_).nm t
  ·rfl
  rw[Gg (hm h q h1 hl) hc]at hx;cases hx
 obtain rfl:q=h:=O0;exact hx
theorem a4i(a:OA)(cap:Nat)(ms:List M3)(t:BY)(w:World)(hl:ms.length<=300)(C:Em w a ms)(hm:UC ms):
 Calls prog 230 #[Sa a ms.length cap,Sb t,.func (.func 231) #[] #[]] w λe w'=>(∃p f,e=Sf (.tuple #[Sc Se (p:Nat),.bool f])/\NG ms t p f)/\Below w.heap.size w w':=by
 obtain⟨b,off,hc⟩:=Sj C;have E:Hid (ms=[]\/(a=some ⟨b,off,none⟩/\b<w.heap.size/\∀i,i<ms.length->w.cell? ⟨b,off+i*3,none⟩=some (vS (ms.getD i J_).nm)/\w.cell? ⟨b,off+i*3+1,none⟩=some (vS (ms.getD i J_).tl)/\w.cell? ⟨b,off+i*3+2,none⟩=some (vS (ms.getD i J_).ar))):=hc;have D:Hid (UC ms):=hm;clear hc C hm
 go_in
 go_wp2;go_loopw[9,10] (λu s wr=>∃i j:Nat,i<=j/\j<=ms.length/\u=Sc Se i/\s=Sc Se j/\Below w.heap.size w wr/\Hid (Wu ms t i j)) (λu s _=>(RowKit.intOf s).toNat-(RowKit.intOf u).toNat);exact⟨0,ms.length,Y4 _,Y7 _,rfl,rfl,O4 _ _,⟨λq h=>absurd h (U8 _),λq h k=>O0⟩⟩;obtain⟨i,j,hij,B,rfl,rfl,d,l⟩:=hrel;by_cases hlt:i<j;rotate_left
 ·obtain rfl:i=j:=O0;by_cases m:i<ms.length;rotate_left
  ·have z:Hid (NG ms t i false):=⟨O0,l.o.1,l.o.2,L8⟩;have hd:decide ((i:Int)<(ms.length:Int))=false:=j_ O0;go_wp2
   all_goals go_ret2
   all_goals exact⟨⟨i,false,rfl,z.o⟩,d⟩
  obtain⟨ha,g,c⟩:=Ud E.o m;subst ha;have g0:=(d.cell (by exact g)).trans (c i m).1;have g1:=(d.cell (by exact g)).trans (c i m).2.1;have g2:=(d.cell (by exact g)).trans (c i m).2.2;have z:Hid (∀f:Bool,(f=true↔(ms.getD i J_).nm=t)->NG ms t i f):=λf hf=>⟨O0,l.o.1,l.o.2,hf.trans ⟨λh=>⟨m,h⟩,λh=>h.2⟩⟩;generalize ms.getD i J_=x at*;clear c
  go_wp2_with fail
  refine(a2N x t wr).mono ?_;rintro e w1⟨rfl,n⟩;have r:Below w.heap.size w w1:=E5 d n;go_wp2
  all_goals go_ret2
  all_goals exact⟨⟨i,_,rfl,z.o _ (by rw[<- Dx];simp)⟩,r⟩
 rcases E.o with F|⟨ha,g,c⟩
 ·rw[F]at B;simp at B;omega
 subst ha;have o:(i+j) / 2<ms.length:=O0;have g0:=(d.cell (by exact g)).trans (c _ o).1;have g1:=(d.cell (by exact g)).trans (c _ o).2.1;have g2:=(d.cell (by exact g)).trans (c _ o).2.2;have y:Hid (lt (ms.getD ((i+j) / 2) J_).nm t=true->Wu ms t ((i+j) / 2+1) j):=λhx=>UQ D l o hx;have A:Hid (lt (ms.getD ((i+j) / 2) J_).nm t=false->Wu ms t i ((i+j) / 2)):=λhx=>zJ D l hx;generalize ms.getD ((i+j) / 2) J_=x at*;clear c
 go_wp2_with fail
 refine(a2N x t wr).mono ?_;rintro e w1⟨rfl,n⟩;have r:Below w.heap.size w w1:=E5 d n;cases hx:lt x.nm t
 ·have hc:¬Pv x.nm t<0:=λh=>by rw[(mr _ _).1 h]at hx;cases hx
  have hc1:decide (Pv x.nm t<0)=false:=j_ hc;have v:Hid (Wu ms t i ((i+j) / 2)):=A.o hx;clear hx n y A;go_wp2;go_roundw;exact⟨i,(i+j) / 2,O0,O0,rfl,by go_num,r,v⟩;exact V9
 have hc:Pv x.nm t<0:=(mr _ _).2 hx;have v:Hid (Wu ms t ((i+j) / 2+1) j):=y.o hx;clear hx n y A;go_wp2;go_roundw;exact⟨(i+j) / 2+1,j,O0,O0,by go_num,rfl,r,v⟩;exact V9
theorem BI(hm:UC ms)(h:NG ms nm p f):(f=true->∃i,i=p/\i<ms.length/\(ms.getD i J_).nm=nm)/\(f=false->∀j,j<ms.length->(ms.getD j J_).nm≠nm):=by
 refine⟨λe=>⟨p,rfl,h.here.1 e⟩,λe j b a=>?_⟩;subst e;rcases Jt j p with h1|h1|h1
 ·have a1:=h.less j h1;rw[a,Xd]at a1;cases a1
 ·subst h1;have:=h.here.2 ⟨b,a⟩;cases this
 have a1:=hm p j h1 b;rw[a]at a1;have a2:=h.more p A8 O0;rw[a1]at a2;cases a2
theorem rzM(a:Below (w.heap.size+1) (w.alloc (Sg #[Sb ⟨#[]⟩,Sb ⟨#[]⟩,Sb ⟨#[]⟩] 142)) u):
 (u.cell? ⟨w.heap.size,0,none⟩=some (Sb ⟨#[]⟩)/\u.cell? ⟨w.heap.size,1,none⟩=some (Sb ⟨#[]⟩)/\u.cell? ⟨w.heap.size,2,none⟩=some (Sb ⟨#[]⟩))/\u.frozen? ⟨w.heap.size,0,none⟩=false/\u.frozen? ⟨w.heap.size,1,none⟩=false/\u.frozen? ⟨w.heap.size,2,none⟩=false:=by
 have c:∀b j,b<w.heap.size+1->u.cell? ⟨b,j,none⟩=(w.alloc (Sg #[vE,vE,vE] 142)).cell? ⟨b,j,none⟩:=λb j h=>a.cell (by exact h);have f:∀b j,b<w.heap.size+1->u.frozen? ⟨b,j,none⟩=(w.alloc (Sg #[vE,vE,vE] 142)).frozen? ⟨b,j,none⟩:=λb j h=>a.frozen (by exact h);rw[c _ _ O0,c _ _ O0,c _ _ O0,f _ _ O0,f _ _ O0,f _ _ O0];simp[go_sem]
def YX(ms:List M3)(nm:BY)(e:Ending):Prop:=∃(x:M3)(there:Bool),e=Sf (.tuple #[.agg #[Sb x.nm,Sb x.tl,Sb x.ar],.bool there])/\((there=true/\∃i,i<ms.length/\ms.getD i J_=x/\x.nm=nm)\/(there=false/\∀j,j<ms.length->(ms.getD j J_).nm≠nm))
theorem c171(a:OA)(cap:Nat)(ms:List M3)(nm:BY)(w:World)(hl:ms.length<=300)(u:Em w a ms)(hm:UC ms):
 Calls prog 171 #[Sa a ms.length cap,Sb nm] w λe w'=>YX ms nm e/\Below w.heap.size w w':=by
 have y:Below w.heap.size w (w.alloc (Sg #[vE,vE,vE] 142)):=U6;have z:=a4i a cap ms nm _ hl (Qm u y) hm
 go_in
 go_wp2_with fail
 refine z.mono ?_;rintro e w1⟨⟨p,f,rfl,j⟩,t⟩;obtain⟨m,l⟩:=BI hm j;have r:Below (w.heap.size+1) (w.alloc (Sg #[vE,vE,vE] 142)) w1:=bG t;have d:Below w.heap.size w w1:=y.trans (r.mono O0);obtain⟨⟨q,o,n⟩,y0,y1,y2⟩:=rzM r;clear t z;cases f
 ·have h:Hid (YX ms nm (Sf (.tuple #[.agg #[vE,vE,vE],.bool false]))):=⟨⟨⟨#[]⟩,⟨#[]⟩,⟨#[]⟩⟩,false,rfl,.inr ⟨rfl,l rfl⟩⟩;clear m l j;go_wp2;have F:=Vs w1 w.heap.size 0 vE vE vE _ _ _ q o n;refine P7 (v:=.tuple #[.agg #[vE,vE,vE],.bool false]) (by simp[results,results171,go_sem,F.1,F.2.1,F.2.2]) rfl ⟨h,?_⟩;exact((d.setCell J4 _).setCell J4 _).setCell J4 _
 obtain⟨i,rfl,c,s⟩:=m rfl;obtain⟨b,off,hc⟩:=Sj u;obtain⟨ha,k,g⟩:=Ud hc c;subst ha;have g0:=(d.cell (by exact k)).trans (g i c).1;have g1:=(d.cell (by exact k)).trans (g i c).2.1;have g2:=(d.cell (by exact k)).trans (g i c).2.2;have h:Hid (YX ms nm (Sf (.tuple #[.agg #[vS (ms.getD i J_).nm,vS (ms.getD i J_).tl,vS (ms.getD i J_).ar],.bool true]))):=⟨_,true,rfl,.inl ⟨rfl,i,c,rfl,s⟩⟩;have A:Hid (∃x,x=ms.getD i J_):=⟨_,rfl⟩;obtain⟨x,hx⟩:=A.o;rw[<- hx]at g0 g1 g2 h;clear m l j g A hx s;go_wp2;have F:=Vs w1 w.heap.size 0 (vS x.nm) (vS x.tl) (vS x.ar) _ _ _ q o n;refine P7 (v:=.tuple #[.agg #[vS x.nm,vS x.tl,vS x.ar],.bool true]) (by simp[results,results171,go_sem,F.1,F.2.1,F.2.2]) rfl ⟨h,?_⟩;exact((d.setCell J4 _).setCell J4 _).setCell J4 _
theorem xJ(S:List UInt8)(w:World)(a7c:S.length<=300)(hv:Po w):
 Calls prog 237 #[Sb (U3 S)] w λe w'=>NW w S e w'/\Below w.heap.size w w':=by
 have C:Hid (Po w):=hv;clear hv;have hz:(U3 S).size<=300:=by rw[I5];exact a7c
 obtain⟨i0,hi,hz0,hz1,hz2⟩:=info_parts oN
 go_in
 go_wp2;go_loopw[4,5] (λv r wr=>∃(l:List UInt8)(ms:List M3),r=Sb (U3 l)/\Hid (Way S ms l)/\wr.ownsRow w.heap.size 142 3 v ms.length (La ms)/\Below w.heap.size w wr) (λ_ r _=>T.strOf r);exact⟨S,[],rfl,MO _,M_ _ _ _ _,O4 _ _⟩;obtain⟨l,ms,rfl,d,m,J⟩:=hrel;have A:Hid (Po wr):=C.o.below J;obtain⟨hwl,E⟩:=dW d.o;by_cases hl:l=[]
 ·subst hl;have hnl:(U3 []).toList=[]:=by rw[ByteArray.toList_eq];rfl
  obtain⟨W1,W2⟩:=pY d.o a7c;have N:Hid (Ad ms=true->t_ S ms true):=W1;have L:Hid (Ad ms=false->t_ S [] false):=W2;clear W1 W2;obtain⟨ao,cp,hv,Z⟩:=yt m;subst hv;obtain⟨u0,x0,Q⟩:=A.o.va.g0;obtain⟨u1,x1,j⟩:=A.o.va.g1;obtain⟨u2,x2,s⟩:=A.o.va.g2;have f:=a5C ao cp ms wr (λi=>⟨by have:=(E i).1;omega,by have:=(E i).2.1;omega,by have:=(E i).2.2;omega⟩) O0 Z _ _ _ _ _ _ Q j s;clear Z d Q j s
  go_wp2_with fail
  refine f.mono ?_;rintro e O⟨hck,Y⟩;have hB5:Below w.heap.size w O:=E5 J Y;have V:O.ownsRow w.heap.size 142 3 (vL ao ms.length cp) ms.length (La ms):=ownsRow_below m Y;rcases hck with⟨hk,rfl⟩|⟨hk,n,ty,va,rfl⟩
  ·have c:Hid (t_ S ms true):=N.o hk;clear N L hk f;go_wp2;go_ret2;exact⟨⟨ms,_,_,rfl,V,.inl ⟨rfl,c⟩⟩,hB5⟩
  have c:Hid (t_ S [] false):=L.o hk;clear N L hk f;go_wp2;go_ret2;exact⟨⟨ms,_,_,rfl,V,.inr ⟨⟨n,ty,va,rfl⟩,c⟩⟩,hB5⟩
 have e0:(U3 l).toList.isEmpty=false:=by
  rw[ByteArray.toList_eq]
  cases l with
  | nil=>exact absurd rfl hl
  | cons a r=>rfl
 have e1:¬(U3 l).toList=[]:=λh=>by rw[h]at e0;cases e0
 obtain⟨ao,cp,hv⟩:=Js m;subst hv
 go_wp2_with fail
 refine(a3c l _ O0 A.o.mx).mono ?_;rintro e w1⟨rfl,z⟩;have B:Below w.heap.size w w1:=E5 J z;have hc:=a2f l;have hcl:(Lib.cut l [10]).1.length<=300:=by
  rcases hc with⟨_,h,_⟩|⟨_,h,_⟩
  ·have:=G7 List.length h;rw[Q9]at this;omega
  rw[h];omega
 have f:Hid (((Lib.cut l [10]).2.2=true/\l=(Lib.cut l [10]).1++10::(Lib.cut l [10]).2.1/\(10:UInt8)∉(Lib.cut l [10]).1)\/((Lib.cut l [10]).2.2=false/\(Lib.cut l [10]).1=l/\(10:UInt8)∉l)):=hc;clear hc;generalize (Lib.cut l [10]).1=ca at*;generalize (Lib.cut l [10]).2.1=cb at*;generalize (Lib.cut l [10]).2.2=cf at*;have hV1:Hid (Po w1):=C.o.below B;cases cf
 ·have c:Hid (t_ S [] false):=by
   refine bD d hl λy q t e=>?_;rcases f.o with⟨h1,_⟩|⟨_,_,h3⟩
   ·cases h1
   apply h3;rw[e];simp
  obtain⟨t4,v4,g4⟩:=hV1.o.g4;clear f d
  go_wp2_with fail
  go_region
  all_goals go_wp2
  all_goals go_ret2
  all_goals exact⟨Xz _ _ _ c.o,by first|exact B|exact B.drew⟩
 have o:Hid (l=ca++10::cb/\(10:UInt8)∉ca):=by
  rcases f.o with⟨_,h⟩|⟨h,_⟩
  ·exact h
  cases h
 clear f
 go_wp2_with fail
 refine(uS ca _ O0 hV1.o.mx).mono ?_;rintro e P⟨⟨y2,rfl⟩,I⟩;have hB2:Below w.heap.size w P:=E5 B I;have hV2:Hid (Po P):=C.o.below hB2;have hrs:=X8 ca
 go_wp2_with fail
 refine(a4d _ _ O0 hV2.o.mx).mono ?_;rintro e g⟨⟨x,ok,rfl,F⟩,H⟩;have b:Below w.heap.size w g:=E5 hB2 H;have a8M:Below wr.heap.size wr g:=z.trans ((E5 I H).mono z.size);have hV3:Hid (Po g):=C.o.below b;have W:g.ownsRow w.heap.size 142 3 (vL ao ms.length cp) ms.length (La ms):=ownsRow_below m a8M;have hz3:w.heap.size<=g.heap.size:=b.size;obtain⟨t5,v5,g5⟩:=hV3.o.g5;have g5':=past (by show 3<g.heap.size;have:=hV3.o.va.pos;omega) g5;have p:Hid (¬(Y1 ca=[109,97,107,101]/\ok=true)->t_ S [] false):=by
  intro hf;refine bD d hl (λy q t e=>hf ?_);have hca:=(ZM o.o.2 (Qr t) (o.o.1.symm.trans e)).1;obtain⟨h1,h2⟩:=(pG t).1 hca;refine⟨h1,?_⟩;cases ok
  ·exact absurd h2 (F.2 rfl y t)
  rfl
 have D:Hid (Y1 ca=[109,97,107,101]->ok=true->Way S (ms++[x]) cb/\cb.length<l.length):=by
  intro h1 h2;obtain⟨j,s⟩:=F.1 h2;refine⟨DT (a:=ca) (by rw[<- o.o.1];exact d.o) ⟨j,(pG j).2 ⟨h1,s⟩⟩,?_⟩;rw[o.o.1];simp;omega
 clear F d o m z I H g5;by_cases hw:Y1 ca=[109,97,107,101];rotate_left
 ·have c:Hid (t_ S [] false):=p.o (λh=>hw h.1);have K:¬(U3 (Y1 ca)).toList=[109,97,107,101]:=by rw[ByteArray.toList_eq];simpa[U3]using hw
  have e3:((U3 (Y1 ca)).toList==[109,97,107,101])=false:=by simpa using K
  clear p D;unfold M3.v
  go_wp2_with fail
  go_region
  all_goals go_wp2
  all_goals go_ret2
  all_goals exact⟨Xz _ _ _ c.o,by first|exact b.alloc b.size _|exact(b.alloc b.size _).drew⟩
 have K:(U3 (Y1 ca)).toList=[109,97,107,101]:=by rw[hw,ByteArray.toList_eq];rfl
 have e3:((U3 (Y1 ca)).toList==[109,97,107,101])=true:=by simpa using K
 cases ok
 ·have c:Hid (t_ S [] false):=p.o J4;clear p D hw;unfold M3.v
  go_wp2_with fail
  go_region
  all_goals go_wp2
  all_goals go_ret2
  all_goals exact⟨Xz _ _ _ c.o,by first|exact b.alloc b.size _|exact(b.alloc b.size _).drew⟩
 obtain⟨R,hw2⟩:=D.o hw rfl;have HW:Hid (Way S (ms++[x]) cb):=R;clear p D R hw;unfold M3.v
 go_wp2_with(at_builtin;refine wpList_append_own _ rfl _ _ 130 rfl w.heap.size 142 i0 (.agg #[Sb ⟨#[]⟩,Sb ⟨#[]⟩,Sb ⟨#[]⟩]) 3 48 underlying130 hi hz0 hz1 hz2 rfl U5 _ _ _ rfl ((W.alloc _).alloc _) ⟨g.heap.size+1,0,none⟩ 1 1 [_,_,_] rfl rfl (a0e J4 _ _ _ _) (by intro u U;simp at U;rcases U with rfl|rfl|rfl<;>rfl) (by unfold maxLen;omega) O0 L8 ?_;intro v' w4 hown4 X _;have HG:Hid (Below w.heap.size w w4):=((b.alloc b.size _).alloc L8 _).grown X L8 (λk hk=>(W.lt k hk).1);clear X)
 go_roundw
 ·refine⟨cb,ms++[x],rfl,HW,?_,HG⟩;rw[jv,Q9];exact hown4
 simp only[T.strOf,I5];exact hw2
theorem a6J(s:BY)(w:World)(hs:s.size<=1048576)(hv:Po w):
 Calls prog 237 #[Sb s] w λe w'=>NW w s.data.toList e w'/\Below w.heap.size w w':=by
 by_cases h:300<s.size
 ·exact fP s w hs h hv
 have:=xJ s.data.toList w L8 hv;rw[Pq]at this;exact this
theorem dB{fs:List F2}(hm:T.Asc fs)(h:T.Place fs nm p f):(f=true->∃i,i=p/\i<fs.length/\(fs.getD i o9).nm=nm)/\(f=false->Free fs nm):=by
 constructor
 ·intro hf;exact⟨p,rfl,(h.here.1 hf).1,(h.here.1 hf).2⟩
 intro hf j a e;rcases Jt j p with h1|h1|h1
 ·have:=h.less j h1;rw[e,T.Xd]at this;cases this
 ·subst h1;have:=h.here.2 ⟨a,e⟩;rw[hf]at this;cases this
 have a1:=hm p j h1 a;rw[e]at a1;have a2:=h.more p A8 O0;rw[a1]at a2;cases a2
theorem rzF(a:Below (w.heap.size+2) ((w.alloc (Sg #[v] 40)).alloc (Sg #[Sb ⟨#[]⟩,Sb ⟨#[]⟩] 169)) u):
 u.cell? ⟨w.heap.size,0,none⟩=some v/\(u.cell? ⟨w.heap.size+1,0,none⟩=some (Sb ⟨#[]⟩)/\u.cell? ⟨w.heap.size+1,1,none⟩=some (Sb ⟨#[]⟩))/\u.frozen? ⟨w.heap.size+1,0,none⟩=false/\u.frozen? ⟨w.heap.size+1,1,none⟩=false:=by
 have c:∀b j,b<w.heap.size+2->u.cell? ⟨b,j,none⟩=((w.alloc (Sg #[v] 40)).alloc (Sg #[vE,vE] 169)).cell? ⟨b,j,none⟩:=λb j h=>a.cell (by exact h);have f:∀b j,b<w.heap.size+2->u.frozen? ⟨b,j,none⟩=((w.alloc (Sg #[v] 40)).alloc (Sg #[vE,vE] 169)).frozen? ⟨b,j,none⟩:=λb j h=>a.frozen (by exact h);rw[c _ _ O0,c _ _ O0,c _ _ O0,f _ _ O0,f _ _ O0];simp[go_sem]
theorem lI(u:World)(B:Nat)(a v1 x0 x1:Value)(h0:u.cell? ⟨B,0,none⟩=some x0)(h1:u.cell? ⟨B,1,none⟩=some x1):
 ((u.setCell ⟨B,0,none⟩ a).setCell ⟨B,1,none⟩ v1).cell? ⟨B,0,none⟩=some a/\((u.setCell ⟨B,0,none⟩ a).setCell ⟨B,1,none⟩ v1).cell? ⟨B,1,none⟩=some v1:=by
 have a1:(u.setCell ⟨B,0,none⟩ a).cell? ⟨B,1,none⟩=some x1:=by rw[Nb _ _ _ _ (Le O0)];exact h1
 refine⟨?_,Jg _ _ _ a1⟩;rw[Nb _ _ _ _ (Le O0)];exact Jg _ _ _ h0
def a2b(fs:List F2)(nm:BY)(e:Ending):Prop:=∃(x:F2)(there:Bool),e=Sf (.tuple #[.agg #[Sb x.nm,Sb x.tx],.bool there])/\((there=true/\∃i,i<fs.length/\fs.getD i o9=x/\x.nm=nm)\/(there=false/\Free fs nm))
theorem c236(a:OA)(cap:Nat)(fs:List F2)(nm:BY)(w:World)(hl:fs.length<=40)(t:P6 w a fs)(hm:T.Asc fs):
 Calls prog 236 #[.agg #[Sa a fs.length cap],Sb nm] w λe w'=>a2b fs nm e/\Below w.heap.size w w':=by
 have u:Below w.heap.size w ((w.alloc (Sg #[vL a fs.length cap] 40)).alloc (Sg #[vE,vE] 169)):=U6.alloc J4 _;have y:=T.UX a cap fs nm _ hl (T.J5 t u) hm
 go_in
 go_wp2_with fail
 refine y.mono ?_;rintro e w1⟨⟨p,f,rfl,h⟩,s⟩;obtain⟨l,k⟩:=dB hm h;have o:Below (w.heap.size+2) ((w.alloc (Sg #[vL a fs.length cap] 40)).alloc (Sg #[vE,vE] 169)) w1:=bG s;have d:Below w.heap.size w w1:=u.trans (o.mono O0);obtain⟨t0,⟨n,m⟩,y0,y1⟩:=rzF o;clear s y;cases f
 ·have g:Hid (a2b fs nm (Sf (.tuple #[.agg #[vE,vE],.bool false]))):=⟨⟨⟨#[]⟩,⟨#[]⟩⟩,false,rfl,.inr ⟨rfl,k rfl⟩⟩;clear l k h;go_wp2;have F:=lI w1 (w.heap.size+1) vE vE _ _ n m;refine P7 (v:=.tuple #[.agg #[vE,vE],.bool false]) (by simp[results,results236,go_sem,F.1,F.2]) rfl ⟨g,?_⟩;exact(d.setCell J4 _).setCell J4 _
 obtain⟨i,rfl,c,q⟩:=l rfl;obtain⟨b,off,hc⟩:=T.r_ t;obtain⟨ha,r,j⟩:=Ud hc c;subst ha;have g0:=(d.cell (by exact r)).trans (j i c).1;have g1:=(d.cell (by exact r)).trans (j i c).2;have g:Hid (a2b fs nm (Sf (.tuple #[.agg #[vS (fs.getD i o9).nm,vS (fs.getD i o9).tx],.bool true]))):=⟨_,true,rfl,.inl ⟨rfl,i,c,rfl,q⟩⟩;have z:Hid (∃x,x=fs.getD i o9):=⟨_,rfl⟩;obtain⟨x,hx⟩:=z.o;rw[<- hx]at g0 g1 g;clear l k h j z hx q;go_wp2;have F:=lI w1 (w.heap.size+1) (vS x.nm) (vS x.tx) _ _ n m;refine P7 (v:=.tuple #[.agg #[vS x.nm,vS x.tx],.bool true]) (by simp[results,results236,go_sem,F.1,F.2]) rfl ⟨g,?_⟩;exact(d.setCell J4 _).setCell J4 _
structure Vk(w:World):Prop where
 vr:Po w
 gT:∃t v,w.cell? ⟨0,0,none⟩=some (.iface t v)
theorem Vk.below{w':World}(h:Vk w)(a:Below w.heap.size w w'):Vk w':=by
 have hp:=h.vr.va.pos;obtain⟨t,v,h0⟩:=h.gT;exact⟨h.vr.below a,t,v,(a.cell (by show 0<w.heap.size;omega)).trans h0⟩
theorem PD{fs:List F2}(h:G_ fs)(a:i<fs.length):(fs.getD i o9).tx.size<=300:=by
 have:=h.2 i a;unfold T.bg at this;simp only[Fa]at this;have h1:=this.1;unfold T.Qa at h1;simp only[Fa,Pe]at h1;have:=h1.2;omega
def a1d(w:World)(fs:List F2)(e:Ending)(w':World):Prop:=∃(ms:List M3)(v er:Value),e=Sf (.tuple #[v,er])/\w'.ownsRow w.heap.size 142 3 v ms.length (La ms)/\((er=.nilIface/\Ih fs ms)\/((∃n ty va,er=.iface 334 (.agg #[Sc Se n,.iface ty va]))/\Ih fs []))
theorem a5u(a:OA)(cap:Nat)(fs:List F2)(w:World)(u:G_ fs)(I:P6 w a fs)(hv:Vk w):
 Calls prog 174 #[.agg #[Sa a fs.length cap]] w λe w'=>a1d w fs e w'/\Below w.heap.size w w':=by
 have HV:Hid (Vk w):=hv;have C:Hid (G_ fs):=u;have HAT:Hid (P6 w a fs):=I;have hl:=u.1;have hm:=T.Yh u;have HM:Hid (T.Asc fs):=hm;have hB0:Below w.heap.size w (w.alloc (Sg #[vL a fs.length cap] 40)):=U6;have N:=c236 a cap fs Uu _ hl (T.J5 I hB0) hm;clear hv u I hm;unfold Uu at N
 go_in
 go_wp2_with fail
 refine N.mono ?_;rintro e w1⟨⟨x,there,rfl,hx⟩,Z⟩;clear N;have E:Below (w.heap.size+1) (w.alloc (Sg #[vL a fs.length cap] 40)) w1:=bG Z;have A:Below w.heap.size w w1:=hB0.trans (E.mono O0);have hz1:w.heap.size+1<=w1.heap.size:=by have:=E.size;simpa using this
 have t1:w1.cell? ⟨w.heap.size,0,none⟩=some (vL a fs.length cap):=(E.cell J4).trans (by simp[go_sem]);clear Z;cases there
 ·have q:Hid (Ih fs []):=by
   rcases hx with⟨h,_⟩|⟨_,h⟩
   ·cases h
   exact .inr (.inl ⟨C,h,rfl⟩)
  clear hx;go_wp2;go_ret2;exact⟨⟨[],_,_,rfl,M_ _ _ _ _,.inl ⟨rfl,q⟩⟩,A.alloc A.size _⟩
 have m:Hid (∃i,i<fs.length/\fs.getD i o9=x/\x.nm=Uu):=by
  rcases hx with⟨_,h⟩|⟨h,_⟩
  ·exact h
  cases h
 have hxt:x.tx.size<=300:=by
  obtain⟨i,l,rfl,_⟩:=m.o;exact PD C l
 have t:Hid (∀g ok,t_ x.tx.data.toList g ok->¬(ok=true/\En fs g)->Ih fs []):=λg ok c r=>by
  obtain⟨i,l,rfl,F⟩:=m.o;exact .inr (.inr ⟨C,i,l,F,g,ok,c,.inr ⟨r,rfl⟩⟩)
 have B:Hid (∀g,t_ x.tx.data.toList g true->En fs g->Ih fs g):=λg c r=>by
  obtain⟨i,l,rfl,F⟩:=m.o;exact .inr (.inr ⟨C,i,l,F,g,true,c,.inl ⟨rfl,r,rfl⟩⟩)
 clear hx m;have hA1:Below w.heap.size w (w1.alloc (Sg #[vS x.nm,vS x.tx] 169)):=A.alloc A.size _
 go_wp2_with fail
 refine(a6J x.tx _ O0 (HV.o.below hA1).vr).mono ?_;rintro e d⟨⟨ms,v,er,rfl,U,hor⟩,z⟩;have L:Below w.heap.size w d:=E5 hA1 z;have hz2:w1.heap.size+1<=d.heap.size:=by have:=z.size;simpa using this
 have t2:d.cell? ⟨w.heap.size,0,none⟩=some (vL a fs.length cap):=(z.cell L8).trans (past (by show w.heap.size<w1.heap.size;omega) t1 _);have S:d.ownsRow w.heap.size 142 3 v ms.length (La ms):=Og U L8;clear U z;obtain⟨ao,co,hvv⟩:=Js S;subst hvv;rcases hor with⟨rfl,c⟩|⟨⟨n,ty,va,rfl⟩,c⟩;rotate_left
 ·have q:Hid (Ih fs []):=t.o _ _ c J4;clear c t B;go_wp2;go_ret2;exact⟨⟨[],_,_,rfl,M_ _ _ _ _,.inr ⟨⟨n,ty,va,rfl⟩,q⟩⟩,L⟩
 have HP:Hid (t_ x.tx.data.toList ms true):=c;obtain⟨hml,hms⟩:=Iu c;clear c;go_wp2;go_loopw[30] (λi wr=>∃(k:Nat),k<=ms.length/\i=Sc Se k/\Hid (∀j,j<k->Free fs (ms.getD j J_).nm)/\Below d.heap.size d wr) (λi _=>ms.length-(RowKit.intOf i).toNat);exact⟨0,Y4 _,rfl,λj h=>absurd h (U8 _),O4 _ _⟩;obtain⟨k,hk,rfl,V,s⟩:=hrel;have J:Below w.heap.size w wr:=E5 L s;have R:=ownsRow_below S s;have hzr:d.heap.size<=wr.heap.size:=s.size;have tr:wr.cell? ⟨w.heap.size,0,none⟩=some (vL a fs.length cap):=(s.cell (by show w.heap.size<d.heap.size;omega)).trans t2;by_cases H:k<ms.length;rotate_left
 ·obtain rfl:k=ms.length:=O0;have q:Hid (Ih fs ms):=B.o _ HP (λi l=>V.o i l);clear t B;go_wp2;go_ret2;exact⟨⟨ms,_,_,rfl,R,.inl ⟨rfl,q⟩⟩,J⟩
 obtain⟨ao',co',hv',a7p⟩:=yt R;injection hv' with e1 e2 e3;subst e1 e3;obtain⟨b,off,hc⟩:=Sj a7p;obtain⟨hao,hbw,W⟩:=Ud hc H;subst hao;obtain⟨g0,g1,g2⟩:=W k H;have m:Hid (∃y,y=ms.getD k J_):=⟨_,rfl⟩;obtain⟨y,D⟩:=m.o;rw[<- D]at g0 g1 g2;have HY:Hid (y=ms.getD k J_):=D;clear D m W a7p;have hAr:∀o,Below w.heap.size w (wr.alloc o):=λo=>J.alloc J.size _;have h35:=λo=>T.UX a cap fs y.nm (wr.alloc o) hl (T.J5 HAT (hAr o)) HM;have tr':=past (by show w.heap.size<wr.heap.size;omega) tr
 go_wp2_with fail
 refine(h35 _).mono ?_;rintro e Q⟨⟨p,f,rfl,c⟩,Y⟩;obtain⟨P,O⟩:=dB HM.o c;have X:Below d.heap.size d Q:=(s.alloc hzr _).trans (Y.mono L8);have K:Below w.heap.size w Q:=E5 L X;clear h35 c Y;cases f
 ·have a7D:Hid (∀j,j<k+1->Free fs (ms.getD j J_).nm):=λj hj=>by
   rcases Z7 j k with h|h
   ·exact V j h
   obtain rfl:j=k:=O0;rw[<- HY.o];exact O rfl
  clear P O;go_wp2;go_roundw;exact⟨k+1,O0,by go_num,a7D,X⟩;exact V9
 have q:Hid (Ih fs []):=by
  refine t _ _ HP λh=>?_;obtain⟨i,_,l,r⟩:=P rfl;have:=h.2 k H i l;rw[<- HY.o]at this;exact this r
 obtain⟨t5,v5,g5⟩:=(HV.o.below K).gT;clear P O t B
 go_wp2_with fail
 try go_region
 all_goals go_wp2
 all_goals go_ret2
 all_goals exact⟨⟨[],_,_,rfl,M_ _ _ _ _,.inr ⟨⟨_,_,_,rfl⟩,q.o⟩⟩,by first|exact K|exact K.drew⟩
def Is7(w:World)(fs:List F2)(e:Ending)(w':World):Prop:=∃(ms:List M3)(v:Value),e=Sf v/\w'.ownsRow w.heap.size 142 3 v ms.length (La ms)/\Ih fs ms
theorem c127(a:OA)(cap:Nat)(fs:List F2)(w:World)(hl:fs.length<=1048576)(hs:∀i,(fs.getD i o9).le 1048576)(k:P6 w a fs)(hv:Vk w):
 Calls prog 127 #[.agg #[Sa a fs.length cap]] w λe w'=>Is7 w fs e w'/\Below w.heap.size w w':=by
 have y:Hid (Vk w):=hv;have H:Hid (P6 w a fs):=k;have t:Below w.heap.size w (w.alloc (Sg #[vL a fs.length cap] 40)):=U6;have x:=T.c173 a cap fs _ hl hs (T.J5 k t);clear hv k
 go_in
 go_wp2_with fail
 refine x.mono ?_;rintro e w1⟨⟨b,rfl,f⟩,s⟩;have j:Below (w.heap.size+1) (w.alloc (Sg #[vL a fs.length cap] 40)) w1:=bG s;have g:Below w.heap.size w w1:=t.trans (j.mono O0);have hz1:w.heap.size+1<=w1.heap.size:=by have:=j.size;simpa using this
 have t1:w1.cell? ⟨w.heap.size,0,none⟩=some (vL a fs.length cap):=(j.cell J4).trans (by simp[go_sem]);clear s x;cases b
 ·have E:Hid (Ih fs []):=.inl ⟨(λh=>by have:=f.2 h;cases this),rfl⟩;clear f;go_wp2;go_ret;exact⟨⟨[],_,rfl,M_ _ _ _ _,E⟩,g⟩
 have F:Hid (G_ fs):=f.1 rfl;clear f;have u:=a5u a cap fs w1 F (T.J5 H g) (y.o.below g)
 go_wp2_with fail
 refine u.mono ?_;rintro e p⟨⟨ms,v,er,rfl,r,C⟩,D⟩;have m:Below w.heap.size w p:=E5 g D;have q:p.ownsRow w.heap.size 142 3 v ms.length (La ms):=Og r O0;obtain⟨ao,co,A⟩:=Js q;subst A;clear u r;rcases C with⟨rfl,c⟩|⟨⟨n,ty,va,rfl⟩,c⟩
 ·have o:Hid (Ih fs ms):=c;clear c
  go_wp2_with fail
  refine(KR _).mono ?_;rintro e z⟨rfl,d⟩;have B:=ownsRow_below q d;have l:=E5 m d;go_wp2;go_ret;exact⟨⟨ms,_,rfl,B,o⟩,l⟩
 have o:Hid (Ih fs []):=c;clear c
 go_wp2_with fail
 refine(dS n ty va _ (y.o.below m).vr.va.g6).mono ?_;rintro e z⟨rfl,d⟩;have l:=E5 m d;go_wp2;go_ret;exact⟨⟨[],_,rfl,M_ _ _ _ _,o⟩,l⟩
def Is5(fs:List F2)(e:Ending)(w':World):Prop:=∃(ms:List M3)(a:OA)(cap:Nat),e=Sf (Sa a ms.length cap)/\Em w' a ms/\Ih fs ms
theorem c156(a:OA)(cap:Nat)(fs:List F2)(w:World)(hl:fs.length<=1048576)(hs:∀i,(fs.getD i o9).le 1048576)(O:P6 w a fs):
 Calls prog 156 #[.agg #[Sa a fs.length cap]] w λe w'=>Is5 fs e w'/\Below w.heap.size w w':=by
 have Q:Hid (P6 w a fs):=O;have hB0:Below w.heap.size w (w.alloc (Sg #[vL a fs.length cap] 40)):=U6;have t:=T.a1H a cap fs Uu _ hl (T.J5 O hB0);clear O;unfold Uu at t
 go_in
 go_wp2_with fail
 refine t.mono ?_;rintro e w1⟨⟨r,rfl,hr⟩,Z⟩;have J:Below (w.heap.size+1) (w.alloc (Sg #[vL a fs.length cap] 40)) w1:=bG Z;have hB1:Below w.heap.size w w1:=hB0.trans (J.mono O0);have hz1:w.heap.size+1<=w1.heap.size:=by have:=J.size;simpa using this
 have U:w1.cell? ⟨w.heap.size,0,none⟩=some (vL a fs.length cap):=(J.cell J4).trans (by simp[go_sem]);have h15:=T.a0y a cap fs w1 hl hs (T.J5 Q hB1);clear Z t
 go_wp2_with fail
 refine h15.mono ?_;rintro e n⟨⟨b,rfl,C⟩,B⟩;have m:Below w.heap.size w n:=E5 hB1 B;have hz2:w1.heap.size<=n.heap.size:=B.size;have t2:n.cell? ⟨w.heap.size,0,none⟩=some (vL a fs.length cap):=(B.cell (by show w.heap.size<w1.heap.size;omega)).trans U;clear h15 B U;cases b
 ·have l:Hid (Ih fs []):=.inl ⟨(λh=>by have:=C.2 h;cases this),rfl⟩;clear C hr;go_wp2;go_ret;exact⟨⟨[],_,_,rfl,.inl rfl,l⟩,m.alloc m.size _⟩
 have F:Hid (G_ fs):=C.1 rfl;clear C;rcases hr with⟨rfl,X⟩|⟨i,rfl,p,L⟩
 ·have l:Hid (Ih fs []):=.inr (.inl ⟨F,X,rfl⟩);clear X;go_wp2;go_ret;exact⟨⟨[],_,_,rfl,.inl rfl,l⟩,m.alloc m.size _⟩
 have hxt:=PD F p;have H:Hid (∀c ok,t_ (fs.getD i o9).tx.data.toList c ok->¬(ok=true/\En fs c)->Ih fs []):=λc ok f N=>.inr (.inr ⟨F,i,p,L,c,ok,f,.inr ⟨N,rfl⟩⟩);have E:Hid (∀c,t_ (fs.getD i o9).tx.data.toList c true->En fs c->Ih fs c):=λc f N=>.inr (.inr ⟨F,i,p,L,c,true,f,.inl ⟨rfl,N,rfl⟩⟩);obtain⟨bf,off,hc⟩:=T.r_ (T.J5 Q.o m);obtain⟨ha,hbw,s⟩:=Ud hc p;subst ha;have g1:=(s i p).2;have v:Hid (∃x,x=fs.getD i o9):=⟨_,rfl⟩;obtain⟨x,hx⟩:=v.o;rw[<- hx]at g1 H E hxt;clear s v hx L
 go_wp2_with fail
 refine(c212 x.tx _ O0).mono ?_;rintro e d⟨⟨ms,ok,am,cm,rfl,a7p,f⟩,A⟩;have hB3:Below w.heap.size w d:=E5 m A;have hz3:n.heap.size<=d.heap.size:=A.size;have t3:=(A.cell (by show w.heap.size<n.heap.size;omega)).trans t2;have HP:Hid (t_ x.tx.data.toList ms ok):=f;obtain⟨hml,hms⟩:=Iu f;have a7W:Hid (Em d am ms):=a7p;clear f A t2 a7p;go_wp2;go_loopw[5,6] (λo i wr=>∃(k:Nat)(b:Bool),k<=ms.length/\i=Sc Se k/\o=.bool b/\Hid (b=true↔ok=true/\∀j,j<k->Free fs (ms.getD j J_).nm)/\Below d.heap.size d wr) (λ_ i _=>ms.length-(RowKit.intOf i).toNat);exact⟨0,ok,Y4 _,rfl,rfl,⟨λh=>⟨h,λj h=>absurd h (U8 _)⟩,λh=>h.1⟩,O4 _ _⟩;obtain⟨k,b,hk,rfl,rfl,q,g⟩:=hrel;have D:Below w.heap.size w wr:=E5 hB3 g;have hzr:d.heap.size<=wr.heap.size:=g.size;have tr:=(g.cell (by show w.heap.size<d.heap.size;omega)).trans t3;by_cases Y:k<ms.length;rotate_left
 ·obtain rfl:k=ms.length:=O0;cases b
  ·have l:Hid (Ih fs []):=H.o _ _ HP (λh=>by have:=q.o.2 h;cases this);clear H E;go_wp2;go_ret;exact⟨⟨[],_,_,rfl,.inl rfl,l⟩,D.alloc D.size _⟩
  obtain⟨h1,h2⟩:=q.o.1 rfl;subst h1;have l:Hid (Ih fs ms):=E.o _ HP h2;have a8N:Hid (Em wr am ms):=Qm a7W g;clear H E h2;go_wp2;go_ret;exact⟨⟨ms,_,_,rfl,a8N,l⟩,D⟩
 cases b
 ·have a7D:Hid (false=true↔ok=true/\∀j,j<k+1->Free fs (ms.getD j J_).nm):=⟨(λh=>by cases h),λh=>q.o.2 ⟨h.1,λj hj=>h.2 j O0⟩⟩
  go_wp2_with fail
  refine wp_region_held_drew (S:=(λ_=>True)) Y0 ?_ λhHeld=>?_
  · ((try dsimp only);(first|done|trivial))
  iterate 12 refine sq ?_
  refine wpAnyH_done Y0 ?_ _;clear hHeld;go_wp2;go_roundw;exact⟨k+1,false,O0,by go_num,rfl,a7D,g.drew⟩;exact V9
 obtain⟨bm,om,hc⟩:=Sj (Qm a7W.o g);obtain⟨hao,a8O,s⟩:=Ud hc Y;subst hao;have g0:=(s k Y).1;have v:Hid (∃y,y=ms.getD k J_):=⟨_,rfl⟩;obtain⟨y,I⟩:=v.o;rw[<- I]at g0;have HY:Hid (y=ms.getD k J_):=I;clear I v s;have hwz:w.heap.size<wr.heap.size:=O0;have t:=λu (hu:Below w.heap.size w u)=>T.a1H (some ⟨bf,off,none⟩) cap fs y.nm u hl (T.J5 Q hu)
 go_wp2_with fail
 refine wp_region_held_drew (S:=(λu=>u.cell? ⟨w.heap.size,0,none⟩=some (vL (some ⟨bf,off,none⟩) fs.length cap)/\u.cell? ⟨bm,om+k*3,none⟩=some (vS y.nm))) Y0 ?_ λhHeld=>?_
 · ((try dsimp only);go_keep)
 iterate 8 refine sq ?_
 refine rq 8 λK hK=>?_;go_simp;refine(t _ D.drew).mono ?_;rintro e R⟨⟨z,rfl,W⟩,hb4⟩;have P:Hid (Below wr.heap.size wr R):=(O4 _ _).drew.trans hb4;have HR4:Hid ((z=-1/\∀i,i<fs.length->(fs.getD i o9).nm≠y.nm)\/∃i:Nat,z=i/\i<fs.length/\(fs.getD i o9).nm=y.nm):=W;clear W;have e1:=(P.o.cell (by exact hwz)).trans tr;have e2:=(P.o.cell (by exact a8O)).trans g0
 go_wp2_with fail
 clear hHeld;refine kpk hK λhHeld=>?_;clear hK K
 iterate 3 refine sq ?_
 refine wpAnyH_done Y0 ?_ _;clear hHeld;have a8P:Below d.heap.size d R:=g.trans (P.o.mono hzr);have HF:Hid (decide (z<0)=true↔ok=true/\∀j,j<k+1->Free fs (ms.getD j J_).nm):=by
  constructor
  ·intro h;have h:=TA h;refine⟨(q.o.1 (by first|rfl|trivial)).1,λj hj=>?_⟩;rcases Z7 j k with h1|h1
   ·exact(q.o.1 (by first|rfl|trivial)).2 j h1
   obtain rfl:j=k:=O0;rw[<- HY.o];rcases HR4.o with⟨_,h2⟩|⟨V,h2,_⟩
   ·exact h2
   omega
  intro h;apply X_;rcases HR4.o with⟨h2,_⟩|⟨V,h2,h3,h4⟩
  ·omega
  exact absurd (by rw[<- HY.o];exact h4) (h.2 k O0 V h3)
 go_wp2;go_roundw;exact⟨k+1,decide (z<0),O0,by go_num,rfl,HF,a8P⟩;exact V9
theorem QU(h:Ad ms=true):UC ms:=by
 have h2:=((Yj ms).1 h).2;have b:∀j,j+1<ms.length->lt (ms.getD j J_).nm (ms.getD (j+1) J_).nm=true:=λj a=>by
  have:=h2 (j+1) a;unfold stepM at this;simp only[Fa,IJ,Pe]at this;rcases this.2 with h|h
  ·omega
  exact h
 intro i j hij
 induction j with
 | zero=>omega
 | succ j ih=>
  intro a;rcases Z7 i j with h1|h1
  ·exact Gg (ih h1 O0) (b j a)
  obtain rfl:i=j:=O0;exact b i a
theorem QF:UC []:=λ_ _ _ h=>absurd h (U8 _)
theorem jH{fs:List F2}(h:Ih fs ms):UC ms:=by
 rcases h with⟨_,rfl⟩|⟨_,_,rfl⟩|⟨_,i,hi,hn,ks,ok,a,hr⟩
 ·exact QF
 ·exact QF
 rcases hr with⟨rfl,_,rfl⟩|⟨_,rfl⟩
 ·exact QU (a.1 rfl).1
 exact QF
theorem rzN(a:Below (w.heap.size+2) ((w.alloc (Sg #[v] 40)).alloc (Sg #[Sb ⟨#[]⟩,Sb ⟨#[]⟩,Sb ⟨#[]⟩] 142)) u):
 (u.cell? ⟨w.heap.size+1,0,none⟩=some (Sb ⟨#[]⟩)/\u.cell? ⟨w.heap.size+1,1,none⟩=some (Sb ⟨#[]⟩)/\u.cell? ⟨w.heap.size+1,2,none⟩=some (Sb ⟨#[]⟩))/\u.frozen? ⟨w.heap.size+1,0,none⟩=false/\u.frozen? ⟨w.heap.size+1,1,none⟩=false/\u.frozen? ⟨w.heap.size+1,2,none⟩=false:=by
 have c:∀b j,b<w.heap.size+2->u.cell? ⟨b,j,none⟩=((w.alloc (Sg #[v] 40)).alloc (Sg #[vE,vE,vE] 142)).cell? ⟨b,j,none⟩:=λb j h=>a.cell (by exact h);have f:∀b j,b<w.heap.size+2->u.frozen? ⟨b,j,none⟩=((w.alloc (Sg #[v] 40)).alloc (Sg #[vE,vE,vE] 142)).frozen? ⟨b,j,none⟩:=λb j h=>a.frozen (by exact h);rw[c _ _ O0,c _ _ O0,c _ _ O0,f _ _ O0,f _ _ O0,f _ _ O0];simp[go_sem]
def vV(fs:List F2)(nm:BY)(e:Ending):Prop:=∃ms,Ih fs ms/\YX ms nm e
theorem a6N(a:OA)(cap:Nat)(fs:List F2)(nm:BY)(w:World)(hl:fs.length<=1048576)(hs:∀i,(fs.getD i o9).le 1048576)(s:P6 w a fs):
 Calls prog 111 #[.agg #[Sa a fs.length cap],Sb nm] w λe w'=>vV fs nm e/\Below w.heap.size w w':=by
 have z:=λu (H:Below w.heap.size w u)=>c156 a cap fs u hl hs (J5 s H);have y:∀o1 o2,Below w.heap.size w ((w.alloc o1).alloc o2):=λo1 o2=>U6.alloc J4 _
 go_in
 go_wp2_with fail
 refine(z _ (y _ _)).mono ?_;rintro e w1⟨⟨ms,a1,cap1,rfl,q,c⟩,f⟩;have t:Below w.heap.size w w1:=(y _ _).trans (f.mono L8);have o:Below (w.heap.size+2) ((w.alloc (Sg #[vL a fs.length cap] 40)).alloc (Sg #[vE,vE,vE] 142)) w1:=bG f;obtain⟨⟨n,m,l⟩,y0,y1,y2⟩:=rzN o;have hlm:=jA c;obtain⟨b,off,hc⟩:=Sj q;have I:Hid (ms=[]\/(a1=some ⟨b,off,none⟩/\b<w1.heap.size/\∀i,i<ms.length->w1.cell? ⟨b,off+i*3,none⟩=some (vS (ms.getD i J_).nm)/\w1.cell? ⟨b,off+i*3+1,none⟩=some (vS (ms.getD i J_).tl)/\w1.cell? ⟨b,off+i*3+2,none⟩=some (vS (ms.getD i J_).ar))):=hc;have C:Hid (Ih fs ms):=c;clear hc q c z f o s hs;go_wp2;go_loop[7] (λi=>∃k:Nat,k<=ms.length/\i=Sc Se k/\Hid (∀j,j<k->(ms.getD j J_).nm≠nm)) (λi=>ms.length-(RowKit.intOf i).toNat);exact⟨0,Y4 _,rfl,λj h=>absurd h (U8 _)⟩;obtain⟨k,hk,rfl,p⟩:=hrel;by_cases d:k<ms.length;rotate_left
 ·have g:Hid (vV fs nm (Sf (.tuple #[.agg #[vE,vE,vE],.bool false]))):=⟨ms,C,⟨⟨#[]⟩,⟨#[]⟩,⟨#[]⟩⟩,false,rfl,.inr ⟨rfl,λj E=>p.o j O0⟩⟩;go_wp2;have F:=Vs w1 (w.heap.size+1) 0 vE vE vE _ _ _ n m l;refine P7 (v:=.tuple #[.agg #[vE,vE,vE],.bool false]) (by simp[results,results111,go_sem,F.1,F.2.1,F.2.2]) rfl ⟨g,?_⟩;exact((t.setCell J4 _).setCell J4 _).setCell J4 _
 obtain⟨ha,hbw,r⟩:=Ud I.o d;subst ha;obtain⟨g0,g1,g2⟩:=r k d;have B:Hid (∃x,x=ms.getD k J_):=⟨_,rfl⟩;obtain⟨x,hx⟩:=B.o;rw[<- hx]at g0 g1 g2;have A:Hid (x=ms.getD k J_):=hx;clear r hx B;cases hq:(x.nm.toList==nm.toList)
 ·have D:Hid (∀j,j<k+1->(ms.getD j J_).nm≠nm):=λj E=>by
   rcases Z7 j k with h|h
   ·exact p j h
   obtain rfl:j=k:=O0;rw[<- A.o];intro e;rw[e]at hq;simp at hq
  go_wp2
  go_round
  exact⟨k+1,O0,by go_num,D⟩;exact V9
 have he:x.nm=nm:=by
  have:=Yq.1 hq;rw[ByteArray.toList_eq,ByteArray.toList_eq]at this;exact jg (Yl.1 this)
 have g:Hid (vV fs nm (Sf (.tuple #[.agg #[vS x.nm,vS x.tl,vS x.ar],.bool true]))):=⟨ms,C,x,true,rfl,.inl ⟨rfl,k,d,A.o.symm,he⟩⟩;clear he;go_wp2;have F:=Vs w1 (w.heap.size+1) 0 (vS x.nm) (vS x.tl) (vS x.ar) _ _ _ n m l;refine P7 (v:=.tuple #[.agg #[vS x.nm,vS x.tl,vS x.ar],.bool true]) (by simp[results,results111,go_sem,F.1,F.2.1,F.2.2]) rfl ⟨g,?_⟩;exact((t.setCell J4 _).setCell J4 _).setCell J4 _
end
end Go.Proofs.YtdgneicbmalnpaaGreatDoor.G
namespace Go.Proofs.YtdgneicbmalnpaaGreatDoor
open Proofs.Tryz Go.RowKit
def gK(rt:LB):Prop:=rt.length<=10/\∀i,i<rt.length->Y5 (rt.getD i ByteArray.empty).data.toList=true/\rt.getD i ByteArray.empty∉rt.take i
theorem SH{w:World}{b off k:Nat}{rt:LB}(hk:k<=rt.length)(hl:b<w.heap.size)(h:∀i,i<rt.length->w.cell? ⟨b,off+i,none⟩=some (Sb (rt.getD i ByteArray.empty))):G.mD w (some ⟨b,off,none⟩) (rt.take k):=.inr ⟨b,off,rfl,hl,λi a=>by
 have h1:i<rt.length:=by simp at a;omega
 have h2:i<k:=by simp at a;omega
 rw[h i h1];simp[List.getD,h1,h2]⟩
theorem Gq{α:Type}{l:List α}{k:Nat}(hk:k<=l.length):(l.take k).length=k:=by rw[L_,Ot hk]
theorem a6F(a:OA)(cap:Nat)(rt:LB)(w:World)(hcp:rt.length<=cap)(hl:rt.length<=1048576)(hs:∀i,(rt.getD i ByteArray.empty).size<=1048576)(o:J8 w a rt):
 Calls prog 125 #[Sa a rt.length cap] w λe w'=>Rb (gK rt) e/\w'=w:=by
 obtain⟨b,off,hc⟩:=Aa o;have x:=U0 hc;have r:=U0 hs;clear hc o hs
 go_in
 by_cases h10:rt.length<=10;rotate_left
 ·have d:Hid (¬gK rt):=λh=>h10 h.1;have z:(10:Int)<rt.length:=O0;go_wp2;go_ret;exact⟨P5 d.o,rfl⟩
 have z:¬(10:Int)<rt.length:=O0;go_wp2;go_loop[10] (λi=>∃k:Nat,k<=rt.length/\i=Sc Se k/\Hid (∀j,j<k->Y5 (rt.getD j ByteArray.empty).data.toList=true/\rt.getD j ByteArray.empty∉rt.take j)) (λi=>rt.length-(RowKit.intOf i).toNat);exact⟨0,Y4 _,rfl,λj h=>absurd h (U8 _)⟩;obtain⟨k,hk,rfl,hd⟩:=hrel;by_cases f:k<rt.length;rotate_left
 ·obtain rfl:k=rt.length:=O0;have q:Hid (gK rt):=⟨h10,hd.o⟩;go_wp2;go_ret;exact⟨H_ q.o,rfl⟩
 obtain⟨ha,p,m⟩:=Ud x.o f;subst ha;have g0:=m k f;have hsz:=r.o k;have v:Hid (Y5 (rt.getD k ByteArray.empty).data.toList=true/\rt.getD k ByteArray.empty∉rt.take k->∀j,j<k+1->Y5 (rt.getD j ByteArray.empty).data.toList=true/\rt.getD j ByteArray.empty∉rt.take j):=λg j hj=>by
  rcases Z7 j k with h|h
  ·exact hd.o j h
  obtain rfl:j=k:=O0;exact g
 have d:Hid (¬(Y5 (rt.getD k ByteArray.empty).data.toList=true/\rt.getD k ByteArray.empty∉rt.take k)->¬gK rt):=λg h=>g (h.2 k f);have l:=λs=>G.c82 (some (aA b off)) cap (rt.take k) s w (by rw[Gq hk];omega) (SH hk p m);simp only[Gq hk]at l;have t:=U0 l;generalize rt.getD k ByteArray.empty=X at*;clear m hd l
 go_wp2_with fail
 refine(c80 X w O0).mono ?_;rintro e w1⟨rfl,hw⟩;obtain rfl:=hw.symm;by_cases c:Y5 X.data.toList=true;rotate_left
 ·have n:=U0 (d.o (λh=>c h.1));rw[Uf.2 c];go_wp2;go_ret;exact⟨P5 n.o,rfl⟩
 rw[c]
 go_wp2_with fail
 refine(t.o X).mono ?_;rintro e w1⟨rfl,hw⟩;obtain rfl:=hw.symm;by_cases hm:X∈rt.take k
 ·have n:=U0 (d.o (λh=>h.2 hm));rw[G.Zc.2 hm];go_wp2;go_ret;exact⟨P5 n.o,rfl⟩
 have u:=U0 (v.o ⟨c,hm⟩);rw[Uf.2 (λh=>hm (G.Zc.1 h))];go_wp2
 go_round
 exact⟨k+1,O0,by go_num,u⟩;exact V9
theorem Qx{P:Program}{ops:Array Oper}{Q:Exit->Act->World->Prop}{rest:List Oper}{o:Oper}{a:Act}{w:World}(hw:Region.wanted o (yielded ops a.tmps)=true)(ty:TypeId)(x:Operand)(ho:o.op=.load ty x){B:Nat}{t:TypeId}{cs:List Value}{d:TypeDesc}(hx:a.eval x=Sd (some ⟨B,0,none⟩))(hB:Cl w B t cs)(b:P.underlying ty=some d)(hd:(match d with | .struct _ | .array _ _=>true|_=>false)=true)(c:(P.info? ty).map (·.size)=some cs.length)(h:wpList P ops Q rest (a.put o.dst (.agg cs.toArray)) w):wpList P ops Q (o::rest) a w:=by
 refine wpList_step λK e=>?_;rw[D8 hw];unfold Oper.wp;rw[N9 ty x ho hx (λi v hv=>by rw[Y8,hB.cell];exact hv) b hd c];exact e _ _ h
def wF(ms:List M3)(rn:List Rn):Prop:=∀i,i<rn.length->(∃j,j<ms.length/\(ms.getD j J_).nm=(rn.getD i L9).nm)/\zh (rn.getD i L9)/\(0<i->Op.bytesLess (rn.getD (i-1) L9).nm.toList (rn.getD i L9).nm.toList=true)
theorem WS(x:Rn)(b:OA)(a:Nat):∀v∈Td (x,Sa b x.ls.length a),v.oneCell'=true:=λv hv=>by
 simp[Td]at hv;rcases hv with rfl|rfl|rfl|rfl|rfl|rfl<;>rfl
theorem a4s(a pa:OA)(cap pc:Nat)(rn:List Rn)(ms:List M3)(w:World)(hl:rn.length<=1048576)(hs:∀i,(rn.getD i L9).le 1048576)(hm:ms.length<=300)(hasc:G.UC ms)(hat:Wi w a rn)(hmk:G.Em w pa ms):
 Calls prog 126 #[Sa a rn.length cap,Sa pa ms.length pc] w λe w'=>Rb (wF ms rn) e/\Bw w w':=by
 obtain⟨b,off,hc⟩:=Z_ hat;have HC:=U0 hc;have HS:=U0 hs;have HA:=U0 hasc;have HK:=U0 hmk
 go_in
 go_wp2;go_loopw[11] (λi wr=>∃k:Nat,k<=rn.length/\i=Sc Se k/\Hid (∀i,i<k->(∃j,j<ms.length/\(ms.getD j J_).nm=(rn.getD i L9).nm)/\zh (rn.getD i L9)/\(0<i->Op.bytesLess (rn.getD (i-1) L9).nm.toList (rn.getD i L9).nm.toList=true))/\Below w.heap.size w wr) (λi _=>rn.length-(RowKit.intOf i).toNat);exact⟨0,Y4 _,rfl,λj h=>absurd h (U8 _),O4 _ _⟩;obtain⟨k,hk,rfl,hd,f⟩:=hrel;by_cases C:k<rn.length;rotate_left
 ·obtain rfl:k=rn.length:=O0;have HY:Hid (wF ms rn):=hd.o;go_wp2;go_ret;exact⟨H_ HY,f⟩
 obtain⟨ha,E,N⟩:=Ud HC.o C;subst ha;have I:=U0 f;have O:=P9 E f.size;obtain⟨d,c,gB,gL⟩:=(N k C).below E f;have U:Hid (wr.cell? (aA b (off+(k-1)*6))=some (vS (rn.getD (k-1) L9).nm)):=by
  obtain⟨_,_,g,_⟩:=(N (k-1) O0).below E f;exact g 0 _ rfl
 have hxs:=U0 (HS.o k);have F:Hid (¬((∃j,j<ms.length/\(ms.getD j J_).nm=(rn.getD k L9).nm)/\zh (rn.getD k L9)/\(0<k->Op.bytesLess (rn.getD (k-1) L9).nm.toList (rn.getD k L9).nm.toList=true))->¬wF ms rn):=λD h=>D (h k C);have X:Hid (((∃j,j<ms.length/\(ms.getD j J_).nm=(rn.getD k L9).nm)/\zh (rn.getD k L9)/\(0<k->Op.bytesLess (rn.getD (k-1) L9).nm.toList (rn.getD k L9).nm.toList=true))->∀i,i<k+1->(∃j,j<ms.length/\(ms.getD j J_).nm=(rn.getD i L9).nm)/\zh (rn.getD i L9)/\(0<i->Op.bytesLess (rn.getD (i-1) L9).nm.toList (rn.getD i L9).nm.toList=true)):=λD j L=>by
  rcases Z7 j k with h|h
  ·exact hd j h
  obtain rfl:j=k:=O0;exact D
 generalize rn.getD k L9=x at*;generalize rn.getD (k-1) L9=y at*;have GB:=U0 gB;have GL:=U0 gL
 go_upto_region 4 with(first|(refine Oa rfl (N9 119 _ rfl (B:=b) (j:=off+k*6) (cs:=Td (x,vL d x.ls.length c)) rfl GB.o underlying119 rfl Y0) ?_)|(refine N7 rfl 119 _ _ rfl (j:=0) rfl rfl (I4 wr [vE,vO,vE,vN,vO,vE] 119) A8 (WS x d c) Y0 ?_;intro z cz oz))
 have J:Hid (Cl z wr.heap.size 119 [vS x.nm,vI x.md,vS x.wt,vL d x.ls.length c,vI x.cd,vS x.tx]):=cz;have BZ:=U0 ((U6 (w:=wr) (o:=Sg #[vE,vO,vE,vN,vO,vE] 119)).trans (oz.below A8));have r0:=J.o.cell 0;simp only[gz]at r0
 go_wp2_with fail
 refine(G.c171 pa pc ms x.nm z hm (G.Qm HK (E5 I BZ)) HA).mono ?_;rintro e w1⟨⟨m,th,rfl,n⟩,hb1⟩
 go_upto_region 5 with fail
 have BM:=U0 (E5 hb1 (U6 (w:=w1) (o:=Sg #[vS m.nm,vS m.tl,vS m.ar] 142)));generalize w1.alloc (Sg #[vS m.nm,vS m.tl,vS m.ar] 142)=V at*;have Y:=U0 (J.o.below BM J.o.lt);have A:=U0 (E5 BZ BM);have p:Bw V V.drew:=(O4 _ _).drew;have t:=U0 (Y.o.below p Y.o.lt);have HQ:=U0 (E5 I A);refine wp_region_held_drew (S:=λu=>Cl u wr.heap.size 119 [vS x.nm,vI x.md,vS x.wt,vL d x.ls.length c,vI x.cd,vS x.tx]/\u.cell? (aA b (off+(k-1)*6))=some (vS y.nm)/\u.cell? (aW wr 0)=some (vS x.nm)) Y0 ⟨t,((E5 A p).cell (by exact O)).trans U,t.o.cell 0⟩ λhH=>?_
 cases th with
 | false=>
  have l:=U0 (F.o (λh=>by
   rcases n with⟨h,_⟩|⟨_,n⟩
   ·cases h
   obtain⟨j,L,e⟩:=h.1;exact n j L e))
  iterate 22 refine sq ?_
  refine wdn ?_;go_wp2;go_ret;exact⟨P5 l,HQ.o.drew⟩
 | true=>
  have W:Hid (∃j,j<ms.length/\(ms.getD j J_).nm=x.nm):=by
   rcases n with⟨_,i,hi,e1,e2⟩|⟨h,_⟩
   ·exact⟨i,hi,by rw[e1];exact e2⟩
   cases h
  iterate 3 refine sq ?_
  refine tq 3 hH ?_ (hv:=λu hu=>N9 119 _ rfl (B:=wr.heap.size) (j:=0) (cs:=[vS x.nm,vI x.md,vS x.wt,vL d x.ls.length c,vI x.cd,vS x.tx]) rfl (λq v e=>by rw[Y8];exact(hu.1.cell q).trans e) underlying119 rfl Y0)
  try simp only[qq]
  refine rq 4 λK hK=>?_;go_simp;refine(a4O x d c V.drew hxs (Q7 GL (E5 A p))).mono ?_;rintro e w2⟨⟨bo,rfl,P⟩,Q⟩;have B2:=U0 (E5 A (p.trans (Q.mono A8)));have Z:=U0 (t.o.below Q t.o.lt);have s:=U0 (E5 I B2);have HP2:=U0 (((B2).cell (by exact O)).trans U)
  go_wp2_with fail
  refine G9 hK ⟨Z,HP2,Z.o.cell 0⟩ λhH=>?_
  cases bo with
  | false=>
   have l:=U0 (F.o (λh=>by have:=P.2 h.2.1;cases this))
   iterate 17 refine sq ?_
   refine wdn ?_;go_wp2;go_ret;exact⟨P5 l,s⟩
  | true=>
   have R:=U0 (P.1 rfl);by_cases h0:k=0
   ·have H:=U0 (X.o ⟨W,R,λh=>O0⟩);have zk:¬(0:Int)<k:=O0;subst h0
    iterate 17 refine sq ?_
    refine wdn ?_;go_wp2;go_roundw;exact⟨0+1,O0,by go_num,H,s.o⟩;exact V9
   have zk:(0:Int)<k:=O0;have zs1:(k:Int)-1=((k-1:Nat):Int):=O0;have hk1:k-1<rn.length:=O0
   iterate 5 refine sq ?_
   rw[show decide (0<k)=true from X_ O0]
   iterate 4 refine sq ?_
   rw[T.Yb (k-1) O0]
   iterate 6 refine sq ?_
   by_cases r:Op.bytesLess y.nm.toList x.nm.toList=true
   ·have H:=U0 (X.o ⟨W,R,λ_=>r⟩);rw[r,ZJ]
    iterate 2 refine sq ?_
    refine wdn ?_;go_wp2;go_roundw;exact⟨k+1,O0,by go_num,H,s.o⟩;exact V9
   have l:=U0 (F.o (λh=>r (h.2.2 O0)));rw[Uf.2 r,bK]
   iterate 2 refine sq ?_
   refine wdn ?_;go_wp2;go_ret;exact⟨P5 l,s⟩
def Fit(j:Jb)(x:Rn):Prop:=x.nm=j.nm/\x.md=1/\x.wt=⟨#[]⟩
theorem a5U(x:Rn)(j:Jb)(J:Nat)(b:OA)(a:Nat)(w:World)(f:w.cell? ⟨J,0,none⟩=some (Sb j.nm))(m:J<w.heap.size):
 Calls prog 242 #[.agg #[Sb x.nm,Sc Se x.md,Sb x.wt,Sa b x.ls.length a,Sc Se x.cd,Sb x.tx],Sd (some ⟨J,0,none⟩)] w λe w'=>Rb (Fit j x) e/\Bw w w':=by
 go_in
 go_upto_region 1 with fail
 have l:=U0 (I4 w [vS x.nm,vI x.md,vS x.wt,vL b x.ls.length a,vI x.cd,vS x.tx] 119);have d:=U0 (U6 (w:=w) (o:=Sg #[vS x.nm,vI x.md,vS x.wt,vL b x.ls.length a,vI x.cd,vS x.tx] 119))
 replace f:=(d.o.cell (by exact m)).trans f
 generalize w.alloc (Sg #[vS x.nm,vI x.md,vS x.wt,vL b x.ls.length a,vI x.cd,vS x.tx] 119)=V at*;have i:=l.o.cell 0;simp only[gz]at i;by_cases h:x.nm=j.nm;rotate_left
 ·have p:Hid (¬Fit j x):=λk=>h k.1;have z:=S_.2 (Yc h);go_wp2;go_ret;exact⟨P5 p,d⟩
 have z:(x.nm.toList==j.nm.toList)=true:=by rw[h];exact beq_self_eq_true _
 have q:=U0 h;clear h
 go_wp2_with(refine Qx rfl 119 _ rfl (B:=w.heap.size) rfl l.o underlying119 rfl Y0 ?_)
 refine(a5D x b a V).mono ?_;rintro e w1⟨⟨n,rfl,c⟩,g⟩;have r:Hid (n=true↔Fit j x):=⟨λh=>⟨q,c.1 h⟩,λh=>c.2 h.2⟩;have s:=U0 (E5 d g);clear c g z i;go_wp2;go_ret;exact⟨⟨_,rfl,r⟩,s⟩
theorem a5x(a:OA)(cap:Nat)(rn:List Rn)(j:Jb)(J:Nat)(w:World)(hl:rn.length<=1048576)(n:Wi w a rn)(g:w.cell? ⟨J,0,none⟩=some (Sb j.nm))(o:J<w.heap.size):
 Calls prog 288 #[Sa a rn.length cap,.func (.func 242) #[] #[Sd (some ⟨J,0,none⟩)]] w λe w'=>(∃r:Int,e=Sf (Sc Se r)/\(0<=r↔∃i,i<rn.length/\Fit j (rn.getD i L9)))/\Bw w w':=by
 obtain⟨D,off,hc⟩:=Z_ n;have L:=U0 hc;have H:=U0 g;clear n hc g
 go_in
 go_wp2;go_loopw[8] (λi wr=>∃k:Nat,k<=rn.length/\i=Sc Se k/\Hid (∀t,t<k->¬Fit j (rn.getD t L9))/\Below w.heap.size w wr) (λi _=>rn.length-(RowKit.intOf i).toNat);exact⟨0,Y4 _,rfl,λj h=>absurd h (U8 _),O4 _ _⟩;obtain⟨k,hk,rfl,hd,b⟩:=hrel;by_cases d:k<rn.length;rotate_left
 ·obtain rfl:k=rn.length:=O0;have f:Hid ((0:Int)<= -1↔∃i,i<rn.length/\Fit j (rn.getD i L9)):=⟨λh=>O0,λ⟨i,h1,h2⟩=>absurd h2 (hd i h1)⟩;go_wp2;go_ret;exact⟨⟨_,rfl,f⟩,b⟩
 obtain⟨ha,y,l⟩:=Ud L.o d;subst ha;obtain⟨s,q,p,A⟩:=(l k d).below y b;have f:Hid (Fit j (rn.getD k L9)->((0:Int)<=(k:Int)↔∃i,i<rn.length/\Fit j (rn.getD i L9))):=λh=>⟨λ_=>⟨k,d,h⟩,λ_=>O0⟩;have K:Hid (¬Fit j (rn.getD k L9)->∀t,t<k+1->¬Fit j (rn.getD t L9)):=λv t ht=>by
  rcases Z7 t k with h|h
  ·exact hd t h
  obtain rfl:t=k:=O0;exact v
 generalize rn.getD k L9=x at*;have N:=U0 p;have F:=U0 ((b.cell (by exact o)).trans H);have z:=P9 o b.size;clear l hd p A
 go_wp2_with(refine Oa rfl (N9 119 _ rfl (B:=D) (j:=off+k*6) (cs:=[vS x.nm,vI x.md,vS x.wt,vL s x.ls.length q,vI x.cd,vS x.tx]) rfl N.o underlying119 rfl Y0) ?_)
 refine(a5U x j J s q wr F z).mono ?_;rintro e w1⟨⟨C,rfl,c⟩,m⟩;have u:=U0 (E5 b m);clear m
 cases C with
 | true=>
  have E:=U0 (f.o (c.1 rfl));clear c;go_wp2;go_ret;exact⟨⟨_,rfl,E⟩,u⟩
 | false=>
  have I:=U0 (K.o (λh=>by have:=c.2 h;cases this));clear c;go_wp2;go_roundw;exact⟨k+1,O0,by go_num,I,u.o⟩;exact V9
theorem a6h(a:OA)(cap:Nat)(rn:List Rn)(j:Jb)(J:Nat)(w:World)(hl:rn.length<=1048576)(d:Wi w a rn)(b:w.cell? ⟨J,0,none⟩=some (Sb j.nm))(l:J<w.heap.size):
 Calls prog 241 #[Sa a rn.length cap,.func (.func 242) #[] #[Sd (some ⟨J,0,none⟩)]] w λe w'=>Rb (∃i,i<rn.length/\Fit j (rn.getD i L9)) e/\Bw w w':=by
 have hc:=a5x a cap rn j J w hl d b l;clear d b
 go_in
 go_wp2_with fail
 refine hc.mono ?_;rintro e w1⟨⟨r,rfl,hr⟩,c⟩;have g:=U0 c;have f:=U0 hr;clear hc c hr;by_cases h:0<=r
 ·have m:=U0 (f.o.1 h);go_wp2;go_ret;exact⟨H_ m,g⟩
 have n:=U0 (λk=>h (f.o.2 k));have z:r<0:=O0;clear h;go_wp2;go_ret;exact⟨⟨_,rfl,⟨λh=>by simp at h;omega,λh=>absurd h n.o⟩⟩,g.o⟩
def pz(b:Bs)(j:Jb):Prop:=(∃i,i<b.rn.length/\Fit j (b.rn.getD i L9))/\(1<=j.wk/\j.wk<=b.hd.length)/\(b.now<=j.un/\j.un<=b.now+6)
theorem a5V(b:Bs)(q:Ba)(j:Jb)(w:World)(hl:lg b 1048576)(hn1:0<=b.now)(hn2:b.now<=1000000)(s:Wi w q.na b.rn):
 Calls prog 178 #[.agg (bsV b q).toArray,.agg #[Sb j.nm,Sc Se j.wk,Sc Se j.un]] w λe w'=>Rb (pz b j) e/\Bw w w':=by
 have r:IntKind.i64.wrap (b.now+6)=b.now+6:=by rw[kK];omega
 have hhl:=hl.hl;have z:=hl.nl;have C:=U0 s;clear s hl
 go_in
 go_upto_region 1 with fail
 have d:=U0 (E8 (I4 w (bsV b q) 47) (Sg #[vS j.nm,vI j.wk,vI j.un] 124));have c:Hid (Cl ((w.alloc (Sg (bsV b q).toArray 47)).alloc (Sg #[vS j.nm,vI j.wk,vI j.un] 124)) (w.heap.size+1) 124 [vS j.nm,vI j.wk,vI j.un]):=by show Cl _ _ _ _;have h:=I4 (w.alloc (Sg (bsV b q).toArray 47)) [vS j.nm,vI j.wk,vI j.un] 124;simpa using h
 have p:Hid (Bw w ((w.alloc (Sg (bsV b q).toArray 47)).alloc (Sg #[vS j.nm,vI j.wk,vI j.un] 124))):=U6.alloc J4 _;generalize (w.alloc (Sg (bsV b q).toArray 47)).alloc (Sg #[vS j.nm,vI j.wk,vI j.un] 124)=V at*;have a2:=d.o.cell 2;have n:=d.o.cell 11;have u:=d.o.cell 13;simp only[gz]at a2 n u;have o:=c.o.cell 0;have m:=c.o.cell 1;have l:=c.o.cell 2;simp only[gz]at o m l
 go_wp2_with fail
 refine(a6h q.na q.nc b.rn j (w.heap.size+1) V z (Jf C p) o c.o.lt).mono ?_;rintro e w1⟨⟨A,rfl,g⟩,i⟩;have y:=U0 (d.o.below i d.o.lt);have x:=U0 (c.o.below i c.o.lt);have f:=U0 (E5 p i);clear i a2 n u o m l d c p;have a2:=y.o.cell 2;have n:=y.o.cell 11;simp only[gz]at a2 n;have m:=x.o.cell 1;have l:=x.o.cell 2;simp only[gz]at m l
 cases A with
 | false=>
  have a:Hid (¬pz b j):=λh=>by have:=g.2 h.1;cases this
  clear g;go_wp2;go_ret;exact⟨P5 a,f⟩
 | true=>
 have B:=U0 (g.1 rfl);clear g;by_cases h1:1<=j.wk;rotate_left
 ·have a:Hid (¬pz b j):=λh=>h1 h.2.1.1;go_wp2;go_ret;exact⟨P5 a,f⟩
 by_cases h2:j.wk<=b.hd.length;rotate_left
 ·have a:Hid (¬pz b j):=λh=>h2 h.2.1.2;go_wp2;go_ret;exact⟨P5 a,f⟩
 by_cases t:b.now<=j.un;rotate_left
 ·have a:Hid (¬pz b j):=λh=>t h.2.2.1;go_wp2;go_ret;exact⟨P5 a,f⟩
 by_cases k:j.un<=b.now+6
 ·have v:Hid (pz b j):=⟨B,⟨h1,h2⟩,t,k⟩;go_wp2;go_ret;exact⟨by first|exact H_ v.o|(rw[r,X_ k];exact H_ v),f⟩
 have a:Hid (¬pz b j):=λh=>k h.2.2.2;go_wp2;go_ret;exact⟨by first|exact P5 a.o|(rw[r,j_ k];exact P5 a)|exact⟨_,rfl,⟨λh=>by simp at h;omega,λh=>absurd h a.o⟩⟩,f.o⟩
def Gm(j x:Jb):Prop:=x.wk=j.wk\/Op.bytesLess x.nm.toList j.nm.toList=false
theorem a4h(x j:Jb)(J:Nat)(w:World)(h0:w.cell? ⟨J,0,none⟩=some (Sb j.nm))(h1:w.cell? ⟨J,1,none⟩=some (Sc Se j.wk))(d:J<w.heap.size):
 Calls prog 177 #[.agg #[Sb x.nm,Sc Se x.wk,Sc Se x.un],Sd (some ⟨J,0,none⟩)] w λe w'=>Rb (Gm j x) e/\Bw w w':=by
 go_in
 go_upto_region 1 with fail
 have f:=U0 (I4 w [vS x.nm,vI x.wk,vI x.un] 124);have a:=U0 (U6 (w:=w) (o:=Sg #[vS x.nm,vI x.wk,vI x.un] 124))
 replace h0:=(a.o.cell (by exact d)).trans h0
 replace h1:=(a.o.cell (by exact d)).trans h1
 generalize w.alloc (Sg #[vS x.nm,vI x.wk,vI x.un] 124)=V at*;have g:=f.o.cell 0;have a1:=f.o.cell 1;simp only[gz]at g a1;by_cases h:x.wk=j.wk
 ·have c:Hid (Gm j x):=.inl h;rw[h]at a1;go_wp2;go_ret;exact⟨H_ c,a⟩
 have z:=S_.2 h;by_cases b:Op.bytesLess x.nm.toList j.nm.toList=true
 ·have i:Hid (¬Gm j x):=λk=>by
   rcases k with k|k
   ·exact h k
   rw[b]at k;cases k
  go_wp2;go_ret;exact⟨P5 i,a⟩
 have c:Hid (Gm j x):=.inr (Uf.2 b);have z2:=Uf.2 b;go_wp2;go_ret;exact⟨H_ c,a⟩
theorem a5J(a:OA)(cap:Nat)(rn:List Jb)(j:Jb)(J:Nat)(w:World)(hl:rn.length<=1048576)(o:Qj w a rn)(h0:w.cell? ⟨J,0,none⟩=some (Sb j.nm))(h1:w.cell? ⟨J,1,none⟩=some (Sc Se j.wk))(l:J<w.heap.size):
 Calls prog 240 #[Sa a rn.length cap,.func (.func 177) #[] #[Sd (some ⟨J,0,none⟩)]] w λe w'=>(∃r:Int,e=Sf (Sc Se r)/\(0<=r↔∃i,i<rn.length/\Gm j (rn.getD i Ea)))/\Bw w w':=by
 obtain⟨bb,off,hc⟩:=Z_ o;have E:=U0 hc;have B:=U0 h0;have z:=U0 h1;clear o hc h0 h1
 go_in
 go_wp2;go_loopw[8] (λi wr=>∃k:Nat,k<=rn.length/\i=Sc Se k/\Hid (∀t,t<k->¬Gm j (rn.getD t Ea))/\Below w.heap.size w wr) (λi _=>rn.length-(RowKit.intOf i).toNat);exact⟨0,Y4 _,rfl,λj h=>absurd h (U8 _),O4 _ _⟩;obtain⟨k,hk,rfl,hd,b⟩:=hrel;by_cases c:k<rn.length;rotate_left
 ·obtain rfl:k=rn.length:=O0;have m:Hid ((0:Int)<= -1↔∃i,i<rn.length/\Gm j (rn.getD i Ea)):=⟨λh=>O0,λ⟨i,h1,h2⟩=>absurd h2 (hd i h1)⟩;go_wp2;go_ret;exact⟨⟨_,rfl,m⟩,b⟩
 obtain⟨ha,g,d⟩:=Ud E.o c;subst ha;have g0:=((d k c).below g b) 0 _ rfl;have g1:=((d k c).below g b) 1 _ rfl;have g2:=((d k c).below g b) 2 _ rfl;dsimp only[Nat.add_zero]at g0;have m:Hid (Gm j (rn.getD k Ea)->((0:Int)<=(k:Int)↔∃i,i<rn.length/\Gm j (rn.getD i Ea))):=λh=>⟨λ_=>⟨k,c,h⟩,λ_=>O0⟩;have D:Hid (¬Gm j (rn.getD k Ea)->∀t,t<k+1->¬Gm j (rn.getD t Ea)):=λq t ht=>by
  rcases Z7 t k with h|h
  ·exact hd t h
  obtain rfl:t=k:=O0;exact q
 generalize rn.getD k Ea=x at*;have A:=U0 ((b.cell (by exact l)).trans B);have y:=U0 ((b.cell (by exact l)).trans z);have s:=P9 l b.size;clear d hd
 go_wp2_with fail
 refine(a4h x j J wr A y s).mono ?_;rintro e w1⟨⟨u,rfl,f⟩,n⟩;have p:=U0 (E5 b n);clear n g0 g1 g2
 cases u with
 | true=>
  have v:=U0 (m.o (f.1 rfl));clear f;go_wp2;go_ret;exact⟨⟨_,rfl,v⟩,p⟩
 | false=>
  have C:=U0 (D.o (λh=>by have:=f.2 h;cases this));clear f;go_wp2;go_roundw;exact⟨k+1,O0,by go_num,C,p.o⟩;exact V9
theorem a4f(a:OA)(cap:Nat)(rn:List Jb)(j:Jb)(J:Nat)(w:World)(hl:rn.length<=1048576)(c:Qj w a rn)(h0:w.cell? ⟨J,0,none⟩=some (Sb j.nm))(h1:w.cell? ⟨J,1,none⟩=some (Sc Se j.wk))(g:J<w.heap.size):
 Calls prog 176 #[Sa a rn.length cap,.func (.func 177) #[] #[Sd (some ⟨J,0,none⟩)]] w λe w'=>Rb (∃i,i<rn.length/\Gm j (rn.getD i Ea)) e/\Bw w w':=by
 have hc:=a5J a cap rn j J w hl c h0 h1 g;clear c h0 h1
 go_in
 go_wp2_with fail
 refine hc.mono ?_;rintro e w1⟨⟨r,rfl,hr⟩,b⟩;have f:=U0 b;have d:=U0 hr;clear hc b hr;by_cases h:0<=r
 ·have l:=U0 (d.o.1 h);go_wp2;go_ret;exact⟨H_ l,f⟩
 have m:=U0 (λk=>h (d.o.2 k));have z:r<0:=O0;clear h;go_wp2;go_ret;exact⟨⟨_,rfl,⟨λh=>by simp at h;omega,λh=>absurd h m.o⟩⟩,f.o⟩
theorem c66(b:Bs)(q:Ba)(ms:List M3)(w:World)(hl:lg b 1048576)(hp:G.Ih b.fs ms)(hat:jh w b q):
 Calls prog 66 #[.agg #[Sc Se b.wd,.bool b.up,Sc Se b.now,Sc Se b.ep,Sc Se b.ed,Sa q.sa b.sf.length q.sc,Sa q.la b.lo.length q.lc,Sa q.fa b.fs.length q.fc,Sc Se b.s.wd,Sa q.ta b.s.ts.length q.tc,Sa q.ra b.s.rs.length q.rc,Sa q.ha b.hd.length q.hc,Sa q.oa b.rt.length q.oc,Sa q.na b.rn.length q.nc,Sa q.ja b.jb.length q.jc]] w λe w'=>Rb (wF ms b.rn) e/\Bw w w':=by
 have HA:=U0 hat;have HL0:=U0 hl;have hrl:=hl.nl;have HPT:=U0 hp;obtain⟨bb,off,hc⟩:=Z_ hat.rn;have HC:=U0 hc;clear hat hl hc hp
 go_in
 go_upto_region 1 with fail
 have C0:=U0 (I4 w [vI b.wd,.bool b.up,vI b.now,vI b.ep,vI b.ed,vL q.sa b.sf.length q.sc,vL q.la b.lo.length q.lc,vL q.fa b.fs.length q.fc,vI b.s.wd,vL q.ta b.s.ts.length q.tc,vL q.ra b.s.rs.length q.rc,vL q.ha b.hd.length q.hc,vL q.oa b.rt.length q.oc,vL q.na b.rn.length q.nc,vL q.ja b.jb.length q.jc] 47);have B0:=U0 (U6 (w:=w) (o:=Sg #[vI b.wd,.bool b.up,vI b.now,vI b.ep,vI b.ed,vL q.sa b.sf.length q.sc,vL q.la b.lo.length q.lc,vL q.fa b.fs.length q.fc,vI b.s.wd,vL q.ta b.s.ts.length q.tc,vL q.ra b.s.rs.length q.rc,vL q.ha b.hd.length q.hc,vL q.oa b.rt.length q.oc,vL q.na b.rn.length q.nc,vL q.ja b.jb.length q.jc] 47));generalize w.alloc (Sg #[vI b.wd,.bool b.up,vI b.now,vI b.ep,vI b.ed,vL q.sa b.sf.length q.sc,vL q.la b.lo.length q.lc,vL q.fa b.fs.length q.fc,vI b.s.wd,vL q.ta b.s.ts.length q.tc,vL q.ra b.s.rs.length q.rc,vL q.ha b.hd.length q.hc,vL q.oa b.rt.length q.oc,vL q.na b.rn.length q.nc,vL q.ja b.jb.length q.jc] 47)=V0 at*;go_wp2;go_loopw[3] (λi wr=>∃k:Nat,k<=b.rn.length/\i=Sc Se k/\Hid (∀i,i<k->(∃j,j<ms.length/\(ms.getD j J_).nm=(b.rn.getD i L9).nm)/\zh (b.rn.getD i L9)/\(0<i->Op.bytesLess (b.rn.getD (i-1) L9).nm.toList (b.rn.getD i L9).nm.toList=true))/\Hid (Cl wr w.heap.size 47 [Sc Se b.wd,.bool b.up,Sc Se b.now,Sc Se b.ep,Sc Se b.ed,Sa q.sa b.sf.length q.sc,Sa q.la b.lo.length q.lc,Sa q.fa b.fs.length q.fc,Sc Se b.s.wd,Sa q.ta b.s.ts.length q.tc,Sa q.ra b.s.rs.length q.rc,Sa q.ha b.hd.length q.hc,Sa q.oa b.rt.length q.oc,Sa q.na b.rn.length q.nc,Sa q.ja b.jb.length q.jc])/\Below w.heap.size w wr) (λi _=>b.rn.length-(RowKit.intOf i).toNat);exact⟨0,Y4 _,rfl,λj h=>absurd h (U8 _),C0,B0.o⟩;obtain⟨k,hk,rfl,hd,J,hb⟩:=hrel;have I:=U0 hb;clear hb;have Q:=J.o.cell 7;have a13:=J.o.cell 13;simp only[gz]at Q a13;by_cases hlt:k<b.rn.length;rotate_left
 ·obtain rfl:k=b.rn.length:=O0;have HY:Hid (wF ms b.rn):=hd.o;go_wp2;go_ret;exact⟨H_ HY.o,I.o⟩
 obtain⟨ha,hbw,hcell⟩:=Ud HC.o hlt;have a7r:=P9 hbw I.o.size;obtain⟨P,O,gB,gL⟩:=(hcell k hlt).below hbw I.o;have HP:Hid (wr.cell? (aA bb (off+(k-1)*6))=some (vS (b.rn.getD (k-1) L9).nm)):=by
  obtain⟨_,_,g,_⟩:=(hcell (k-1) O0).below hbw I.o;exact g 0 _ rfl
 have N:=U0 (HL0.o.ns k);have l:Hid (¬((∃j,j<ms.length/\(ms.getD j J_).nm=(b.rn.getD k L9).nm)/\zh (b.rn.getD k L9)/\(0<k->Op.bytesLess (b.rn.getD (k-1) L9).nm.toList (b.rn.getD k L9).nm.toList=true))->¬wF ms b.rn):=λhg h=>hg (h k hlt);have HD:Hid (((∃j,j<ms.length/\(ms.getD j J_).nm=(b.rn.getD k L9).nm)/\zh (b.rn.getD k L9)/\(0<k->Op.bytesLess (b.rn.getD (k-1) L9).nm.toList (b.rn.getD k L9).nm.toList=true))->∀i,i<k+1->(∃j,j<ms.length/\(ms.getD j J_).nm=(b.rn.getD i L9).nm)/\zh (b.rn.getD i L9)/\(0<i->Op.bytesLess (b.rn.getD (i-1) L9).nm.toList (b.rn.getD i L9).nm.toList=true)):=λhg j hj=>by
  rcases Z7 j k with h|h
  ·exact hd.o j h
  obtain rfl:j=k:=O0;exact hg
 generalize b.rn.getD k L9=x at*;generalize b.rn.getD (k-1) L9=y at*;have GB:=U0 gB;have GL:=U0 gL;rw[ha]at a13;have HAq:=U0 ha;clear hcell hd gB gL ha
 go_upto_region 5 with(first|(refine Oa rfl (N9 119 _ rfl (B:=bb) (j:=off+k*6) (cs:=Td (x,vL P x.ls.length O)) rfl GB.o underlying119 rfl Y0) ?_)|(refine N7 rfl 119 _ _ rfl (j:=0) rfl rfl (I4 wr [vE,vO,vE,vN,vO,vE] 119) A8 (WS x P O) Y0 ?_;intro z cz oz))
 have CZ:Hid (Cl z wr.heap.size 119 [vS x.nm,vI x.md,vS x.wt,vL P x.ls.length O,vI x.cd,vS x.tx]):=cz;have BZ:=U0 ((U6 (w:=wr) (o:=Sg #[vE,vO,vE,vN,vO,vE] 119)).trans (oz.below A8));clear cz oz;have Crz:=U0 (J.o.below BZ.o J.o.lt);clear Q a13;have Q:=Crz.o.cell 7;simp only[gz]at Q;have r0:=CZ.o.cell 0;simp only[gz]at r0
 go_wp2_with fail
 refine(G.a6N q.fa q.fc b.fs x.nm z HL0.o.fl HL0.o.fz (T.J5 HA.o.fs (E5 I.o BZ.o))).mono ?_;rintro e w1⟨⟨ms',hp',m,th,rfl,D⟩,hb1⟩;obtain rfl:=G.fA hp' HPT.o;clear r0 Q hp'
 go_upto_region 6 with fail
 have BM:=U0 (E5 hb1 (U6 (w:=w1) (o:=Sg #[vS m.nm,vS m.tl,vS m.ar] 142)));generalize w1.alloc (Sg #[vS m.nm,vS m.tl,vS m.ar] 142)=V at*;have CV:=U0 (CZ.o.below BM.o CZ.o.lt);have BV:=U0 (E5 BZ.o BM.o);have r:=U0 (J.o.below BV.o J.o.lt);have F:Bw V V.drew:=(O4 _ _).drew;have CD:=U0 (CV.o.below F CV.o.lt);have HQ:=U0 (E5 I.o BV.o);clear hb1 CZ BZ BM Crz;have S:Hid (∀u,Bw V u->u.cell? (aW w 13)=some (vL (some (aA bb off)) b.rn.length q.nc)/\u.cell? (aA bb (off+(k-1)*6))=some (vS y.nm)/\u.cell? (aW wr 0)=some (vS x.nm)/\u.cell? (aW wr 1)=some (vI x.md)/\u.cell? (aW wr 2)=some (vS x.wt)/\u.cell? (aW wr 3)=some (vL P x.ls.length O)):=λu hu=>by
  have h1:=r.o.below hu r.o.lt;have h2:=CV.o.below hu CV.o.lt;refine⟨(h1.cell 13).trans (by rw[HAq.o];rfl),((E5 BV.o hu).cell (by exact a7r)).trans HP.o,h2.cell 0,h2.cell 1,h2.cell 2,h2.cell 3⟩
 refine mG S F Y0 λhH=>?_
 cases th with
 | false=>
  have a:=U0 (l.o (λh=>by
   rcases D with⟨h,_⟩|⟨_,D⟩
   ·cases h
   obtain⟨j,hj,e⟩:=h.1;exact D j hj e))
  clear D
  iterate 41 refine sq ?_
  refine wdn ?_;go_wp2;go_ret;exact⟨P5 a.o,HQ.o.drew⟩
 | true=>
 have HM:Hid (∃j,j<ms'.length/\(ms'.getD j J_).nm=x.nm):=by
  rcases D with⟨_,i,hi,e1,e2⟩|⟨h,_⟩
  ·exact⟨i,hi,by rw[e1];exact e2⟩
  cases h
 clear D
 iterate 5 refine sq ?_
 by_cases h0:0<k;rotate_left
 focus
  have HLS:Hid (0<k->Op.bytesLess y.nm.toList x.nm.toList=true):=λh=>absurd h h0;rw[j_ h0]
  iterate 16 refine sq ?_
 rotate_left
 focus
  rw[X_ h0]
  iterate 5 refine sq ?_
  have hk1:k-1<b.rn.length:=O0;rw[show(k:Int)-1=((k-1:Nat):Int) by omega,T.Yb (k-1) O0]
  iterate 6 refine sq ?_
  by_cases Y:Op.bytesLess y.nm.toList x.nm.toList=true;rotate_left
  ·have a:=U0 (l.o (λh=>Y (h.2.2 h0)));rw[Uf.2 Y,bK]
   iterate 25 refine sq ?_
   refine wdn ?_;go_wp2;go_ret;exact⟨P5 a.o,HQ.o.drew⟩
  have HLS:Hid (0<k->Op.bytesLess y.nm.toList x.nm.toList=true):=λ_=>Y;rw[Y,ZJ]
  iterate 5 refine sq ?_
 all_goals
  refine rq 21 λK f=>?_;go_simp;refine(ZK x.md 0 2 V.drew).mono ?_;rintro e w7⟨rfl,hw7⟩;obtain rfl:=hw7.symm;by_cases hmd:0<=x.md/\x.md<=2;rotate_left
  ·have a:=U0 (l.o (λh=>hmd (by rcases h.2.1.2 with⟨h,_⟩|⟨h,_⟩<;>omega)));rw[j_ hmd]
   go_wp2_with fail
   refine G9 f (S.o _ F) λhH=>?_;clear f K
   iterate 19 refine sq ?_
   refine wdn ?_;go_wp2;go_ret;exact⟨P5 a.o,HQ.o.drew⟩
  rw[X_ hmd]
  go_wp2_with fail
  refine G9 f (S.o _ F) λhH=>?_;clear f K
  iterate 5 refine sq ?_
  refine rq 27 λK f=>?_;go_simp;refine(a2E P O x.ls V.drew N.o.2.2.1.1 N.o.2.2.1.2 (Q7 GL.o (E5 BV.o F))).mono ?_;rintro e w8⟨⟨bo,rfl,hbo⟩,hb8⟩;have L:=U0 (F.trans (hb8.mono A8));have A:=U0 (E5 HQ.o L.o);have c:=U0 (CD.o.below hb8 CD.o.lt);clear hb8
  go_wp2_with fail
  refine G9 f (S.o _ L.o) λhH=>?_;clear f K
  cases bo with
  | false=>
   have a:=U0 (l.o (λh=>by have:=hbo.2 h.2.1.1;cases this));clear hbo
   iterate 13 refine sq ?_
   refine wdn ?_;go_wp2;go_ret;exact⟨P5 a.o,A.o⟩
  | true=>
  have HL:=U0 (hbo.1 rfl);clear hbo
  iterate 5 refine sq ?_
  by_cases E:x.wt=⟨#[]⟩
  focus
   have HWT:Hid (WT x.wt):=.inl E;have z:(x.wt.toList==([]:List UInt8))=true:=by rw[E,ByteArray.toList_eq];rfl
   iterate 8 refine sq ?_
   refine wdn ?_;have v:=c.o.cell 1;have d:=c.o.cell 2;have t:=c.o.cell 4;have C:=c.o.cell 5;simp only[gz]at v d t C;by_cases h2:x.md=2
   ·rw[h2]at v;have R:=U0 (IV x.cd x.tx w8 (by have:=N.o.2.2.2;omega))
    go_wp2_with fail
    refine R.o.mono ?_;rintro e w9⟨rfl,n⟩;have C9:=U0 (c.o.below n c.o.lt);have H:=U0 (E5 A.o n);have K9:=U0 (r.o.below (E5 L.o n) r.o.lt);clear n R v d t C;have d:=C9.o.cell 2;simp only[gz]at d;by_cases hv:vr x.cd x.tx.data.toList=true
    ·rw[hv];by_cases p:x.wt=⟨#[]⟩
     ·have U:=U0 (HD.o ⟨HM.o,⟨HL.o,.inr ⟨h2,hv,p⟩⟩,HLS.o⟩);rw[p]at d;go_wp2;go_roundw;exact⟨k+1,O0,by go_num,U,K9,H.o⟩;exact V9
     exact absurd E p
    rw[Uf.2 hv];have a:=U0 (l.o (λh=>by
     rcases h.2.1.2 with⟨h,_⟩|⟨_,h,_⟩
     ·omega
     exact hv h))
    go_wp2;go_ret;exact⟨P5 a.o,H.o⟩
  rotate_left
  focus
   have z:=Bl E
   iterate 4 refine sq ?_
   refine rq 37 λK f=>?_;go_simp;refine(c21 x.wt w8 (by have:=N.o.2.1;omega)).mono ?_;rintro e w7⟨rfl,hw7⟩;obtain rfl:=hw7.symm
   go_wp2_with fail
   refine G9 f (S.o _ L.o) λhH=>?_;clear f K;by_cases X:Y5 x.wt.data.toList=true;rotate_left
   ·have a:=U0 (l.o (λh=>by
     rcases h.2.1.2 with⟨_,_,h⟩|⟨_,_,h⟩
     ·exact X (h.resolve_left E)
     exact E h))
    rw[Uf.2 X]
    iterate 3 refine sq ?_
    refine wdn ?_;go_wp2;go_ret;exact⟨P5 a.o,A.o⟩
   have HWT:Hid (WT x.wt):=.inr X;rw[X]
   iterate 3 refine sq ?_
   refine wdn ?_;have v:=c.o.cell 1;have d:=c.o.cell 2;have t:=c.o.cell 4;have C:=c.o.cell 5;simp only[gz]at v d t C;by_cases h2:x.md=2
   ·rw[h2]at v;have R:=U0 (IV x.cd x.tx w8 (by have:=N.o.2.2.2;omega))
    go_wp2_with fail
    refine R.o.mono ?_;rintro e w9⟨rfl,n⟩;have C9:=U0 (c.o.below n c.o.lt);have H:=U0 (E5 A.o n);have K9:=U0 (r.o.below (E5 L.o n) r.o.lt);clear n R v d t C;have d:=C9.o.cell 2;simp only[gz]at d;by_cases hv:vr x.cd x.tx.data.toList=true
    ·rw[hv];by_cases p:x.wt=⟨#[]⟩
     ·have U:=U0 (HD.o ⟨HM.o,⟨HL.o,.inr ⟨h2,hv,p⟩⟩,HLS.o⟩);rw[p]at d;go_wp2;go_roundw;exact⟨k+1,O0,by go_num,U,K9,H.o⟩;exact V9
     have z:=Bl p;have a:=U0 (l.o (λh=>by
      rcases h.2.1.2 with⟨h,_⟩|⟨_,_,h⟩
      ·omega
      exact p h))
     go_wp2;go_ret;exact⟨P5 a.o,H.o⟩
    rw[Uf.2 hv];have a:=U0 (l.o (λh=>by
     rcases h.2.1.2 with⟨h,_⟩|⟨_,h,_⟩
     ·omega
     exact hv h))
    go_wp2;go_ret;exact⟨P5 a.o,H.o⟩
  all_goals
   by_cases Z:x.cd=0;rotate_left
   ·have a:=U0 (l.o (λh=>by
     rcases h.2.1.2 with⟨_,h,_⟩|⟨h,_⟩
     ·exact Z h.1
     exact h2 h))
    go_wp2;go_ret;exact⟨P5 a.o,A.o⟩
   by_cases W:x.tx=⟨#[]⟩;rotate_left
   ·have a:=U0 (l.o (λh=>by
     rcases h.2.1.2 with⟨_,h,_⟩|⟨h,_⟩
     ·exact W h.2
     exact h2 h))
    have z:=Bl W;have z1:=S_.1 z;rw[Z]at t;go_wp2;go_ret;exact⟨P5 a.o,A.o⟩
   have U:=U0 (HD.o ⟨HM.o,⟨HL.o,.inl ⟨O0,⟨Z,W⟩,HWT.o⟩⟩,HLS.o⟩);rw[Z]at t;rw[W]at C;go_wp2;go_roundw;exact⟨k+1,O0,by go_num,U,r.o.below L.o r.o.lt,A.o⟩;exact V9
def JbP(b:Bs)(i:Nat):Prop:=(∃t:Nat,t<b.rn.length/\(b.rn.getD t L9).nm=(b.jb.getD i Ea).nm/\(∀j,j<t->(b.rn.getD j L9).nm≠(b.jb.getD i Ea).nm)/\(b.rn.getD t L9).md=1/\(b.rn.getD t L9).wt=⟨#[]⟩)/\(0<i->Op.bytesLess (b.jb.getD (i-1) Ea).nm.toList (b.jb.getD i Ea).nm.toList=true)/\(1<=(b.jb.getD i Ea).wk/\(b.jb.getD i Ea).wk<=b.hd.length)/\(b.now<=(b.jb.getD i Ea).un/\(b.jb.getD i Ea).un<=b.now+6)/\∀j,j<i->(b.jb.getD j Ea).wk≠(b.jb.getD i Ea).wk
def JbS(b:Bs):Prop:=∀i,i<b.jb.length->JbP b i
theorem c67(b:Bs)(q:Ba)(w:World)(hl:lg b 1048576)(hnw:0<=b.now/\b.now<=1000000)(hat:jh w b q):
 Calls prog 67 #[.agg #[Sc Se b.wd,.bool b.up,Sc Se b.now,Sc Se b.ep,Sc Se b.ed,Sa q.sa b.sf.length q.sc,Sa q.la b.lo.length q.lc,Sa q.fa b.fs.length q.fc,Sc Se b.s.wd,Sa q.ta b.s.ts.length q.tc,Sa q.ra b.s.rs.length q.rc,Sa q.ha b.hd.length q.hc,Sa q.oa b.rt.length q.oc,Sa q.na b.rn.length q.nc,Sa q.ja b.jb.length q.jc]] w λe w'=>Rb (JbS b) e/\Bw w w':=by
 obtain⟨hn1,hn2⟩:=hnw;have hw6:IntKind.i64.wrap (b.now+6)=b.now+6:=by rw[kK];omega
 have HA:=U0 hat;have HL0:=U0 hl;have hjl:=hl.jl;have hrl:=hl.nl;have hhl:=hl.hl;obtain⟨D,C,hc⟩:=Z_ hat.jb;have HC:=U0 hc;clear hat hl hc
 go_in
 go_upto_region 1 with fail
 have C0:=U0 (I4 w [vI b.wd,.bool b.up,vI b.now,vI b.ep,vI b.ed,vL q.sa b.sf.length q.sc,vL q.la b.lo.length q.lc,vL q.fa b.fs.length q.fc,vI b.s.wd,vL q.ta b.s.ts.length q.tc,vL q.ra b.s.rs.length q.rc,vL q.ha b.hd.length q.hc,vL q.oa b.rt.length q.oc,vL q.na b.rn.length q.nc,vL q.ja b.jb.length q.jc] 47);have B0:=U0 (U6 (w:=w) (o:=Sg #[vI b.wd,.bool b.up,vI b.now,vI b.ep,vI b.ed,vL q.sa b.sf.length q.sc,vL q.la b.lo.length q.lc,vL q.fa b.fs.length q.fc,vI b.s.wd,vL q.ta b.s.ts.length q.tc,vL q.ra b.s.rs.length q.rc,vL q.ha b.hd.length q.hc,vL q.oa b.rt.length q.oc,vL q.na b.rn.length q.nc,vL q.ja b.jb.length q.jc] 47));generalize w.alloc (Sg #[vI b.wd,.bool b.up,vI b.now,vI b.ep,vI b.ed,vL q.sa b.sf.length q.sc,vL q.la b.lo.length q.lc,vL q.fa b.fs.length q.fc,vI b.s.wd,vL q.ta b.s.ts.length q.tc,vL q.ra b.s.rs.length q.rc,vL q.ha b.hd.length q.hc,vL q.oa b.rt.length q.oc,vL q.na b.rn.length q.nc,vL q.ja b.jb.length q.jc] 47)=V0 at*;go_wp2;go_loopw[3] (λi wr=>∃k:Nat,k<=b.jb.length/\i=Sc Se k/\Hid (∀i,i<k->JbP b i)/\Hid (Cl wr w.heap.size 47 [Sc Se b.wd,.bool b.up,Sc Se b.now,Sc Se b.ep,Sc Se b.ed,Sa q.sa b.sf.length q.sc,Sa q.la b.lo.length q.lc,Sa q.fa b.fs.length q.fc,Sc Se b.s.wd,Sa q.ta b.s.ts.length q.tc,Sa q.ra b.s.rs.length q.rc,Sa q.ha b.hd.length q.hc,Sa q.oa b.rt.length q.oc,Sa q.na b.rn.length q.nc,Sa q.ja b.jb.length q.jc])/\Below w.heap.size w wr) (λi _=>b.jb.length-(RowKit.intOf i).toNat);exact⟨0,Y4 _,rfl,λj h=>absurd h (U8 _),C0,B0.o⟩;generalize wr=d at*;obtain⟨k,hk,rfl,hd,Cr,hb⟩:=hrel;have H:=U0 hb;clear hb;have p:=Cr.o.cell 14;simp only[gz]at p;by_cases hlt:k<b.jb.length;rotate_left
 ·obtain rfl:k=b.jb.length:=O0;have HY:Hid (JbS b):=hd.o;go_wp2;go_ret;exact⟨H_ HY.o,H.o⟩
 obtain⟨ha,hbw,hcell⟩:=Ud HC.o hlt;have a7r:=P9 hbw H.o.size;have HJ0:Hid (∀t,t<b.jb.length->∀u,Bw d u->Bc u D (C+t*3) (Kq (b.jb.getD t Ea))):=λt ht u a=>((hcell t ht).below hbw H.o).below a7r a;have n:Hid (¬JbP b k->¬JbS b):=λE h=>E (h k hlt);have HD:Hid (JbP b k->∀i,i<k+1->JbP b i):=λE j hj=>by
  rcases Z7 j k with h|h
  ·exact hd.o j h
  obtain rfl:j=k:=O0;exact E
 unfold JbP at n HD;have HX:=U0 (HJ0.o k hlt);have HYP:Hid (∀u,Bw d u->u.cell? (aA D (C+(k-1)*3))=some (vS (b.jb.getD (k-1) Ea).nm)):=λu a=>HJ0.o (k-1) O0 u a 0 _ rfl;generalize b.jb.getD k Ea=x at*;generalize b.jb.getD (k-1) Ea=y at*;rw[ha]at p;have HAq:=U0 ha;have g0:=HX.o d (O4 _ _) 0 _ rfl;have g1:=HX.o d (O4 _ _) 1 _ rfl;have g2:=HX.o d (O4 _ _) 2 _ rfl;dsimp only[Nat.add_zero]at g0;clear hcell hd ha
 go_upto_region 5 with fail
 have W:=U0 (I4 d [vS x.nm,vI x.wk,vI x.un] 124);have BV1:=U0 (U6 (w:=d) (o:=Sg #[vS x.nm,vI x.wk,vI x.un] 124));generalize d.alloc (Sg #[vS x.nm,vI x.wk,vI x.un] 124)=V1 at*;have U:=U0 (Cr.o.below BV1.o Cr.o.lt);clear g0 g1 g2 p;have r0:=W.o.cell 0;simp only[gz]at r0
 go_wp2_with(refine Oa rfl (N9 47 _ rfl (B:=w.heap.size) (j:=0) (cs:=[vI b.wd,.bool b.up,vI b.now,vI b.ep,vI b.ed,vL q.sa b.sf.length q.sc,vL q.la b.lo.length q.lc,vL q.fa b.fs.length q.fc,vI b.s.wd,vL q.ta b.s.ts.length q.tc,vL q.ra b.s.rs.length q.rc,vL q.ha b.hd.length q.hc,vL q.oa b.rt.length q.oc,vL q.na b.rn.length q.nc,vL q.ja b.jb.length q.jc]) rfl (λq v e=>by rw[Y8];exact(U.o.cell q).trans e) underlying47 rfl Y0) ?_)
 refine(a5Z b q x.nm V1 hrl (Jf HA.o.rn (E5 H.o BV1.o))).mono ?_;rintro e V⟨⟨r,rfl,hr⟩,Q⟩;have BV:=U0 (E5 BV1.o Q);have Y:=U0 (U.o.below Q U.o.lt);have X:=U0 (W.o.below Q W.o.lt);have R:=U0 (E5 H.o BV.o);have hvd:Bw V V.drew:=(O4 _ _).drew;clear Q r0 U W BV1
 go_upto_region 6 with fail
 rcases hr with⟨rfl,hno⟩|⟨i,rfl,O,hnm,a7E⟩
 ·have f:=U0 (n.o (λh=>by
   obtain⟨t,ht,e,_⟩:=h.1;exact hno t ht e))
  refine wp_region_held_drew (S:=λ_=>True) Y0 trivial λhH=>?_
  iterate 47 refine sq ?_
  refine wdn ?_;go_wp2;go_ret;exact⟨P5 f.o,R.o.drew⟩
 rcases Z_ HA.o.rn with⟨bb,off,hss|⟨han,hbn,hcn⟩⟩
 ·rw[hss]at O;exact absurd O (U8 _)
 obtain⟨ai,ci,gB,gL⟩:=(hcn i O).below hbn R.o;have a8R:=P9 hbn R.o.size;have HF:Hid ((b.rn.getD i L9).md=1/\(b.rn.getD i L9).wt=⟨#[]⟩->∃t:Nat,t<b.rn.length/\(b.rn.getD t L9).nm=x.nm/\(∀j,j<t->(b.rn.getD j L9).nm≠x.nm)/\(b.rn.getD t L9).md=1/\(b.rn.getD t L9).wt=⟨#[]⟩):=λh=>⟨i,O,hnm,a7E,h⟩;have HF2:Hid ((∃t:Nat,t<b.rn.length/\(b.rn.getD t L9).nm=x.nm/\(∀j,j<t->(b.rn.getD j L9).nm≠x.nm)/\(b.rn.getD t L9).md=1/\(b.rn.getD t L9).wt=⟨#[]⟩)->(b.rn.getD i L9).md=1/\(b.rn.getD i L9).wt=⟨#[]⟩):=λ⟨t,ht,e1,e2,e3⟩=>by
  rcases Jt t i with h|h|h
  ·exact absurd e1 (a7E t h)
  ·rw[<- h];exact e3
  exact absurd hnm (e2 i h)
 have GB:=U0 gB;have HAn:=U0 han;generalize b.rn.getD i L9=z at*;clear hcn han gB gL hnm a7E;have A:Hid (∀u,Bw V u->u.cell? (aW w 2)=some (vI b.now)/\u.cell? (aW w 11)=some (vL q.ha b.hd.length q.hc)/\u.cell? (aW w 13)=some (vL (some (aA bb off)) b.rn.length q.nc)/\u.cell? (aW w 14)=some (vL (some (aA D C)) b.jb.length q.jc)/\u.cell? (aA D (C+(k-1)*3))=some (vS y.nm)/\u.cell? (aW d 0)=some (vS x.nm)/\u.cell? (aW d 1)=some (vI x.wk)/\u.cell? (aW d 2)=some (vI x.un)/\Bc u bb (off+i*6) (Td (z,vL ai z.ls.length ci))):=λu a=>by
  have h1:=Y.o.below a Y.o.lt;have h2:=X.o.below a X.o.lt;have h3:=E5 BV.o a;exact⟨h1.cell 2,h1.cell 11,(h1.cell 13).trans (by rw[HAn.o];rfl),(h1.cell 14).trans (by rw[HAq.o];rfl),HYP.o u h3,h2.cell 0,h2.cell 1,h2.cell 2,GB.o.below a8R a⟩
 have HJC:Hid (∀t,t<b.jb.length->∀u,Bw V u->u.cell? (aA D (C+t*3+1))=some (vI (b.jb.getD t Ea).wk)):=λt ht u a=>HJ0.o t ht u (E5 BV.o a) 1 _ rfl;refine mG A hvd Y0 λhH=>?_;have hi0:¬(i:Int)<0:=O0
 iterate 7 refine sq ?_
 refine tq 7 hH ?_ (hv:=λu a=>N9 119 _ rfl (B:=bb) (j:=off+i*6) (cs:=Td (z,vL ai z.ls.length ci)) rfl a.2.2.2.2.2.2.2.2 underlying119 rfl Y0)
 try simp only[qq]
 refine rq 8 λK c=>?_;go_simp;refine(a6q z ai ci V.drew).mono ?_;rintro e I⟨⟨bo,rfl,P⟩,hb8⟩;have l:=U0 (hvd.trans (hb8.mono A8));have F:=U0 (E5 R.o l.o);clear hb8
 go_wp2_with fail
 refine G9 c (A.o _ l.o) λhH=>?_;clear c K
 cases bo with
 | false=>
  have f:=U0 (n.o (λh=>by have:=P.2 (HF2.o h.1);cases this));clear P
  iterate 38 refine sq ?_
  refine wdn ?_;go_wp2;go_ret;exact⟨P5 f.o,F.o⟩
 | true=>
 have a8S:=U0 (HF.o (P.1 rfl));clear P
 iterate 5 refine sq ?_
 by_cases h0:0<k;rotate_left
 focus
  have HLS:Hid (0<k->Op.bytesLess y.nm.toList x.nm.toList=true):=λh=>absurd h h0;rw[j_ h0]
  iterate 19 refine sq ?_
 rotate_left
 focus
  rw[X_ h0]
  iterate 5 refine sq ?_
  have hk1:k-1<b.jb.length:=O0;rw[show(k:Int)-1=((k-1:Nat):Int) by omega,T.Yb (k-1) O0]
  iterate 6 refine sq ?_
  by_cases N:Op.bytesLess y.nm.toList x.nm.toList=true;rotate_left
  ·have f:=U0 (n.o (λh=>N (h.2.1 h0)));rw[Uf.2 N,bK]
   iterate 22 refine sq ?_
   refine wdn ?_;go_wp2;go_ret;exact⟨P5 f.o,F.o⟩
  have HLS:Hid (0<k->Op.bytesLess y.nm.toList x.nm.toList=true):=λ_=>N;rw[N,ZJ]
  iterate 8 refine sq ?_
 all_goals
  refine rq 33 λK c=>?_;go_simp;refine(ZK x.wk 1 b.hd.length I).mono ?_;rintro e w7⟨rfl,hw7⟩;obtain rfl:=hw7.symm;by_cases J:1<=x.wk/\x.wk<=b.hd.length;rotate_left
  ·have f:=U0 (n.o (λh=>J h.2.2.1));rw[j_ J]
   go_wp2_with fail
   refine G9 c (A.o _ l.o) λhH=>?_;clear c K
   iterate 13 refine sq ?_
   refine wdn ?_;go_wp2;go_ret;exact⟨P5 f.o,F.o⟩
  rw[X_ J]
  go_wp2_with fail
  refine G9 c (A.o _ l.o) λhH=>?_;clear c K
  iterate 10 refine sq ?_
  try rw[hw6]
  refine rq 44 λK c=>?_;go_simp;refine(ZK x.un b.now (b.now+6) I).mono ?_;rintro e w7⟨rfl,hw7⟩;obtain rfl:=hw7.symm;by_cases L:b.now<=x.un/\x.un<=b.now+6;rotate_left
  ·have f:=U0 (n.o (λh=>L h.2.2.2.1));rw[j_ L]
   go_wp2_with fail
   refine G9 c (A.o _ l.o) λhH=>?_;clear c K
   iterate 2 refine sq ?_
   refine wdn ?_;go_wp2;go_ret;exact⟨P5 f.o,F.o⟩
  rw[X_ L]
  go_wp2_with fail
  refine G9 c (A.o _ l.o) λhH=>?_;clear c K
  iterate 2 refine sq ?_
  refine wdn ?_;have C5:=U0 (Y.o.below l.o Y.o.lt);have D5:=U0 (X.o.below l.o X.o.lt);go_wp2;go_loopw[6] (λi wr=>∃t:Nat,t<=k/\i=Sc Se t/\Hid (∀j,j<t->(b.jb.getD j Ea).wk≠x.wk)/\Below I.heap.size I wr) (λi _=>k-(RowKit.intOf i).toNat);exact⟨0,Y4 _,rfl,λj h=>absurd h (U8 _),O4 _ _⟩;obtain⟨t,ht,rfl,hdj,m⟩:=hrel;have C6:=U0 (C5.o.below m C5.o.lt);have D6:=U0 (D5.o.below m D5.o.lt);have Q6:=U0 (E5 F.o m);have p:=C6.o.cell 14;have d1:=D6.o.cell 1;simp only[gz]at p d1;rw[HAq.o]at p;by_cases htk:t<k;rotate_left
  ·obtain rfl:t=k:=O0;have HD1:=U0 (HD.o ⟨a8S.o,HLS.o,J,L,hdj.o⟩);clear m;go_wp2;go_roundw;exact⟨t+1,O0,by go_num,HD1,C6,Q6.o⟩;exact V9
  have ht1:t<b.jb.length:=O0;have j1:=HJC.o t ht1 wr (E5 l.o m);have hbd:=U0 (m.drew);have HJD:Hid ((b.jb.getD t Ea).wk≠x.wk->∀j,j<t+1->(b.jb.getD j Ea).wk≠x.wk):=λE j hj=>by
   rcases Z7 j t with h|h
   ·exact hdj.o j h
   obtain rfl:j=t:=O0;exact E
  have HJN:Hid ((b.jb.getD t Ea).wk=x.wk->¬JbS b):=λh=>n.o (λg=>g.2.2.2.2 t htk h);generalize (b.jb.getD t Ea).wk=Z at*;clear hdj m;by_cases hz:Z=x.wk
  ·have f:=U0 (HJN.o hz);rw[hz]at j1
   go_wp2_with fail
   go_region
   all_goals go_wp2
   all_goals go_ret
   all_goals exact⟨P5 f.o,Q6.o.drew⟩
  have HJ1:=U0 (HJD.o hz);have z:=S_.2 hz
  go_wp2_with fail
  go_region
  all_goals go_wp2
  all_goals go_roundw
  all_goals first
   | exact⟨t+1,O0,by go_num,HJ1,hbd.o⟩
   | (exact V9)
