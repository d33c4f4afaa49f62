import Derived.Test.YtkccjgajimjjdaaGreatDoorzA
set_option linter.unusedVariables false
set_option maxHeartbeats 8000000
set_option maxRecDepth 100000
namespace Go.Proofs.YtkccjgajimjjdaaGreatDoor.G
open Proofs.Tryz Go.RowKit
open T (F2 G9 D_ Asc G6 U5 lt Du Hq Ew Ig Ud Nb Ag)
section
variable{ms:List M3}{nm t:BY}{b i j p:Nat}{f:Bool}{u w:World}{v:Value}
theorem a2Y(x:M3)(b:BY)(w:World):
 Calls prog 200 #[.agg #[.string x.nm,.string x.tl,.string x.ar],.string b] w λe w'=>e=.returned (.int .i64 (Du x.nm b))/\Below w.heap.size w w':=by
 go_in
 go_wp2_with fail
 refine(T.c201 x.nm b _).mono ?_;rintro e w1⟨rfl,hw⟩;obtain rfl:=hw.symm;go_wp2;go_ret;exact⟨rfl,Y6⟩
structure jF(ms:List M3)(t:BY)(p:Nat)(f:Bool):Prop where
 le:p<=ms.length
 less:∀j,j<p->lt (ms.getD j L_).nm t=true
 more:∀j,p<=j->j<ms.length->lt (ms.getD j L_).nm t=false
 here:f=true↔p<ms.length/\(ms.getD p L_).nm=t
def bC(ms:List M3):Prop:=∀i j,i<j->j<ms.length->lt (ms.getD i L_).nm (ms.getD j L_).nm=true
def zu(ms:List M3)(t:BY)(i j:Nat):Prop:=(∀q,q<i->lt (ms.getD q L_).nm t=true)/\∀q,j<=q->q<ms.length->lt (ms.getD q L_).nm t=false
theorem XU{h:Nat}(hm:bC ms)(a:zu ms t i j)(hl:h<ms.length)(hx:lt (ms.getD h L_).nm t=true):zu ms t (h+1) j:=by
 refine⟨λq hq=>?_,a.2⟩;rcases D8 q h with h1|h1
 ·exact Ig (hm q h h1 hl) hx
 obtain rfl:q=h:=O0;exact hx
theorem bJ{h:Nat}(hm:bC ms)(a:zu ms t i j)(hx:lt (ms.getD h L_).nm t=false):zu ms t i h:=by
 refine⟨a.1,λq hq hl=>?_⟩;rcases D8 h q with h1|h1
 ·cases hc:lt (ms.getD q L_).nm t
  ·rfl
  rw[Ig (hm h q h1 hl) hc]at hx;cases hx
 obtain rfl:q=h:=O0;exact hx
theorem a3B(a:OA)(cap:Nat)(ms:List M3)(t:BY)(w:World)(hl:ms.length<=300)(C:Ol w a ms)(hm:bC ms):
 Calls prog 199 #[.slice a ms.length cap,.string t,.func (.func 200) #[] #[]] w λe w'=>(∃p f,e=.returned (.tuple #[.int .i64 (p:Nat),.bool f])/\jF ms t p f)/\Below w.heap.size w w':=by
 obtain⟨b,off,hc⟩:=Ak C;have E:Hid (ms=[]\/(a=some ⟨b,off,none⟩/\b<w.heap.size/\∀i,i<ms.length->w.cell? ⟨b,off+i*3,none⟩=some (vS (ms.getD i L_).nm)/\w.cell? ⟨b,off+i*3+1,none⟩=some (vS (ms.getD i L_).tl)/\w.cell? ⟨b,off+i*3+2,none⟩=some (vS (ms.getD i L_).ar))):=hc;have D:Hid (bC ms):=hm;clear hc C hm
 go_in
 go_wp2;go_loopw[9,10] (λu s wr=>∃i j:Nat,i<=j/\j<=ms.length/\u=.int .i64 i/\s=.int .i64 j/\Below w.heap.size w wr/\Hid (zu ms t i j)) (λu s _=>(RowKit.intOf s).toNat-(RowKit.intOf u).toNat);exact⟨0,ms.length,J4 _,J8 _,rfl,rfl,G5 _ _,⟨λq h=>absurd h (y9 _),λq h k=>O0⟩⟩;obtain⟨i,j,hij,B,rfl,rfl,d,l⟩:=hrel;by_cases hlt:i<j;rotate_left
 ·obtain rfl:i=j:=O0;by_cases m:i<ms.length;rotate_left
  ·have z:Hid (jF ms t i false):=⟨O0,l.out.1,l.out.2,Q8⟩;have hd:decide ((i:Int)<(ms.length:Int))=false:=o_ O0;go_wp2
   all_goals go_ret2
   all_goals exact⟨⟨i,false,rfl,z.out⟩,d⟩
  obtain⟨ha,g,c⟩:=Jd E.out m;subst ha;have g0:=(d.cell (by exact g)).trans (c i m).1;have g1:=(d.cell (by exact g)).trans (c i m).2.1;have g2:=(d.cell (by exact g)).trans (c i m).2.2;have z:Hid (∀f:Bool,(f=true↔(ms.getD i L_).nm=t)->jF ms t i f):=λf hf=>⟨O0,l.out.1,l.out.2,hf.trans ⟨λh=>⟨m,h⟩,λh=>h.2⟩⟩;generalize ms.getD i L_=x at*;clear c
  go_wp2_with fail
  refine(a2Y x t wr).mono ?_;rintro e w1⟨rfl,n⟩;have r:Below w.heap.size w w1:=J5 d n;go_wp2
  all_goals go_ret2
  all_goals exact⟨⟨i,_,rfl,z.out _ (by rw[<- Ew];simp)⟩,r⟩
 rcases E.out with F|⟨ha,g,c⟩
 ·rw[F]at B;simp at B;omega
 subst ha;have o:(i+j) / 2<ms.length:=O0;have g0:=(d.cell (by exact g)).trans (c _ o).1;have g1:=(d.cell (by exact g)).trans (c _ o).2.1;have g2:=(d.cell (by exact g)).trans (c _ o).2.2;have y:Hid (lt (ms.getD ((i+j) / 2) L_).nm t=true->zu ms t ((i+j) / 2+1) j):=λhx=>XU D l o hx;have A:Hid (lt (ms.getD ((i+j) / 2) L_).nm t=false->zu ms t i ((i+j) / 2)):=λhx=>bJ D l hx;generalize ms.getD ((i+j) / 2) L_=x at*;clear c
 go_wp2_with fail
 refine(a2Y x t wr).mono ?_;rintro e w1⟨rfl,n⟩;have r:Below w.heap.size w w1:=J5 d n;cases hx:lt x.nm t
 ·have hc:¬Du x.nm t<0:=λh=>by rw[(Hq _ _).1 h]at hx;cases hx
  have hc1:decide (Du x.nm t<0)=false:=o_ hc;have v:Hid (zu ms t i ((i+j) / 2)):=A.out hx;clear hx n y A;go_wp2;go_roundw;exact⟨i,(i+j) / 2,O0,O0,rfl,by go_num,r,v⟩;exact Z9
 have hc:Du x.nm t<0:=(Hq _ _).2 hx;have v:Hid (zu ms t ((i+j) / 2+1) j):=y.out hx;clear hx n y A;go_wp2;go_roundw;exact⟨(i+j) / 2+1,j,O0,O0,by go_num,rfl,r,v⟩;exact Z9
theorem KG(hm:bC ms)(h:jF ms nm p f):(f=true->∃i,i=p/\i<ms.length/\(ms.getD i L_).nm=nm)/\(f=false->∀j,j<ms.length->(ms.getD j L_).nm≠nm):=by
 refine⟨λe=>⟨p,rfl,h.here.1 e⟩,λe j b a=>?_⟩;subst e;rcases Uw j p with h1|h1|h1
 ·have a1:=h.less j h1;rw[a,Ud]at a1;cases a1
 ·subst h1;have:=h.here.2 ⟨b,a⟩;cases this
 have a1:=hm p j h1 b;rw[a]at a1;have a2:=h.more p X7 O0;rw[a1]at a2;cases a2
theorem rzM(a:Below (w.heap.size+1) (w.alloc (.cells #[.string ⟨#[]⟩,.string ⟨#[]⟩,.string ⟨#[]⟩] 69)) u):
 (u.cell? ⟨w.heap.size,0,none⟩=some (.string ⟨#[]⟩)/\u.cell? ⟨w.heap.size,1,none⟩=some (.string ⟨#[]⟩)/\u.cell? ⟨w.heap.size,2,none⟩=some (.string ⟨#[]⟩))/\u.frozen? ⟨w.heap.size,0,none⟩=false/\u.frozen? ⟨w.heap.size,1,none⟩=false/\u.frozen? ⟨w.heap.size,2,none⟩=false:=by
 have c:∀b j,b<w.heap.size+1->u.cell? ⟨b,j,none⟩=(w.alloc (.cells #[vE,vE,vE] 69)).cell? ⟨b,j,none⟩:=λb j h=>a.cell (by exact h);have f:∀b j,b<w.heap.size+1->u.frozen? ⟨b,j,none⟩=(w.alloc (.cells #[vE,vE,vE] 69)).frozen? ⟨b,j,none⟩:=λb j h=>a.frozen (by exact h);rw[c _ _ O0,c _ _ O0,c _ _ O0,f _ _ O0,f _ _ O0,f _ _ O0];simp[go_sem]
def gY(ms:List M3)(nm:BY)(e:Ending):Prop:=∃(x:M3)(there:Bool),e=.returned (.tuple #[.agg #[.string x.nm,.string x.tl,.string x.ar],.bool there])/\((there=true/\∃i,i<ms.length/\ms.getD i L_=x/\x.nm=nm)\/(there=false/\∀j,j<ms.length->(ms.getD j L_).nm≠nm))
theorem a5A(a:OA)(cap:Nat)(ms:List M3)(nm:BY)(w:World)(hl:ms.length<=300)(u:Ol w a ms)(hm:bC ms):
 Calls prog 150 #[.slice a ms.length cap,.string nm] w λe w'=>gY ms nm e/\Below w.heap.size w w':=by
 have y:Below w.heap.size w (w.alloc (.cells #[vE,vE,vE] 69)):=Y6;have z:=a3B a cap ms nm _ hl (gm u y) hm
 go_in
 go_wp2_with fail
 refine z.mono ?_;rintro e w1⟨⟨p,f,rfl,j⟩,t⟩;obtain⟨m,l⟩:=KG hm j;have r:Below (w.heap.size+1) (w.alloc (.cells #[vE,vE,vE] 69)) w1:=YD t;have d:Below w.heap.size w w1:=y.trans (r.mono O0);obtain⟨⟨q,o,n⟩,y0,y1,y2⟩:=rzM r;clear t z;cases f
 ·have h:Hid (gY ms nm (.returned (.tuple #[.agg #[vE,vE,vE],.bool false]))):=⟨⟨⟨#[]⟩,⟨#[]⟩,⟨#[]⟩⟩,false,rfl,.inr ⟨rfl,l rfl⟩⟩;clear m l j;go_wp2;have F:=Kq w1 w.heap.size 0 vE vE vE _ _ _ q o n;refine Q7 (v:=.tuple #[.agg #[vE,vE,vE],.bool false]) (by simp[results,results150,go_sem,F.1,F.2.1,F.2.2]) rfl ⟨h,?_⟩;exact((d.setCell E5 _).setCell E5 _).setCell E5 _
 obtain⟨i,rfl,c,s⟩:=m rfl;obtain⟨b,off,hc⟩:=Ak u;obtain⟨ha,k,g⟩:=Jd hc c;subst ha;have g0:=(d.cell (by exact k)).trans (g i c).1;have g1:=(d.cell (by exact k)).trans (g i c).2.1;have g2:=(d.cell (by exact k)).trans (g i c).2.2;have h:Hid (gY ms nm (.returned (.tuple #[.agg #[vS (ms.getD i L_).nm,vS (ms.getD i L_).tl,vS (ms.getD i L_).ar],.bool true]))):=⟨_,true,rfl,.inl ⟨rfl,i,c,rfl,s⟩⟩;have A:Hid (∃x,x=ms.getD i L_):=⟨_,rfl⟩;obtain⟨x,hx⟩:=A.out;rw[<- hx]at g0 g1 g2 h;clear m l j g A hx s;go_wp2;have F:=Kq w1 w.heap.size 0 (vS x.nm) (vS x.tl) (vS x.ar) _ _ _ q o n;refine Q7 (v:=.tuple #[.agg #[vS x.nm,vS x.tl,vS x.ar],.bool true]) (by simp[results,results150,go_sem,F.1,F.2.1,F.2.2]) rfl ⟨h,?_⟩;exact((d.setCell E5 _).setCell E5 _).setCell E5 _
theorem iJ(S:List UInt8)(w:World)(a6i:S.length<=300)(hv:Jo w):
 Calls prog 206 #[.string (I4 S)] w λe w'=>wX w S e w'/\Below w.heap.size w w':=by
 have D:Hid (Jo w):=hv;clear hv;have hz:(I4 S).size<=300:=by rw[P5];exact a6i
 obtain⟨i0,hi,hz0,hz1,hz2⟩:=info_parts sQ
 go_in
 go_wp2;go_loopw[4,5] (λv r wr=>∃(l:List UInt8)(ms:List M3),r=.string (I4 l)/\Hid (Way S ms l)/\wr.ownsRow w.heap.size 69 3 v ms.length (Ja ms)/\Below w.heap.size w wr) (λ_ r _=>T.strOf r);exact⟨S,[],rfl,KN _,Y_ _ _ _ _,G5 _ _⟩;obtain⟨l,ms,rfl,d,o,K⟩:=hrel;have B:Hid (Jo wr):=D.out.below K;obtain⟨hwl,F⟩:=pY d.out;by_cases hl:l=[]
 ·subst hl;have hnl:(I4 []).toList=[]:=by rw[ByteArray.toList_eq];rfl
  obtain⟨W1,W2⟩:=qV d.out a6i;have O:Hid (Ed ms=true->w_ S ms true):=W1;have N:Hid (Ed ms=false->w_ S [] false):=W2;clear W1 W2;obtain⟨ao,cp,hv,hat⟩:=Wq o;subst hv;obtain⟨u0,x0,R⟩:=B.out.va.g0;obtain⟨u1,x1,m⟩:=B.out.va.g1;obtain⟨u2,x2,t⟩:=B.out.va.g2;have f:=a3K ao cp ms wr (λi=>⟨by have:=(F i).1;omega,by have:=(F i).2.1;omega,by have:=(F i).2.2;omega⟩) O0 hat _ _ _ _ _ _ R m t;clear hat d R m t
  go_wp2_with fail
  refine f.mono ?_;rintro e P⟨hck,Z⟩;have hB5:Below w.heap.size w P:=J5 K Z;have W:P.ownsRow w.heap.size 69 3 (vL ao ms.length cp) ms.length (Ja ms):=ownsRow_below o Z;rcases hck with⟨j,rfl⟩|⟨j,n,ty,va,rfl⟩
  ·have c:Hid (w_ S ms true):=O.out j;clear O N j f;go_wp2;go_ret2;exact⟨⟨ms,_,_,rfl,W,.inl ⟨rfl,c⟩⟩,hB5⟩
  have c:Hid (w_ S [] false):=N.out j;clear O N j f;go_wp2;go_ret2;exact⟨⟨ms,_,_,rfl,W,.inr ⟨⟨n,ty,va,rfl⟩,c⟩⟩,hB5⟩
 have e0:(I4 l).toList.isEmpty=false:=by
  rw[ByteArray.toList_eq]
  cases l with
  | nil=>exact absurd rfl hl
  | cons a r=>rfl
 have e1:¬(I4 l).toList=[]:=λh=>by rw[h]at e0;cases e0
 obtain⟨ao,cp,hv⟩:=Tq o;subst hv
 go_wp2_with fail
 refine(a1T l _ O0 B.out.mx).mono ?_;rintro e w1⟨rfl,A⟩;have C:Below w.heap.size w w1:=J5 K A;have hc:=a1k l;have hcl:(Lib.cut l [10]).1.length<=300:=by
  rcases hc with⟨_,h,_⟩|⟨_,h,_⟩
  ·have:=l7 List.length h;rw[P9]at this;omega
  rw[h];omega
 have f:Hid (((Lib.cut l [10]).2.2=true/\l=(Lib.cut l [10]).1++10::(Lib.cut l [10]).2.1/\(10:UInt8)∉(Lib.cut l [10]).1)\/((Lib.cut l [10]).2.2=false/\(Lib.cut l [10]).1=l/\(10:UInt8)∉l)):=hc;clear hc;generalize (Lib.cut l [10]).1=ca at*;generalize (Lib.cut l [10]).2.1=cb at*;generalize (Lib.cut l [10]).2.2=cf at*;have hV1:Hid (Jo w1):=D.out.below C;cases cf
 ·have c:Hid (w_ S [] false):=by
   refine SC d hl λy q z e=>?_;rcases f.out with⟨h1,_⟩|⟨_,_,h3⟩
   ·cases h1
   apply h3;rw[e];simp
  obtain⟨t4,v4,g4⟩:=hV1.out.g4;clear f d
  go_wp2_with fail
  go_region
  all_goals go_wp2
  all_goals go_ret2
  all_goals exact⟨Gy _ _ _ c.out,by first|exact C|exact C.drew⟩
 have p:Hid (l=ca++10::cb/\(10:UInt8)∉ca):=by
  rcases f.out with⟨_,h⟩|⟨h,_⟩
  ·exact h
  cases h
 clear f
 go_wp2_with fail
 refine(QR ca _ O0 hV1.out.mx).mono ?_;rintro e Q⟨⟨y2,rfl⟩,J⟩;have hB2:Below w.heap.size w Q:=J5 C J;have hV2:Hid (Jo Q):=D.out.below hB2;have hrs:=Y8 ca
 go_wp2_with fail
 refine(a1V _ _ O0 hV2.out.mx).mono ?_;rintro e g⟨⟨x,ok,rfl,H⟩,I⟩;have b:Below w.heap.size w g:=J5 hB2 I;have a7P:Below wr.heap.size wr g:=A.trans ((J5 J I).mono A.size);have hV3:Hid (Jo g):=D.out.below b;have X:g.ownsRow w.heap.size 69 3 (vL ao ms.length cp) ms.length (Ja ms):=ownsRow_below o a7P;have hz3:w.heap.size<=g.heap.size:=b.size;obtain⟨t5,v5,g5⟩:=hV3.out.g5;have g5':=past (by show 3<g.heap.size;have:=hV3.out.va.pos;omega) g5;have s:Hid (¬(Y2 ca=[109,97,107,101]/\ok=true)->w_ S [] false):=by
  intro hf;refine SC d hl (λy q z e=>hf ?_);have hca:=(BK p.out.2 (Pq z) (p.out.1.symm.trans e)).1;obtain⟨h1,h2⟩:=(VD z).1 hca;refine⟨h1,?_⟩;cases ok
  ·exact absurd h2 (H.2 rfl y z)
  rfl
 have E:Hid (Y2 ca=[109,97,107,101]->ok=true->Way S (ms++[x]) cb/\cb.length<l.length):=by
  intro h1 h2;obtain⟨m,t⟩:=H.1 h2;refine⟨lT (a:=ca) (by rw[<- p.out.1];exact d.out) ⟨m,(VD m).2 ⟨h1,t⟩⟩,?_⟩;rw[p.out.1];simp;omega
 clear H d p o A J I g5;by_cases hw:Y2 ca=[109,97,107,101];rotate_left
 ·have c:Hid (w_ S [] false):=s.out (λh=>hw h.1);have L:¬(I4 (Y2 ca)).toList=[109,97,107,101]:=by rw[ByteArray.toList_eq];simpa[I4]using hw
  have e3:((I4 (Y2 ca)).toList==[109,97,107,101])=false:=by simpa using L
  clear s E;unfold M3.v
  go_wp2_with fail
  go_region
  all_goals go_wp2
  all_goals go_ret2
  all_goals exact⟨Gy _ _ _ c.out,by first|exact b.alloc b.size _|exact(b.alloc b.size _).drew⟩
 have L:(I4 (Y2 ca)).toList=[109,97,107,101]:=by rw[hw,ByteArray.toList_eq];rfl
 have e3:((I4 (Y2 ca)).toList==[109,97,107,101])=true:=by simpa using L
 cases ok
 ·have c:Hid (w_ S [] false):=s.out E5;clear s E hw;unfold M3.v
  go_wp2_with fail
  go_region
  all_goals go_wp2
  all_goals go_ret2
  all_goals exact⟨Gy _ _ _ c.out,by first|exact b.alloc b.size _|exact(b.alloc b.size _).drew⟩
 obtain⟨U,hw2⟩:=E.out hw rfl;have HW:Hid (Way S (ms++[x]) cb):=U;clear s E U hw;unfold M3.v
 go_wp2_with(at_builtin;refine wpList_append_own _ rfl _ _ 133 rfl w.heap.size 69 i0 (.agg #[.string ⟨#[]⟩,.string ⟨#[]⟩,.string ⟨#[]⟩]) 3 48 underlying133 hi hz0 hz1 hz2 rfl Z5 _ _ _ rfl ((X.alloc _).alloc _) ⟨g.heap.size+1,0,none⟩ 1 1 [_,_,_] rfl rfl (sZ E5 _ _ _ _) (by intro u V;simp at V;rcases V with rfl|rfl|rfl<;>rfl) (by unfold maxLen;omega) O0 Q8 ?_;intro v' w4 hown4 Y _;have HG:Hid (Below w.heap.size w w4):=((b.alloc b.size _).alloc Q8 _).grown Y Q8 (λk j=>(X.lt k j).1);clear Y)
 go_roundw
 ·refine⟨cb,ms++[x],rfl,HW,?_,HG⟩;rw[cu,P9];exact hown4
 simp only[T.strOf,P5];exact hw2
theorem c206(s:BY)(w:World)(a:s.size<=1048576)(hv:Jo w):
 Calls prog 206 #[.string s] w λe w'=>wX w s.data.toList e w'/\Below w.heap.size w w':=by
 by_cases h:300<s.size
 ·exact WO s w a h hv
 have:=iJ s.data.toList w Q8 hv;rw[Dp]at this;exact this
theorem VA{fs:List F2}(hm:T.Asc fs)(h:T.Place fs nm p f):(f=true->∃i,i=p/\i<fs.length/\(fs.getD i G9).nm=nm)/\(f=false->Free fs nm):=by
 constructor
 ·intro hf;exact⟨p,rfl,(h.here.1 hf).1,(h.here.1 hf).2⟩
 intro hf j a e;rcases Uw j p with h1|h1|h1
 ·have:=h.less j h1;rw[e,T.Ud]at this;cases this
 ·subst h1;have:=h.here.2 ⟨a,e⟩;rw[hf]at this;cases this
 have a1:=hm p j h1 a;rw[e]at a1;have a2:=h.more p X7 O0;rw[a1]at a2;cases a2
theorem rzF(a:Below (w.heap.size+2) ((w.alloc (.cells #[v] 40)).alloc (.cells #[.string ⟨#[]⟩,.string ⟨#[]⟩] 67)) u):
 u.cell? ⟨w.heap.size,0,none⟩=some v/\(u.cell? ⟨w.heap.size+1,0,none⟩=some (.string ⟨#[]⟩)/\u.cell? ⟨w.heap.size+1,1,none⟩=some (.string ⟨#[]⟩))/\u.frozen? ⟨w.heap.size+1,0,none⟩=false/\u.frozen? ⟨w.heap.size+1,1,none⟩=false:=by
 have c:∀b j,b<w.heap.size+2->u.cell? ⟨b,j,none⟩=((w.alloc (.cells #[v] 40)).alloc (.cells #[vE,vE] 67)).cell? ⟨b,j,none⟩:=λb j h=>a.cell (by exact h);have f:∀b j,b<w.heap.size+2->u.frozen? ⟨b,j,none⟩=((w.alloc (.cells #[v] 40)).alloc (.cells #[vE,vE] 67)).frozen? ⟨b,j,none⟩:=λb j h=>a.frozen (by exact h);rw[c _ _ O0,c _ _ O0,c _ _ O0,f _ _ O0,f _ _ O0];simp[go_sem]
theorem XH(u:World)(B:Nat)(a v1 x0 x1:Value)(h0:u.cell? ⟨B,0,none⟩=some x0)(h1:u.cell? ⟨B,1,none⟩=some x1):
 ((u.setCell ⟨B,0,none⟩ a).setCell ⟨B,1,none⟩ v1).cell? ⟨B,0,none⟩=some a/\((u.setCell ⟨B,0,none⟩ a).setCell ⟨B,1,none⟩ v1).cell? ⟨B,1,none⟩=some v1:=by
 have a1:(u.setCell ⟨B,0,none⟩ a).cell? ⟨B,1,none⟩=some x1:=by rw[Xb _ _ _ _ (Pe O0)];exact h1
 refine⟨?_,Pg _ _ _ a1⟩;rw[Xb _ _ _ _ (Pe O0)];exact Pg _ _ _ h0
def a0w(fs:List F2)(nm:BY)(e:Ending):Prop:=∃(x:F2)(there:Bool),e=.returned (.tuple #[.agg #[.string x.nm,.string x.tx],.bool there])/\((there=true/\∃i,i<fs.length/\fs.getD i G9=x/\x.nm=nm)\/(there=false/\Free fs nm))
theorem a4C(a:OA)(cap:Nat)(fs:List F2)(nm:BY)(w:World)(hl:fs.length<=40)(t:G6 w a fs)(hm:T.Asc fs):
 Calls prog 205 #[.agg #[.slice a fs.length cap],.string nm] w λe w'=>a0w fs nm e/\Below w.heap.size w w':=by
 have u:Below w.heap.size w ((w.alloc (.cells #[vL a fs.length cap] 40)).alloc (.cells #[vE,vE] 67)):=Y6.alloc E5 _;have y:=T.vW a cap fs nm _ hl (T.U5 t u) hm
 go_in
 go_wp2_with fail
 refine y.mono ?_;rintro e w1⟨⟨p,f,rfl,h⟩,s⟩;obtain⟨l,k⟩:=VA hm h;have o:Below (w.heap.size+2) ((w.alloc (.cells #[vL a fs.length cap] 40)).alloc (.cells #[vE,vE] 67)) w1:=YD s;have d:Below w.heap.size w w1:=u.trans (o.mono O0);obtain⟨t0,⟨n,m⟩,y0,y1⟩:=rzF o;clear s y;cases f
 ·have g:Hid (a0w fs nm (.returned (.tuple #[.agg #[vE,vE],.bool false]))):=⟨⟨⟨#[]⟩,⟨#[]⟩⟩,false,rfl,.inr ⟨rfl,k rfl⟩⟩;clear l k h;go_wp2;have F:=XH w1 (w.heap.size+1) vE vE _ _ n m;refine Q7 (v:=.tuple #[.agg #[vE,vE],.bool false]) (by simp[results,results205,go_sem,F.1,F.2]) rfl ⟨g,?_⟩;exact(d.setCell E5 _).setCell E5 _
 obtain⟨i,rfl,c,q⟩:=l rfl;obtain⟨b,off,hc⟩:=T.v_ t;obtain⟨ha,r,j⟩:=Jd hc c;subst ha;have g0:=(d.cell (by exact r)).trans (j i c).1;have g1:=(d.cell (by exact r)).trans (j i c).2;have g:Hid (a0w fs nm (.returned (.tuple #[.agg #[vS (fs.getD i G9).nm,vS (fs.getD i G9).tx],.bool true]))):=⟨_,true,rfl,.inl ⟨rfl,i,c,rfl,q⟩⟩;have z:Hid (∃x,x=fs.getD i G9):=⟨_,rfl⟩;obtain⟨x,hx⟩:=z.out;rw[<- hx]at g0 g1 g;clear l k h j z hx q;go_wp2;have F:=XH w1 (w.heap.size+1) (vS x.nm) (vS x.tx) _ _ n m;refine Q7 (v:=.tuple #[.agg #[vS x.nm,vS x.tx],.bool true]) (by simp[results,results205,go_sem,F.1,F.2]) rfl ⟨g,?_⟩;exact(d.setCell E5 _).setCell E5 _
structure Uo(w:World):Prop where
 vr:Jo w
 gT:∃t v,w.cell? ⟨0,0,none⟩=some (.iface t v)
theorem Uo.below{w':World}(h:Uo w)(a:Below w.heap.size w w'):Uo w':=by
 have hp:=h.vr.va.pos;obtain⟨t,v,h0⟩:=h.gT;exact⟨h.vr.below a,t,v,(a.cell (by show 0<w.heap.size;omega)).trans h0⟩
theorem NC{fs:List F2}(h:D_ fs)(a:i<fs.length):(fs.getD i G9).tx.size<=300:=by
 have:=h.2 i a;unfold T.Tf at this;simp only[Ia]at this;have h1:=this.1;unfold T.Xa at h1;simp only[Ia,rf]at h1;have:=h1.2;omega
def a1c(w:World)(fs:List F2)(e:Ending)(w':World):Prop:=∃(ms:List M3)(v er:Value),e=.returned (.tuple #[v,er])/\w'.ownsRow w.heap.size 69 3 v ms.length (Ja ms)/\((er=.nilIface/\dh fs ms)\/((∃n ty va,er=.iface 274 (.agg #[.int .i64 n,.iface ty va]))/\dh fs []))
theorem a4T(a:OA)(cap:Nat)(fs:List F2)(w:World)(u:D_ fs)(I:G6 w a fs)(hv:Uo w):
 Calls prog 153 #[.agg #[.slice a fs.length cap]] w λe w'=>a1c w fs e w'/\Below w.heap.size w w':=by
 have HV:Hid (Uo w):=hv;have C:Hid (D_ fs):=u;have HAT:Hid (G6 w a fs):=I;have hl:=u.1;have hm:=T.Si u;have HM:Hid (T.Asc fs):=hm;have hB0:Below w.heap.size w (w.alloc (.cells #[vL a fs.length cap] 40)):=Y6;have N:=a4C a cap fs Iu _ hl (T.U5 I hB0) hm;clear hv u I hm;unfold Iu at N
 go_in
 go_wp2_with fail
 refine N.mono ?_;rintro e w1⟨⟨x,there,rfl,hx⟩,Z⟩;clear N;have E:Below (w.heap.size+1) (w.alloc (.cells #[vL a fs.length cap] 40)) w1:=YD Z;have A:Below w.heap.size w w1:=hB0.trans (E.mono O0);have hz1:w.heap.size+1<=w1.heap.size:=by have:=E.size;simpa using this
 have t1:w1.cell? ⟨w.heap.size,0,none⟩=some (vL a fs.length cap):=(E.cell E5).trans (by simp[go_sem]);clear Z;cases there
 ·have q:Hid (dh fs []):=by
   rcases hx with⟨h,_⟩|⟨_,h⟩
   ·cases h
   exact .inr (.inl ⟨C,h,rfl⟩)
  clear hx;go_wp2;go_ret2;exact⟨⟨[],_,_,rfl,Y_ _ _ _ _,.inl ⟨rfl,q⟩⟩,A.alloc A.size _⟩
 have m:Hid (∃i,i<fs.length/\fs.getD i G9=x/\x.nm=Iu):=by
  rcases hx with⟨_,h⟩|⟨h,_⟩
  ·exact h
  cases h
 have hxt:x.tx.size<=300:=by
  obtain⟨i,l,rfl,_⟩:=m.out;exact NC C l
 have t:Hid (∀g ok,w_ x.tx.data.toList g ok->¬(ok=true/\Vm fs g)->dh fs []):=λg ok c r=>by
  obtain⟨i,l,rfl,F⟩:=m.out;exact .inr (.inr ⟨C,i,l,F,g,ok,c,.inr ⟨r,rfl⟩⟩)
 have B:Hid (∀g,w_ x.tx.data.toList g true->Vm fs g->dh fs g):=λg c r=>by
  obtain⟨i,l,rfl,F⟩:=m.out;exact .inr (.inr ⟨C,i,l,F,g,true,c,.inl ⟨rfl,r,rfl⟩⟩)
 clear hx m;have hA1:Below w.heap.size w (w1.alloc (.cells #[vS x.nm,vS x.tx] 67)):=A.alloc A.size _
 go_wp2_with fail
 refine(c206 x.tx _ O0 (HV.out.below hA1).vr).mono ?_;rintro e d⟨⟨ms,v,er,rfl,U,hor⟩,z⟩;have L:Below w.heap.size w d:=J5 hA1 z;have hz2:w1.heap.size+1<=d.heap.size:=by have:=z.size;simpa using this
 have t2:d.cell? ⟨w.heap.size,0,none⟩=some (vL a fs.length cap):=(z.cell Q8).trans (past (by show w.heap.size<w1.heap.size;omega) t1 _);have S:d.ownsRow w.heap.size 69 3 v ms.length (Ja ms):=Ag U Q8;clear U z;obtain⟨ao,co,hvv⟩:=Tq S;subst hvv;rcases hor with⟨rfl,c⟩|⟨⟨n,ty,va,rfl⟩,c⟩;rotate_left
 ·have q:Hid (dh fs []):=t.out _ _ c E5;clear c t B;go_wp2;go_ret2;exact⟨⟨[],_,_,rfl,Y_ _ _ _ _,.inr ⟨⟨n,ty,va,rfl⟩,q⟩⟩,L⟩
 have HP:Hid (w_ x.tx.data.toList ms true):=c;obtain⟨hml,hms⟩:=Ut c;clear c;go_wp2;go_loopw[30] (λi wr=>∃(k:Nat),k<=ms.length/\i=.int .i64 k/\Hid (∀j,j<k->Free fs (ms.getD j L_).nm)/\Below d.heap.size d wr) (λi _=>ms.length-(RowKit.intOf i).toNat);exact⟨0,J4 _,rfl,λj h=>absurd h (y9 _),G5 _ _⟩;obtain⟨k,hk,rfl,V,s⟩:=hrel;have J:Below w.heap.size w wr:=J5 L s;have R:=ownsRow_below S s;have hzr:d.heap.size<=wr.heap.size:=s.size;have tr:wr.cell? ⟨w.heap.size,0,none⟩=some (vL a fs.length cap):=(s.cell (by show w.heap.size<d.heap.size;omega)).trans t2;by_cases H:k<ms.length;rotate_left
 ·obtain rfl:k=ms.length:=O0;have q:Hid (dh fs ms):=B.out _ HP (λi l=>V.out i l);clear t B;go_wp2;go_ret2;exact⟨⟨ms,_,_,rfl,R,.inl ⟨rfl,q⟩⟩,J⟩
 obtain⟨ao',co',hv',a6u⟩:=Wq R;injection hv' with e1 e2 e3;subst e1 e3;obtain⟨b,off,hc⟩:=Ak a6u;obtain⟨hao,hbw,W⟩:=Jd hc H;subst hao;obtain⟨g0,g1,g2⟩:=W k H;have m:Hid (∃y,y=ms.getD k L_):=⟨_,rfl⟩;obtain⟨y,D⟩:=m.out;rw[<- D]at g0 g1 g2;have HY:Hid (y=ms.getD k L_):=D;clear D m W a6u;have hAr:∀o,Below w.heap.size w (wr.alloc o):=λo=>J.alloc J.size _;have h35:=λo=>T.vW a cap fs y.nm (wr.alloc o) hl (T.U5 HAT (hAr o)) HM;have tr':=past (by show w.heap.size<wr.heap.size;omega) tr
 go_wp2_with fail
 refine(h35 _).mono ?_;rintro e Q⟨⟨p,f,rfl,c⟩,Y⟩;obtain⟨P,O⟩:=VA HM.out c;have X:Below d.heap.size d Q:=(s.alloc hzr _).trans (Y.mono Q8);have K:Below w.heap.size w Q:=J5 L X;clear h35 c Y;cases f
 ·have a6I:Hid (∀j,j<k+1->Free fs (ms.getD j L_).nm):=λj hj=>by
   rcases D8 j k with h|h
   ·exact V j h
   obtain rfl:j=k:=O0;rw[<- HY.out];exact O rfl
  clear P O;go_wp2;go_roundw;exact⟨k+1,O0,by go_num,a6I,X⟩;exact Z9
 have q:Hid (dh fs []):=by
  refine t _ _ HP λh=>?_;obtain⟨i,_,l,r⟩:=P rfl;have:=h.2 k H i l;rw[<- HY.out]at this;exact this r
 obtain⟨t5,v5,g5⟩:=(HV.out.below K).gT;clear P O t B
 go_wp2_with fail
 try go_region
 all_goals go_wp2
 all_goals go_ret2
 all_goals exact⟨⟨[],_,_,rfl,Y_ _ _ _ _,.inr ⟨⟨_,_,_,rfl⟩,q.out⟩⟩,by first|exact K|exact K.drew⟩
def Is7(w:World)(fs:List F2)(e:Ending)(w':World):Prop:=∃(ms:List M3)(v:Value),e=.returned v/\w'.ownsRow w.heap.size 69 3 v ms.length (Ja ms)/\dh fs ms
theorem c90(a:OA)(cap:Nat)(fs:List F2)(w:World)(hl:fs.length<=1048576)(B:∀i,(fs.getD i G9).le 1048576)(k:G6 w a fs)(hv:Uo w):
 Calls prog 90 #[.agg #[.slice a fs.length cap]] w λe w'=>Is7 w fs e w'/\Below w.heap.size w w':=by
 have y:Hid (Uo w):=hv;have I:Hid (G6 w a fs):=k;have t:Below w.heap.size w (w.alloc (.cells #[vL a fs.length cap] 40)):=Y6;have x:=T.c152 a cap fs _ hl B (T.U5 k t);clear hv k
 go_in
 go_wp2_with fail
 refine x.mono ?_;rintro e w1⟨⟨b,rfl,f⟩,s⟩;have j:Below (w.heap.size+1) (w.alloc (.cells #[vL a fs.length cap] 40)) w1:=YD s;have g:Below w.heap.size w w1:=t.trans (j.mono O0);have hz1:w.heap.size+1<=w1.heap.size:=by have:=j.size;simpa using this
 have t1:w1.cell? ⟨w.heap.size,0,none⟩=some (vL a fs.length cap):=(j.cell E5).trans (by simp[go_sem]);clear s x;cases b
 ·have F:Hid (dh fs []):=.inl ⟨(λh=>by have:=f.2 h;cases this),rfl⟩;clear f;go_wp2;go_ret;exact⟨⟨[],_,rfl,Y_ _ _ _ _,F⟩,g⟩
 have H:Hid (D_ fs):=f.1 rfl;clear f;have u:=a4T a cap fs w1 H (T.U5 I g) (y.out.below g)
 go_wp2_with fail
 refine u.mono ?_;rintro e p⟨⟨ms,v,er,rfl,r,D⟩,E⟩;have m:Below w.heap.size w p:=J5 g E;have q:p.ownsRow w.heap.size 69 3 v ms.length (Ja ms):=Ag r O0;obtain⟨ao,co,A⟩:=Tq q;subst A;clear u r;rcases D with⟨rfl,c⟩|⟨⟨n,ty,va,rfl⟩,c⟩
 ·have o:Hid (dh fs ms):=c;clear c
  go_wp2_with fail
  refine(wS _).mono ?_;rintro e z⟨rfl,d⟩;have C:=ownsRow_below q d;have l:=J5 m d;go_wp2;go_ret;exact⟨⟨ms,_,rfl,C,o⟩,l⟩
 have o:Hid (dh fs []):=c;clear c
 go_wp2_with fail
 refine(fQ n ty va _ (y.out.below m).vr.va.g6).mono ?_;rintro e z⟨rfl,d⟩;have l:=J5 m d;go_wp2;go_ret;exact⟨⟨[],_,rfl,Y_ _ _ _ _,o⟩,l⟩
def Is5(fs:List F2)(e:Ending)(w':World):Prop:=∃(ms:List M3)(a:OA)(cap:Nat),e=.returned (.slice a ms.length cap)/\Ol w' a ms/\dh fs ms
theorem c171(a:OA)(cap:Nat)(fs:List F2)(w:World)(hl:fs.length<=1048576)(hs:∀i,(fs.getD i G9).le 1048576)(O:G6 w a fs):
 Calls prog 171 #[.agg #[.slice a fs.length cap]] w λe w'=>Is5 fs e w'/\Below w.heap.size w w':=by
 have Q:Hid (G6 w a fs):=O;have hB0:Below w.heap.size w (w.alloc (.cells #[vL a fs.length cap] 40)):=Y6;have t:=T.a0R a cap fs Iu _ hl (T.U5 O hB0);clear O;unfold Iu at t
 go_in
 go_wp2_with fail
 refine t.mono ?_;rintro e w1⟨⟨r,rfl,hr⟩,Z⟩;have J:Below (w.heap.size+1) (w.alloc (.cells #[vL a fs.length cap] 40)) w1:=YD Z;have hB1:Below w.heap.size w w1:=hB0.trans (J.mono O0);have hz1:w.heap.size+1<=w1.heap.size:=by have:=J.size;simpa using this
 have U:w1.cell? ⟨w.heap.size,0,none⟩=some (vL a fs.length cap):=(J.cell E5).trans (by simp[go_sem]);have h15:=T.a0G a cap fs w1 hl hs (T.U5 Q hB1);clear Z t
 go_wp2_with fail
 refine h15.mono ?_;rintro e n⟨⟨b,rfl,C⟩,B⟩;have m:Below w.heap.size w n:=J5 hB1 B;have hz2:w1.heap.size<=n.heap.size:=B.size;have t2:n.cell? ⟨w.heap.size,0,none⟩=some (vL a fs.length cap):=(B.cell (by show w.heap.size<w1.heap.size;omega)).trans U;clear h15 B U;cases b
 ·have l:Hid (dh fs []):=.inl ⟨(λh=>by have:=C.2 h;cases this),rfl⟩;clear C hr;go_wp2;go_ret;exact⟨⟨[],_,_,rfl,.inl rfl,l⟩,m.alloc m.size _⟩
 have F:Hid (D_ fs):=C.1 rfl;clear C;rcases hr with⟨rfl,X⟩|⟨i,rfl,p,L⟩
 ·have l:Hid (dh fs []):=.inr (.inl ⟨F,X,rfl⟩);clear X;go_wp2;go_ret;exact⟨⟨[],_,_,rfl,.inl rfl,l⟩,m.alloc m.size _⟩
 have hxt:=NC F p;have H:Hid (∀c ok,w_ (fs.getD i G9).tx.data.toList c ok->¬(ok=true/\Vm fs c)->dh fs []):=λc ok f N=>.inr (.inr ⟨F,i,p,L,c,ok,f,.inr ⟨N,rfl⟩⟩);have E:Hid (∀c,w_ (fs.getD i G9).tx.data.toList c true->Vm fs c->dh fs c):=λc f N=>.inr (.inr ⟨F,i,p,L,c,true,f,.inl ⟨rfl,N,rfl⟩⟩);obtain⟨bf,off,hc⟩:=T.v_ (T.U5 Q.out m);obtain⟨ha,hbw,s⟩:=Jd hc p;subst ha;have g1:=(s i p).2;have v:Hid (∃x,x=fs.getD i G9):=⟨_,rfl⟩;obtain⟨x,hx⟩:=v.out;rw[<- hx]at g1 H E hxt;clear s v hx L
 go_wp2_with fail
 refine(a5d x.tx _ O0).mono ?_;rintro e d⟨⟨ms,ok,am,cm,rfl,a6u,f⟩,A⟩;have hB3:Below w.heap.size w d:=J5 m A;have hz3:n.heap.size<=d.heap.size:=A.size;have t3:=(A.cell (by show w.heap.size<n.heap.size;omega)).trans t2;have HP:Hid (w_ x.tx.data.toList ms ok):=f;obtain⟨hml,hms⟩:=Ut f;have a7a:Hid (Ol d am ms):=a6u;clear f A t2 a6u;go_wp2;go_loopw[5,6] (λo i wr=>∃(k:Nat)(b:Bool),k<=ms.length/\i=.int .i64 k/\o=.bool b/\Hid (b=true↔ok=true/\∀j,j<k->Free fs (ms.getD j L_).nm)/\Below d.heap.size d wr) (λ_ i _=>ms.length-(RowKit.intOf i).toNat);exact⟨0,ok,J4 _,rfl,rfl,⟨λh=>⟨h,λj h=>absurd h (y9 _)⟩,λh=>h.1⟩,G5 _ _⟩;obtain⟨k,b,hk,rfl,rfl,q,g⟩:=hrel;have D:Below w.heap.size w wr:=J5 hB3 g;have hzr:d.heap.size<=wr.heap.size:=g.size;have tr:=(g.cell (by show w.heap.size<d.heap.size;omega)).trans t3;by_cases Y:k<ms.length;rotate_left
 ·obtain rfl:k=ms.length:=O0;cases b
  ·have l:Hid (dh fs []):=H.out _ _ HP (λh=>by have:=q.out.2 h;cases this);clear H E;go_wp2;go_ret;exact⟨⟨[],_,_,rfl,.inl rfl,l⟩,D.alloc D.size _⟩
  obtain⟨h1,h2⟩:=q.out.1 rfl;subst h1;have l:Hid (dh fs ms):=E.out _ HP h2;have a7Q:Hid (Ol wr am ms):=gm a7a g;clear H E h2;go_wp2;go_ret;exact⟨⟨ms,_,_,rfl,a7Q,l⟩,D⟩
 cases b
 ·have a6I:Hid (false=true↔ok=true/\∀j,j<k+1->Free fs (ms.getD j L_).nm):=⟨(λh=>by cases h),λh=>q.out.2 ⟨h.1,λj hj=>h.2 j O0⟩⟩
  go_wp2_with fail
  refine wp_region_held_drew (S:=(λ_=>True)) Y1 ?_ λhHeld=>?_
  · ((try dsimp only);(first|done|trivial))
  iterate 12 refine sq ?_
  refine wpAnyH_done Y1 ?_ _;clear hHeld;go_wp2;go_roundw;exact⟨k+1,false,O0,by go_num,rfl,a6I,g.drew⟩;exact Z9
 obtain⟨bm,om,hc⟩:=Ak (gm a7a.out g);obtain⟨hao,a7R,s⟩:=Jd hc Y;subst hao;have g0:=(s k Y).1;have v:Hid (∃y,y=ms.getD k L_):=⟨_,rfl⟩;obtain⟨y,I⟩:=v.out;rw[<- I]at g0;have HY:Hid (y=ms.getD k L_):=I;clear I v s;have hwz:w.heap.size<wr.heap.size:=O0;have t:=λu (hu:Below w.heap.size w u)=>T.a0R (some ⟨bf,off,none⟩) cap fs y.nm u hl (T.U5 Q hu)
 go_wp2_with fail
 refine wp_region_held_drew (S:=(λu=>u.cell? ⟨w.heap.size,0,none⟩=some (vL (some ⟨bf,off,none⟩) fs.length cap)/\u.cell? ⟨bm,om+k*3,none⟩=some (vS y.nm))) Y1 ?_ λhHeld=>?_
 · ((try dsimp only);go_keep)
 iterate 8 refine sq ?_
 refine rq 8 λK hK=>?_;go_simp;refine(t _ D.drew).mono ?_;rintro e R⟨⟨z,rfl,W⟩,hb4⟩;have P:Hid (Below wr.heap.size wr R):=(G5 _ _).drew.trans hb4;have HR4:Hid ((z=-1/\∀i,i<fs.length->(fs.getD i G9).nm≠y.nm)\/∃i:Nat,z=i/\i<fs.length/\(fs.getD i G9).nm=y.nm):=W;clear W;have e1:=(P.out.cell (by exact hwz)).trans tr;have e2:=(P.out.cell (by exact a7R)).trans g0
 go_wp2_with fail
 clear hHeld;refine kpk hK λhHeld=>?_;clear hK K
 iterate 3 refine sq ?_
 refine wpAnyH_done Y1 ?_ _;clear hHeld;have a7S:Below d.heap.size d R:=g.trans (P.out.mono hzr);have HF:Hid (decide (z<0)=true↔ok=true/\∀j,j<k+1->Free fs (ms.getD j L_).nm):=by
  constructor
  ·intro h;have h:=nK h;refine⟨(q.out.1 (by first|rfl|trivial)).1,λj hj=>?_⟩;rcases D8 j k with h1|h1
   ·exact(q.out.1 (by first|rfl|trivial)).2 j h1
   obtain rfl:j=k:=O0;rw[<- HY.out];rcases HR4.out with⟨_,h2⟩|⟨V,h2,_⟩
   ·exact h2
   omega
  intro h;apply X_;rcases HR4.out with⟨h2,_⟩|⟨V,h2,h3,h4⟩
  ·omega
  exact absurd (by rw[<- HY.out];exact h4) (h.2 k O0 V h3)
 go_wp2;go_roundw;exact⟨k+1,decide (z<0),O0,by go_num,rfl,HF,a7S⟩;exact Z9
theorem UU(h:Ed ms=true):bC ms:=by
 have h2:=((xk ms).1 h).2;have b:∀j,j+1<ms.length->lt (ms.getD j L_).nm (ms.getD (j+1) L_).nm=true:=λj a=>by
  have:=h2 (j+1) a;unfold stepM at this;simp only[Ia,kJ,rf]at this;rcases this.2 with h|h
  ·omega
  exact h
 intro i j hij
 induction j with
 | zero=>omega
 | succ j ih=>
  intro a;rcases D8 i j with h1|h1
  ·exact Ig (ih h1 O0) (b j a)
  obtain rfl:i=j:=O0;exact b i a
theorem iG:bC []:=λ_ _ _ h=>absurd h (y9 _)
theorem TQ{fs:List F2}(h:dh fs ms):bC ms:=by
 rcases h with⟨_,rfl⟩|⟨_,_,rfl⟩|⟨_,i,hi,hn,ks,ok,a,hr⟩
 ·exact iG
 ·exact iG
 rcases hr with⟨rfl,_,rfl⟩|⟨_,rfl⟩
 ·exact UU (a.1 rfl).1
 exact iG
theorem rzN(a:Below (w.heap.size+2) ((w.alloc (.cells #[v] 40)).alloc (.cells #[.string ⟨#[]⟩,.string ⟨#[]⟩,.string ⟨#[]⟩] 69)) u):
 (u.cell? ⟨w.heap.size+1,0,none⟩=some (.string ⟨#[]⟩)/\u.cell? ⟨w.heap.size+1,1,none⟩=some (.string ⟨#[]⟩)/\u.cell? ⟨w.heap.size+1,2,none⟩=some (.string ⟨#[]⟩))/\u.frozen? ⟨w.heap.size+1,0,none⟩=false/\u.frozen? ⟨w.heap.size+1,1,none⟩=false/\u.frozen? ⟨w.heap.size+1,2,none⟩=false:=by
 have c:∀b j,b<w.heap.size+2->u.cell? ⟨b,j,none⟩=((w.alloc (.cells #[v] 40)).alloc (.cells #[vE,vE,vE] 69)).cell? ⟨b,j,none⟩:=λb j h=>a.cell (by exact h);have f:∀b j,b<w.heap.size+2->u.frozen? ⟨b,j,none⟩=((w.alloc (.cells #[v] 40)).alloc (.cells #[vE,vE,vE] 69)).frozen? ⟨b,j,none⟩:=λb j h=>a.frozen (by exact h);rw[c _ _ O0,c _ _ O0,c _ _ O0,f _ _ O0,f _ _ O0,f _ _ O0];simp[go_sem]
def uU(fs:List F2)(nm:BY)(e:Ending):Prop:=∃ms,dh fs ms/\gY ms nm e
theorem a4s(a:OA)(cap:Nat)(fs:List F2)(nm:BY)(w:World)(hl:fs.length<=1048576)(p:∀i,(fs.getD i G9).le 1048576)(t:G6 w a fs):
 Calls prog 118 #[.agg #[.slice a fs.length cap],.string nm] w λe w'=>uU fs nm e/\Below w.heap.size w w':=by
 have A:=λu (I:Below w.heap.size w u)=>c171 a cap fs u hl p (U5 t I);have z:∀o1 o2,Below w.heap.size w ((w.alloc o1).alloc o2):=λo1 o2=>Y6.alloc E5 _
 go_in
 go_wp2_with fail
 refine(A _ (z _ _)).mono ?_;rintro e w1⟨⟨ms,a1,cap1,rfl,r,c⟩,f⟩;have y:Below w.heap.size w w1:=(z _ _).trans (f.mono Q8);have o:Below (w.heap.size+2) ((w.alloc (.cells #[vL a fs.length cap] 40)).alloc (.cells #[vE,vE,vE] 69)) w1:=YD f;obtain⟨⟨n,m,l⟩,y0,y1,y2⟩:=rzN o;have hlm:=VH c;obtain⟨b,off,hc⟩:=Ak r;have J:Hid (ms=[]\/(a1=some ⟨b,off,none⟩/\b<w1.heap.size/\∀i,i<ms.length->w1.cell? ⟨b,off+i*3,none⟩=some (vS (ms.getD i L_).nm)/\w1.cell? ⟨b,off+i*3+1,none⟩=some (vS (ms.getD i L_).tl)/\w1.cell? ⟨b,off+i*3+2,none⟩=some (vS (ms.getD i L_).ar))):=hc;have D:Hid (dh fs ms):=c;clear hc r c A f o t p;go_wp2;go_loop[7] (λi=>∃k:Nat,k<=ms.length/\i=.int .i64 k/\Hid (∀j,j<k->(ms.getD j L_).nm≠nm)) (λi=>ms.length-(RowKit.intOf i).toNat);exact⟨0,J4 _,rfl,λj h=>absurd h (y9 _)⟩;obtain⟨k,hk,rfl,q⟩:=hrel;by_cases d:k<ms.length;rotate_left
 ·have g:Hid (uU fs nm (.returned (.tuple #[.agg #[vE,vE,vE],.bool false]))):=⟨ms,D,⟨⟨#[]⟩,⟨#[]⟩,⟨#[]⟩⟩,false,rfl,.inr ⟨rfl,λj H=>q.out j O0⟩⟩;go_wp2;have F:=Kq w1 (w.heap.size+1) 0 vE vE vE _ _ _ n m l;refine Q7 (v:=.tuple #[.agg #[vE,vE,vE],.bool false]) (by simp[results,results118,go_sem,F.1,F.2.1,F.2.2]) rfl ⟨g,?_⟩;exact((y.setCell E5 _).setCell E5 _).setCell E5 _
 obtain⟨ha,hbw,s⟩:=Jd J.out d;subst ha;obtain⟨g0,g1,g2⟩:=s k d;have C:Hid (∃x,x=ms.getD k L_):=⟨_,rfl⟩;obtain⟨x,hx⟩:=C.out;rw[<- hx]at g0 g1 g2;have B:Hid (x=ms.getD k L_):=hx;clear s hx C;cases hq:(x.nm.toList==nm.toList)
 ·have E:Hid (∀j,j<k+1->(ms.getD j L_).nm≠nm):=λj H=>by
   rcases D8 j k with h|h
   ·exact q j h
   obtain rfl:j=k:=O0;rw[<- B.out];intro e;rw[e]at hq;simp at hq
  go_wp2
  go_round
  exact⟨k+1,O0,by go_num,E⟩;exact Z9
 have he:x.nm=nm:=by
  have:=Gp.1 hq;rw[ByteArray.toList_eq,ByteArray.toList_eq]at this;exact Xf (Zl.1 this)
 have g:Hid (uU fs nm (.returned (.tuple #[.agg #[vS x.nm,vS x.tl,vS x.ar],.bool true]))):=⟨ms,D,x,true,rfl,.inl ⟨rfl,k,d,B.out.symm,he⟩⟩;clear he;go_wp2;have F:=Kq w1 (w.heap.size+1) 0 (vS x.nm) (vS x.tl) (vS x.ar) _ _ _ n m l;refine Q7 (v:=.tuple #[.agg #[vS x.nm,vS x.tl,vS x.ar],.bool true]) (by simp[results,results118,go_sem,F.1,F.2.1,F.2.2]) rfl ⟨g,?_⟩;exact((y.setCell E5 _).setCell E5 _).setCell E5 _
