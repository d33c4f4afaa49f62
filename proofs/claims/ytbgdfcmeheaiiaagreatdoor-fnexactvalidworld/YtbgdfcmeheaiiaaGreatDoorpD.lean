import Derived.Test.YtbgdfcmeheaiiaaGreatDoorvY
set_option linter.unusedVariables false
set_option linter.unusedSimpArgs false
set_option maxHeartbeats 8000000
set_option maxRecDepth 100000
namespace Go.Proofs.YtbgdfcmeheaiiaaGreatDoor.G
open Proofs.Tryz Go.RowKit
open T (F2 P8 A_ Asc U5 X4 lt Js Ro Qu qg Uc Na ig)
section
variable{ms:List M3}{nm t:BY}{b i j p:Nat}{f:Bool}{u w:World}{v:Value}
theorem a1f(x:M3)(b:BY)(w:World):
 Calls prog 184 #[.agg #[.string x.nm,.string x.tl,.string x.ar],.string b] w λe w'=>e=.returned (.int .i64 (Js x.nm b))/\Below w.heap.size w w':=by
 go_in
 go_wp2_with fail
 refine(T.a1n x.nm b _).mono ?_;rintro e w1⟨rfl,hw⟩;obtain rfl:=hw.symm;go_wp2;go_ret;exact⟨rfl,P6⟩
structure wF(ms:List M3)(t:BY)(p:Nat)(f:Bool):Prop where
 le:p<=ms.length
 less:∀j,j<p->lt (ms.getD j C_).nm t=true
 more:∀j,p<=j->j<ms.length->lt (ms.getD j C_).nm t=false
 here:f=true↔p<ms.length/\(ms.getD p C_).nm=t
def QB(ms:List M3):Prop:=∀i j,i<j->j<ms.length->lt (ms.getD i C_).nm (ms.getD j C_).nm=true
def Qs(ms:List M3)(t:BY)(i j:Nat):Prop:=(∀q,q<i->lt (ms.getD q C_).nm t=true)/\∀q,j<=q->q<ms.length->lt (ms.getD q C_).nm t=false
theorem NS{h:Nat}(hm:QB ms)(a:Qs ms t i j)(hl:h<ms.length)(hx:lt (ms.getD h C_).nm t=true):Qs ms t (h+1) j:=by
 refine⟨λq hq=>?_,a.2⟩;rcases P7 q h with h1|h1
 ·exact qg (hm q h h1 hl) hx
 obtain rfl:q=h:=O0;exact hx
theorem mJ{h:Nat}(hm:QB ms)(a:Qs ms t i j)(hx:lt (ms.getD h C_).nm t=false):Qs ms t i h:=by
 refine⟨a.1,λq hq hl=>?_⟩;rcases P7 h q with h1|h1
 ·cases hc:lt (ms.getD q C_).nm t
  ·rfl
  rw[qg (hm h q h1 hl) hc]at hx;cases hx
 obtain rfl:q=h:=O0;exact hx
theorem c183(a:OA)(I:Nat)(ms:List M3)(t:BY)(w:World)(hl:ms.length<=300)(D:Ql w a ms)(hm:QB ms):
 Calls prog 183 #[.slice a ms.length I,.string t,.func (.func 184) #[] #[]] w λe w'=>(∃p f,e=.returned (.tuple #[.int .i64 (p:Nat),.bool f])/\wF ms t p f)/\Below w.heap.size w w':=by
 obtain⟨b,off,hc⟩:=Xi D;have F:Hid (ms=[]\/(a=some ⟨b,off,none⟩/\b<w.heap.size/\∀i,i<ms.length->w.cell? ⟨b,off+i*3,none⟩=some (vS (ms.getD i C_).nm)/\w.cell? ⟨b,off+i*3+1,none⟩=some (vS (ms.getD i C_).tl)/\w.cell? ⟨b,off+i*3+2,none⟩=some (vS (ms.getD i C_).ar))):=hc;have E:Hid (QB ms):=hm;clear hc D hm
 go_in
 go_wp2;go_loopw[9,10] (λv u wr=>∃i j:Nat,i<=j/\j<=ms.length/\v=.int .i64 i/\u=.int .i64 j/\Below w.heap.size w wr/\Hid (Qs ms t i j)) (λv u _=>(RowKit.intOf u).toNat-(RowKit.intOf v).toNat);exact⟨0,ms.length,I4 _,J9 _,rfl,rfl,J4 _ _,⟨λq h=>absurd h (U7 _),λq h k=>O0⟩⟩;obtain⟨i,j,hij,C,rfl,rfl,d,l⟩:=hrel;by_cases hlt:i<j;rotate_left
 ·obtain rfl:i=j:=O0;by_cases m:i<ms.length;rotate_left
  ·have A:Hid (wF ms t i false):=⟨O0,l.out.1,l.out.2,X7⟩;have hd:decide ((i:Int)<(ms.length:Int))=false:=y9 O0;go_wp2
   all_goals go_ret2
   all_goals exact⟨⟨i,false,rfl,A.out⟩,d⟩
  obtain⟨ha,g,c⟩:=Zb F.out m;subst ha;have g0:=(d.cell (by exact g)).trans (c i m).1;have g1:=(d.cell (by exact g)).trans (c i m).2.1;have g2:=(d.cell (by exact g)).trans (c i m).2.2;have A:Hid (∀f:Bool,(f=true↔(ms.getD i C_).nm=t)->wF ms t i f):=λf hf=>⟨O0,l.out.1,l.out.2,hf.trans ⟨λh=>⟨m,h⟩,λh=>h.2⟩⟩;generalize ms.getD i C_=x at*;clear c
  go_wp2_with fail
  refine(a1f x t wr).mono ?_;rintro e s⟨rfl,n⟩;have r:Below w.heap.size w s:=P5 d n;go_wp2
  all_goals go_ret2
  all_goals exact⟨⟨i,_,rfl,A.out _ (by rw[<- Qu];simp)⟩,r⟩
 rcases F.out with H|⟨ha,g,c⟩
 ·rw[H]at C;simp at C;omega
 subst ha;have o:(i+j) / 2<ms.length:=O0;have g0:=(d.cell (by exact g)).trans (c _ o).1;have g1:=(d.cell (by exact g)).trans (c _ o).2.1;have g2:=(d.cell (by exact g)).trans (c _ o).2.2;have z:Hid (lt (ms.getD ((i+j) / 2) C_).nm t=true->Qs ms t ((i+j) / 2+1) j):=λhx=>NS E l o hx;have B:Hid (lt (ms.getD ((i+j) / 2) C_).nm t=false->Qs ms t i ((i+j) / 2)):=λhx=>mJ E l hx;generalize ms.getD ((i+j) / 2) C_=x at*;clear c
 go_wp2_with fail
 refine(a1f x t wr).mono ?_;rintro e s⟨rfl,n⟩;have r:Below w.heap.size w s:=P5 d n;cases hx:lt x.nm t
 ·have hc:¬Js x.nm t<0:=λh=>by rw[(Ro _ _).1 h]at hx;cases hx
  have hc1:decide (Js x.nm t<0)=false:=y9 hc;have y:Hid (Qs ms t i ((i+j) / 2)):=B.out hx;clear hx n z B;go_wp2;go_roundw;exact⟨i,(i+j) / 2,O0,O0,rfl,by go_num,r,y⟩;exact P9
 have hc:Js x.nm t<0:=(Ro _ _).2 hx;have y:Hid (Qs ms t ((i+j) / 2+1) j):=z.out hx;clear hx n z B;go_wp2;go_roundw;exact⟨(i+j) / 2+1,j,O0,O0,by go_num,rfl,r,y⟩;exact P9
theorem mG(hm:QB ms)(h:wF ms nm p f):(f=true->∃i,i=p/\i<ms.length/\(ms.getD i C_).nm=nm)/\(f=false->∀j,j<ms.length->(ms.getD j C_).nm≠nm):=by
 refine⟨λe=>⟨p,rfl,h.here.1 e⟩,λe j b a=>?_⟩;subst e;rcases Yw j p with h1|h1|h1
 ·have a1:=h.less j h1;rw[a,Uc]at a1;cases a1
 ·subst h1;have:=h.here.2 ⟨b,a⟩;cases this
 have a1:=hm p j h1 b;rw[a]at a1;have a2:=h.more p Y8 O0;rw[a1]at a2;cases a2
theorem rzM(a:Below (w.heap.size+1) (w.alloc (.cells #[.string ⟨#[]⟩,.string ⟨#[]⟩,.string ⟨#[]⟩] 68)) u):
 (u.cell? ⟨w.heap.size,0,none⟩=some (.string ⟨#[]⟩)/\u.cell? ⟨w.heap.size,1,none⟩=some (.string ⟨#[]⟩)/\u.cell? ⟨w.heap.size,2,none⟩=some (.string ⟨#[]⟩))/\u.frozen? ⟨w.heap.size,0,none⟩=false/\u.frozen? ⟨w.heap.size,1,none⟩=false/\u.frozen? ⟨w.heap.size,2,none⟩=false:=by
 have c:∀b j,b<w.heap.size+1->u.cell? ⟨b,j,none⟩=(w.alloc (.cells #[vE,vE,vE] 68)).cell? ⟨b,j,none⟩:=λb j h=>a.cell (by exact h);have f:∀b j,b<w.heap.size+1->u.frozen? ⟨b,j,none⟩=(w.alloc (.cells #[vE,vE,vE] 68)).frozen? ⟨b,j,none⟩:=λb j h=>a.frozen (by exact h);rw[c _ _ O0,c _ _ O0,c _ _ O0,f _ _ O0,f _ _ O0,f _ _ O0];simp[go_sem]
def NU(ms:List M3)(nm:BY)(e:Ending):Prop:=∃(x:M3)(there:Bool),e=.returned (.tuple #[.agg #[.string x.nm,.string x.tl,.string x.ar],.bool there])/\((there=true/\∃i,i<ms.length/\ms.getD i C_=x/\x.nm=nm)\/(there=false/\∀j,j<ms.length->(ms.getD j C_).nm≠nm))
theorem a3k(a:OA)(B:Nat)(ms:List M3)(nm:BY)(w:World)(hl:ms.length<=300)(y:Ql w a ms)(hm:QB ms):
 Calls prog 126 #[.slice a ms.length B,.string nm] w λe w'=>NU ms nm e/\Below w.heap.size w w':=by
 have z:Below w.heap.size w (w.alloc (.cells #[vE,vE,vE] 68)):=P6;have A:=c183 a B ms nm _ hl (Uk y z) hm
 go_in
 go_wp2_with fail
 refine A.mono ?_;rintro e g⟨⟨p,f,rfl,k⟩,u⟩;obtain⟨n,m⟩:=mG hm k;have s:Below (w.heap.size+1) (w.alloc (.cells #[vE,vE,vE] 68)) g:=Tq u;have d:Below w.heap.size w g:=z.trans (s.mono O0);obtain⟨⟨r,q,o⟩,y0,y1,y2⟩:=rzM s;clear u A;cases f
 ·have j:Hid (NU ms nm (.returned (.tuple #[.agg #[vE,vE,vE],.bool false]))):=⟨⟨⟨#[]⟩,⟨#[]⟩,⟨#[]⟩⟩,false,rfl,.inr ⟨rfl,m rfl⟩⟩;clear n m k;go_wp2;have F:=Fq g w.heap.size 0 vE vE vE _ _ _ r q o;refine o7 (v:=.tuple #[.agg #[vE,vE,vE],.bool false]) (by simp[results,results126,go_sem,F.1,F.2.1,F.2.2]) rfl ⟨j,?_⟩;exact((d.setCell O4 _).setCell O4 _).setCell O4 _
 obtain⟨i,rfl,c,t⟩:=n rfl;obtain⟨b,off,hc⟩:=Xi y;obtain⟨ha,l,h⟩:=Zb hc c;subst ha;have g0:=(d.cell (by exact l)).trans (h i c).1;have g1:=(d.cell (by exact l)).trans (h i c).2.1;have g2:=(d.cell (by exact l)).trans (h i c).2.2;have j:Hid (NU ms nm (.returned (.tuple #[.agg #[vS (ms.getD i C_).nm,vS (ms.getD i C_).tl,vS (ms.getD i C_).ar],.bool true]))):=⟨_,true,rfl,.inl ⟨rfl,i,c,rfl,t⟩⟩;have C:Hid (∃x,x=ms.getD i C_):=⟨_,rfl⟩;obtain⟨x,hx⟩:=C.out;rw[<- hx]at g0 g1 g2 j;clear n m k h C hx t;go_wp2;have F:=Fq g w.heap.size 0 (vS x.nm) (vS x.tl) (vS x.ar) _ _ _ r q o;refine o7 (v:=.tuple #[.agg #[vS x.nm,vS x.tl,vS x.ar],.bool true]) (by simp[results,results126,go_sem,F.1,F.2.1,F.2.2]) rfl ⟨j,?_⟩;exact((d.setCell O4 _).setCell O4 _).setCell O4 _
theorem jJ(S:List UInt8)(w:World)(a5s:S.length<=300)(hv:zn w):
 Calls prog 190 #[.string (Y2 S)] w λe w'=>MX w S e w'/\Below w.heap.size w w':=by
 have E:Hid (zn w):=hv;clear hv;have hz:(Y2 S).size<=300:=by rw[Y4];exact a5s
 obtain⟨i0,hi,hz0,hz1,hz2⟩:=info_parts zU
 go_in
 go_wp2;go_loopw[4,5] (λv r wr=>∃(l:List UInt8)(ms:List M3),r=.string (Y2 l)/\Hid (Way S ms l)/\wr.ownsRow w.heap.size 68 3 v ms.length (Q_ ms)/\Below w.heap.size w wr) (λ_ r _=>T.strOf r);exact⟨S,[],rfl,YM _,og _ _ _ _,J4 _ _⟩;obtain⟨l,ms,rfl,d,o,L⟩:=hrel;have B:Hid (zn wr):=E.out.below L;obtain⟨hwl,H⟩:=sV d.out;by_cases hl:l=[]
 ·subst hl;have hnl:(Y2 []).toList=[]:=by rw[ByteArray.toList_eq];rfl
  obtain⟨W1,W2⟩:=yV d.out a5s;have P:Hid (Dc ms=true->n_ S ms true):=W1;have O:Hid (Dc ms=false->n_ S [] false):=W2;clear W1 W2;obtain⟨ao,D,hv,hat⟩:=Qp o;subst hv;obtain⟨u0,x0,V⟩:=B.out.va.g0;obtain⟨u1,x1,m⟩:=B.out.va.g1;obtain⟨u2,x2,t⟩:=B.out.va.g2;have f:=a3v ao D ms wr (λi=>⟨by have:=(H i).1;omega,by have:=(H i).2.1;omega,by have:=(H i).2.2;omega⟩) O0 hat _ _ _ _ _ _ V m t;clear hat d V m t
  go_wp2_with fail
  refine f.mono ?_;rintro e Q⟨hck,hb5⟩;have hB5:Below w.heap.size w Q:=P5 L hb5;have Y:Q.ownsRow w.heap.size 68 3 (vL ao ms.length D) ms.length (Q_ ms):=ownsRow_below o hb5;rcases hck with⟨j,rfl⟩|⟨j,n,ty,va,rfl⟩
  ·have c:Hid (n_ S ms true):=P.out j;clear P O j f;go_wp2;go_ret2;exact⟨⟨ms,_,_,rfl,Y,.inl ⟨rfl,c⟩⟩,hB5⟩
  have c:Hid (n_ S [] false):=O.out j;clear P O j f;go_wp2;go_ret2;exact⟨⟨ms,_,_,rfl,Y,.inr ⟨⟨n,ty,va,rfl⟩,c⟩⟩,hB5⟩
 have e0:(Y2 l).toList.isEmpty=false:=by
  rw[ByteArray.toList_eq]
  cases l with
  | nil=>exact absurd rfl hl
  | cons a r=>rfl
 have e1:¬(Y2 l).toList=[]:=λh=>by rw[h]at e0;cases e0
 obtain⟨ao,D,hv⟩:=xq o;subst hv
 go_wp2_with fail
 refine(a1c l _ O0 B.out.mx).mono ?_;rintro e U⟨rfl,A⟩;have C:Below w.heap.size w U:=P5 L A;have hc:=a0e l;have hcl:(Lib.cut l [10]).1.length<=300:=by
  rcases hc with⟨_,h,_⟩|⟨_,h,_⟩
  ·have:=U6 List.length h;rw[L9]at this;omega
  rw[h];omega
 have f:Hid (((Lib.cut l [10]).2.2=true/\l=(Lib.cut l [10]).1++10::(Lib.cut l [10]).2.1/\(10:UInt8)∉(Lib.cut l [10]).1)\/((Lib.cut l [10]).2.2=false/\(Lib.cut l [10]).1=l/\(10:UInt8)∉l)):=hc;clear hc;generalize (Lib.cut l [10]).1=ca at*;generalize (Lib.cut l [10]).2.1=cb at*;generalize (Lib.cut l [10]).2.2=cf at*;have hV1:Hid (zn U):=E.out.below C;cases cf
 ·have c:Hid (n_ S [] false):=by
   refine WC d hl λy q z e=>?_;rcases f.out with⟨h1,_⟩|⟨_,_,h3⟩
   ·cases h1
   apply h3;rw[e];simp
  obtain⟨t4,v4,g4⟩:=hV1.out.g4;clear f d
  go_wp2_with fail
  go_region
  all_goals go_wp2
  all_goals go_ret2
  all_goals exact⟨zy _ _ _ c.out,by first|exact C|exact C.drew⟩
 have p:Hid (l=ca++10::cb/\(10:UInt8)∉ca):=by
  rcases f.out with⟨_,h⟩|⟨h,_⟩
  ·exact h
  cases h
 clear f
 go_wp2_with fail
 refine(YR ca _ O0 hV1.out.mx).mono ?_;rintro e R⟨⟨y2,rfl⟩,K⟩;have hB2:Below w.heap.size w R:=P5 C K;have hV2:Hid (zn R):=E.out.below hB2;have hrs:=H8 ca
 go_wp2_with fail
 refine(a2g _ _ O0 hV2.out.mx).mono ?_;rintro e g⟨⟨x,ok,rfl,I⟩,J⟩;have b:Below w.heap.size w g:=P5 hB2 J;have a6Y:Below wr.heap.size wr g:=A.trans ((P5 K J).mono A.size);have hV3:Hid (zn g):=E.out.below b;have Z:g.ownsRow w.heap.size 68 3 (vL ao ms.length D) ms.length (Q_ ms):=ownsRow_below o a6Y;have hz3:w.heap.size<=g.heap.size:=b.size;obtain⟨t5,v5,g5⟩:=hV3.out.g5;have g5':=past (by show 3<g.heap.size;have:=hV3.out.va.pos;omega) g5;have s:Hid (¬(O1 ca=[109,97,107,101]/\ok=true)->n_ S [] false):=by
  intro hf;refine WC d hl (λy q z e=>hf ?_);have hca:=(IL p.out.2 (Bq z) (p.out.1.symm.trans e)).1;obtain⟨h1,h2⟩:=(kF z).1 hca;refine⟨h1,?_⟩;cases ok
  ·exact absurd h2 (I.2 rfl y z)
  rfl
 have F:Hid (O1 ca=[109,97,107,101]->ok=true->Way S (ms++[x]) cb/\cb.length<l.length):=by
  intro h1 h2;obtain⟨m,t⟩:=I.1 h2;refine⟨wU (a:=ca) (by rw[<- p.out.1];exact d.out) ⟨m,(kF m).2 ⟨h1,t⟩⟩,?_⟩;rw[p.out.1];simp;omega
 clear I d p o A K J g5;by_cases hw:O1 ca=[109,97,107,101];rotate_left
 ·have c:Hid (n_ S [] false):=s.out (λh=>hw h.1);have N:¬(Y2 (O1 ca)).toList=[109,97,107,101]:=by rw[ByteArray.toList_eq];simpa[Y2]using hw
  have e3:((Y2 (O1 ca)).toList==[109,97,107,101])=false:=by simpa using N
  clear s F;unfold M3.v
  go_wp2_with fail
  go_region
  all_goals go_wp2
  all_goals go_ret2
  all_goals exact⟨zy _ _ _ c.out,by first|exact b.alloc b.size _|exact(b.alloc b.size _).drew⟩
 have N:(Y2 (O1 ca)).toList=[109,97,107,101]:=by rw[hw,ByteArray.toList_eq];rfl
 have e3:((Y2 (O1 ca)).toList==[109,97,107,101])=true:=by simpa using N
 cases ok
 ·have c:Hid (n_ S [] false):=s.out O4;clear s F hw;unfold M3.v
  go_wp2_with fail
  go_region
  all_goals go_wp2
  all_goals go_ret2
  all_goals exact⟨zy _ _ _ c.out,by first|exact b.alloc b.size _|exact(b.alloc b.size _).drew⟩
 obtain⟨W,hw2⟩:=F.out hw rfl;have HW:Hid (Way S (ms++[x]) cb):=W;clear s F W hw;unfold M3.v
 go_wp2_with(at_builtin;refine wpList_append_own _ rfl _ _ 144 rfl w.heap.size 68 i0 (.agg #[.string ⟨#[]⟩,.string ⟨#[]⟩,.string ⟨#[]⟩]) 3 48 underlying144 hi hz0 hz1 hz2 rfl J6 _ _ _ rfl ((Z.alloc _).alloc _) ⟨g.heap.size+1,0,none⟩ 1 1 [_,_,_] rfl rfl (tY O4 _ _ _ _) (by intro u X;simp at X;rcases X with rfl|rfl|rfl<;>rfl) (by unfold maxLen;omega) O0 X7 ?_;intro v' w4 hown4 hgrow _;have HG:Hid (Below w.heap.size w w4):=((b.alloc b.size _).alloc X7 _).grown hgrow X7 (λk j=>(Z.lt k j).1);clear hgrow)
 go_roundw
 ·refine⟨cb,ms++[x],rfl,HW,?_,HG⟩;rw[Vt,L9];exact hown4
 simp only[T.strOf,Y4];exact hw2
theorem a3V(s:BY)(w:World)(a:s.size<=1048576)(hv:zn w):
 Calls prog 190 #[.string s] w λe w'=>MX w s.data.toList e w'/\Below w.heap.size w w':=by
 by_cases h:300<s.size
 ·exact iM s w a h hv
 have:=jJ s.data.toList w X7 hv;rw[Ep]at this;exact this
theorem zB{fs:List F2}(hm:T.Asc fs)(h:T.Place fs nm p f):(f=true->∃i,i=p/\i<fs.length/\(fs.getD i P8).nm=nm)/\(f=false->Free fs nm):=by
 constructor
 ·intro hf;exact⟨p,rfl,(h.here.1 hf).1,(h.here.1 hf).2⟩
 intro hf j a e;rcases Yw j p with h1|h1|h1
 ·have:=h.less j h1;rw[e,T.Uc]at this;cases this
 ·subst h1;have:=h.here.2 ⟨a,e⟩;rw[hf]at this;cases this
 have a1:=hm p j h1 a;rw[e]at a1;have a2:=h.more p Y8 O0;rw[a1]at a2;cases a2
theorem rzF(a:Below (w.heap.size+2) ((w.alloc (.cells #[v] 46)).alloc (.cells #[.string ⟨#[]⟩,.string ⟨#[]⟩] 166)) u):
 u.cell? ⟨w.heap.size,0,none⟩=some v/\(u.cell? ⟨w.heap.size+1,0,none⟩=some (.string ⟨#[]⟩)/\u.cell? ⟨w.heap.size+1,1,none⟩=some (.string ⟨#[]⟩))/\u.frozen? ⟨w.heap.size+1,0,none⟩=false/\u.frozen? ⟨w.heap.size+1,1,none⟩=false:=by
 have c:∀b j,b<w.heap.size+2->u.cell? ⟨b,j,none⟩=((w.alloc (.cells #[v] 46)).alloc (.cells #[vE,vE] 166)).cell? ⟨b,j,none⟩:=λb j h=>a.cell (by exact h);have f:∀b j,b<w.heap.size+2->u.frozen? ⟨b,j,none⟩=((w.alloc (.cells #[v] 46)).alloc (.cells #[vE,vE] 166)).frozen? ⟨b,j,none⟩:=λb j h=>a.frozen (by exact h);rw[c _ _ O0,c _ _ O0,c _ _ O0,f _ _ O0,f _ _ O0];simp[go_sem]
theorem qH(u:World)(B:Nat)(a b x0 x1:Value)(h0:u.cell? ⟨B,0,none⟩=some x0)(h1:u.cell? ⟨B,1,none⟩=some x1):
 ((u.setCell ⟨B,0,none⟩ a).setCell ⟨B,1,none⟩ b).cell? ⟨B,0,none⟩=some a/\((u.setCell ⟨B,0,none⟩ a).setCell ⟨B,1,none⟩ b).cell? ⟨B,1,none⟩=some b:=by
 have a1:(u.setCell ⟨B,0,none⟩ a).cell? ⟨B,1,none⟩=some x1:=by rw[Qa _ _ _ _ (Ud O0)];exact h1
 refine⟨?_,ng _ _ _ a1⟩;rw[Qa _ _ _ _ (Ud O0)];exact ng _ _ _ h0
def dZ(fs:List F2)(nm:BY)(e:Ending):Prop:=∃(x:F2)(there:Bool),e=.returned (.tuple #[.agg #[.string x.nm,.string x.tx],.bool there])/\((there=true/\∃i,i<fs.length/\fs.getD i P8=x/\x.nm=nm)\/(there=false/\Free fs nm))
theorem a3N(a:OA)(h:Nat)(fs:List F2)(nm:BY)(w:World)(hl:fs.length<=40)(y:U5 w a fs)(hm:T.Asc fs):
 Calls prog 189 #[.agg #[.slice a fs.length h],.string nm] w λe w'=>dZ fs nm e/\Below w.heap.size w w':=by
 have z:Below w.heap.size w ((w.alloc (.cells #[vL a fs.length h] 46)).alloc (.cells #[vE,vE] 166)):=P6.alloc O4 _;have A:=T.KU a h fs nm _ hl (T.X4 y z) hm
 go_in
 go_wp2_with fail
 refine A.mono ?_;rintro e c⟨⟨p,f,rfl,k⟩,u⟩;obtain⟨n,m⟩:=zB hm k;have r:Below (w.heap.size+2) ((w.alloc (.cells #[vL a fs.length h] 46)).alloc (.cells #[vE,vE] 166)) c:=Tq u;have g:Below w.heap.size w c:=z.trans (r.mono O0);obtain⟨t0,⟨q,o⟩,y0,y1⟩:=rzF r;clear u A;cases f
 ·have j:Hid (dZ fs nm (.returned (.tuple #[.agg #[vE,vE],.bool false]))):=⟨⟨⟨#[]⟩,⟨#[]⟩⟩,false,rfl,.inr ⟨rfl,m rfl⟩⟩;clear n m k;go_wp2;have F:=qH c (w.heap.size+1) vE vE _ _ q o;refine o7 (v:=.tuple #[.agg #[vE,vE],.bool false]) (by simp[results,results189,go_sem,F.1,F.2]) rfl ⟨j,?_⟩;exact(g.setCell O4 _).setCell O4 _
 obtain⟨i,rfl,d,s⟩:=n rfl;obtain⟨b,off,hc⟩:=T.o_ y;obtain⟨ha,t,l⟩:=Zb hc d;subst ha;have g0:=(g.cell (by exact t)).trans (l i d).1;have g1:=(g.cell (by exact t)).trans (l i d).2;have j:Hid (dZ fs nm (.returned (.tuple #[.agg #[vS (fs.getD i P8).nm,vS (fs.getD i P8).tx],.bool true]))):=⟨_,true,rfl,.inl ⟨rfl,i,d,rfl,s⟩⟩;have B:Hid (∃x,x=fs.getD i P8):=⟨_,rfl⟩;obtain⟨x,hx⟩:=B.out;rw[<- hx]at g0 g1 j;clear n m k l B hx s;go_wp2;have F:=qH c (w.heap.size+1) (vS x.nm) (vS x.tx) _ _ q o;refine o7 (v:=.tuple #[.agg #[vS x.nm,vS x.tx],.bool true]) (by simp[results,results189,go_sem,F.1,F.2]) rfl ⟨j,?_⟩;exact(g.setCell O4 _).setCell O4 _
structure Yo(w:World):Prop where
 vr:zn w
 gT:∃t v,w.cell? ⟨0,0,none⟩=some (.iface t v)
theorem Yo.below{w':World}(h:Yo w)(a:Below w.heap.size w w'):Yo w':=by
 have hp:=h.vr.va.pos;obtain⟨t,v,h0⟩:=h.gT;exact⟨h.vr.below a,t,v,(a.cell (by show 0<w.heap.size;omega)).trans h0⟩
theorem XC{fs:List F2}(h:A_ fs)(a:i<fs.length):(fs.getD i P8).tx.size<=300:=by
 have:=h.2 i a;unfold T.Af at this;simp only[X_]at this;have h1:=this.1;unfold T.T_ at h1;simp only[X_,Zc]at h1;have:=h1.2;omega
def a0n(w:World)(fs:List F2)(e:Ending)(w':World):Prop:=∃(ms:List M3)(v er:Value),e=.returned (.tuple #[v,er])/\w'.ownsRow w.heap.size 68 3 v ms.length (Q_ ms)/\((er=.nilIface/\Bg fs ms)\/((∃n ty va,er=.iface 318 (.agg #[.int .i64 n,.iface ty va]))/\Bg fs []))
theorem a4b(a:OA)(m:Nat)(fs:List F2)(w:World)(A:A_ fs)(K:U5 w a fs)(hv:Yo w):
 Calls prog 129 #[.agg #[.slice a fs.length m]] w λe w'=>a0n w fs e w'/\Below w.heap.size w w':=by
 have HV:Hid (Yo w):=hv;have E:Hid (A_ fs):=A;have HAT:Hid (U5 w a fs):=K;have hl:=A.1;have hm:=T.Vh A;have HM:Hid (T.Asc fs):=hm;have hB0:Below w.heap.size w (w.alloc (.cells #[vL a fs.length m] 46)):=P6;have P:=a3N a m fs Ns _ hl (T.X4 K hB0) hm;clear hv A K hm;unfold Ns at P
 go_in
 go_wp2_with fail
 refine P.mono ?_;rintro e q⟨⟨x,there,rfl,hx⟩,hb1⟩;clear P;have H:Below (w.heap.size+1) (w.alloc (.cells #[vL a fs.length m] 46)) q:=Tq hb1;have C:Below w.heap.size w q:=hB0.trans (H.mono O0);have hz1:w.heap.size+1<=q.heap.size:=by have:=H.size;simpa using this
 have t1:q.cell? ⟨w.heap.size,0,none⟩=some (vL a fs.length m):=(H.cell O4).trans (by simp[go_sem]);clear hb1;cases there
 ·have s:Hid (Bg fs []):=by
   rcases hx with⟨h,_⟩|⟨_,h⟩
   ·cases h
   exact .inr (.inl ⟨E,h,rfl⟩)
  clear hx;go_wp2;go_ret2;exact⟨⟨[],_,_,rfl,og _ _ _ _,.inl ⟨rfl,s⟩⟩,C.alloc C.size _⟩
 have r:Hid (∃i,i<fs.length/\fs.getD i P8=x/\x.nm=Ns):=by
  rcases hx with⟨_,h⟩|⟨h,_⟩
  ·exact h
  cases h
 have hxt:x.tx.size<=300:=by
  obtain⟨i,l,rfl,_⟩:=r.out;exact XC E l
 have z:Hid (∀g ok,n_ x.tx.data.toList g ok->¬(ok=true/\um fs g)->Bg fs []):=λg ok c t=>by
  obtain⟨i,l,rfl,I⟩:=r.out;exact .inr (.inr ⟨E,i,l,I,g,ok,c,.inr ⟨t,rfl⟩⟩)
 have D:Hid (∀g,n_ x.tx.data.toList g true->um fs g->Bg fs g):=λg c t=>by
  obtain⟨i,l,rfl,I⟩:=r.out;exact .inr (.inr ⟨E,i,l,I,g,true,c,.inl ⟨rfl,t,rfl⟩⟩)
 clear hx r;have hA1:Below w.heap.size w (q.alloc (.cells #[vS x.nm,vS x.tx] 166)):=C.alloc C.size _
 go_wp2_with fail
 refine(a3V x.tx _ O0 (HV.out.below hA1).vr).mono ?_;rintro e d⟨⟨ms,v,er,rfl,W,hor⟩,B⟩;have O:Below w.heap.size w d:=P5 hA1 B;have hz2:q.heap.size+1<=d.heap.size:=by have:=B.size;simpa using this
 have t2:d.cell? ⟨w.heap.size,0,none⟩=some (vL a fs.length m):=(B.cell X7).trans (past (by show w.heap.size<q.heap.size;omega) t1 _);have V:d.ownsRow w.heap.size 68 3 v ms.length (Q_ ms):=ig W X7;clear W B;obtain⟨ao,co,hvv⟩:=xq V;subst hvv;rcases hor with⟨rfl,c⟩|⟨⟨n,ty,va,rfl⟩,c⟩;rotate_left
 ·have s:Hid (Bg fs []):=z.out _ _ c O4;clear c z D;go_wp2;go_ret2;exact⟨⟨[],_,_,rfl,og _ _ _ _,.inr ⟨⟨n,ty,va,rfl⟩,s⟩⟩,O⟩
 have HP:Hid (n_ x.tx.data.toList ms true):=c;obtain⟨hml,hms⟩:=Kr c;clear c;go_wp2;go_loopw[30] (λi wr=>∃(k:Nat),k<=ms.length/\i=.int .i64 k/\Hid (∀j,j<k->Free fs (ms.getD j C_).nm)/\Below d.heap.size d wr) (λi _=>ms.length-(RowKit.intOf i).toNat);exact⟨0,I4 _,rfl,λj h=>absurd h (U7 _),J4 _ _⟩;obtain⟨k,hk,rfl,X,u⟩:=hrel;have L:Below w.heap.size w wr:=P5 O u;have U:=ownsRow_below V u;have hzr:d.heap.size<=wr.heap.size:=u.size;have tr:wr.cell? ⟨w.heap.size,0,none⟩=some (vL a fs.length m):=(u.cell (by show w.heap.size<d.heap.size;omega)).trans t2;by_cases J:k<ms.length;rotate_left
 ·obtain rfl:k=ms.length:=O0;have s:Hid (Bg fs ms):=D.out _ HP (λi l=>X.out i l);clear z D;go_wp2;go_ret2;exact⟨⟨ms,_,_,rfl,U,.inl ⟨rfl,s⟩⟩,L⟩
 obtain⟨ao',co',hv',a5E⟩:=Qp U;injection hv' with e1 e2 e3;subst e1 e3;obtain⟨b,off,hc⟩:=Xi a5E;obtain⟨hao,hbw,Y⟩:=Zb hc J;subst hao;obtain⟨g0,g1,g2⟩:=Y k J;have r:Hid (∃y,y=ms.getD k C_):=⟨_,rfl⟩;obtain⟨y,F⟩:=r.out;rw[<- F]at g0 g1 g2;have HY:Hid (y=ms.getD k C_):=F;clear F r Y a5E;have hAr:∀o,Below w.heap.size w (wr.alloc o):=λo=>L.alloc L.size _;have h35:=λo=>T.KU a m fs y.nm (wr.alloc o) hl (T.X4 HAT (hAr o)) HM;have tr':=past (by show w.heap.size<wr.heap.size;omega) tr
 go_wp2_with fail
 refine(h35 _).mono ?_;rintro e S⟨⟨p,f,rfl,c⟩,hb3⟩;obtain⟨R,Q⟩:=zB HM.out c;have Z:Below d.heap.size d S:=(u.alloc hzr _).trans (hb3.mono X7);have N:Below w.heap.size w S:=P5 O Z;clear h35 c hb3;cases f
 ·have a5S:Hid (∀j,j<k+1->Free fs (ms.getD j C_).nm):=λj hj=>by
   rcases P7 j k with h|h
   ·exact X j h
   obtain rfl:j=k:=O0;rw[<- HY.out];exact Q rfl
  clear R Q;go_wp2;go_roundw;exact⟨k+1,O0,by go_num,a5S,Z⟩;exact P9
 have s:Hid (Bg fs []):=by
  refine z _ _ HP λh=>?_;obtain⟨i,_,l,t⟩:=R rfl;have:=h.2 k J i l;rw[<- HY.out]at this;exact this t
 obtain⟨t5,v5,g5⟩:=(HV.out.below N).gT;clear R Q z D
 go_wp2_with fail
 try go_region
 all_goals go_wp2
 all_goals go_ret2
 all_goals exact⟨⟨[],_,_,rfl,og _ _ _ _,.inr ⟨⟨_,_,_,rfl⟩,s.out⟩⟩,by first|exact N|exact N.drew⟩
def Is7(w:World)(fs:List F2)(e:Ending)(w':World):Prop:=∃(ms:List M3)(v:Value),e=.returned v/\w'.ownsRow w.heap.size 68 3 v ms.length (Q_ ms)/\Bg fs ms
theorem c70(a:OA)(c:Nat)(fs:List F2)(w:World)(hl:fs.length<=1048576)(D:∀i,(fs.getD i P8).le 1048576)(m:U5 w a fs)(hv:Yo w):
 Calls prog 70 #[.agg #[.slice a fs.length c]] w λe w'=>Is7 w fs e w'/\Below w.heap.size w w':=by
 have A:Hid (Yo w):=hv;have K:Hid (U5 w a fs):=m;have x:Below w.heap.size w (w.alloc (.cells #[vL a fs.length c] 46)):=P6;have z:=T.a0Y a c fs _ hl D (T.X4 m x);clear hv m
 go_in
 go_wp2_with fail
 refine z.mono ?_;rintro e d⟨⟨b,rfl,j⟩,u⟩;have l:Below (w.heap.size+1) (w.alloc (.cells #[vL a fs.length c] 46)) d:=Tq u;have k:Below w.heap.size w d:=x.trans (l.mono O0);have hz1:w.heap.size+1<=d.heap.size:=by have:=l.size;simpa using this
 have t1:d.cell? ⟨w.heap.size,0,none⟩=some (vL a fs.length c):=(l.cell O4).trans (by simp[go_sem]);clear u z;cases b
 ·have I:Hid (Bg fs []):=.inl ⟨(λh=>by have:=j.2 h;cases this),rfl⟩;clear j;go_wp2;go_ret;exact⟨⟨[],_,rfl,og _ _ _ _,I⟩,k⟩
 have J:Hid (A_ fs):=j.1 rfl;clear j;have y:=a4b a c fs d J (T.X4 K k) (A.out.below k)
 go_wp2_with fail
 refine y.mono ?_;rintro e r⟨⟨ms,v,er,rfl,t,F⟩,H⟩;have p:Below w.heap.size w r:=P5 k H;have s:r.ownsRow w.heap.size 68 3 v ms.length (Q_ ms):=ig t O0;obtain⟨ao,co,C⟩:=xq s;subst C;clear y t;rcases F with⟨rfl,f⟩|⟨⟨n,ty,va,rfl⟩,f⟩
 ·have q:Hid (Bg fs ms):=f;clear f
  go_wp2_with fail
  refine(eU _).mono ?_;rintro e B⟨rfl,g⟩;have E:=ownsRow_below s g;have o:=P5 p g;go_wp2;go_ret;exact⟨⟨ms,_,rfl,E,q⟩,o⟩
 have q:Hid (Bg fs []):=f;clear f
 go_wp2_with fail
 refine(RQ n ty va _ (A.out.below p).vr.va.g6).mono ?_;rintro e B⟨rfl,g⟩;have o:=P5 p g;go_wp2;go_ret;exact⟨⟨[],_,rfl,og _ _ _ _,q⟩,o⟩
def Is5(fs:List F2)(e:Ending)(w':World):Prop:=∃(ms:List M3)(a:OA)(cap:Nat),e=.returned (.slice a ms.length cap)/\Ql w' a ms/\Bg fs ms
theorem c157(a:OA)(f:Nat)(fs:List F2)(w:World)(hl:fs.length<=1048576)(hs:∀i,(fs.getD i P8).le 1048576)(Q:U5 w a fs):
 Calls prog 157 #[.agg #[.slice a fs.length f]] w λe w'=>Is5 fs e w'/\Below w.heap.size w w':=by
 have U:Hid (U5 w a fs):=Q;have hB0:Below w.heap.size w (w.alloc (.cells #[vL a fs.length f] 46)):=P6;have z:=T.zZ a f fs Ns _ hl (T.X4 Q hB0);clear Q;unfold Ns at z
 go_in
 go_wp2_with fail
 refine z.mono ?_;rintro e g⟨⟨r,rfl,hr⟩,hb1⟩;have N:Below (w.heap.size+1) (w.alloc (.cells #[vL a fs.length f] 46)) g:=Tq hb1;have hB1:Below w.heap.size w g:=hB0.trans (N.mono O0);have hz1:w.heap.size+1<=g.heap.size:=by have:=N.size;simpa using this
 have W:g.cell? ⟨w.heap.size,0,none⟩=some (vL a fs.length f):=(N.cell O4).trans (by simp[go_sem]);have h15:=T.YZ a f fs g hl hs (T.X4 U hB1);clear hb1 z
 go_wp2_with fail
 refine h15.mono ?_;rintro e q⟨⟨b,rfl,E⟩,D⟩;have p:Below w.heap.size w q:=P5 hB1 D;have hz2:g.heap.size<=q.heap.size:=D.size;have t2:q.cell? ⟨w.heap.size,0,none⟩=some (vL a fs.length f):=(D.cell (by show w.heap.size<g.heap.size;omega)).trans W;clear h15 D W;cases b
 ·have n:Hid (Bg fs []):=.inl ⟨(λh=>by have:=E.2 h;cases this),rfl⟩;clear E hr;go_wp2;go_ret;exact⟨⟨[],_,_,rfl,.inl rfl,n⟩,p.alloc p.size _⟩
 have I:Hid (A_ fs):=E.1 rfl;clear E;rcases hr with⟨rfl,Z⟩|⟨i,rfl,s,O⟩
 ·have n:Hid (Bg fs []):=.inr (.inl ⟨I,Z,rfl⟩);clear Z;go_wp2;go_ret;exact⟨⟨[],_,_,rfl,.inl rfl,n⟩,p.alloc p.size _⟩
 have hxt:=XC I s;have J:Hid (∀c ok,n_ (fs.getD i P8).tx.data.toList c ok->¬(ok=true/\um fs c)->Bg fs []):=λc ok l P=>.inr (.inr ⟨I,i,s,O,c,ok,l,.inr ⟨P,rfl⟩⟩);have H:Hid (∀c,n_ (fs.getD i P8).tx.data.toList c true->um fs c->Bg fs c):=λc l P=>.inr (.inr ⟨I,i,s,O,c,true,l,.inl ⟨rfl,P,rfl⟩⟩);obtain⟨bf,off,hc⟩:=T.o_ (T.X4 U.out p);obtain⟨ha,hbw,v⟩:=Zb hc s;subst ha;have g1:=(v i s).2;have A:Hid (∃x,x=fs.getD i P8):=⟨_,rfl⟩;obtain⟨x,hx⟩:=A.out;rw[<- hx]at g1 J H hxt;clear v A hx O
 go_wp2_with fail
 refine(a4T x.tx _ O0).mono ?_;rintro e d⟨⟨ms,ok,am,cm,rfl,a5E,l⟩,C⟩;have hB3:Below w.heap.size w d:=P5 p C;have hz3:q.heap.size<=d.heap.size:=C.size;have t3:=(C.cell (by show w.heap.size<q.heap.size;omega)).trans t2;have HP:Hid (n_ x.tx.data.toList ms ok):=l;obtain⟨hml,hms⟩:=Kr l;have a6k:Hid (Ql d am ms):=a5E;clear l C t2 a5E;go_wp2;go_loopw[5,6] (λo i wr=>∃(k:Nat)(b:Bool),k<=ms.length/\i=.int .i64 k/\o=.bool b/\Hid (b=true↔ok=true/\∀j,j<k->Free fs (ms.getD j C_).nm)/\Below d.heap.size d wr) (λ_ i _=>ms.length-(RowKit.intOf i).toNat);exact⟨0,ok,I4 _,rfl,rfl,⟨λh=>⟨h,λj h=>absurd h (U7 _)⟩,λh=>h.1⟩,J4 _ _⟩;obtain⟨k,b,hk,rfl,rfl,t,m⟩:=hrel;have F:Below w.heap.size w wr:=P5 hB3 m;have hzr:d.heap.size<=wr.heap.size:=m.size;have tr:=(m.cell (by show w.heap.size<d.heap.size;omega)).trans t3;by_cases hlt:k<ms.length;rotate_left
 ·obtain rfl:k=ms.length:=O0;cases b
  ·have n:Hid (Bg fs []):=J.out _ _ HP (λh=>by have:=t.out.2 h;cases this);clear J H;go_wp2;go_ret;exact⟨⟨[],_,_,rfl,.inl rfl,n⟩,F.alloc F.size _⟩
  obtain⟨h1,h2⟩:=t.out.1 rfl;subst h1;have n:Hid (Bg fs ms):=H.out _ HP h2;have a6Z:Hid (Ql wr am ms):=Uk a6k m;clear J H h2;go_wp2;go_ret;exact⟨⟨ms,_,_,rfl,a6Z,n⟩,F⟩
 cases b
 ·have a5S:Hid (false=true↔ok=true/\∀j,j<k+1->Free fs (ms.getD j C_).nm):=⟨(λh=>by cases h),λh=>t.out.2 ⟨h.1,λj hj=>h.2 j O0⟩⟩
  go_wp2_with fail
  refine wp_region_held_drew (S:=(λ_=>True)) Y0 ?_ λhHeld=>?_
  · ((try dsimp only);(first|done|trivial))
  iterate 12 refine sq ?_
  refine wpAnyH_done Y0 ?_ _;clear hHeld;go_wp2;go_roundw;exact⟨k+1,false,O0,by go_num,rfl,a5S,m.drew⟩;exact P9
 obtain⟨bm,om,hc⟩:=Xi (Uk a6k.out m);obtain⟨hao,a7a,v⟩:=Zb hc hlt;subst hao;have g0:=(v k hlt).1;have A:Hid (∃y,y=ms.getD k C_):=⟨_,rfl⟩;obtain⟨y,L⟩:=A.out;rw[<- L]at g0;have HY:Hid (y=ms.getD k C_):=L;clear L A v;have hwz:w.heap.size<wr.heap.size:=O0;have z:=λu (hu:Below w.heap.size w u)=>T.zZ (some ⟨bf,off,none⟩) f fs y.nm u hl (T.X4 U hu)
 go_wp2_with fail
 refine wp_region_held_drew (S:=(λu=>u.cell? ⟨w.heap.size,0,none⟩=some (vL (some ⟨bf,off,none⟩) fs.length f)/\u.cell? ⟨bm,om+k*3,none⟩=some (vS y.nm))) Y0 ?_ λhHeld=>?_
 · ((try dsimp only);go_keep)
 iterate 8 refine sq ?_
 refine rq 8 λK hK=>?_;go_simp;refine(z _ F.drew).mono ?_;rintro e V⟨⟨B,rfl,Y⟩,hb4⟩;have R:Hid (Below wr.heap.size wr V):=(J4 _ _).drew.trans hb4;have HR4:Hid ((B=-1/\∀i,i<fs.length->(fs.getD i P8).nm≠y.nm)\/∃i:Nat,B=i/\i<fs.length/\(fs.getD i P8).nm=y.nm):=Y;clear Y;have e1:=(R.out.cell (by exact hwz)).trans tr;have e2:=(R.out.cell (by exact a7a)).trans g0
 go_wp2_with fail
 clear hHeld;refine kpk hK λhHeld=>?_;clear hK K
 iterate 3 refine sq ?_
 refine wpAnyH_done Y0 ?_ _;clear hHeld;have a7b:Below d.heap.size d V:=m.trans (R.out.mono hzr);have HF:Hid (decide (B<0)=true↔ok=true/\∀j,j<k+1->Free fs (ms.getD j C_).nm):=by
  constructor
  ·intro h;have h:=Wn h;refine⟨(t.out.1 (by first|rfl|trivial)).1,λj hj=>?_⟩;rcases P7 j k with h1|h1
   ·exact(t.out.1 (by first|rfl|trivial)).2 j h1
   obtain rfl:j=k:=O0;rw[<- HY.out];rcases HR4.out with⟨_,h2⟩|⟨X,h2,_⟩
   ·exact h2
   omega
  intro h;apply m_;rcases HR4.out with⟨h2,_⟩|⟨X,h2,h3,h4⟩
  ·omega
  exact absurd (by rw[<- HY.out];exact h4) (h.2 k O0 X h3)
 go_wp2;go_roundw;exact⟨k+1,decide (B<0),O0,by go_num,rfl,HF,a7b⟩;exact P9
theorem iT(h:Dc ms=true):QB ms:=by
 have h2:=((Ti ms).1 h).2;have b:∀j,j+1<ms.length->lt (ms.getD j C_).nm (ms.getD (j+1) C_).nm=true:=λj a=>by
  have:=h2 (j+1) a;unfold stepM at this;simp only[X_,rJ,Zc]at this;rcases this.2 with h|h
  ·omega
  exact h
 intro i j hij
 induction j with
 | zero=>omega
 | succ j ih=>
  intro a;rcases P7 i j with h1|h1
  ·exact qg (ih h1 O0) (b j a)
  obtain rfl:i=j:=O0;exact b i a
theorem QF:QB []:=λ_ _ _ h=>absurd h (U7 _)
theorem pU{fs:List F2}(h:Bg fs ms):QB ms:=by
 rcases h with⟨_,rfl⟩|⟨_,_,rfl⟩|⟨_,i,hi,hn,ks,ok,a,hr⟩
 ·exact QF
 ·exact QF
 rcases hr with⟨rfl,_,rfl⟩|⟨_,rfl⟩
 ·exact iT (a.1 rfl).1
 exact QF
theorem rzN(a:Below (w.heap.size+2) ((w.alloc (.cells #[v] 46)).alloc (.cells #[.string ⟨#[]⟩,.string ⟨#[]⟩,.string ⟨#[]⟩] 68)) u):
 (u.cell? ⟨w.heap.size+1,0,none⟩=some (.string ⟨#[]⟩)/\u.cell? ⟨w.heap.size+1,1,none⟩=some (.string ⟨#[]⟩)/\u.cell? ⟨w.heap.size+1,2,none⟩=some (.string ⟨#[]⟩))/\u.frozen? ⟨w.heap.size+1,0,none⟩=false/\u.frozen? ⟨w.heap.size+1,1,none⟩=false/\u.frozen? ⟨w.heap.size+1,2,none⟩=false:=by
 have c:∀b j,b<w.heap.size+2->u.cell? ⟨b,j,none⟩=((w.alloc (.cells #[v] 46)).alloc (.cells #[vE,vE,vE] 68)).cell? ⟨b,j,none⟩:=λb j h=>a.cell (by exact h);have f:∀b j,b<w.heap.size+2->u.frozen? ⟨b,j,none⟩=((w.alloc (.cells #[v] 46)).alloc (.cells #[vE,vE,vE] 68)).frozen? ⟨b,j,none⟩:=λb j h=>a.frozen (by exact h);rw[c _ _ O0,c _ _ O0,c _ _ O0,f _ _ O0,f _ _ O0,f _ _ O0];simp[go_sem]
def AP(fs:List F2)(nm:BY)(e:Ending):Prop:=∃ms,Bg fs ms/\NU ms nm e
theorem c92(a:OA)(l:Nat)(fs:List F2)(nm:BY)(w:World)(hl:fs.length<=1048576)(r:∀i,(fs.getD i P8).le 1048576)(z:U5 w a fs):
 Calls prog 92 #[.agg #[.slice a fs.length l],.string nm] w λe w'=>AP fs nm e/\Below w.heap.size w w':=by
 have C:=λu (K:Below w.heap.size w u)=>c157 a l fs u hl r (X4 z K);have B:∀o1 o2,Below w.heap.size w ((w.alloc o1).alloc o2):=λo1 o2=>P6.alloc O4 _
 go_in
 go_wp2_with fail
 refine(C _ (B _ _)).mono ?_;rintro e c⟨⟨ms,a1,cap1,rfl,t,d⟩,g⟩;have A:Below w.heap.size w c:=(B _ _).trans (g.mono X7);have q:Below (w.heap.size+2) ((w.alloc (.cells #[vL a fs.length l] 46)).alloc (.cells #[vE,vE,vE] 68)) c:=Tq g;obtain⟨⟨p,o,n⟩,y0,y1,y2⟩:=rzN q;have hlm:=JH d;obtain⟨b,off,hc⟩:=Xi t;have L:Hid (ms=[]\/(a1=some ⟨b,off,none⟩/\b<c.heap.size/\∀i,i<ms.length->c.cell? ⟨b,off+i*3,none⟩=some (vS (ms.getD i C_).nm)/\c.cell? ⟨b,off+i*3+1,none⟩=some (vS (ms.getD i C_).tl)/\c.cell? ⟨b,off+i*3+2,none⟩=some (vS (ms.getD i C_).ar))):=hc;have H:Hid (Bg fs ms):=d;clear hc t d C g q z r;go_wp2;go_loop[7] (λi=>∃k:Nat,k<=ms.length/\i=.int .i64 k/\Hid (∀j,j<k->(ms.getD j C_).nm≠nm)) (λi=>ms.length-(RowKit.intOf i).toNat);exact⟨0,I4 _,rfl,λj h=>absurd h (U7 _)⟩;obtain⟨k,hk,rfl,s⟩:=hrel;by_cases f:k<ms.length;rotate_left
 ·have m:Hid (AP fs nm (.returned (.tuple #[.agg #[vE,vE,vE],.bool false]))):=⟨ms,H,⟨⟨#[]⟩,⟨#[]⟩,⟨#[]⟩⟩,false,rfl,.inr ⟨rfl,λj J=>s.out j O0⟩⟩;go_wp2;have F:=Fq c (w.heap.size+1) 0 vE vE vE _ _ _ p o n;refine o7 (v:=.tuple #[.agg #[vE,vE,vE],.bool false]) (by simp[results,results92,go_sem,F.1,F.2.1,F.2.2]) rfl ⟨m,?_⟩;exact((A.setCell O4 _).setCell O4 _).setCell O4 _
 obtain⟨ha,hbw,y⟩:=Zb L.out f;subst ha;obtain⟨g0,g1,g2⟩:=y k f;have E:Hid (∃x,x=ms.getD k C_):=⟨_,rfl⟩;obtain⟨x,hx⟩:=E.out;rw[<- hx]at g0 g1 g2;have D:Hid (x=ms.getD k C_):=hx;clear y hx E;cases hq:(x.nm.toList==nm.toList)
 ·have I:Hid (∀j,j<k+1->(ms.getD j C_).nm≠nm):=λj J=>by
   rcases P7 j k with h|h
   ·exact s j h
   obtain rfl:j=k:=O0;rw[<- D.out];intro e;rw[e]at hq;simp at hq
  go_wp2
  go_round
  exact⟨k+1,O0,by go_num,I⟩;exact P9
 have he:x.nm=nm:=by
  have:=Zo.1 hq;rw[ByteArray.toList_eq,ByteArray.toList_eq]at this;exact mg (Xk.1 this)
 have m:Hid (AP fs nm (.returned (.tuple #[.agg #[vS x.nm,vS x.tl,vS x.ar],.bool true]))):=⟨ms,H,x,true,rfl,.inl ⟨rfl,k,f,D.out.symm,he⟩⟩;clear he;go_wp2;have F:=Fq c (w.heap.size+1) 0 (vS x.nm) (vS x.tl) (vS x.ar) _ _ _ p o n;refine o7 (v:=.tuple #[.agg #[vS x.nm,vS x.tl,vS x.ar],.bool true]) (by simp[results,results92,go_sem,F.1,F.2.1,F.2.2]) rfl ⟨m,?_⟩;exact((A.setCell O4 _).setCell O4 _).setCell O4 _
