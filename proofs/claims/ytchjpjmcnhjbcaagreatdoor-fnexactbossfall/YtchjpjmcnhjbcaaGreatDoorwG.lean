import Derived.Test.YtchjpjmcnhjbcaaGreatDoorpC
import Derived.Test.YtchjpjmcnhjbcaaGreatDoorpS
import Derived.Test.YtchjpjmcnhjbcaaGreatDoorvV
set_option linter.unusedVariables false
set_option maxHeartbeats 8000000
set_option maxRecDepth 100000
namespace Go.Proofs.YtchjpjmcnhjbcaaGreatDoor.G
open Proofs.Tryz Go.RowKit
open T (F2 I8 G_ Asc G6 J5 lt Ew Xn Qu Xf Ic Fa Yf)
section
variable {ms:List M3} {nm t:BY} {b i j p:Nat} {f:Bool} {u w:World} {v:Value}
theorem a1v (x:M3) (b:BY) (w:World):
 Calls prog 166 #[.agg #[.string x.nm,.string x.tl,.string x.ar],.string b] w fun e w'=>e=.returned (.int .i64 (Ew x.nm b))/\Below w.heap.size w w':=by
 go_enter func166,ntmps166
 go_wp2_with fail
 refine (T.c167 x.nm b _).mono ?_;rintro e w1 ⟨rfl,hw⟩;obtain rfl:=hw.symm;go_wp2;go_ret;exact ⟨rfl,P6⟩
structure SE (ms:List M3) (t:BY) (p:Nat) (f:Bool):Prop where
 le:p<=ms.length
 less:∀ j,j<p->lt (ms.getD j D_).nm t=true
 more:∀ j,p<=j->j<ms.length->lt (ms.getD j D_).nm t=false
 here:f=true↔p<ms.length/\(ms.getD p D_).nm=t
def mD (ms:List M3):Prop:=∀ i j,i<j->j<ms.length->lt (ms.getD i D_).nm (ms.getD j D_).nm=true
def xA (ms:List M3) (t:BY) (i j:Nat):Prop:=(∀ q,q<i->lt (ms.getD q D_).nm t=true)/\∀ q,j<=q->q<ms.length->lt (ms.getD q D_).nm t=false
theorem TP {h:Nat} (hm:mD ms) (a:xA ms t i j) (hl:h<ms.length) (hx:lt (ms.getD h D_).nm t=true):xA ms t (h+1) j:=by
 refine ⟨fun q hq=>?_,a.2⟩;rcases Q7 q h with h1 | h1
 · exact Xf (hm q h h1 hl) hx
 obtain rfl:q=h:=O0;exact hx
theorem MI {h:Nat} (hm:mD ms) (a:xA ms t i j) (hx:lt (ms.getD h D_).nm t=false):xA ms t i h:=by
 refine ⟨a.1,fun q hq hl=>?_⟩;rcases Q7 h q with h1 | h1
 · cases hc:lt (ms.getD q D_).nm t
   · rfl
   rw [Xf (hm h q h1 hl) hc] at hx;cases hx
 obtain rfl:q=h:=O0;exact hx
theorem a1X (a:OA) (I:Nat) (ms:List M3) (t:BY) (w:World) (hl:ms.length<=300) (C:Bo w a ms) (hm:mD ms):
 Calls prog 165 #[.slice a ms.length I,.string t,.func (.func 166) #[] #[]] w fun e w'=>(∃ p f,e=.returned (.tuple #[.int .i64 (p:Nat),.bool f])/\SE ms t p f)/\Below w.heap.size w w':=by
 obtain ⟨b,off,hc⟩:=Ej C;have E:=U0 hc;have D:=U0 hm;clear hc C hm;go_enter func165,ntmps165
 go_wp2_with fail
 go_loopw [9,10] (fun u s wr=>∃ i j:Nat,i<=j/\j<=ms.length/\u=.int .i64 i/\s=.int .i64 j/\Below w.heap.size w wr/\Hid (xA ms t i j)) (fun u s _=>(RowKit.intOf s).toNat - (RowKit.intOf u).toNat)
 case atStart=>exact ⟨0,ms.length,J4 _,v_ _,rfl,rfl,Z4 _ _,⟨fun q h=>absurd h (J8 _),fun q h k=>O0⟩⟩
 obtain ⟨i,j,hij,B,rfl,rfl,d,l⟩:=hrel;by_cases hlt:i<j;rotate_left
 · obtain rfl:i=j:=O0;by_cases m:i<ms.length;rotate_left
   · have z:Hid (SE ms t i false):=⟨O0,l.out.1,l.out.2,U7⟩;have hd:decide ((i:Int)<(ms.length:Int))=false:=S9 O0;go_wp2
     all_goals go_ret2
     all_goals exact ⟨⟨i,false,rfl,z.out⟩,d⟩
   obtain ⟨ha,g,c⟩:=Cc E.out m;subst ha;have g0:=(d.cell (p:=⟨b,off+i*3,none⟩) g).trans (c i m).1;have g1:=(d.cell (p:=⟨b,off+i*3+1,none⟩) g).trans (c i m).2.1;have g2:=(d.cell (p:=⟨b,off+i*3+2,none⟩) g).trans (c i m).2.2;have z:Hid (∀ f:Bool,(f=true↔(ms.getD i D_).nm=t)->SE ms t i f):=fun f hf=>⟨O0,l.out.1,l.out.2,hf.trans ⟨fun h=>⟨m,h⟩,fun h=>h.2⟩⟩;generalize ms.getD i D_=x at*;clear c
   go_wp2_with fail
   refine (a1v x t wr).mono ?_;rintro e F ⟨rfl,n⟩;have r:=X5 d n;go_wp2
   all_goals go_ret2
   all_goals exact ⟨⟨i,_,rfl,z.out _ (by rw [<- Qu];simp)⟩,r⟩
 rcases E.out with H | ⟨ha,g,c⟩
 · rw [H] at B;simp at B;omega
 subst ha;have o:(i+j) / 2<ms.length:=O0;have g0:=(d.cell (p:=⟨b,off+(i+j) / 2*3,none⟩) g).trans (c _ o).1;have g1:=(d.cell (p:=⟨b,off+(i+j) / 2*3+1,none⟩) g).trans (c _ o).2.1;have g2:=(d.cell (p:=⟨b,off+(i+j) / 2*3+2,none⟩) g).trans (c _ o).2.2;have y:Hid (lt (ms.getD ((i+j) / 2) D_).nm t=true->xA ms t ((i+j) / 2+1) j):=fun hx=>TP D.out l.out o hx;have A:Hid (lt (ms.getD ((i+j) / 2) D_).nm t=false->xA ms t i ((i+j) / 2)):=fun hx=>MI D.out l.out hx;generalize ms.getD ((i+j) / 2) D_=x at*;clear c
 go_wp2_with fail
 refine (a1v x t wr).mono ?_;rintro e F ⟨rfl,n⟩;have r:=X5 d n;cases hx:lt x.nm t
 · have hc:¬ Ew x.nm t<0:=fun h=>by rw [(Xn _ _).1 h] at hx;cases hx
   have hc1:=S9 hc;have v:=U0 (A.out hx);clear hx n y A;go_wp2;go_roundw
   case rel=>exact ⟨i,(i+j) / 2,O0,O0,rfl,by go_num,r,v⟩
   case measure=>simp [RowKit.intOf];omega
 have hc:=(Xn _ _).2 hx;have v:=U0 (y.out hx);clear hx n y A;go_wp2;go_roundw
 case rel=>exact ⟨(i+j) / 2+1,j,O0,O0,by go_num,rfl,r,v⟩
 case measure=>simp [RowKit.intOf];omega
theorem yG (hm:mD ms) (h:SE ms nm p f):(f=true->∃ i,i=p/\i<ms.length/\(ms.getD i D_).nm=nm)/\(f=false->∀ j,j<ms.length->(ms.getD j D_).nm≠nm):=by
 refine ⟨fun e=>⟨p,rfl,h.here.1 e⟩,fun e j c b=>?_⟩;subst e;rcases Qv j p with h1 | h1 | h1
 · have a:=h.less j h1;rw [b,Ic] at a;cases a
 · subst h1;have:=h.here.2 ⟨c,b⟩;cases this
 have a:=hm p j h1 c;rw [b] at a;have a2:=h.more p H8 O0;rw [a] at a2;cases a2
theorem rzM (a:Below (w.heap.size+1) (w.alloc (.cells #[.string ⟨#[]⟩,.string ⟨#[]⟩,.string ⟨#[]⟩] 135)) u):
 (u.cell? ⟨w.heap.size,0,none⟩=some (.string ⟨#[]⟩)/\u.cell? ⟨w.heap.size,1,none⟩=some (.string ⟨#[]⟩)/\u.cell? ⟨w.heap.size,2,none⟩=some (.string ⟨#[]⟩))/\u.frozen? ⟨w.heap.size,0,none⟩=false/\u.frozen? ⟨w.heap.size,1,none⟩=false/\u.frozen? ⟨w.heap.size,2,none⟩=false:=by
 have c:∀ b j,b<w.heap.size+1->u.cell? ⟨b,j,none⟩=(w.alloc (.cells #[vE,vE,vE] 135)).cell? ⟨b,j,none⟩:=fun b j h=>a.cell (by exact h);have f:∀ b j,b<w.heap.size+1->u.frozen? ⟨b,j,none⟩=(w.alloc (.cells #[vE,vE,vE] 135)).frozen? ⟨b,j,none⟩:=fun b j h=>a.frozen (by exact h);rw [c _ _ O0,c _ _ O0,c _ _ O0,f _ _ O0,f _ _ O0,f _ _ O0];simp [go_sem]
def vW (ms:List M3) (nm:BY) (e:Ending):Prop:=∃ (x:M3) (there:Bool),e=.returned (.tuple #[.agg #[.string x.nm,.string x.tl,.string x.ar],.bool there])/\((there=true/\∃ i,i<ms.length/\ms.getD i D_=x/\x.nm=nm)\/(there=false/\∀ j,j<ms.length->(ms.getD j D_).nm≠nm))
theorem a4c (a:OA) (B:Nat) (ms:List M3) (nm:BY) (w:World) (hl:ms.length<=300) (y:Bo w a ms) (hm:mD ms):
 Calls prog 118 #[.slice a ms.length B,.string nm] w fun e w'=>vW ms nm e/\Below w.heap.size w w':=by
 have z:Below w.heap.size w (w.alloc (.cells #[vE,vE,vE] 135)):=P6;have A:=a1X a B ms nm _ hl (Qk y z) hm;go_enter func118,ntmps118
 go_wp2_with fail
 refine A.mono ?_;rintro e j ⟨⟨p,f,rfl,k⟩,u⟩;obtain ⟨n,m⟩:=yG hm k;have s:Below (w.heap.size+1) (w.alloc (.cells #[vE,vE,vE] 135)) j:=KD u;have d:=z.trans (s.mono O0);obtain ⟨⟨r,q,o⟩,y0,y1,y2⟩:=rzM s;clear u A;cases f
 · have h:Hid (vW ms nm (.returned (.tuple #[.agg #[vE,vE,vE],.bool false]))):=⟨⟨⟨#[]⟩,⟨#[]⟩,⟨#[]⟩⟩,false,rfl,.inr ⟨rfl,m rfl⟩⟩;clear n m k;go_wp2;have F:=Gp j w.heap.size 0 vE vE vE _ _ _ r q o;refine Y6 (v:=.tuple #[.agg #[vE,vE,vE],.bool false]) (by simp [results,results118,go_sem,F.1,F.2.1,F.2.2]) rfl ⟨h.out,?_⟩;exact ((d.setCell X4 _).setCell X4 _).setCell X4 _
 obtain ⟨i,rfl,c,t⟩:=n rfl;obtain ⟨b,off,hc⟩:=Ej y;obtain ⟨ha,l,g⟩:=Cc hc c;subst ha;have g0:=(d.cell (p:=⟨b,off+i*3,none⟩) l).trans (g i c).1;have g1:=(d.cell (p:=⟨b,off+i*3+1,none⟩) l).trans (g i c).2.1;have g2:=(d.cell (p:=⟨b,off+i*3+2,none⟩) l).trans (g i c).2.2;have h:Hid (vW ms nm (.returned (.tuple #[.agg #[vS (ms.getD i D_).nm,vS (ms.getD i D_).tl,vS (ms.getD i D_).ar],.bool true]))):=⟨_,true,rfl,.inl ⟨rfl,i,c,rfl,t⟩⟩;have C:Hid (∃ x,x=ms.getD i D_):=⟨_,rfl⟩;obtain ⟨x,hx⟩:=C.out;rw [<- hx] at g0 g1 g2 h;clear n m k g C hx t;go_wp2;have F:=Gp j w.heap.size 0 (vS x.nm) (vS x.tl) (vS x.ar) _ _ _ r q o;refine Y6 (v:=.tuple #[.agg #[vS x.nm,vS x.tl,vS x.ar],.bool true]) (by simp [results,results118,go_sem,F.1,F.2.1,F.2.2]) rfl ⟨h.out,?_⟩;exact ((d.setCell X4 _).setCell X4 _).setCell X4 _
theorem GH (S:List UInt8) (w:World) (a4l:S.length<=300) (hv:Gy w):
 Calls prog 172 #[.string (J3 S)] w fun e w'=>KW w S e w'/\Below w.heap.size w w':=by
 have C:=U0 hv;clear hv;have hz:(J3 S).size<=300:=by rw [I5];exact a4l
 obtain ⟨i0,hi,hz0,hz1,hz2⟩:=info_parts QJ;go_enter func172,ntmps172
 go_wp2_with fail
 go_loopw [4,5] (fun v r wr=>∃ (l:List UInt8) (ms:List M3),r=.string (J3 l)/\Hid (Way S ms l)/\wr.ownsRow w.heap.size 135 3 v ms.length (Oa ms)/\Below w.heap.size w wr) (fun _ r _=>T.strOf r)
 case atStart=>exact ⟨S,[],rfl,vM _,mg _ _ _ _,Z4 _ _⟩
 obtain ⟨l,ms,rfl,d,m,J⟩:=hrel;have A:=U0 (C.out.below J);obtain ⟨hwl,E⟩:=UU d.out;by_cases hl:l=[]
 · subst hl;have hnl:(J3 []).toList=[]:=by rw [ByteArray.toList_eq];rfl
   obtain ⟨W1,W2⟩:=NW d.out a4l;have N:=U0 W1;have L:=U0 W2;clear W1 W2;obtain ⟨ao,cp,hv,Y⟩:=Dp m;subst hv;obtain ⟨u0,x0,P⟩:=A.out.va.g0;obtain ⟨u1,x1,j⟩:=A.out.va.g1;obtain ⟨u2,x2,s⟩:=A.out.va.g2;have f:=c227 ao cp ms wr (fun i=>⟨by have:=(E i).1;omega,by have:=(E i).2.1;omega,by have:=(E i).2.2;omega⟩) O0 Y _ _ _ _ _ _ P j s;clear Y d P j s
   go_wp2_with fail
   refine f.mono ?_;rintro e w5 ⟨hck,X⟩;have hB5:=X5 J X;have U:=ownsRow_below m X;rcases hck with ⟨g,rfl⟩ | ⟨g,n,ty,va,rfl⟩
   · have c:=U0 (N.out g);clear N L g f;go_wp2;go_ret2;exact ⟨⟨ms,_,_,rfl,U,.inl ⟨rfl,c.out⟩⟩,hB5⟩
   have c:=U0 (L.out g);clear N L g f;go_wp2;go_ret2;exact ⟨⟨ms,_,_,rfl,U,.inr ⟨⟨n,ty,va,rfl⟩,c.out⟩⟩,hB5⟩
 have e0:(J3 l).toList.isEmpty=false:=by
  rw [ByteArray.toList_eq]
  cases l with
  | nil=>exact absurd rfl hl
  | cons a r=>rfl
 have e1:¬ (J3 l).toList=[]:=fun h=>by rw [h] at e0;cases e0
 obtain ⟨ao,cp,hv⟩:=Ap m;subst hv
 go_wp2_with fail
 refine (a1f l _ O0 A.out.mx).mono ?_;rintro e w1 ⟨rfl,z⟩;have B:=X5 J z;have hc:=ZY l;have hcl:(Lib.cut l [10]).1.length<=300:=by
  rcases hc with ⟨_,h,_⟩ | ⟨_,h,_⟩
  · have:=U6 List.length h;rw [D9] at this;omega
  rw [h];omega
 have f:=U0 hc;clear hc;generalize (Lib.cut l [10]).1=ca at*;generalize (Lib.cut l [10]).2.1=cb at*;generalize (Lib.cut l [10]).2.2=cf at*;have hV1:=U0 (C.out.below B);cases cf
 · have c:Hid (La S [] false):=by
    refine jC d.out hl fun y q t e=>?_;rcases f.out with ⟨h1,_⟩ | ⟨_,_,h3⟩
    · cases h1
    apply h3;rw [e];simp
   obtain ⟨t4,v4,g4⟩:=hV1.out.g4;clear f d
   go_wp2_with fail
   go_region
   all_goals go_wp2
   all_goals go_ret2
   all_goals exact ⟨Gx _ _ _ c.out,by first | exact B | exact B.drew⟩
 have o:Hid (l=ca++10::cb/\(10:UInt8)∉ca):=by
  rcases f.out with ⟨_,h⟩ | ⟨h,_⟩
  · exact h
  cases h
 clear f
 go_wp2_with fail
 refine (zT ca _ O0 hV1.out.mx).mono ?_;rintro e w2 ⟨⟨y2,rfl⟩,I⟩;have hB2:=X5 B I;have hV2:=U0 (C.out.below hB2);have hrs:=D8 ca
 go_wp2_with fail
 refine (c226 _ _ O0 hV2.out.mx).mono ?_;rintro e O ⟨⟨x,ok,rfl,F⟩,H⟩;have b:=X5 hB2 H;have a6h:=z.trans ((X5 I H).mono z.size);have Z:=U0 (C.out.below b);have V:=ownsRow_below m a6h;have hz3:=b.size;obtain ⟨t5,v5,g5⟩:=Z.out.g5;have g5':=past (by show 3<O.heap.size;have:=Z.out.va.pos;omega) g5;have p:Hid (¬ (O1 ca=[109,97,107,101]/\ok=true)->La S [] false):=by
  intro hf;refine jC d.out hl (fun y q t e=>hf ?_);have hca:=(oJ o.out.2 (qp t) (o.out.1.symm.trans e)).1;obtain ⟨h1,h2⟩:=(ZC t).1 hca;refine ⟨h1,?_⟩;cases ok
  · exact absurd h2 (F.2 rfl y t)
  rfl
 have D:Hid (O1 ca=[109,97,107,101]->ok=true->Way S (ms++[x]) cb/\cb.length<l.length):=by
  intro h1 h2;obtain ⟨j,s⟩:=F.1 h2;refine ⟨jP (a:=ca) (by rw [<- o.out.1];exact d.out) ⟨j,(ZC j).2 ⟨h1,s⟩⟩,?_⟩;rw [o.out.1];simp;omega
 clear F d o m z I H g5;by_cases hw:O1 ca=[109,97,107,101];rotate_left
 · have c:=U0 (p.out (fun h=>hw h.1));have K:¬ (J3 (O1 ca)).toList=[109,97,107,101]:=by rw [ByteArray.toList_eq];simpa [J3] using hw
   have e3:((J3 (O1 ca)).toList==[109,97,107,101])=false:=by simpa using K
   clear p D;unfold M3.v
   go_wp2_with fail
   go_region
   all_goals go_wp2
   all_goals go_ret2
   all_goals exact ⟨Gx _ _ _ c.out,by first | exact b.alloc b.size _ | exact (b.alloc b.size _).drew⟩
 have K:(J3 (O1 ca)).toList=[109,97,107,101]:=by rw [hw,ByteArray.toList_eq];rfl
 have e3:((J3 (O1 ca)).toList==[109,97,107,101])=true:=by simpa using K
 cases ok
 · have c:=U0 (p.out X4);clear p D hw;unfold M3.v
   go_wp2_with fail
   go_region
   all_goals go_wp2
   all_goals go_ret2
   all_goals exact ⟨Gx _ _ _ c.out,by first | exact b.alloc b.size _ | exact (b.alloc b.size _).drew⟩
 obtain ⟨Q,hw2⟩:=D.out hw rfl;have HW:=U0 Q;clear p D Q hw;unfold M3.v
 go_wp2_with (at_builtin;refine wpList_append_own _ rfl _ _ 113 rfl w.heap.size 135 i0 (.agg #[.string ⟨#[]⟩,.string ⟨#[]⟩,.string ⟨#[]⟩]) 3 48 underlying113 hi hz0 hz1 hz2 rfl o6 _ _ _ rfl ((V.alloc _).alloc _) ⟨O.heap.size+1,0,none⟩ 1 1 [_,_,_] rfl rfl (VX X4 _ _ _ _) (by intro u R;simp at R;rcases R with rfl | rfl | rfl <;> rfl) (by unfold maxLen;omega) O0 U7 ?_;intro v' w4 hown4 W _;have HG:Hid (Below w.heap.size w w4):=((b.alloc b.size _).alloc U7 _).grown W U7 (fun k g=>(V.lt k g).1);clear W)
 go_roundw
 case rel=>
  refine ⟨cb,ms++[x],rfl,HW,?_,HG.out⟩;rw [Us,D9];exact hown4
 case measure=>simp only [T.strOf,I5];exact hw2
theorem a4e (s:BY) (w:World) (a:s.size<=1048576) (hv:Gy w):
 Calls prog 172 #[.string s] w fun e w'=>KW w s.data.toList e w'/\Below w.heap.size w w':=by
 by_cases h:300<s.size
 · exact TL s w a h hv
 have:=GH s.data.toList w U7 hv;rw [bn] at this;exact this
theorem Ny {fs:List F2} (hm:T.Asc fs) (h:T.Place fs nm p f):(f=true->∃ i,i=p/\i<fs.length/\(fs.getD i I8).nm=nm)/\(f=false->Free fs nm):=by
 constructor
 · intro hf;exact ⟨p,rfl,(h.here.1 hf).1,(h.here.1 hf).2⟩
 intro hf j a e;rcases Qv j p with h1 | h1 | h1
 · have:=h.less j h1;rw [e,T.Ic] at this;cases this
 · subst h1;have:=h.here.2 ⟨a,e⟩;rw [hf] at this;cases this
 have b:=hm p j h1 a;rw [e] at b;have a2:=h.more p H8 O0;rw [b] at a2;cases a2
theorem rzF (a:Below (w.heap.size+2) ((w.alloc (.cells #[v] 40)).alloc (.cells #[.string ⟨#[]⟩,.string ⟨#[]⟩] 133)) u):
 u.cell? ⟨w.heap.size,0,none⟩=some v/\(u.cell? ⟨w.heap.size+1,0,none⟩=some (.string ⟨#[]⟩)/\u.cell? ⟨w.heap.size+1,1,none⟩=some (.string ⟨#[]⟩))/\u.frozen? ⟨w.heap.size+1,0,none⟩=false/\u.frozen? ⟨w.heap.size+1,1,none⟩=false:=by
 have c:∀ b j,b<w.heap.size+2->u.cell? ⟨b,j,none⟩=((w.alloc (.cells #[v] 40)).alloc (.cells #[vE,vE] 133)).cell? ⟨b,j,none⟩:=fun b j h=>a.cell (by exact h);have f:∀ b j,b<w.heap.size+2->u.frozen? ⟨b,j,none⟩=((w.alloc (.cells #[v] 40)).alloc (.cells #[vE,vE] 133)).frozen? ⟨b,j,none⟩:=fun b j h=>a.frozen (by exact h);rw [c _ _ O0,c _ _ O0,c _ _ O0,f _ _ O0,f _ _ O0];simp [go_sem]
theorem fG (u:World) (B:Nat) (a b x0 x1:Value) (h0:u.cell? ⟨B,0,none⟩=some x0) (h1:u.cell? ⟨B,1,none⟩=some x1):
 ((u.setCell ⟨B,0,none⟩ a).setCell ⟨B,1,none⟩ b).cell? ⟨B,0,none⟩=some a/\((u.setCell ⟨B,0,none⟩ a).setCell ⟨B,1,none⟩ b).cell? ⟨B,1,none⟩=some b:=by
 have c:(u.setCell ⟨B,0,none⟩ a).cell? ⟨B,1,none⟩=some x1:=by rw [Na _ _ _ _ (Ed O0)];exact h1
 refine ⟨?_,jg _ _ _ c⟩;rw [Na _ _ _ _ (Ed O0)];exact jg _ _ _ h0
def rZ (fs:List F2) (nm:BY) (e:Ending):Prop:=∃ (x:F2) (there:Bool),e=.returned (.tuple #[.agg #[.string x.nm,.string x.tx],.bool there])/\((there=true/\∃ i,i<fs.length/\fs.getD i I8=x/\x.nm=nm)\/(there=false/\Free fs nm))
theorem c171 (a:OA) (g:Nat) (fs:List F2) (nm:BY) (w:World) (hl:fs.length<=40) (y:G6 w a fs) (hm:T.Asc fs):
 Calls prog 171 #[.agg #[.slice a fs.length g],.string nm] w fun e w'=>rZ fs nm e/\Below w.heap.size w w':=by
 have z:Below w.heap.size w ((w.alloc (.cells #[vL a fs.length g] 40)).alloc (.cells #[vE,vE] 133)):=P6.alloc X4 _;have A:=T.c173 a g fs nm _ hl (T.J5 y z) hm;go_enter func171,ntmps171
 go_wp2_with fail
 refine A.mono ?_;rintro e j ⟨⟨p,f,rfl,k⟩,u⟩;obtain ⟨n,m⟩:=Ny hm k;have r:Below (w.heap.size+2) ((w.alloc (.cells #[vL a fs.length g] 40)).alloc (.cells #[vE,vE] 133)) j:=KD u;have d:=z.trans (r.mono O0);obtain ⟨t0,⟨q,o⟩,y0,y1⟩:=rzF r;clear u A;cases f
 · have h:Hid (rZ fs nm (.returned (.tuple #[.agg #[vE,vE],.bool false]))):=⟨⟨⟨#[]⟩,⟨#[]⟩⟩,false,rfl,.inr ⟨rfl,m rfl⟩⟩;clear n m k;go_wp2;have F:=fG j (w.heap.size+1) vE vE _ _ q o;refine Y6 (v:=.tuple #[.agg #[vE,vE],.bool false]) (by simp [results,results171,go_sem,F.1,F.2]) rfl ⟨h.out,?_⟩;exact (d.setCell X4 _).setCell X4 _
 obtain ⟨i,rfl,c,s⟩:=n rfl;obtain ⟨b,off,hc⟩:=T.Z9 y;obtain ⟨ha,t,l⟩:=Cc hc c;subst ha;have g0:=(d.cell (p:=⟨b,off+i*2,none⟩) t).trans (l i c).1;have g1:=(d.cell (p:=⟨b,off+i*2+1,none⟩) t).trans (l i c).2;have h:Hid (rZ fs nm (.returned (.tuple #[.agg #[vS (fs.getD i I8).nm,vS (fs.getD i I8).tx],.bool true]))):=⟨_,true,rfl,.inl ⟨rfl,i,c,rfl,s⟩⟩;have B:Hid (∃ x,x=fs.getD i I8):=⟨_,rfl⟩;obtain ⟨x,hx⟩:=B.out;rw [<- hx] at g0 g1 h;clear n m k l B hx s;go_wp2;have F:=fG j (w.heap.size+1) (vS x.nm) (vS x.tx) _ _ q o;refine Y6 (v:=.tuple #[.agg #[vS x.nm,vS x.tx],.bool true]) (by simp [results,results171,go_sem,F.1,F.2]) rfl ⟨h.out,?_⟩;exact (d.setCell X4 _).setCell X4 _
structure Vr (w:World):Prop where
 vr:Gy w
 gT:∃ t v,w.cell? ⟨0,0,none⟩=some (.iface t v)
theorem Vr.below {w':World} (h:Vr w) (a:Below w.heap.size w w'):Vr w':=by
 have hp:=h.vr.va.pos;obtain ⟨t,v,h0⟩:=h.gT;exact ⟨h.vr.below a,t,v,(a.cell (p:=⟨0,0,none⟩) (by show 0<w.heap.size;omega)).trans h0⟩
theorem zC {fs:List F2} (h:G_ fs) (a:i<fs.length):(fs.getD i I8).tx.size<=300:=by
 have:=h.2 i a;unfold T.Ce at this;simp only [V_] at this;have h1:=this.1;unfold T.Q_ at h1;simp only [V_,Ud] at h1;have:=h1.2;omega
def UZ (w:World) (fs:List F2) (e:Ending) (w':World):Prop:=∃ (ms:List M3) (v er:Value),e=.returned (.tuple #[v,er])/\w'.ownsRow w.heap.size 135 3 v ms.length (Oa ms)/\((er=.nilIface/\Jj fs ms)\/((∃ n ty va,er=.iface 252 (.agg #[.int .i64 n,.iface ty va]))/\Jj fs []))
theorem a3N (a:OA) (r:Nat) (fs:List F2) (w:World) (A:G_ fs) (K:G6 w a fs) (hv:Vr w):
 Calls prog 121 #[.agg #[.slice a fs.length r]] w fun e w'=>UZ w fs e w'/\Below w.heap.size w w':=by
 have HV:=U0 hv;have E:=U0 A;have HAT:=U0 K;have hl:=A.1;have hm:=T.Uh A;have HM:=U0 hm;have hB0:Below w.heap.size w (w.alloc (.cells #[vL a fs.length r] 40)):=P6;have P:=c171 a r fs Ir _ hl (T.J5 K hB0) hm;clear hv A K hm;unfold Ir at P;go_enter func121,ntmps121
 go_wp2_with fail
 refine P.mono ?_;rintro e q ⟨⟨x,there,rfl,hx⟩,hb1⟩;clear P;have H:Below (w.heap.size+1) (w.alloc (.cells #[vL a fs.length r] 40)) q:=KD hb1;have C:=hB0.trans (H.mono O0);have hz1:w.heap.size+1<=q.heap.size:=by have:=H.size;simpa using this
 have t1:q.cell? ⟨w.heap.size,0,none⟩=some (vL a fs.length r):=(H.cell (p:=⟨w.heap.size,0,none⟩) X4).trans (by simp [go_sem]);clear hb1;cases there
 · have m:Hid (Jj fs []):=by
    rcases hx with ⟨h,_⟩ | ⟨_,h⟩
    · cases h
    exact .inr (.inl ⟨E.out,h,rfl⟩)
   clear hx;go_wp2;go_ret2;exact ⟨⟨[],_,_,rfl,mg _ _ _ _,.inl ⟨rfl,m.out⟩⟩,C.alloc C.size _⟩
 have l:Hid (∃ i,i<fs.length/\fs.getD i I8=x/\x.nm=Ir):=by
  rcases hx with ⟨_,h⟩ | ⟨h,_⟩
  · exact h
  cases h
 have hxt:x.tx.size<=300:=by
  obtain ⟨i,g,rfl,_⟩:=l.out;exact zC E.out g
 have z:Hid (∀ d ok,La x.tx.data.toList d ok->¬ (ok=true/\Zl fs d)->Jj fs []):=fun d ok c t=>by
  obtain ⟨i,g,rfl,I⟩:=l.out;exact .inr (.inr ⟨E.out,i,g,I,d,ok,c,.inr ⟨t,rfl⟩⟩)
 have D:Hid (∀ d,La x.tx.data.toList d true->Zl fs d->Jj fs d):=fun d c t=>by
  obtain ⟨i,g,rfl,I⟩:=l.out;exact .inr (.inr ⟨E.out,i,g,I,d,true,c,.inl ⟨rfl,t,rfl⟩⟩)
 clear hx l;have hA1:Below w.heap.size w (q.alloc (.cells #[vS x.nm,vS x.tx] 133)):=C.alloc C.size _
 go_wp2_with fail
 refine (a4e x.tx _ O0 (HV.out.below hA1).vr).mono ?_;rintro e s ⟨⟨ms,v,er,rfl,V,hor⟩,B⟩;have O:=X5 hA1 B;have hz2:q.heap.size+1<=s.heap.size:=by have:=B.size;simpa using this
 have t2:=(B.cell (p:=⟨w.heap.size,0,none⟩) U7).trans (past (by show w.heap.size<q.heap.size;omega) t1 _);have U:s.ownsRow w.heap.size 135 3 v ms.length (Oa ms):=Yf V U7;clear V B;obtain ⟨ao,co,hvv⟩:=Ap U;subst hvv;rcases hor with ⟨rfl,c⟩ | ⟨⟨n,ty,va,rfl⟩,c⟩;rotate_left
 · have m:=U0 (z.out _ _ c X4);clear c z D;go_wp2;go_ret2;exact ⟨⟨[],_,_,rfl,mg _ _ _ _,.inr ⟨⟨n,ty,va,rfl⟩,m.out⟩⟩,O⟩
 have HP:=U0 c;obtain ⟨hml,hms⟩:=Rq c;clear c
 go_wp2_with fail
 go_loopw [30] (fun i wr=>∃ (k:Nat),k<=ms.length/\i=.int .i64 k/\Hid (∀ j,j<k->Free fs (ms.getD j D_).nm)/\Below s.heap.size s wr) (fun i _=>ms.length - (RowKit.intOf i).toNat)
 case atStart=>exact ⟨0,J4 _,rfl,fun j h=>absurd h (J8 _),Z4 _ _⟩
 obtain ⟨k,hk,rfl,W,u⟩:=hrel;have L:=X5 O u;have S:=ownsRow_below U u;have hzr:=u.size;have tr:=(u.cell (p:=⟨w.heap.size,0,none⟩) (by show w.heap.size<s.heap.size;omega)).trans t2;by_cases J:k<ms.length;rotate_left
 · obtain rfl:k=ms.length:=O0;have m:=U0 (D.out _ HP.out (fun i g=>W.out i g));clear z D;go_wp2;go_ret2;exact ⟨⟨ms,_,_,rfl,S,.inl ⟨rfl,m.out⟩⟩,L⟩
 obtain ⟨ao',co',hv',a4K⟩:=Dp S;injection hv' with e1 e2 e3;subst e1 e3;obtain ⟨b,off,hc⟩:=Ej a4K;obtain ⟨hao,hbw,X⟩:=Cc hc J;subst hao;obtain ⟨g0,g1,g2⟩:=X k J;have l:Hid (∃ y,y=ms.getD k D_):=⟨_,rfl⟩;obtain ⟨y,F⟩:=l.out;rw [<- F] at g0 g1 g2;have HY:=U0 F;clear F l X a4K;have hAr:∀ o,Below w.heap.size w (wr.alloc o):=fun o=>L.alloc L.size _;have h35:=fun o=>T.c173 a r fs y.nm (wr.alloc o) hl (T.J5 HAT.out (hAr o)) HM.out;have tr':=past (by show w.heap.size<wr.heap.size;omega) tr
 go_wp2_with fail
 refine (h35 _).mono ?_;rintro e w3 ⟨⟨p,f,rfl,c⟩,Z⟩;obtain ⟨R,Q⟩:=Ny HM.out c;have Y:=(u.alloc hzr _).trans (Z.mono U7);have N:=X5 O Y;clear h35 c Z;cases f
 · have a4Z:Hid (∀ j,j<k+1->Free fs (ms.getD j D_).nm):=fun j hj=>by
    rcases Q7 j k with h | h
    · exact W.out j h
    obtain rfl:j=k:=O0;rw [<- HY.out];exact Q rfl
   clear R Q;go_wp2;go_roundw
   case rel=>exact ⟨k+1,O0,by go_num,a4Z,Y⟩
   case measure=>simp [RowKit.intOf];omega
 have m:Hid (Jj fs []):=by
  refine z.out _ _ HP.out fun h=>?_;obtain ⟨i,_,g,t⟩:=R rfl;have:=h.2 k J i g;rw [<- HY.out] at this;exact this t
 obtain ⟨t5,v5,g5⟩:=(HV.out.below N).gT;clear R Q z D
 go_wp2_with fail
 try go_region
 all_goals go_wp2
 all_goals go_ret2
 all_goals exact ⟨⟨[],_,_,rfl,mg _ _ _ _,.inr ⟨⟨_,_,_,rfl⟩,m.out⟩⟩,by first | exact N | exact N.drew⟩
def Is7 (w:World) (fs:List F2) (e:Ending) (w':World):Prop:=∃ (ms:List M3) (v:Value),e=.returned v/\w'.ownsRow w.heap.size 135 3 v ms.length (Oa ms)/\Jj fs ms
theorem c76 (a:OA) (c:Nat) (fs:List F2) (w:World) (hl:fs.length<=1048576) (E:∀ i,(fs.getD i I8).le 1048576) (m:G6 w a fs) (hv:Vr w):
 Calls prog 76 #[.agg #[.slice a fs.length c]] w fun e w'=>Is7 w fs e w'/\Below w.heap.size w w':=by
 have A:=U0 hv;have L:=U0 m;have x:Below w.heap.size w (w.alloc (.cells #[vL a fs.length c] 40)):=P6;have z:=T.gZ a c fs _ hl E (T.J5 m x);clear hv m;go_enter func76,ntmps76
 go_wp2_with fail
 refine z.mono ?_;rintro e f ⟨⟨b,rfl,j⟩,u⟩;have l:Below (w.heap.size+1) (w.alloc (.cells #[vL a fs.length c] 40)) f:=KD u;have k:=x.trans (l.mono O0);have hz1:w.heap.size+1<=f.heap.size:=by have:=l.size;simpa using this
 have t1:f.cell? ⟨w.heap.size,0,none⟩=some (vL a fs.length c):=(l.cell (p:=⟨w.heap.size,0,none⟩) X4).trans (by simp [go_sem]);clear u z;cases b
 · have J:Hid (Jj fs []):=.inl ⟨(fun h=>by have:=j.2 h;cases this),rfl⟩;clear j;go_wp2;go_ret;exact ⟨⟨[],_,rfl,mg _ _ _ _,J.out⟩,k⟩
 have K:=U0 (j.1 rfl);clear j;have y:=a3N a c fs f K.out (T.J5 L.out k) (A.out.below k)
 go_wp2_with fail
 refine y.mono ?_;rintro e C ⟨⟨ms,v,er,rfl,t,H⟩,I⟩;have q:=X5 k I;have s:C.ownsRow w.heap.size 135 3 v ms.length (Oa ms):=Yf t O0;obtain ⟨ao,co,D⟩:=Ap s;subst D;clear y t;rcases H with ⟨rfl,d⟩ | ⟨⟨n,ty,va,rfl⟩,d⟩
 · have r:=U0 d;clear d
   go_wp2_with fail
   refine (aP _).mono ?_;rintro e B ⟨rfl,g⟩;have F:=ownsRow_below s g;have o:=X5 q g;go_wp2;go_ret;exact ⟨⟨ms,_,rfl,F,r.out⟩,o⟩
 have r:=U0 d;clear d
 go_wp2_with fail
 refine (uS n ty va _ (A.out.below q).vr.va.g6).mono ?_;rintro e B ⟨rfl,g⟩;have o:=X5 q g;go_wp2;go_ret;exact ⟨⟨[],_,rfl,mg _ _ _ _,r.out⟩,o⟩
def Is5 (fs:List F2) (e:Ending) (w':World):Prop:=∃ (ms:List M3) (a:OA) (cap:Nat),e=.returned (.slice a ms.length cap)/\Bo w' a ms/\Jj fs ms
theorem c146 (a:OA) (d:Nat) (fs:List F2) (w:World) (hl:fs.length<=1048576) (hs:∀ i,(fs.getD i I8).le 1048576) (P:G6 w a fs):
 Calls prog 146 #[.agg #[.slice a fs.length d]] w fun e w'=>Is5 fs e w'/\Below w.heap.size w w':=by
 have R:=U0 P;have hB0:Below w.heap.size w (w.alloc (.cells #[vL a fs.length d] 40)):=P6;have v:=T.c193 a d fs Ir _ hl (T.J5 P hB0);clear P;unfold Ir at v;go_enter func146,ntmps146
 go_wp2_with fail
 refine v.mono ?_;rintro e n ⟨⟨r,rfl,hr⟩,hb1⟩;have L:Below (w.heap.size+1) (w.alloc (.cells #[vL a fs.length d] 40)) n:=KD hb1;have hB1:=hB0.trans (L.mono O0);have hz1:w.heap.size+1<=n.heap.size:=by have:=L.size;simpa using this
 have t1:n.cell? ⟨w.heap.size,0,none⟩=some (vL a fs.length d):=(L.cell (p:=⟨w.heap.size,0,none⟩) X4).trans (by simp [go_sem]);have h15:=T.VZ a d fs n hl hs (T.J5 R.out hB1);clear hb1 v
 go_wp2_with fail
 refine h15.mono ?_;rintro e w2 ⟨⟨b,rfl,C⟩,B⟩;have m:=X5 hB1 B;have hz2:=B.size;have t2:=(B.cell (p:=⟨w.heap.size,0,none⟩) (by show w.heap.size<n.heap.size;omega)).trans t1;clear h15 B t1;cases b
 · have l:Hid (Jj fs []):=.inl ⟨(fun h=>by have:=C.2 h;cases this),rfl⟩;clear C hr;go_wp2;go_ret;exact ⟨⟨[],_,_,rfl,.inl rfl,l.out⟩,m.alloc m.size _⟩
 have F:=U0 (C.1 rfl);clear C;rcases hr with ⟨rfl,Y⟩ | ⟨i,rfl,q,N⟩
 · have l:Hid (Jj fs []):=.inr (.inl ⟨F.out,Y,rfl⟩);clear Y;go_wp2;go_ret;exact ⟨⟨[],_,_,rfl,.inl rfl,l.out⟩,m.alloc m.size _⟩
 have hxt:=zC F.out q;have H:Hid (∀ c ok,La (fs.getD i I8).tx.data.toList c ok->¬ (ok=true/\Zl fs c)->Jj fs []):=fun c ok f O=>.inr (.inr ⟨F.out,i,q,N,c,ok,f,.inr ⟨O,rfl⟩⟩);have E:Hid (∀ c,La (fs.getD i I8).tx.data.toList c true->Zl fs c->Jj fs c):=fun c f O=>.inr (.inr ⟨F.out,i,q,N,c,true,f,.inl ⟨rfl,O,rfl⟩⟩);obtain ⟨bf,off,hc⟩:=T.Z9 (T.J5 R.out m);obtain ⟨ha,hbw,t⟩:=Cc hc q;subst ha;have g1:=(t i q).2;have z:Hid (∃ x,x=fs.getD i I8):=⟨_,rfl⟩;obtain ⟨x,hx⟩:=z.out;rw [<- hx] at g1 H E hxt;clear t z hx N
 go_wp2_with fail
 refine (a2T x.tx _ O0).mono ?_;rintro e I ⟨⟨ms,ok,am,cm,rfl,a4K,f⟩,A⟩;have hB3:=X5 m A;have hz3:=A.size;have t3:=(A.cell (p:=⟨w.heap.size,0,none⟩) (by show w.heap.size<w2.heap.size;omega)).trans t2;have HP:=U0 f;obtain ⟨hml,hms⟩:=Rq f;have a5s:=U0 a4K;clear f A t2 a4K
 go_wp2_with fail
 go_loopw [5,6] (fun o i wr=>∃ (k:Nat) (b:Bool),k<=ms.length/\i=.int .i64 k/\o=.bool b/\Hid (b=true↔ok=true/\∀ j,j<k->Free fs (ms.getD j D_).nm)/\Below I.heap.size I wr) (fun _ i _=>ms.length - (RowKit.intOf i).toNat)
 case atStart=>exact ⟨0,ok,J4 _,rfl,rfl,⟨fun h=>⟨h,fun j h=>absurd h (J8 _)⟩,fun h=>h.1⟩,Z4 _ _⟩
 obtain ⟨k,b,hk,rfl,rfl,s,g⟩:=hrel;have D:=X5 hB3 g;have hzr:=g.size;have tr:=(g.cell (p:=⟨w.heap.size,0,none⟩) (by show w.heap.size<I.heap.size;omega)).trans t3;by_cases Z:k<ms.length;rotate_left
 · obtain rfl:k=ms.length:=O0;cases b
   · have l:=U0 (H.out _ _ HP.out (fun h=>by have:=s.out.2 h;cases this));clear H E;go_wp2;go_ret;exact ⟨⟨[],_,_,rfl,.inl rfl,l.out⟩,D.alloc D.size _⟩
   obtain ⟨h1,h2⟩:=s.out.1 rfl;subst h1;have l:=U0 (E.out _ HP.out h2);have a6i:=U0 (Qk a5s.out g);clear H E h2;go_wp2;go_ret;exact ⟨⟨ms,_,_,rfl,a6i.out,l.out⟩,D⟩
 cases b
 · have a4Z:Hid (false=true↔ok=true/\∀ j,j<k+1->Free fs (ms.getD j D_).nm):=⟨(fun h=>by cases h),fun h=>s.out.2 ⟨h.1,fun j hj=>h.2 j O0⟩⟩
   go_wp2_with fail
   refine wp_region_held_drew (S:=(fun _=>True)) Y2 ?_ fun hHeld=>?_
   · ((try dsimp only);(first | done | trivial))
   refine Y0 0 ?_;refine Y0 1 ?_;refine E5 2 ?_;refine E5 3 ?_;refine E5 4 ?_;refine E5 5 ?_;refine E5 6 ?_;refine E5 7 ?_;refine E5 8 ?_;refine E5 9 ?_;refine Y0 10 ?_;refine Y0 11 ?_;refine wpAnyH_done Y2 ?_ _;clear hHeld;go_wp2;go_roundw
   case rel=>exact ⟨k+1,false,O0,by go_num,rfl,a4Z,g.drew⟩
   case measure=>simp [RowKit.intOf];omega
 obtain ⟨bm,V,hc⟩:=Ej (Qk a5s.out g);obtain ⟨hao,a6j,t⟩:=Cc hc Z;subst hao;have g0:=(t k Z).1;have z:Hid (∃ y,y=ms.getD k D_):=⟨_,rfl⟩;obtain ⟨y,J⟩:=z.out;rw [<- J] at g0;have HY:=U0 J;clear J z t;have hwz:w.heap.size<wr.heap.size:=O0;have v:=fun u (hu:Below w.heap.size w u)=>T.c193 (some ⟨bf,off,none⟩) d fs y.nm u hl (T.J5 R.out hu)
 go_wp2_with fail
 refine wp_region_held_drew (S:=(fun u=>u.cell? ⟨w.heap.size,0,none⟩=some (vL (some ⟨bf,off,none⟩) fs.length d)/\u.cell? ⟨bm,V+k*3,none⟩=some (vS y.nm))) Y2 ?_ fun hHeld=>?_
 · ((try dsimp only);go_keep)
 refine Y0 0 ?_;refine Y0 1 ?_;refine Y0 2 ?_;refine Y0 3 ?_;refine Y0 4 ?_;refine Y0 5 ?_;refine Y0 6 ?_;refine Y0 7 ?_;refine rq 8 fun K hK=>?_;go_simp;refine (v _ D.drew).mono ?_;rintro e w4 ⟨⟨U,rfl,X⟩,hb4⟩;have Q:Hid (Below wr.heap.size wr w4):=(Z4 _ _).drew.trans hb4;have HR4:=U0 X;clear X;have e1:=(Q.out.cell (p:=⟨w.heap.size,0,none⟩) (by exact hwz)).trans tr;have e2:=(Q.out.cell (p:=⟨bm,V+k*3,none⟩) (by exact a6j)).trans g0
 go_wp2_with fail
 clear hHeld;refine PL hK fun hHeld=>?_;clear hK K;refine Y0 9 ?_;refine Y0 10 ?_;refine Y0 11 ?_;refine wpAnyH_done Y2 ?_ _;clear hHeld;have a6k:=g.trans (Q.out.mono hzr);have HF:Hid (decide (U<0)=true↔ok=true/\∀ j,j<k+1->Free fs (ms.getD j D_).nm):=by
  constructor
  · intro h;have h:=TI h;refine ⟨(s.out.1 (by first | rfl | trivial)).1,fun j hj=>?_⟩;rcases Q7 j k with h1 | h1
    · exact (s.out.1 (by first | rfl | trivial)).2 j h1
    obtain rfl:j=k:=O0;rw [<- HY.out];rcases HR4.out with ⟨_,h2⟩ | ⟨W,h2,_⟩
    · exact h2
    omega
  intro h;apply C_;rcases HR4.out with ⟨h2,_⟩ | ⟨W,h2,h3,h4⟩
  · omega
  exact absurd (by rw [<- HY.out];exact h4) (h.2 k O0 W h3)
 go_wp2;go_roundw
 case rel=>exact ⟨k+1,decide (U<0),O0,by go_num,rfl,HF,a6k⟩
 case measure=>simp [RowKit.intOf];omega
theorem CQ (h:jd ms=true):mD ms:=by
 have h2:=((Ui ms).1 h).2;have b:∀ j,j+1<ms.length->lt (ms.getD j D_).nm (ms.getD (j+1) D_).nm=true:=fun j a=>by
  have:=h2 (j+1) a;unfold stepM at this;simp only [V_,ZH,Ud] at this;rcases this.2 with h | h
  · omega
  exact h
 intro i j hij
 induction j with
 | zero=>omega
 | succ j ih=>
  intro a;rcases Q7 i j with h1 | h1
  · exact Xf (ih h1 O0) (b j a)
  obtain rfl:i=j:=O0;exact b i a
theorem PD:mD []:=fun _ _ _ h=>absurd h (J8 _)
theorem wR {fs:List F2} (h:Jj fs ms):mD ms:=by
 rcases h with ⟨_,rfl⟩ | ⟨_,_,rfl⟩ | ⟨_,i,hi,hn,ks,ok,a,hr⟩
 · exact PD
 · exact PD
 rcases hr with ⟨rfl,_,rfl⟩ | ⟨_,rfl⟩
 · exact CQ (a.1 rfl).1
 exact PD
theorem rzN (a:Below (w.heap.size+2) ((w.alloc (.cells #[v] 40)).alloc (.cells #[.string ⟨#[]⟩,.string ⟨#[]⟩,.string ⟨#[]⟩] 135)) u):
 (u.cell? ⟨w.heap.size+1,0,none⟩=some (.string ⟨#[]⟩)/\u.cell? ⟨w.heap.size+1,1,none⟩=some (.string ⟨#[]⟩)/\u.cell? ⟨w.heap.size+1,2,none⟩=some (.string ⟨#[]⟩))/\u.frozen? ⟨w.heap.size+1,0,none⟩=false/\u.frozen? ⟨w.heap.size+1,1,none⟩=false/\u.frozen? ⟨w.heap.size+1,2,none⟩=false:=by
 have c:∀ b j,b<w.heap.size+2->u.cell? ⟨b,j,none⟩=((w.alloc (.cells #[v] 40)).alloc (.cells #[vE,vE,vE] 135)).cell? ⟨b,j,none⟩:=fun b j h=>a.cell (by exact h);have f:∀ b j,b<w.heap.size+2->u.frozen? ⟨b,j,none⟩=((w.alloc (.cells #[v] 40)).alloc (.cells #[vE,vE,vE] 135)).frozen? ⟨b,j,none⟩:=fun b j h=>a.frozen (by exact h);rw [c _ _ O0,c _ _ O0,c _ _ O0,f _ _ O0,f _ _ O0,f _ _ O0];simp [go_sem]
def NQ (fs:List F2) (nm:BY) (e:Ending):Prop:=∃ ms,Jj fs ms/\vW ms nm e
theorem c98 (a:OA) (l:Nat) (fs:List F2) (nm:BY) (w:World) (hl:fs.length<=1048576) (r:∀ i,(fs.getD i I8).le 1048576) (z:G6 w a fs):
 Calls prog 98 #[.agg #[.slice a fs.length l],.string nm] w fun e w'=>NQ fs nm e/\Below w.heap.size w w':=by
 have C:=fun u (K:Below w.heap.size w u)=>c146 a l fs u hl r (J5 z K);have B:∀ o1 o2,Below w.heap.size w ((w.alloc o1).alloc o2):=fun o1 o2=>P6.alloc X4 _;go_enter func98,ntmps98
 go_wp2_with fail
 refine (C _ (B _ _)).mono ?_;rintro e c ⟨⟨ms,a1,cap1,rfl,t,d⟩,g⟩;have A:=(B _ _).trans (g.mono U7);have q:Below (w.heap.size+2) ((w.alloc (.cells #[vL a fs.length l] 40)).alloc (.cells #[vE,vE,vE] 135)) c:=KD g;obtain ⟨⟨p,o,n⟩,y0,y1,y2⟩:=rzN q;have hlm:=iG d;obtain ⟨b,off,hc⟩:=Ej t;have L:=U0 hc;have H:=U0 d;clear hc t d C g q z r
 go_wp2_with fail
 go_loop [7] (fun i=>∃ k:Nat,k<=ms.length/\i=.int .i64 k/\Hid (∀ j,j<k->(ms.getD j D_).nm≠nm)) (fun i=>ms.length - (RowKit.intOf i).toNat)
 case atStart=>exact ⟨0,J4 _,rfl,fun j h=>absurd h (J8 _)⟩
 obtain ⟨k,hk,rfl,s⟩:=hrel;by_cases f:k<ms.length;rotate_left
 · have m:Hid (NQ fs nm (.returned (.tuple #[.agg #[vE,vE,vE],.bool false]))):=⟨ms,H.out,⟨⟨#[]⟩,⟨#[]⟩,⟨#[]⟩⟩,false,rfl,.inr ⟨rfl,fun j J=>s.out j O0⟩⟩;go_wp2;have F:=Gp c (w.heap.size+1) 0 vE vE vE _ _ _ p o n;refine Y6 (v:=.tuple #[.agg #[vE,vE,vE],.bool false]) (by simp [results,results98,go_sem,F.1,F.2.1,F.2.2]) rfl ⟨m.out,?_⟩;exact ((A.setCell X4 _).setCell X4 _).setCell X4 _
 obtain ⟨ha,hbw,y⟩:=Cc L.out f;subst ha;obtain ⟨g0,g1,g2⟩:=y k f;have E:Hid (∃ x,x=ms.getD k D_):=⟨_,rfl⟩;obtain ⟨x,hx⟩:=E.out;rw [<- hx] at g0 g1 g2;have D:=U0 hx;clear y hx E;cases hq:(x.nm.toList==nm.toList)
 · have I:Hid (∀ j,j<k+1->(ms.getD j D_).nm≠nm):=fun j J=>by
    rcases Q7 j k with h | h
    · exact s.out j h
    obtain rfl:j=k:=O0;rw [<- D.out];intro e;rw [e] at hq;simp at hq
   go_wp2
   go_round
   case rel=>exact ⟨k+1,O0,by go_num,I⟩
   case measure=>simp [RowKit.intOf];omega
 have he:x.nm=nm:=by
  have:=Ko.1 hq;rw [ByteArray.toList_eq,ByteArray.toList_eq] at this;exact Df (Yk.1 this)
 have m:Hid (NQ fs nm (.returned (.tuple #[.agg #[vS x.nm,vS x.tl,vS x.ar],.bool true]))):=⟨ms,H.out,x,true,rfl,.inl ⟨rfl,k,f,D.out.symm,he⟩⟩;clear he;go_wp2;have F:=Gp c (w.heap.size+1) 0 (vS x.nm) (vS x.tl) (vS x.ar) _ _ _ p o n;refine Y6 (v:=.tuple #[.agg #[vS x.nm,vS x.tl,vS x.ar],.bool true]) (by simp [results,results98,go_sem,F.1,F.2.1,F.2.2]) rfl ⟨m.out,?_⟩;exact ((A.setCell X4 _).setCell X4 _).setCell X4 _
end
end Go.Proofs.YtchjpjmcnhjbcaaGreatDoor.G
namespace Go.Proofs.YtchjpjmcnhjbcaaGreatDoor
open Proofs.Tryz Go.RowKit
def mJ (rt:LB):Prop:=rt.length<=10/\∀ i,i<rt.length->Y5 (rt.getD i ByteArray.empty).data.toList=true/\rt.getD i ByteArray.empty∉rt.take i
theorem MG {w:World} {b off k:Nat} {rt:LB} (hk:k<=rt.length) (hl:b<w.heap.size) (h:∀ i,i<rt.length->w.cell? ⟨b,off+i,none⟩=some (.string (rt.getD i ByteArray.empty))):G.UF w (some ⟨b,off,none⟩) (rt.take k):=.inr ⟨b,off,rfl,hl,fun i a=>by
 have h1:i<rt.length:=by simp at a;omega
 have h2:i<k:=by simp at a;omega
 rw [h i h1];simp [List.getD,h1,h2]⟩
theorem Po {α:Type} {l:List α} {k:Nat} (a:k<=l.length):(l.take k).length=k:=by rw [B_,xq a]
theorem c74 (a:OA) (o:Nat) (rt:LB) (w:World) (hcp:rt.length<=o) (hl:rt.length<=1048576) (q:∀ i,(rt.getD i ByteArray.empty).size<=1048576) (r:P7 w a rt):
 Calls prog 74 #[.slice a rt.length o] w fun e w'=>Rb (mJ rt) e/\w'=w:=by
 obtain ⟨b,off,hc⟩:=K_ r;have D:=U0 hc;have y:=U0 q;clear hc r q;go_enter func74,ntmps74;by_cases t:rt.length<=10;rotate_left
 · have d:Hid (¬ mJ rt):=fun h=>t h.1;have z:(10:Int)<rt.length:=O0;go_wp2;go_ret;exact ⟨G5 d.out,rfl⟩
 have z:¬ (10:Int)<rt.length:=O0
 go_wp2_with fail
 go_loop [10] (fun i=>∃ k:Nat,k<=rt.length/\i=.int .i64 k/\Hid (∀ j,j<k->Y5 (rt.getD j ByteArray.empty).data.toList=true/\rt.getD j ByteArray.empty∉rt.take j)) (fun i=>rt.length - (RowKit.intOf i).toNat)
 case atStart=>exact ⟨0,J4 _,rfl,fun j h=>absurd h (J8 _)⟩
 case round=>
  obtain ⟨k,g,rfl,hd⟩:=hrel;by_cases f:k<rt.length;rotate_left
  · obtain rfl:k=rt.length:=O0;have x:Hid (mJ rt):=⟨t,hd.out⟩;go_wp2;go_ret;exact ⟨u_ x.out,rfl⟩
  obtain ⟨ha,v,n⟩:=Cc D.out f;subst ha;have g0:=n k f;have hsz:=y.out k;have C:Hid (Y5 (rt.getD k ByteArray.empty).data.toList=true/\rt.getD k ByteArray.empty∉rt.take k->∀ j,j<k+1->Y5 (rt.getD j ByteArray.empty).data.toList=true/\rt.getD j ByteArray.empty∉rt.take j):=fun l j hj=>by
   rcases Q7 j k with h | h
   · exact hd.out j h
   · obtain rfl:j=k:=O0;exact l
  have d:Hid (¬ (Y5 (rt.getD k ByteArray.empty).data.toList=true/\rt.getD k ByteArray.empty∉rt.take k)->¬ mJ rt):=fun l h=>l (h.2 k f);have m:=fun s=>G.c117 (some (aA b off)) o (rt.take k) s w (by rw [Po g];omega) (MG g v n);simp only [Po g] at m;have A:=U0 m;generalize rt.getD k ByteArray.empty=X at*;clear n hd m
  go_wp2_with fail
  refine (c116 X w O0).mono ?_;rintro e u ⟨rfl,hw⟩;obtain rfl:=hw.symm;by_cases c:Y5 X.data.toList=true;rotate_left
  · have p:=U0 (d.out (fun h=>c h.1));rw [Fh.2 c];go_wp2;go_ret;exact ⟨G5 p.out,rfl⟩
  rw [c]
  go_wp2_with fail
  refine (A.out X).mono ?_;rintro e u ⟨rfl,hw⟩;obtain rfl:=hw.symm;by_cases hm:X∈rt.take k
  · have p:=U0 (d.out (fun h=>h.2 hm));rw [G.Lh.2 hm];go_wp2;go_ret;exact ⟨G5 p.out,rfl⟩
  have B:=U0 (C.out ⟨c,hm⟩);rw [Fh.2 (fun h=>hm (G.Lh.1 h))];go_wp2
  go_round
  case rel=>exact ⟨k+1,O0,by go_num,B⟩
  case measure=>simp [RowKit.intOf];omega
theorem Au {P:Program} {ops:Array Oper} {Q:Exit->Act->World->Prop} {rest:List Oper} {o:Oper} {a:Act} {w:World} (hw:Region.wanted o (yielded ops a.tmps)=true) (ty:TypeId) (x:Operand) (ho:o.op=.load ty x) {B:Nat} {t:TypeId} {cs:List Value} {d:TypeDesc} (hx:a.eval x=.pointer (some ⟨B,0,none⟩)) (hB:Cl w B t cs) (b:P.underlying ty=some d) (hd:(match d with | .struct _ | .array _ _=>true | _=>false)=true) (c:(P.info? ty).map (·.size)=some cs.length) (h:wpList P ops Q rest (a.put o.dst (.agg cs.toArray)) w):wpList P ops Q (o::rest) a w:=by
 refine wpList_step fun K e=>?_;rw [X7 hw];unfold Oper.wp;rw [X8 ty x ho hx (fun i v hv=>by rw [L8,hB.cell];exact hv) b hd c];exact e _ _ h
def WC (ms:List M3) (rn:List Rn):Prop:=∀ i,i<rn.length->(∃ j,j<ms.length/\(ms.getD j D_).nm=(rn.getD i X_).nm)/\Gg (rn.getD i X_)/\(0<i->Op.bytesLess (rn.getD (i - 1) X_).nm.toList (rn.getD i X_).nm.toList=true)
theorem xR (x:Rn) (b:OA) (a:Nat):∀ v∈Nz (x,.slice b x.ls.length a),v.oneCell'=true:=fun v hv=>by
 simp [Nz] at hv;rcases hv with rfl|rfl|rfl|rfl|rfl|rfl<;>rfl
theorem c75 (a pa:OA) (cap pc:Nat) (rn:List Rn) (ms:List M3) (w:World) (hl:rn.length<=1048576) (Y:∀ i,(rn.getD i X_).le 1048576) (hm:ms.length<=300) (hasc:G.mD ms) (hat:Aj w a rn) (Z:G.Bo w pa ms):
 Calls prog 75 #[.slice a rn.length cap,.slice pa ms.length pc] w fun e w'=>Rb (WC ms rn) e/\Bw w w':=by
 obtain ⟨b,off,hc⟩:=N_ hat;have HC:=U0 hc;have HS:=U0 Y;have HA:=U0 hasc;have HK:=U0 Z;clear hc hat Y hasc Z;go_enter func75,ntmps75
 go_wp2_with fail
 go_loopw [11] (fun i wr=>∃ k:Nat,k<=rn.length/\i=.int .i64 k/\Hid (∀ i,i<k->(∃ j,j<ms.length/\(ms.getD j D_).nm=(rn.getD i X_).nm)/\Gg (rn.getD i X_)/\(0<i->Op.bytesLess (rn.getD (i - 1) X_).nm.toList (rn.getD i X_).nm.toList=true))/\Below w.heap.size w wr) (fun i _=>rn.length - (RowKit.intOf i).toNat)
 case atStart=>exact ⟨0,J4 _,rfl,fun j h=>absurd h (J8 _),Z4 _ _⟩
 case round=>
  obtain ⟨k,hk,rfl,hd,l⟩:=hrel;by_cases F:k<rn.length;rotate_left
  · obtain rfl:k=rn.length:=O0;have HY:Hid (WC ms rn):=hd.out;go_wp2;go_ret;exact ⟨u_ HY.out,l⟩
  obtain ⟨ha,J,I⟩:=Cc HC.out F;subst ha;have P:=U0 l;have a4s:=O9 J l.size;obtain ⟨d,c,gB,gL⟩:=(I k F).below J l;have HP:Hid (wr.cell? (aA b (off+(k - 1)*6))=some (vS (rn.getD (k - 1) X_).nm)):=by
   obtain ⟨_,_,g,_⟩:=(I (k - 1) O0).below J l;exact g 0 _ rfl
  have hxs:=U0 (HS.out k);have N:Hid (¬ ((∃ j,j<ms.length/\(ms.getD j D_).nm=(rn.getD k X_).nm)/\Gg (rn.getD k X_)/\(0<k->Op.bytesLess (rn.getD (k - 1) X_).nm.toList (rn.getD k X_).nm.toList=true))->¬ WC ms rn):=fun H h=>H (h k F);have HD:Hid (((∃ j,j<ms.length/\(ms.getD j D_).nm=(rn.getD k X_).nm)/\Gg (rn.getD k X_)/\(0<k->Op.bytesLess (rn.getD (k - 1) X_).nm.toList (rn.getD k X_).nm.toList=true))->∀ i,i<k+1->(∃ j,j<ms.length/\(ms.getD j D_).nm=(rn.getD i X_).nm)/\Gg (rn.getD i X_)/\(0<i->Op.bytesLess (rn.getD (i - 1) X_).nm.toList (rn.getD i X_).nm.toList=true)):=fun H j hj=>by
   rcases Q7 j k with h | h
   · exact hd.out j h
   · obtain rfl:j=k:=O0;exact H
  generalize rn.getD k X_=x at*;generalize rn.getD (k - 1) X_=y at*;have GB:=U0 gB;have GL:=U0 gL;clear I hd gB gL l
  go_upto_region 4 with (first | (refine Y9 rfl (X8 105 _ rfl (B:=b) (j:=off+k*6) (cs:=Nz (x,vL d x.ls.length c)) rfl GB.out underlying105 rfl Y2) ?_) | (refine y9 rfl 105 _ _ rfl (B:=wr.heap.size) (j:=0) rfl (vs:=Nz (x,vL d x.ls.length c)) rfl (Y4 wr [vE,vO,vE,vN,vO,vE] 105) H8 (xR x d c) Y2 ?_;intro z cz X))
  have C:Hid (Cl z wr.heap.size 105 [vS x.nm,vI x.md,vS x.wt,vL d x.ls.length c,vI x.cd,vS x.tx]):=cz;have Q:=U0 ((P6 (w:=wr) (o:=.cells #[vE,vO,vE,vN,vO,vE] 105)).trans (X.below H8));clear cz X;have W:=C.out.cell 0;simp only [@gz Value] at W
  go_wp2_with fail
  refine (G.a4c pa pc ms x.nm z hm (G.Qk HK.out (X5 P.out Q.out)) HA.out).mono ?_;rintro e U ⟨⟨m,th,rfl,f⟩,hb1⟩;clear W
  go_upto_region 5 with fail
  have R:=U0 (X5 hb1 (P6 (w:=U) (o:=.cells #[vS m.nm,vS m.tl,vS m.ar] 135)));generalize U.alloc (.cells #[vS m.nm,vS m.tl,vS m.ar] 135)=V at*;have CV:=U0 (C.out.below R.out C.out.lt);have E:=U0 (X5 Q.out R.out);have r:Bw V V.drew:=(Z4 _ _).drew;have D:=U0 (CV.out.below r CV.out.lt);have HQ:=U0 (X5 P.out E.out);clear hb1 C Q R;refine wp_region_held_drew (S:=fun u=>Cl u wr.heap.size 105 [vS x.nm,vI x.md,vS x.wt,vL d x.ls.length c,vI x.cd,vS x.tx]/\u.cell? (aA b (off+(k - 1)*6))=some (vS y.nm)/\u.cell? (aW wr 0)=some (vS x.nm)) Y2 ⟨D.out,((X5 E.out r).cell (by exact a4s)).trans HP.out,D.out.cell 0⟩ fun hH=>?_
  cases th with
  | false=>
   have n:=U0 (N.out (fun h=>by
    rcases f with ⟨h,_⟩ | ⟨_,f⟩
    · cases h
    obtain ⟨j,hj,e⟩:=h.1;exact f j hj e))
   clear f;refine Y0 0 ?_;refine Y0 1 ?_;refine Y0 2 ?_;refine E5 3 ?_;refine E5 4 ?_;refine E5 5 ?_;refine Y0 6 ?_;refine Y0 7 ?_;refine E5 8 ?_;refine E5 9 ?_;refine E5 10 ?_;refine E5 11 ?_;refine E5 12 ?_;refine E5 13 ?_;refine E5 14 ?_;refine E5 15 ?_;refine E5 16 ?_;refine E5 17 ?_;refine E5 18 ?_;refine E5 19 ?_;refine E5 20 ?_;refine Y0 21 ?_;refine wdn ?_;go_wp2;go_ret;exact ⟨G5 n.out,HQ.out.drew⟩
  | true=>
   have HM:Hid (∃ j,j<ms.length/\(ms.getD j D_).nm=x.nm):=by
    rcases f with ⟨_,i,hi,e1,e2⟩ | ⟨h,_⟩
    · exact ⟨i,hi,by rw [e1];exact e2⟩
    cases h
   clear f;refine Y0 0 ?_;refine Y0 1 ?_;refine Y0 2 ?_;refine tq 3 hH ?_ (hv:=fun u hu=>X8 105 _ rfl (B:=wr.heap.size) (j:=0) (cs:=[vS x.nm,vI x.md,vS x.wt,vL d x.ls.length c,vI x.cd,vS x.tx]) rfl (fun q v e=>by rw [L8];exact (hu.1.cell q).trans e) underlying105 rfl Y2)
   try simp only [qq]
   refine rq 4 fun K hK=>?_;go_simp;refine (c119 x d c V.drew hxs.out (l7 GL.out (X5 E.out r))).mono ?_;rintro e w2 ⟨⟨bo,rfl,t⟩,L⟩;have B2:=U0 (X5 E.out (r.trans (L.mono H8)));have C2:=U0 (D.out.below L D.out.lt);have A:=U0 (X5 P.out B2.out);have HP2:=U0 (((B2.out).cell (p:=(aA b (off+(k - 1)*6))) a4s).trans HP.out);clear L
   go_wp2_with fail
   refine E8 hK ⟨C2.out,HP2.out,C2.out.cell 0⟩ fun hH=>?_;clear hK K
   cases bo with
   | false=>
    have n:=U0 (N.out (fun h=>by have:=t.2 h.2.1;cases this));clear t;refine Y0 5 ?_;refine Y0 6 ?_;refine Y0 7 ?_;refine E5 8 ?_;refine E5 9 ?_;refine E5 10 ?_;refine E5 11 ?_;refine E5 12 ?_;refine E5 13 ?_;refine E5 14 ?_;refine E5 15 ?_;refine E5 16 ?_;refine E5 17 ?_;refine E5 18 ?_;refine E5 19 ?_;refine E5 20 ?_;refine Y0 21 ?_;refine wdn ?_;go_wp2;go_ret;exact ⟨G5 n.out,A.out⟩
   | true=>
    have HR:=U0 (t.1 rfl);clear t;by_cases h0:k=0
    · have O:=U0 (HD.out ⟨HM.out,HR.out,fun h=>O0⟩);have zk:¬ (0:Int)<k:=O0;subst h0;refine Y0 5 ?_;refine Y0 6 ?_;refine Y0 7 ?_;refine Y0 8 ?_;refine Y0 9 ?_;refine Y0 10 ?_;refine E5 11 ?_;refine E5 12 ?_;refine E5 13 ?_;refine E5 14 ?_;refine E5 15 ?_;refine E5 16 ?_;refine E5 17 ?_;refine E5 18 ?_;refine E5 19 ?_;refine Y0 20 ?_;refine Y0 21 ?_;refine wdn ?_;go_wp2;go_roundw
      case rel=>exact ⟨0+1,O0,by go_num,O,A.out⟩
      case measure=>simp [RowKit.intOf];omega
    have zk:(0:Int)<k:=O0;have zs1:(k:Int) - 1=((k - 1:Nat):Int):=O0;have hk1:k - 1<rn.length:=O0;refine Y0 5 ?_;refine Y0 6 ?_;refine Y0 7 ?_;refine Y0 8 ?_;refine Y0 9 ?_;rw [show decide (0<k)=true from C_ O0];refine Y0 10 ?_;refine Y0 11 ?_;refine Y0 12 ?_;refine Y0 13 ?_;rw [T.Fa (k - 1) O0];refine Y0 14 ?_;refine Y0 15 ?_;refine Y0 16 ?_;refine Y0 17 ?_;refine Y0 18 ?_;refine Y0 19 ?_;by_cases s:Op.bytesLess y.nm.toList x.nm.toList=true
    · have O:=U0 (HD.out ⟨HM.out,HR.out,fun _=>s⟩);rw [s,XI];refine Y0 20 ?_;refine Y0 21 ?_;refine wdn ?_;go_wp2;go_roundw
      case rel=>exact ⟨k+1,O0,by go_num,O,A.out⟩
      case measure=>simp [RowKit.intOf];omega
    have n:=U0 (N.out (fun h=>s (h.2.2 O0)));rw [Fh.2 s,oI];refine Y0 20 ?_;refine Y0 21 ?_;refine wdn ?_;go_wp2;go_ret;exact ⟨G5 n.out,A.out⟩
def Fit (j:Jb) (x:Rn):Prop:=x.nm=j.nm/\x.md=1/\x.wt=⟨#[]⟩
theorem a3T (x:Rn) (j:Jb) (J:Nat) (b:OA) (a:Nat) (w:World) (f:w.cell? ⟨J,0,none⟩=some (.string j.nm)) (m:J<w.heap.size):
 Calls prog 177 #[.agg #[.string x.nm,.int .i64 x.md,.string x.wt,.slice b x.ls.length a,.int .i64 x.cd,.string x.tx],.pointer (some ⟨J,0,none⟩)] w fun e w'=>Rb (Fit j x) e/\Bw w w':=by
 go_enter func177,ntmps177
 go_upto_region 1 with fail
 have l:=U0 (Y4 w [vS x.nm,vI x.md,vS x.wt,vL b x.ls.length a,vI x.cd,vS x.tx] 105);have d:=U0 (P6 (w:=w) (o:=.cells #[vS x.nm,vI x.md,vS x.wt,vL b x.ls.length a,vI x.cd,vS x.tx] 105))
 replace f:=(d.out.cell (p:=(aA J 0)) m).trans f
 generalize w.alloc (.cells #[vS x.nm,vI x.md,vS x.wt,vL b x.ls.length a,vI x.cd,vS x.tx] 105)=V at*;have i:=l.out.cell 0;simp only [@gz Value] at i;by_cases h:x.nm=j.nm;rotate_left
 · have q:Hid (¬ Fit j x):=fun k=>h k.1;have z:=p_.2 (Ub h);go_wp2;go_ret;exact ⟨G5 q.out,d.out⟩
 have z:(x.nm.toList==j.nm.toList)=true:=by rw [h];exact beq_self_eq_true _
 have r:=U0 h;clear h
 go_wp2_with (refine Au rfl 105 _ rfl (B:=w.heap.size) rfl l.out underlying105 rfl Y2 ?_)
 refine (a1Z x b a V).mono ?_;rintro e w1 ⟨⟨n,rfl,c⟩,g⟩;have s:Hid (n=true↔Fit j x):=⟨fun h=>⟨r.out,c.1 h⟩,fun h=>c.2 h.2⟩;have t:=U0 (X5 d.out g);clear c g z i;go_wp2;go_ret;exact ⟨⟨_,rfl,s.out⟩,t.out⟩
theorem c234 (a:OA) (D:Nat) (rn:List Rn) (j:Jb) (J:Nat) (w:World) (hl:rn.length<=1048576) (n:Aj w a rn) (g:w.cell? ⟨J,0,none⟩=some (.string j.nm)) (o:J<w.heap.size):
 Calls prog 234 #[.slice a rn.length D,.func (.func 177) #[] #[.pointer (some ⟨J,0,none⟩)]] w fun e w'=>(∃ r:Int,e=.returned (.int .i64 r)/\(0<=r↔∃ i,i<rn.length/\Fit j (rn.getD i X_)))/\Bw w w':=by
 obtain ⟨F,off,hc⟩:=N_ n;have O:=U0 hc;have K:=U0 g;clear n hc g;go_enter func234,ntmps234
 go_wp2_with fail
 go_loopw [8] (fun i wr=>∃ k:Nat,k<=rn.length/\i=.int .i64 k/\Hid (∀ t,t<k->¬ Fit j (rn.getD t X_))/\Below w.heap.size w wr) (fun i _=>rn.length - (RowKit.intOf i).toNat)
 case atStart=>exact ⟨0,J4 _,rfl,fun j h=>absurd h (J8 _),Z4 _ _⟩
 case round=>
  obtain ⟨k,hk,rfl,hd,b⟩:=hrel;by_cases d:k<rn.length;rotate_left
  · obtain rfl:k=rn.length:=O0;have f:Hid ((0:Int)<= -1↔∃ i,i<rn.length/\Fit j (rn.getD i X_)):=⟨fun h=>O0,fun ⟨i,h1,h2⟩=>absurd h2 (hd.out i h1)⟩;go_wp2;go_ret;exact ⟨⟨_,rfl,f.out⟩,b⟩
  obtain ⟨ha,z,l⟩:=Cc O.out d;subst ha;obtain ⟨u,s,q,C⟩:=(l k d).below z b;have f:Hid (Fit j (rn.getD k X_)->((0:Int)<=(k:Int)↔∃ i,i<rn.length/\Fit j (rn.getD i X_))):=fun h=>⟨fun _=>⟨k,d,h⟩,fun _=>O0⟩;have N:Hid (¬ Fit j (rn.getD k X_)->∀ t,t<k+1->¬ Fit j (rn.getD t X_)):=fun y t ht=>by
   rcases Q7 t k with h | h
   · exact hd.out t h
   · obtain rfl:t=k:=O0;exact y
  generalize rn.getD k X_=x at*;have P:=U0 q;have I:=U0 ((b.cell (p:=(aA J 0)) o).trans K.out);have A:=O9 o b.size;clear l hd q C
  go_wp2_with (refine Y9 rfl (X8 105 _ rfl (B:=F) (j:=off+k*6) (cs:=[vS x.nm,vI x.md,vS x.wt,vL u x.ls.length s,vI x.cd,vS x.tx]) rfl P.out underlying105 rfl Y2) ?_)
  refine (a3T x j J u s wr I.out A).mono ?_;rintro e w1 ⟨⟨E,rfl,c⟩,m⟩;have v:=U0 (X5 b m);clear m
  cases E with
  | true=>
   have H:=U0 (f.out (c.1 rfl));clear c;go_wp2;go_ret;exact ⟨⟨_,rfl,H.out⟩,v.out⟩
  | false=>
   have L:=U0 (N.out (fun h=>by have:=c.2 h;cases this));clear c;go_wp2;go_roundw
   case rel=>exact ⟨k+1,O0,by go_num,L,v.out⟩
   case measure=>simp [RowKit.intOf];omega
theorem a2D (a:OA) (f:Nat) (rn:List Rn) (j:Jb) (J:Nat) (w:World) (hl:rn.length<=1048576) (d:Aj w a rn) (b:w.cell? ⟨J,0,none⟩=some (.string j.nm)) (m:J<w.heap.size):
 Calls prog 176 #[.slice a rn.length f,.func (.func 177) #[] #[.pointer (some ⟨J,0,none⟩)]] w fun e w'=>Rb (∃ i,i<rn.length/\Fit j (rn.getD i X_)) e/\Bw w w':=by
 have hc:=c234 a f rn j J w hl d b m;clear d b;go_enter func176,ntmps176
 go_wp2_with fail
 refine hc.mono ?_;rintro e w1 ⟨⟨r,rfl,hr⟩,c⟩;have l:=U0 c;have g:=U0 hr;clear hc c hr;by_cases h:0<=r
 · have n:=U0 (g.out.1 h);go_wp2;go_ret;exact ⟨u_ n.out,l.out⟩
 have o:=U0 (fun k=>h (g.out.2 k));have z:r<0:=O0;clear h;go_wp2;go_ret;exact ⟨⟨_,rfl,⟨fun h=>by simp at h;omega,fun h=>absurd h o.out⟩⟩,l.out⟩
def Hw (b:Bs) (j:Jb):Prop:=(∃ i,i<b.rn.length/\Fit j (b.rn.getD i X_))/\(1<=j.wk/\j.wk<=b.hd.length)/\(b.now<=j.un/\j.un<=b.now+6)
theorem a3h (b:Bs) (q:Ba) (j:Jb) (w:World) (hl:Gj b 1048576) (hn1:0<=b.now) (hn2:b.now<=1000000) (s:Aj w q.na b.rn):
 Calls prog 125 #[.agg (bsV b q).toArray,.agg #[.string j.nm,.int .i64 j.wk,.int .i64 j.un]] w fun e w'=>Rb (Hw b j) e/\Bw w w':=by
 have r:IntKind.i64.wrap (b.now+6)=b.now+6:=by rw [GI];omega
 have hhl:=hl.hl;have z:=hl.nl;have C:=U0 s;clear s hl;go_enter func125,ntmps125
 go_upto_region 1 with fail
 have d:=U0 (G9 (Y4 w (bsV b q) 47) (.cells #[vS j.nm,vI j.wk,vI j.un] 107));have c:Hid (Cl ((w.alloc (.cells (bsV b q).toArray 47)).alloc (.cells #[vS j.nm,vI j.wk,vI j.un] 107)) (w.heap.size+1) 107 [vS j.nm,vI j.wk,vI j.un]):=by show Cl _ _ _ _;have h:=Y4 (w.alloc (.cells (bsV b q).toArray 47)) [vS j.nm,vI j.wk,vI j.un] 107;simpa using h
 have p:Hid (Bw w ((w.alloc (.cells (bsV b q).toArray 47)).alloc (.cells #[vS j.nm,vI j.wk,vI j.un] 107))):=P6.alloc X4 _;generalize (w.alloc (.cells (bsV b q).toArray 47)).alloc (.cells #[vS j.nm,vI j.wk,vI j.un] 107)=V at*;have a2:=d.out.cell 2;have n:=d.out.cell 11;have u:=d.out.cell 13;simp only [@gz Value] at a2 n u;have o:=c.out.cell 0;have m:=c.out.cell 1;have l:=c.out.cell 2;simp only [@gz Value] at o m l
 go_wp2_with fail
 refine (a2D q.na q.nc b.rn j (w.heap.size+1) V z (Le C.out p.out) o c.out.lt).mono ?_;rintro e w1 ⟨⟨A,rfl,g⟩,i⟩;have y:=U0 (d.out.below i d.out.lt);have x:=U0 (c.out.below i c.out.lt);have f:=U0 (X5 p.out i);clear i a2 n u o m l d c p;have a2:=y.out.cell 2;have n:=y.out.cell 11;simp only [@gz Value] at a2 n;have m:=x.out.cell 1;have l:=x.out.cell 2;simp only [@gz Value] at m l
 cases A with
 | false=>
  have a:Hid (¬ Hw b j):=fun h=>by have:=g.2 h.1;cases this
  clear g;go_wp2;go_ret;exact ⟨G5 a.out,f.out⟩
 | true=>
 have B:=U0 (g.1 rfl);clear g;by_cases h1:1<=j.wk;rotate_left
 · have a:Hid (¬ Hw b j):=fun h=>h1 h.2.1.1;go_wp2;go_ret;exact ⟨G5 a.out,f.out⟩
 by_cases h2:j.wk<=b.hd.length;rotate_left
 · have a:Hid (¬ Hw b j):=fun h=>h2 h.2.1.2;go_wp2;go_ret;exact ⟨G5 a.out,f.out⟩
 by_cases t:b.now<=j.un;rotate_left
 · have a:Hid (¬ Hw b j):=fun h=>t h.2.2.1;go_wp2;go_ret;exact ⟨G5 a.out,f.out⟩
 by_cases k:j.un<=b.now+6
 · have v:Hid (Hw b j):=⟨B.out,⟨h1,h2⟩,t,k⟩;go_wp2;go_ret;exact ⟨by first | exact u_ v.out | (rw [r,C_ k];exact u_ v.out),f.out⟩
 have a:Hid (¬ Hw b j):=fun h=>k h.2.2.2;go_wp2;go_ret;exact ⟨by first | exact G5 a.out | (rw [r,S9 k];exact G5 a.out) | exact ⟨_,rfl,⟨fun h=>by simp at h;omega,fun h=>absurd h a.out⟩⟩,f.out⟩
def Zk (j x:Jb):Prop:=x.wk=j.wk\/Op.bytesLess x.nm.toList j.nm.toList=false
theorem c124 (x j:Jb) (J:Nat) (w:World) (h0:w.cell? ⟨J,0,none⟩=some (.string j.nm)) (h1:w.cell? ⟨J,1,none⟩=some (.int .i64 j.wk)) (d:J<w.heap.size):
 Calls prog 124 #[.agg #[.string x.nm,.int .i64 x.wk,.int .i64 x.un],.pointer (some ⟨J,0,none⟩)] w fun e w'=>Rb (Zk j x) e/\Bw w w':=by
 go_enter func124,ntmps124
 go_upto_region 1 with fail
 have g:=U0 (Y4 w [vS x.nm,vI x.wk,vI x.un] 107);have a:=U0 (P6 (w:=w) (o:=.cells #[vS x.nm,vI x.wk,vI x.un] 107))
 replace h0:=(a.out.cell (p:=(aA J 0)) d).trans h0
 replace h1:=(a.out.cell (p:=(aA J 1)) d).trans h1
 generalize w.alloc (.cells #[vS x.nm,vI x.wk,vI x.un] 107)=V at*;have i:=g.out.cell 0;have f:=g.out.cell 1;simp only [@gz Value] at i f;by_cases h:x.wk=j.wk
 · have c:Hid (Zk j x):=.inl h;rw [h] at f;go_wp2;go_ret;exact ⟨u_ c.out,a.out⟩
 have z:=p_.2 h;by_cases b:Op.bytesLess x.nm.toList j.nm.toList=true
 · have l:Hid (¬ Zk j x):=fun k=>by
    rcases k with k | k
    · exact h k
    rw [b] at k;cases k
   go_wp2;go_ret;exact ⟨G5 l.out,a.out⟩
 have c:Hid (Zk j x):=.inr (Fh.2 b);have z2:=Fh.2 b;go_wp2;go_ret;exact ⟨u_ c.out,a.out⟩
theorem c175 (a:OA) (v:Nat) (rn:List Jb) (j:Jb) (J:Nat) (w:World) (hl:rn.length<=1048576) (o:Bl w a rn) (h0:w.cell? ⟨J,0,none⟩=some (.string j.nm)) (h1:w.cell? ⟨J,1,none⟩=some (.int .i64 j.wk)) (l:J<w.heap.size):
 Calls prog 175 #[.slice a rn.length v,.func (.func 124) #[] #[.pointer (some ⟨J,0,none⟩)]] w fun e w'=>(∃ r:Int,e=.returned (.int .i64 r)/\(0<=r↔∃ i,i<rn.length/\Zk j (rn.getD i Jc)))/\Bw w w':=by
 obtain ⟨bb,off,hc⟩:=N_ o;have H:=U0 hc;have D:=U0 h0;have B:=U0 h1;clear o hc h0 h1;go_enter func175,ntmps175
 go_wp2_with fail
 go_loopw [8] (fun i wr=>∃ k:Nat,k<=rn.length/\i=.int .i64 k/\Hid (∀ t,t<k->¬ Zk j (rn.getD t Jc))/\Below w.heap.size w wr) (fun i _=>rn.length - (RowKit.intOf i).toNat)
 case atStart=>exact ⟨0,J4 _,rfl,fun j h=>absurd h (J8 _),Z4 _ _⟩
 case round=>
  obtain ⟨k,hk,rfl,hd,b⟩:=hrel;by_cases c:k<rn.length;rotate_left
  · obtain rfl:k=rn.length:=O0;have m:Hid ((0:Int)<= -1↔∃ i,i<rn.length/\Zk j (rn.getD i Jc)):=⟨fun h=>O0,fun ⟨i,h1,h2⟩=>absurd h2 (hd.out i h1)⟩;go_wp2;go_ret;exact ⟨⟨_,rfl,m.out⟩,b⟩
  obtain ⟨ha,g,d⟩:=Cc H.out c;subst ha;have g0:=((d k c).below g b) 0 _ rfl;have g1:=((d k c).below g b) 1 _ rfl;have g2:=((d k c).below g b) 2 _ rfl;dsimp only [Nat.add_zero] at g0;have m:Hid (Zk j (rn.getD k Jc)->((0:Int)<=(k:Int)↔∃ i,i<rn.length/\Zk j (rn.getD i Jc))):=fun h=>⟨fun _=>⟨k,c,h⟩,fun _=>O0⟩;have F:Hid (¬ Zk j (rn.getD k Jc)->∀ t,t<k+1->¬ Zk j (rn.getD t Jc)):=fun s t ht=>by
   rcases Q7 t k with h | h
   · exact hd.out t h
   · obtain rfl:t=k:=O0;exact s
  generalize rn.getD k Jc=x at*;have C:=U0 ((b.cell (p:=(aA J 0)) l).trans D.out);have A:=U0 ((b.cell (p:=(aA J 1)) l).trans B.out);have u:=O9 l b.size;clear d hd
  go_wp2_with fail
  refine (c124 x j J wr C.out A.out u).mono ?_;rintro e w1 ⟨⟨y,rfl,f⟩,n⟩;have q:=U0 (X5 b n);clear n g0 g1 g2
  cases y with
  | true=>
   have z:=U0 (m.out (f.1 rfl));clear f;go_wp2;go_ret;exact ⟨⟨_,rfl,z.out⟩,q.out⟩
  | false=>
   have E:=U0 (F.out (fun h=>by have:=f.2 h;cases this));clear f;go_wp2;go_roundw
   case rel=>exact ⟨k+1,O0,by go_num,E,q.out⟩
   case measure=>simp [RowKit.intOf];omega
theorem a2o (a:OA) (d:Nat) (rn:List Jb) (j:Jb) (J:Nat) (w:World) (hl:rn.length<=1048576) (c:Bl w a rn) (h0:w.cell? ⟨J,0,none⟩=some (.string j.nm)) (h1:w.cell? ⟨J,1,none⟩=some (.int .i64 j.wk)) (l:J<w.heap.size):
 Calls prog 123 #[.slice a rn.length d,.func (.func 124) #[] #[.pointer (some ⟨J,0,none⟩)]] w fun e w'=>Rb (∃ i,i<rn.length/\Zk j (rn.getD i Jc)) e/\Bw w w':=by
 have hc:=c175 a d rn j J w hl c h0 h1 l;clear c h0 h1;go_enter func123,ntmps123
 go_wp2_with fail
 refine hc.mono ?_;rintro e w1 ⟨⟨r,rfl,hr⟩,b⟩;have g:=U0 b;have f:=U0 hr;clear hc b hr;by_cases h:0<=r
 · have m:=U0 (f.out.1 h);go_wp2;go_ret;exact ⟨u_ m.out,g.out⟩
 have n:=U0 (fun k=>h (f.out.2 k));have z:r<0:=O0;clear h;go_wp2;go_ret;exact ⟨⟨_,rfl,⟨fun h=>by simp at h;omega,fun h=>absurd h n.out⟩⟩,g.out⟩
