import Derived.Test.YtbgdfcmeheaiiaaGreatDoorC1
import Derived.Deep.QuietTactic
import Derived.BigQuiet
set_option linter.unusedVariables false
set_option linter.unusedSimpArgs false
set_option maxHeartbeats 8000000
set_option maxRecDepth 100000
namespace Go.Proofs.YtbgdfcmeheaiiaaGreatDoor
open Proofs.Tryz Go.RowKit
variable{c d:Int}{l t:List UInt8}{s:BY}{w:World}{p:Addr}{B:Nat}{a:OA}{ss:LB}
def S9(c:Int)(l:List UInt8):List UInt8:=if vr c l=true then UInt8.ofNat (48+c).toNat::58::l else []
theorem Gh(h:vr c l=true):c=0\/c=1\/c=2\/c=3\/c=4\/c=5\/c=7:=by
 unfold vr at h;by_cases h1:c=0\/c=1
 ·omega
 rw[Y7 h1]at h;by_cases h2:c=2
 ·omega
 rw[Y7 h2]at h;by_cases b:c=3
 ·omega
 rw[Y7 b]at h;by_cases a:c=4\/c=5\/c=7
 ·omega
 rw[Y7 a]at h;cases h
theorem UJ(h:vr c s.data.toList=false):Ending.returned (.string (⟨#[]⟩:BY))=.returned (.string (Y2 (S9 c s.data.toList))):=by
 unfold S9;rw[h];rfl
theorem lH(h:vr c s.data.toList=true):Y2 (S9 c s.data.toList)=Y2 [UInt8.ofNat (48+c).toNat]++⟨#[58]⟩++s:=by
 unfold S9;rw[if_pos h];apply ByteArray.ext;simp[Y2]
theorem past{v:Value}(a:p.block<w.heap.size)(h:w.cell? p=some v)(o:Obj):(w.alloc o).cell? p=some v:=by
 rw[((J4 w.heap.size w).alloc Y8 o).cell a];exact h
theorem WQ(c:Int)(s:BY)(w:World)(f:s.size<=1048700):
 Calls prog 215 #[.agg #[.int .i64 c,.string s]] w λe w'=>e=.returned (.string (Y2 (S9 c s.data.toList)))/\Bw w w':=by
 go_in
 go_wp2_with fail
 refine(c94 _ _ _ f).mono ?_;rintro e b⟨rfl,a⟩;have d:=((J4 w.heap.size w).alloc Y8 (.cells #[vI c,vS s] 71)).trans (a.mono O4);have hz1:w.heap.size+1<=b.heap.size:=by have:=a.size;simp at this;omega
 have g10:b.cell? (aW w 0)=some (vI c):=by rw[a.cell O4];simp
 have h:b.cell? (aW w 1)=some (vS s):=by rw[a.cell O4];simp
 cases hv:vr c s.data.toList
 ·have hF:=UJ hv;go_wp2;go_ret;exact⟨hF,d⟩
 have hc:=Gh hv;have hF:=U0 (lH hv);have hcv:=TR;have hcd:=zY;have hz:∀y,(strOfNums [y]).size=1:=λy=>strOfNums_size [y];clear hv;have h0:0<=c:=O0;have h7:c<=7:=O0;have g:Hid (strOfNums [48+c]=Y2 [UInt8.ofNat (48+c).toNat]):=by
  rcases hc with rfl|rfl|rfl|rfl|rfl|rfl|rfl<;>rfl
 clear hc;have g12:=past X7 h;go_wp2;go_ret;exact⟨by rw[hF.out,<- g.out];rfl,by first|exact d.alloc O0 _|exact(d.alloc O0 _).drew⟩
theorem uD(hc:c=0\/c=1\/c=2\/c=3\/c=4\/c=5\/c=7)(hd:0<=d/\d<=9)(h:UInt8.ofNat (48+c).toNat=UInt8.ofNat (48+d).toNat):c=d:=by
 have a:=U6 UInt8.toNat h;simp only[VF]at a;omega
def YE(l:List UInt8)(c:Int)(t:List UInt8)(ok:Bool):Prop:=
 (ok=true->vr c t=true/\l=UInt8.ofNat (48+c).toNat::58::t)/\(ok=false->(c=0/\t=[])/\∀c' t',vr c' t'=true->l≠UInt8.ofNat (48+c').toNat::58::t')
theorem mX(h:vr c t=true):0<=c/\c<=9:=by have:=Gh h;omega
theorem JK{u:List UInt8}{a b:Bool}(h:YE l c t a)(k:YE l d u b):c=d/\t=u/\a=b:=by
 cases a<;>cases b
 ·obtain⟨⟨rfl,rfl⟩,_⟩:=h.2 rfl;obtain⟨⟨rfl,rfl⟩,_⟩:=k.2 rfl;exact⟨rfl,rfl,rfl⟩
 ·obtain⟨_,f⟩:=h.2 rfl;obtain⟨h1,h2⟩:=k.1 rfl;exact absurd h2 (f _ _ h1)
 ·obtain⟨_,f⟩:=k.2 rfl;obtain⟨h1,h2⟩:=h.1 rfl;exact absurd h2 (f _ _ h1)
 obtain⟨h1,h2⟩:=h.1 rfl;obtain⟨g,e⟩:=k.1 rfl;rw[h2]at e;simp only[qi,Ey]at e;exact⟨uD (Gh h1) (mX g) e.1,e.2,rfl⟩
theorem Xy(h:∀b a,vr b a=true->l≠UInt8.ofNat (48+b).toNat::58::a):YE l 0 [] false:=⟨(λh=>by cases h),λ_=>⟨⟨rfl,rfl⟩,h⟩⟩
theorem AL(h:ql l=true):0<=val l/\val l<=7/\l=[UInt8.ofNat (48+val l).toNat]:=by
 simp only[ql,X_,Zc]at h;obtain⟨⟨h1,h2⟩,a⟩:=h;have h0:=Em l h2;refine⟨h0,a,?_⟩;have hd:=(Yx l h2 h1).1;rw[dec_lt _ O0]at hd;exact hd.symm
theorem EP(h:c=0\/c=1\/c=2\/c=3\/c=4\/c=5\/c=7):ql [UInt8.ofNat (48+c).toNat]=true:=by
 rcases h with rfl|rfl|rfl|rfl|rfl|rfl|rfl<;>decide
theorem WM(h:c=0\/c=1\/c=2\/c=3\/c=4\/c=5\/c=7):(58:UInt8)∉[UInt8.ofNat (48+c).toNat]:=by
 rcases h with rfl|rfl|rfl|rfl|rfl|rfl|rfl<;>decide
theorem jV{a b r q:List UInt8}(ha:(58:UInt8)∉a)(c:(58:UInt8)∉b)(h:a++58::r=b++58::q):a=b/\r=q:=by
 induction a generalizing b with
 | nil=>
  cases b with
  | nil=>exact⟨rfl,by simpa using h⟩
  | cons x b=>simp at h;exact absurd (by rw[h.1];simp) c
 | cons x a ih=>
  cases b with
  | nil=>simp at h;exact absurd (by rw[h.1];simp) ha
  | cons y b=>
   simp only[Ff,qi]at h;obtain⟨rfl,h⟩:=h;obtain⟨rfl,rfl⟩:=ih (λm=>ha (vg _ m)) (λm=>c (vg _ m)) h;exact⟨rfl,rfl⟩
theorem DR:((Lib.cut l [58]).2.2=true->ql (Lib.cut l [58]).1=true->vr (lI (Lib.cut l [58]).1) (Lib.cut l [58]).2.1=true->YE l (lI (Lib.cut l [58]).1) (Lib.cut l [58]).2.1 true)/\(¬((Lib.cut l [58]).2.2=true/\ql (Lib.cut l [58]).1=true/\vr (lI (Lib.cut l [58]).1) (Lib.cut l [58]).2.1=true)->YE l 0 [] false):=by
 have hcut:=a0F l;generalize (Lib.cut l [58]).1=a at hcut ⊢;generalize (Lib.cut l [58]).2.1=t at hcut ⊢;generalize (Lib.cut l [58]).2.2=k at hcut ⊢;rcases hcut with⟨rfl,rfl,f⟩|⟨rfl,rfl,f⟩
 ·refine⟨λ_ c hv=>⟨λ_=>⟨hv,?_⟩,(λh=>by cases h)⟩,λh=>Xy λg i d e=>?_⟩
  ·obtain⟨_,_,h⟩:=AL c;rw[IE c]
   conv=>lhs;rw[h]
   rfl
  obtain⟨rfl,rfl⟩:=jV (b:=[UInt8.ofNat (48+g).toNat]) f (WM (Gh d)) e;have c:=EP (Gh d);obtain⟨h0,h1,hl⟩:=AL c;have hc:=uD (Gh d) ⟨h0,O0⟩ (by simpa using hl);refine h ⟨rfl,c,?_⟩;rw[IE c,<- hc];exact d
 refine⟨(λh=>by cases h),λ_=>Xy λg i d e=>f ?_⟩;rw[e];simp
theorem EO(h:l.length<2):YE l 0 [] false:=Xy λc' t' _ e=>by rw[e]at h;simp at h;omega
theorem oN(h:((l.headD 0).toNat:Int)<48\/57<((l.headD 0).toNat:Int)):YE l 0 [] false:=Xy λc' t' hv e=>by
 rw[e]at h;simp only[sJ]at h;have:=Gh hv;rw[VF]at h;omega
theorem gQ{x:UInt8}(h2:2<=l.length)(hx:l.headD 0=x)(hc:(x.toNat:Int)=48+c)(h0:0<=c/\c<=9):
 (S9 c (l.drop 2)=l->YE l c (l.drop 2) true)/\(S9 c (l.drop 2)≠l->YE l 0 [] false):=by
 constructor
 ·intro h;unfold S9 at h;by_cases hv:vr c (l.drop 2)=true
  ·rw[D8 hv]at h;exact⟨λ_=>⟨hv,h.symm⟩,(λh=>by cases h)⟩
  rw[Y7 hv]at h;rw[<- h]at h2;simp at h2
 intro h;refine Xy λa t' hv e=>h ?_;rw[e]at hx ⊢;simp only[sJ]at hx;have:a=c:=uD (Gh hv) h0 (by
  rw[hx];apply Zh.1;rw[VF];have:=x.toNat_lt;omega)
 subst this;simp only[List.drop_succ_cons,zD];unfold S9;rw[D8 hv]
def OM(l:List UInt8)(e:Ending):Prop:=∃(c:Int)(t:List UInt8)(ok:Bool),e=.returned (.tuple #[.agg #[.int .i64 c,.string (Y2 t)],.bool ok])/\YE l c t ok/\t.length<=l.length
theorem Fp(l:List UInt8):(Y2 l).data.toList=l:=by simp[Y2]
theorem Ep(s:BY):Y2 s.data.toList=s:=by apply mg;simp[Y2]
theorem cut_small(l:List UInt8):(Lib.cut l [58]).1.length<=l.length/\(Lib.cut l [58]).2.1.length<=l.length:=by
 unfold Lib.cut;split
 ·simp only[L_,Lj];omega
 simp
theorem Ud{j k:Nat}(h:j≠k):(⟨B,j,none⟩:Addr)≠⟨B,k,none⟩:=λe=>h (by cases e;rfl)
theorem rz2{u:World}(a:Below (w.heap.size+1) (w.alloc (.cells #[.int .i64 0,.string ⟨#[]⟩] 71)) u):
 (u.cell? ⟨w.heap.size,0,none⟩=some (.int .i64 0)/\u.cell? ⟨w.heap.size,1,none⟩=some (.string ⟨#[]⟩))/\u.frozen? ⟨w.heap.size,0,none⟩=false/\u.frozen? ⟨w.heap.size,1,none⟩=false:=by
 have c:∀j,u.cell? (aW w j)=(w.alloc (.cells #[vO,vE] 71)).cell? (aW w j):=λj=>a.cell O4;have f:∀j,u.frozen? (aW w j)=(w.alloc (.cells #[vO,vE] 71)).frozen? (aW w j):=λj=>a.frozen O4;rw[c,c,f,f];simp
theorem bI(a:p.block<w.heap.size)(h:w.frozen? p=false)(o:Obj):(w.alloc o).frozen? p=false:=by
 rw[((J4 w.heap.size w).alloc Y8 o).frozen a];exact h
theorem dm(u:World)(B:Nat)(a b x0 x1:Value)(h0:u.cell? ⟨B,0,none⟩=some x0)(h1:u.cell? ⟨B,1,none⟩=some x1):
 ((u.setCell ⟨B,0,none⟩ a).setCell ⟨B,1,none⟩ b).cell? ⟨B,0,none⟩=some a/\((u.setCell ⟨B,0,none⟩ a).setCell ⟨B,1,none⟩ b).cell? ⟨B,1,none⟩=some b:=by
 have a1:(u.setCell (aA B 0) a).cell? (aA B 1)=some x1:=by rw[Qa _ _ _ _ (Ud O0)];exact h1
 refine⟨?_,ng _ _ _ a1⟩;rw[Qa _ _ _ _ (Ud O0)];exact ng _ _ _ h0
theorem a3l(l:List UInt8)(w:World)(J:l.length<=1048700)(hm:Oc w):
 Calls prog 166 #[.string (Y2 l)] w λe w'=>OM l e/\Bw w w':=by
 have q:=cut_small l;have m:=@DR l;have x:Bw w (w.alloc (.cells #[vO,vE] 71)):=(J4 w.heap.size w).alloc Y8 _;have r:=YR l _ J (H9 hm x);generalize ha:(Lib.cut l [58]).1=a at q m r;generalize ht:(Lib.cut l [58]).2.1=t at q m r;generalize hk:(Lib.cut l [58]).2.2=k at q m r;have H:=a1P (Y2 a);rw[Fp,Y4]at H;have E:=λc=>wO c (Y2 t);rw[Fp,Y4]at E;obtain⟨hca,K⟩:=q
 go_in
 go_wp2_with fail
 refine r.mono ?_;rintro e d⟨rfl,L⟩;have o:Below (w.heap.size+1) (w.alloc (.cells #[vO,vE] 71)) d:=Tq L;have j:=x.trans (o.mono O0);have b:w.heap.size<d.heap.size:=by have:=o.size;simp at this;omega
 go_wp2_with fail
 refine(H _ O0).mono ?_;rintro e w'⟨rfl,I⟩;obtain rfl:=I.symm;obtain⟨⟨i,g⟩,B,A⟩:=rz2 o;have z0':=past (by exact b) i;have z1':=past (by exact b) g;have y0':=bI (by exact b) B;have y1':=bI (by exact b) A;have u:¬(k=true/\ql a=true/\vr (lI a) t=true)->Hid (OM l (.returned (.tuple #[.agg #[vO,vE],.bool false]))):=λh=>⟨0,[],false,rfl,m.2 h,I4 _⟩;cases hk:k
 ·have f:=u (by rw[hk];simp);go_wp2;have F:=dm d w.heap.size vO vE _ _ i g;have z:=past (p:=(aW w 0)) (by simpa using b) F.1;have y:=past (p:=(aW w 1)) (by simpa using b) F.2;refine o7 (v:=.tuple #[.agg #[vO,vE],.bool false]) (by simp[results,results166,go_sem,z,y]) rfl ⟨f,?_⟩
  first
   | exact((j.setCell O4 _).setCell O4 _).alloc (by simpa using j.size) _
   | exact((j.setCell O4 _).setCell O4 _)
 cases h7:ql a
 ·have f:=u (by rw[h7];simp);go_wp2;have F:=dm d w.heap.size vO vE _ _ i g;have z:=past (p:=(aW w 0)) (by simpa using b) F.1;have y:=past (p:=(aW w 1)) (by simpa using b) F.2;refine o7 (v:=.tuple #[.agg #[vO,vE],.bool false]) (by simp[results,results166,go_sem,z,y]) rfl ⟨f,?_⟩
  first
   | exact((j.setCell O4 _).setCell O4 _).alloc (by simpa using j.size) _
   | exact((j.setCell O4 _).setCell O4 _)
 go_wp2_with fail
 refine(E _ _ O0).mono ?_;rintro e n⟨rfl,s⟩;have C:=(o.alloc O0 (.cells #[vI (lI a),vS (Y2 t)] 71)).trans (s.mono X7);have D:=x.trans (C.mono O0);have hR3:d.heap.size<n.heap.size:=by have:=s.size;simp at this;omega
 have r0:n.cell? (aW d 0)=some (vI (lI a)):=by rw[s.cell O4];simp
 have r1:n.cell? (aW d 1)=some (vS (Y2 t)):=by rw[s.cell O4];simp
 obtain⟨⟨i,g⟩,B,A⟩:=rz2 C;cases hv:vr (lI a) t
 ·have f:=u (by rw[hv];simp);go_wp2;refine o7 (v:=.tuple #[.agg #[vO,vE],.bool false]) (by simp[results,results166,go_sem,i,g]) rfl ⟨f,?_⟩;exact((D.setCell O4 _).setCell O4 _)
 have f:Hid (OM l (.returned (.tuple #[.agg #[vI (lI a),vS (Y2 t)],.bool true]))):=⟨lI a,t,true,rfl,m.1 hk h7 hv,K⟩;go_wp2;have F:=dm n w.heap.size (vI (lI a)) (vS (Y2 t)) _ _ i g;refine o7 (v:=.tuple #[.agg #[vI (lI a),vS (Y2 t)],.bool true]) (by simp[results,results166,go_sem,F.1,F.2]) rfl ⟨f,?_⟩;exact((D.setCell O4 _).setCell O4 _)
theorem drop2(s:BY):s.extract 2 s.size=Y2 (s.data.toList.drop 2):=by
 apply mg;apply Xk.1;simp[Y2];exact p_ O4
theorem a3h(s:BY)(w:World)(hs:s.size<=1048700):
 Calls prog 267 #[.string s] w λe w'=>OM s.data.toList e/\Bw w w':=by
 have p:s.data.toList.length=s.size:=O4;have j:Bw w (w.alloc (.cells #[vO,vE] 71)):=(J4 w.heap.size w).alloc Y8 _;have a:YE s.data.toList 0 [] false->Hid (OM s.data.toList (.returned (.tuple #[.agg #[vO,vE],.bool false]))):=λh=>⟨0,[],false,rfl,h,I4 _⟩;by_cases h2:s.size<2
 ·have b:=a (EO O0);clear a p
  go_in
  go_wp2;refine o7 (v:=.tuple #[.agg #[vO,vE],.bool false]) (by simp[results,results267,go_sem]) rfl ⟨b.out,j⟩
 have h0:0<s.size:=O0;have i:=Xp s h0;by_cases hd:(s[0].toNat:Int)<48\/57<(s[0].toNat:Int)
 ·have b:=a (oN (by rw[i];exact hd));clear a p i;rcases hd with hd|hd
  all_goals
   go_in
   go_wp2;refine o7 (v:=.tuple #[.agg #[vO,vE],.bool false]) (by simp[results,results267,go_sem]) rfl ⟨b.out,j⟩
 have r:48<=(s[0].toNat:Int)/\(s[0].toNat:Int)<=57:=O0;have hw:=zo _ r;have g:=gQ (l:=s.data.toList) (x:=s[0]) (c:=(s[0].toNat:Int)-48) O0 i O0 O0;have hx:=drop2 s;clear i hd;have q:(s.data.toList.drop 2).length<=s.data.toList.length:=O4;generalize hT:s.data.toList.drop 2=T at g hx q;clear hT;have k:=WQ ((s[0].toNat:Int)-48) (Y2 T);rw[Fp,Y4]at k;generalize hL:s.data.toList=L at*;generalize hC:(s[0].toNat:Int)-48=C at*;obtain⟨d1,d2⟩:=r
 go_in
 go_wp2_with fail
 go_region
 all_goals
  go_wp2_with fail
  refine(k _ O0).mono ?_;rintro e d⟨rfl,f⟩;have hz3:w.heap.size+2<=d.heap.size:=by have:=f.size;simp at this;omega
  have o:Below (w.heap.size+1) (w.alloc (.cells #[vO,vE] 71)) d:=by
   refine Below.trans ?_ (f.mono O4)
   first|exact((J4 _ _).alloc O4 _).drew|exact(J4 _ _).alloc O4 _
  have t:=j.trans (o.mono O0);have r0:d.cell? (aA (w.heap.size+1) 0)=some (vI C):=by rw[f.cell O4];simp[go_sem]
  have r1:d.cell? (aA (w.heap.size+1) 1)=some (vS (Y2 T)):=by rw[f.cell O4];simp[go_sem]
  obtain⟨⟨n,m⟩,y0,y1⟩:=rz2 o;clear f k;by_cases hf:S9 C T=L
  ·have b:Hid (OM L (.returned (.tuple #[.agg #[vI C,vS (Y2 T)],.bool true]))):=⟨C,T,true,rfl,g.1 hf,q⟩;have e1:((Y2 (S9 C T)).toList==s.toList)=true:=by rw[hf,ByteArray.toList_eq,ByteArray.toList_eq,Fp,hL];simp
   have u:(Y2 (S9 C T)).toList=s.toList:=by simpa using e1
   clear a g hf;go_wp2;have F:=dm d w.heap.size (vI C) (vS (Y2 T)) _ _ n m;refine o7 (v:=.tuple #[.agg #[vI C,vS (Y2 T)],.bool true]) (by simp[results,results267,go_sem,F.1,F.2]) rfl ⟨b.out,?_⟩;exact((t.setCell O4 _).setCell O4 _)
  have b:=a (g.2 hf);have u:¬(Y2 (S9 C T)).toList=s.toList:=by rw[ByteArray.toList_eq,ByteArray.toList_eq,Fp,hL];exact hf
  have e1:((Y2 (S9 C T)).toList==s.toList)=false:=by simpa using u
  clear a g hf;go_wp2;have F:=dm d w.heap.size vO vE _ _ n m;refine o7 (v:=.tuple #[.agg #[vO,vE],.bool false]) (by simp[results,results267,go_sem,F.1,F.2]) rfl ⟨b.out,?_⟩;exact((t.setCell O4 _).setCell O4 _)
def o8(w:World)(a:OA)(ss:LB):Prop:=
 ss=[]\/∃b off,a=some ⟨b,off,none⟩/\b<w.heap.size/\∀i,i<ss.length->w.cell? ⟨b,off+i,none⟩=some (.string (ss.getD i ByteArray.empty))
theorem info9:(prog.info? 9).map (λi=>(i.zero,i.size,i.bytes))=some (some (.string ⟨#[]⟩),1,16):=Y0
theorem O_(h:o8 w a ss):∃b off,(ss=[]\/(a=some ⟨b,off,none⟩/\b<w.heap.size/\∀i,i<ss.length->w.cell? ⟨b,off+i,none⟩=some (.string (ss.getD i ByteArray.empty)))):=by
 rcases h with h|⟨b,off,h⟩
 ·exact⟨0,0,.inl h⟩
 exact⟨b,off,.inr h⟩
theorem X5{w':World}(h:o8 w a ss)(c:Bw w w'):o8 w' a ss:=by
 rcases h with h|⟨b,off,h1,h2,e⟩
 ·exact .inl h
 exact .inr ⟨b,off,h1,G9 h2 c.size,λi d=>by rw[c.cell (by exact h2)];exact e i d⟩
theorem MI(h:∀i,i<ss.length->(ss.getD i ByteArray.empty).size<=B)(i:Nat):(ss.getD i ByteArray.empty).size<=B:=by
 rcases P7 i ss.length with a|a
 ·exact h i a
 have e:ss.getD i ByteArray.empty=ByteArray.empty:=by simp[List.getD,Mc a]
 rw[e];exact I4 _
theorem c32(a:OA)(o:Nat)(ss:LB)(l:Int)(w:World)(h0:0<=l)(h1:l<=1048576)(m:∀i,(ss.getD i ByteArray.empty).size<=9223372036854775807)(hl:ss.length<=9223372036854775807)(j:o8 w a ss):
 Calls prog 32 #[.slice a ss.length o,.int .i64 l] w λe w'=>(∃r:Int,e=.returned (.int .i64 r)/\(0<=r->ss.length<=1048576/\(∀i,(ss.getD i ByteArray.empty).size<=1048576)/\r<=l-ss.length))/\w'=w:=by
 obtain⟨b,off,hc⟩:=O_ j;have s:=U0 hc;clear hc j;by_cases hbig:l<ss.length
 ·go_in
  go_wp2;go_ret;exact⟨⟨-1,rfl,λh=>O0⟩,rfl⟩
 go_in
 go_wp2;go_loop[1,5] (λq i=>∃(k:Nat)(r:Int),k<=ss.length/\i=.int .i64 k/\q=.int .i64 r/\0<=r/\r<=l-ss.length/\Hid (∀i,i<k->(ss.getD i ByteArray.empty).size<=1048576)) (λ_ i=>ss.length-(RowKit.intOf i).toNat);exact⟨0,_,I4 _,rfl,rfl,O0,O0,λi h=>absurd h (U7 _)⟩;obtain⟨k,r,hk,rfl,rfl,hr0,n,d⟩:=hrel;by_cases f:k<ss.length
 ·obtain⟨ha,hbw,g⟩:=Zb s.out f;subst ha;have g0:=g k f;have hxs:=m k;generalize hx:ss.getD k ByteArray.empty=x at*;have p:=U0 hx;clear hx g;by_cases hneg:r<x.size
  ·go_wp2;go_ret;exact⟨⟨-1,rfl,λh=>O0⟩,rfl⟩
  have c:Hid (∀i,i<k+1->(ss.getD i ByteArray.empty).size<=1048576):=by
   intro i h;rcases P7 i k with h1|h1
   ·exact d.out i h1
   obtain rfl:i=k:=O0;rw[p.out];omega
  go_wp2
  go_round
  exact⟨k+1,_,O0,by go_num,rfl,O0,O0,c⟩;exact P9
 have c:=U0 (MI (λi h=>d.out i O0));go_wp2;go_ret;exact⟨⟨r,rfl,λ_=>⟨O0,c.out,n⟩⟩,rfl⟩
theorem c76(a l:OA)(o n:Nat)(ss:LB)(w:World)(hl:ss.length<=1048576)(j:o8 w a ss)(h:o8 w l ss):
 Calls prog 76 #[.slice a ss.length o,.slice l ss.length n] w λe w'=>e=.returned (.bool true)/\Bw w w':=by
 obtain⟨b,off,hc⟩:=O_ j;have q:=U0 hc;clear hc j;obtain⟨b',off',g⟩:=O_ h;have p:=U0 g;clear g h
 go_in
 go_wp2;go_loopw[5] (λi wr=>∃(k nq:Nat),k<=ss.length/\i=.int .i64 k/\wr=w.drewN nq) (λi _=>ss.length-(RowKit.intOf i).toNat);exact⟨0,0,I4 _,rfl,rfl⟩;obtain⟨k,nq,hk,rfl,rfl⟩:=hrel;by_cases c:k<ss.length
 ·obtain⟨ha,hbw,f⟩:=Zb q.out c;obtain⟨m,a6o,d⟩:=Zb p.out c;subst ha;subst m;have g0:=f k c;have g1:=d k c;generalize ss.getD k ByteArray.empty=x at*;clear f d
  go_wp2_with fail
  go_quiet (fail)
  go_wp2;go_roundw;exact⟨k+1,_,O0,by go_num,rfl⟩;exact P9
 go_wp2;go_ret;exact⟨rfl,below_drewN _⟩
