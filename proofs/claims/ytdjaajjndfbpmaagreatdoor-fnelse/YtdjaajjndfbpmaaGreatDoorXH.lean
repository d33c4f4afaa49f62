import Derived.Test.YtdjaajjndfbpmaaGreatDoorXD
import Derived.Test.YtdjaajjndfbpmaaGreatDoorXG
set_option linter.unusedVariables false
set_option maxHeartbeats 8000000
set_option maxRecDepth 100000
namespace Go.Proofs.YtdjaajjndfbpmaaGreatDoor
open Proofs.Tryz
open Go.RowKit
open G (H6 jf Oa Ia Tc Rf)
open G.T (F2 P6 X3 F3 V9 lt)
variable {fs gs:List F2} {ms:List M3} {x:F2} {n:ByteArray} {xs:List De} {ds:List Dd}
theorem pF {y:F2}:nq n y=true↔y.nm≠n:=by
 unfold nq;rw [Mr,Gi];exact not_congr (M.Gf _ _)
theorem il:Oa fs n↔∀ y∈fs,y.nm≠n:=by
 constructor
 · intro h y b
   obtain ⟨i,a,rfl⟩:=Lb b;have:=h i a
   rwa [show fs.getD i P6=fs[i] from by simp [List.getD,a]] at this
 intro h i a;rw [show fs.getD i P6=fs[i] from by simp [List.getD,a]];exact h _ (Ea a)
theorem jA {y:F2} (h:y∈fs):∃ i,i<fs.length/\fs.getD i P6=y:=by
 obtain ⟨i,a,rfl⟩:=Lb h;exact ⟨i,a,by simp [List.getD,a]⟩
theorem Dj (h:Qh fs x gs) {y:F2}:y∈gs↔y=x\/(y∈fs/\y.nm≠x.nm):=by
 obtain ⟨_,_,hs,k,rfl,_,_,rfl,_,_⟩:=h;have e:y∈fs.filter (nq x.nm)↔y∈(fs.filter (nq x.nm)).take k\/y∈(fs.filter (nq x.nm)).drop k:=by rw [<- P8,Io]
 rw [P8,P8,R9,<- pF,<- xm,e];constructor
 · rintro ((h | h) | h)
   · exact .inr (.inl h)
   · exact .inl h
   exact .inr (.inr h)
 rintro (h | h | h)
 · exact .inl (.inr h)
 · exact .inl (.inl h)
 exact .inr h
def UK (l:List F2):Prop:=l.Pairwise fun a b=>lt a.nm b.nm=true
theorem VG (h:X3 fs):UK fs:=by
 refine gu.2 fun i j c a b=>?_;have:=G.T.di h i j b a;simpa [List.getD,c,a] using this
theorem yD (h:X3 fs) {y:F2} (a:y∈fs):V9 y=true:=by
 obtain ⟨i,b,rfl⟩:=jA a;have:=h.2 i b;unfold G.T.r_ at this;exact (Bool.and_eq_true_iff.1 this).1
theorem aJ (h1:fs.length<=40) (h2:∀ y∈fs,V9 y=true) (h3:UK fs):X3 fs:=by
 refine ⟨h1,fun k a=>?_⟩;have b:fs.getD k P6∈fs:=by simp [List.getD,a]
 unfold G.T.r_;rw [h2 _ b,Bool.true_and,Rl,Q_];rcases Xg k with h | h
 · exact .inl h
 refine .inr ?_;have:=gu.1 h3 (k - 1) k O0 a O0;have c:k - 1<fs.length:=O0;simpa [List.getD,a,c,lt] using this
theorem Lr (h:Qh fs x gs):X3 gs:=by
 have o:=fun y=>Dj h (y:=y);obtain ⟨l,hx,c,k,e,hl,hk,rfl,r,t⟩:=h;refine aJ J4 (fun y g=>?_) ?_
 · rcases (o y).1 g with rfl | ⟨h,_⟩
   · exact hx
   exact yD l h
 have v:UK (c.take k++c.drop k):=by rw [Io,e];exact (VG l).filter _
 obtain ⟨h1,h2,h3⟩:=Ar.1 v;have n:∀ y∈c,y.nm≠x.nm:=fun y g=>by rw [e] at g;exact pF.1 (xm.1 g).2
 have s:∀ a∈c.take k,lt a.nm x.nm=true:=fun a f=>by
  obtain ⟨j,hj,rfl⟩:=Lb f;have q:j<k:=by have:=Tv k c;omega
  have:=r j q;have p:j<c.length:=O0;rw [QA];simpa [List.getD,p] using this
 have u:∀ b∈c.drop k,lt x.nm b.nm=true:=fun b d=>by
  have i:k<c.length:=by
   rcases U5 k c.length with h | h
   · exact h
   rw [Wj h] at d;cases d
  have h0:=t i;rw [show c.getD k P6=c[k] by simp [List.getD,i]] at h0;have m:=eu (n _ (Ea i)) h0;rw [Vs i] at d h2;rcases D_.1 d with rfl | d
  · exact m
  exact vE m ((uo.1 h2).1 b d)
 refine Ar.2 ⟨Ar.2 ⟨h1,jr _ _,fun a f b d=>?_⟩,h2,fun a f b d=>?_⟩
 · rw [R9.1 d];exact s a f
 rcases P8.1 f with f | f
 · exact h3 a f b d
 rw [R9.1 f];exact u b d
theorem lC (h:Qh fs x gs) (k:Oa gs n):Oa fs n:=il.2 fun y a e=>by
 have k:=il.1 k;by_cases hx:y.nm=x.nm
 · exact k x ((Dj h).2 (.inl rfl)) (hx.symm.trans e)
 exact k y ((Dj h).2 (.inr ⟨a,hx⟩)) e
theorem Wp (h:Qh fs x gs) (b:x.nm≠n) (k:Oa fs n):Oa gs n:=il.2 fun y a e=>by
 rcases (Dj h).1 a with rfl | ⟨h1,_⟩
 · exact b e
 exact il.1 k y h1 e
theorem lM (h:Qh fs x gs) (k:H6 fs ms) (h1:x.nm≠Rf) (h2:∀ i,i<ms.length->(ms.getD i N7).nm≠x.nm):H6 gs ms:=by
 have f:=Lr h;rcases k with ⟨c,_⟩ | ⟨_,n,rfl⟩ | ⟨_,i,a,d,ks,ok,l,o⟩
 · exact absurd h.1 c
 · exact .inr (.inl ⟨f,Wp h h1 n,rfl⟩)
 have g:fs.getD i P6∈gs:=(Dj h).2 (.inr ⟨by simp [List.getD,a],by rw [d];exact h1.symm⟩);obtain ⟨j,m,e⟩:=jA g;refine .inr (.inr ⟨f,j,m,by rw [e];exact d,ks,ok,by rw [e];exact l,?_⟩);rcases o with ⟨b,c2,rfl⟩ | ⟨c,rfl⟩
 · exact .inl ⟨b,fun i a=>Wp h (h2 i a).symm (c2 i a),rfl⟩
 exact .inr ⟨fun ⟨b,c2⟩=>c ⟨b,fun i a=>lC h (c2 i a)⟩,rfl⟩
theorem RL (h:Qh fs x gs) (f:n≠x.nm):jf gs ms n=jf fs ms n:=by
 by_cases b:Oa fs n
 · have g:=Wp h f.symm b
   by_cases d:Ia ms n
   · rw [G.Li b d,G.Li g d]
   obtain ⟨i,a,e⟩:∃ i,i<ms.length/\(ms.getD i N7).nm=n:=Ph fun c=>d fun i a e=>c ⟨i,a,e⟩;rw [G.Gl b a e,G.Gl g a e]
 obtain ⟨i,a,e⟩:∃ i,i<fs.length/\(fs.getD i P6).nm=n:=Ph fun c=>b fun i a e=>c ⟨i,a,e⟩;have l:fs.getD i P6∈gs:=(Dj h).2 (.inr ⟨by simp [List.getD,a],by rw [e];exact f⟩);obtain ⟨j,m,k⟩:=jA l;rw [G.Ti h.1 a e,G.Ti (Lr h) m (by rw [k];exact e),k]
theorem GK (h:Qh fs x gs) (d:n≠x.nm):Jg gs ms n=Jg fs ms n:=by
 have e:(Oa gs n/\Ia ms n)↔(Oa fs n/\Ia ms n):=⟨fun ⟨a,b⟩=>⟨lC h a,b⟩,fun ⟨a,b⟩=>⟨Wp h d.symm a,b⟩⟩;unfold Jg;by_cases c:Oa fs n/\Ia ms n
 · rw [Y3 c,Y3 (e.2 c)]
 rw [R3 c,R3 (fun k=>c (e.1 k))]
def Nm (x:F2) (ms:List M3) (ds:List Dd):Prop:=x.nm=Rf\/(∃ m∈ms,m.nm=x.nm)\/∃ d∈ds,d.nm=x.nm\/∃ y∈d.ls,y.nm=x.nm
theorem lL (h:Qh fs x gs) (hp:H6 fs ms) (f:¬ Nm x ms ds) {d:Dd} (g:d∈ds) (k:Zv (P5 fs ms) d):Zv (P5 gs ms) d:=by
 have j:d.nm≠x.nm:=fun e=>f (.inr (.inr ⟨d,g,.inl e⟩));rcases k with ⟨b,a⟩ | ⟨b,a,m,l⟩
 · refine .inl ⟨b,?_⟩
   show (jf gs ms d.nm).map Rq=_;rw [RL h j];exact a
 refine .inr ⟨b,a,m,fun y c n=>?_⟩;have i:y.nm≠x.nm:=fun e=>f (.inr (.inr ⟨d,g,.inr ⟨y,c,e⟩⟩));show y.cd=0↔(Rq (Jg gs ms y.nm)).code=0;rw [GK h i];exact l y c n
theorem Bz {j:Nat} (a:j<xs.length):(xs.getD j Pg).d∈xs.map (·.d):=D9.2 ⟨_,by simp [List.getD,a],rfl⟩
theorem aC (a:X3 fs) (b:H6 fs ms) (f:J2 n.data.toList=true) (e:Wh (P5 fs ms) n (xs.map (·.d))):GA fs xs:=
 ⟨a,fun j c=>⟨VA (zb a b) f ((e.mem _).1 (D9.2 ⟨_,Bz c,rfl⟩)),ms,b,ML (e.ok _ (Bz c))⟩⟩
theorem yJ (h:Qh fs x gs) (a:H6 fs ms) (b:¬ Nm x ms (xs.map (·.d))) (k:GA fs xs):GA gs xs:=by
 refine ⟨Lr h,fun j c=>?_⟩;obtain ⟨l,ms',g,f⟩:=k.2 j c;obtain rfl:=G.o_ a g;refine ⟨l,ms,lM h a (fun e=>b (.inl e)) (fun i m e=>b (.inr (.inl ⟨_,?_,e⟩))),lL h a b (Bz c) f⟩;simp [List.getD,m]
theorem GG (g:X3 fs) (i:H6 fs ms) (l:J2 n.data.toList=true) (a:Wh (P5 fs ms) n (xs.map (·.d))) (k:GA gs xs) {d d':Dd} (h:Yz fs n d) (t:Yz gs n d'):d'=d:=by
 obtain ⟨u,e,o⟩:=D9.1 ((a.mem n).2 .base);obtain ⟨p,c⟩:=sj gs;have hE:=zb g i;have s:=zb k.1 c;have r:∀ d∈xs.map (·.d),Zv (P5 gs p) d:=fun d a=>by
  obtain ⟨x,hx,rfl⟩:=D9.1 a;obtain ⟨j,m,rfl⟩:=Lb hx;obtain ⟨_,ZZ,b,q⟩:=k.2 j m;obtain rfl:=G.o_ c b
  rwa [show xs.getD j Pg=xs[j] from by simp [List.getD,m]] at q
 have f:=a.ok u e;have b:=PM hE s a r e;rw [o] at f b;rw [XG g i l f h,XG k.1 c l b t]
end Go.Proofs.YtdjaajjndfbpmaaGreatDoor
namespace Go.Proofs.YtdjaajjndfbpmaaGreatDoor
open Proofs.Tryz
open Go.RowKit
structure SA (q P:Nat) (w:World) (X:Nat) (v:Value) (u:World):Prop where
 rd:D6 u q P
 bl:Below w.heap.size w u
 r0:Cl u w.heap.size 25 [.slice none 0 0]
 hX:Cl u X 25 [v]
 tr:Yh 60 u v
 kn:∀ k,v.ownBlock=some k->k≠q
 o:w.heap.size<q/\q<X
structure SB (q P:Nat) (w:World) (X:Nat) (v:Value) (base:Nat) (dv:Value) (xs:List De) (u:World):Prop where
 a:SA q P w X v u
 dr:P_ base dv xs u
 kd:∀ k,dv.ownBlock=some k->(∃ a c,v=.slice a 0 c)\/v.ownBlock≠some k
 xb:X<base
variable {q P P' X base:Nat} {w u u':World} {v v' dv:Value} {xs:List De}
theorem SA.call (h:SA q P w X v u) (b:D6 u' q P') (a:But q u u'):SA q P' w X v u':=by
 have:=h.o;exact ⟨b,h.bl.trans (a.below O0 h.bl.size),(a.block _ h.r0.lt O0).trans h.r0,(a.block _ h.hX.lt O0).trans h.hX,h.tr.but a h.kn,h.kn,h.o⟩
theorem SA.later (h:SA q P w X v u) (a:Below u.heap.size u u'):SA q P w X v u':=h.call (h.rd.later a) (But.of_below a)
theorem SB.call (h:SB q P w X v base dv xs u) (c:D6 u' q P') (b:But q u u'):SB q P' w X v base dv xs u':=by
 have:=h.a.o;have:=h.xb;exact ⟨h.a.call c b,⟨Ih h.dr.row b O0,fun x hx=>Ih (h.dr.lk x hx) b O0,h.dr.ne⟩,h.kd,h.xb⟩
theorem SB.later (h:SB q P w X v base dv xs u) (b:Below u.heap.size u u'):SB q P w X v base dv xs u':=h.call (h.a.rd.later b) (But.of_below b)
theorem SB.jl (h:SB q P w X v base dv xs u) (b:P<=P'):SB q P' w X v base dv xs u:=h.call (h.a.rd.mono b) (But.refl _ _)
theorem SB.put {b:Option Addr} {n c:Nat} (h:SB q P w X v base dv xs u) (hv:v=.slice b n c) (d:Yh 60 u v') (h1:v'=v\/∀ k,v'.ownBlock=some k->k≠q/\dv.ownBlock≠some k):SB q P w X v' base dv xs (u.setCell ⟨X,0,none⟩ v'):=by
 have ho:=h.a.o;have hx:=h.xb;have hX:=h.a.hX;rw [hv] at hX;refine ⟨⟨J8 h.a.rd ho.2 _ _,h.a.bl.setCell (by show w.heap.size<=X;omega) _,h.a.r0.on (I6 _ _ _ _) O0,h.a.hX.set 0 _,Yf d hX,fun k e=>?_,ho⟩,h.dr.keep (fun k e=>Z8 _ _ _ _ (by have:=(h.dr.row.lt k e).1;show k≠X;omega)) (fun x hx k e=>Z8 _ _ _ _ (by have:=((h.dr.lk x hx).lt k e).1;show k≠X;omega)),fun k e=>?_,hx⟩
 · rcases h1 with rfl | h1
   · exact h.a.kn k e
   exact (h1 k e).1
 rcases h1 with rfl | h1
 · exact h.kd k e
 exact .inr fun c=>(h1 k c).2 e
theorem uJ (xs:List De) (k:Nat) (x:De) (j:Nat) (y:Value) (hx:x.vs=(xs.getD k Pg).vs.set j y) (a:k<xs.length) (hj:j<8):Zo (xs.set k x)=(Zo xs).set (k*8+j) y:=by
 induction xs generalizing k with
 | nil=>simp at a
 | cons z r ih=>
  cases k with
  | zero=>
   show x.vs++Zo r=(z.vs++Zo r).set _ y;rw [List.set_append_left _ _ (by rw [Wi];omega),jk,R7];have hx:x.vs=z.vs.set j y:=hx;rw [hx]
  | succ k=>
   show z.vs++Zo (r.set k x)=(z.vs++Zo r).set _ y;rw [List.set_append_right _ _ (by rw [Wi];omega),Wi,ih k hx (by simpa using a),show (k+1)*8+j - 8=k*8+j by omega]
def flip (xs:List De) (k:Nat) (b:Bool):De:=⟨{ (xs.getD k Pg).d with md:=b },(xs.getD k Pg).lv⟩
theorem P_.flip {g c k:Nat} {b:Bool} (h:P_ base (.slice (some ⟨g,0,none⟩) xs.length c) xs w) (a:k<xs.length):P_ base (.slice (some ⟨g,0,none⟩) xs.length c) (xs.set k (flip xs k b)) (w.setCell ⟨g,k*8+1,none⟩ (.bool b)):=by
 have j:xs.getD k Pg∈xs:=by simp [List.getD,a]
 refine ⟨?_,fun x hx=>?_,?_⟩
 · rw [Ed,uJ xs k (Go.Proofs.YtdjaajjndfbpmaaGreatDoor.flip xs k b) 1 (.bool b) rfl a O0]
   exact (h.row.stored _ _).1
 · have key:∀ y∈xs,(w.setCell ⟨g,k*8+1,none⟩ (.bool b)).ownsRow base 52 4 y.lv y.d.ls.length (R4 y.d.ls):=fun y f=>Nn (h.lk y f) h.row K3 (h.row.stored _ _).2
   rcases Sv hx with h1 | rfl
   · exact key x h1
   exact key (xs.getD k Pg) j
 have e:(xs.set k (Go.Proofs.YtdjaajjndfbpmaaGreatDoor.flip xs k b)).map (·.lv)=xs.map (·.lv):=by
  rw [List.map_set];refine vk fun i=>?_;rw [Tm];split
  · rename_i e
    subst e;simp [Go.Proofs.YtdjaajjndfbpmaaGreatDoor.flip,List.getD,a]
  rfl
 have:(xs.map (·.lv)).Pairwise (fun x y=>∀ k,x.ownBlock=some k->y.ownBlock≠some k):=Cs.2 h.ne;rw [<- e] at this;exact Cs.1 this
def YJ (xs:List De):Prop:=xs.length<=481/\∀ x∈xs,x.d.ls.length<=15/\x.d.nm.size<=20
theorem yF {fs:List G.T.F2} {n:ByteArray} (h:qM fs n (xs.map (·.d))):YJ xs:=by
 obtain ⟨h1,h2⟩:=pM h;refine ⟨by simpa using h1,fun x hx=>?_⟩;obtain ⟨_,b,a,_⟩:=h2 _ (D9.2 ⟨x,hx,rfl⟩);exact ⟨a,Qb b⟩
theorem JF {k:Nat} {b:Bool} (h:YJ xs) (a:k<xs.length):YJ (xs.set k (flip xs k b)):=by
 refine ⟨by rw [Ed];exact h.1,fun x hx=>?_⟩;rcases Sv hx with h1 | rfl
 · exact h.2 x h1
 exact h.2 (xs.getD k Pg) (by simp [List.getD,a])
theorem oM {A B j:Nat} {w:World} {x y:Value} (h:Yh A w x) (hB:(∃ a c,x=.slice a 0 c)\/x.ownBlock≠some B):Yh A (w.setCell ⟨B,j,none⟩ y) x:=by
 obtain ⟨a,cap,fs,rfl,h2,h3⟩:=h;refine ⟨a,cap,fs,rfl,?_,h3⟩;rcases h2 with h2 | ⟨b,d,rfl,m,l⟩
 · exact .inl h2
 rcases hB with ⟨_,_,hB⟩ | hB
 · injection hB with _ hB _
   exact .inl (Ce.1 hB)
 have f:b≠B:=fun e=>hB (by rw [e];rfl);have k:∀ o,(w.setCell ⟨B,j,none⟩ y).cell? ⟨b,o,none⟩=w.cell? ⟨b,o,none⟩:=fun o=>O_ _ _ _ _ (fun e=>f (by injection e with e _;exact e.symm));exact .inr ⟨b,d,rfl,by simpa using m,fun i g=>by rw [k,k];exact l i g⟩
structure SC (w:World) (X:Nat) (v:Value) (base:Nat) (dv:Value) (ys:List De) (u:World):Prop where
 bl:Below w.heap.size w u
 r0:Cl u w.heap.size 25 [.slice none 0 0]
 hX:Cl u X 25 [v]
 tr:Yh 60 u v
 dr:P_ base dv ys u
 dk:YJ ys
 o:w.heap.size<X/\X<base
theorem SB.sc (h:SB q P w X v base dv xs u) (b:YJ xs):SC w X v base dv xs u:=⟨h.a.bl,h.a.r0,h.a.hX,h.a.tr,h.dr,b,by have:=h.a.o;omega,h.xb⟩
theorem SB.fl {g c k:Nat} {b:Bool} (h:SB q P w X v base (.slice (some ⟨g,0,none⟩) xs.length c) xs u) (e:YJ xs) (d:k<xs.length):SC w X v base (.slice (some ⟨g,0,none⟩) xs.length c) (xs.set k (flip xs k b)) (u.setCell ⟨g,k*8+1,none⟩ (.bool b)):=by
 have:=h.a.o;have:=h.xb;have:=(h.dr.row.lt g rfl).1;exact ⟨h.a.bl.setCell (by show w.heap.size<=g;omega) _,h.a.r0.on (I6 _ _ _ _) O0,h.a.hX.on (I6 _ _ _ _) O0,oM h.a.tr (h.kd g rfl),h.dr.flip d,JF e d,O0,h.xb⟩
theorem dG {e:TypeId} {size n:Nat} {da:Option Addr} {b:Nat} {a:List Value} (h:u.ownsRow base e size (.slice da n b) n a) (hn:0<n):∃ g,da=some ⟨g,0,none⟩:=by
 rcases h.2 with ⟨_,h0⟩ | ⟨g,cap,cur,hv,_⟩
 · omega
 injection hv with hv _ _;exact ⟨g,hv⟩
def jP (w:World) (e:Ending) (w':World):Prop:=(∃ tv a c xs,e=.returned (.tuple #[.agg #[tv],.slice a xs.length c])/\Yh 60 w' tv/\Jn w' a xs/\YJ xs)/\Below w.heap.size w w'
theorem c12 (a:Option Addr) (L cap:Nat) (w:World) (hL:L<=1048576) (hcap:L<=cap) (h:BytesAt w a L):
 Calls prog 12 #[.slice a L cap] w fun e w'=>jP w e w':=by
 have HB:=M4 h;clear h;go_enter func12,ntmps12
 go_wp2_with fail
 obtain ⟨w0,hw0⟩:∃ y:World,y=w.alloc (.cells #[.slice none 0 0] 25):=⟨_,rfl⟩;rw [<- hw0];have b0:Below w.heap.size w w0:=by rw [hw0];exact bA
 have C0:Hid (Cl w0 w.heap.size 25 [.slice none 0 0]):=by show Cl _ _ _ _;rw [hw0];exact U1 w [_] 25
 clear hw0;refine (c31 a L cap w0 hL hcap (Cc HB.out b0)).mono ?_;rintro e w1 ⟨rfl,hrd,hb1,hsz⟩;have R1:Hid (D6 w1 w0.heap.size 0):=⟨0,Q6 _,hrd⟩;have b1:=M4 (bT b0 hb1);have C1:=M4 (C0.out.below hb1 C0.out.lt);have hz0:=C0.out.lt;clear hrd hb1 hsz b0 C0 HB;generalize w0.heap.size=q at*
 go_wp2_with fail
 refine (c32 q 0 w1 O0 R1.out).mono ?_;rintro e D ⟨⟨v,rfl,B,W⟩,j,l⟩;have hq1:=R1.out.lt;have b2:=Q0 (b1.out.trans (l.below O0 O0));have C2:Hid (Cl D w.heap.size 25 [.slice none 0 0]):=(l.block _ C1.out.lt O0).trans C1.out;obtain ⟨R,hw3⟩:∃ y:World,y=D.alloc (.cells #[v] 25):=⟨_,rfl⟩;have b3:Below D.heap.size D R:=by rw [hw3];exact bA
 have H3:Hid (SA q 1506 w D.heap.size v R):=⟨(j.mono O0).later b3,bT b2.out b3,C2.out.below b3 C2.out.lt,by rw [hw3];exact U1 D [_] 25,B.below b3,fun k e=>by have:=W k e;omega,hz0,j.lt⟩;have HK:Hid ((∃ a c,v=.slice a 0 c)\/∀ k,v.ownBlock=some k->k<R.heap.size):=by
  obtain ⟨a,c,fs,rfl,hf,_⟩:=B.below b3;rcases hf with rfl | ⟨b,off,rfl,hl,_⟩
  · exact .inl ⟨_,_,rfl⟩
  refine .inr fun k e=>?_;have e:some b=some k:=e;cases e;exact hl
 obtain ⟨E,c7,f9,aW,_,_,_⟩:=B;subst aW;generalize f9.length=n9 at*;clear W j l R1 b1 C1 b2 C2 b3
 go_upto_region 3 with fail
 rw [<- hw3];clear hw3;generalize D.heap.size=X at*;obtain ⟨y0,U⟩:∃ y:World,y=R.drew:=⟨_,rfl⟩;have H0:Hid (SA q 1506 w X (.slice E n9 c7) y0):=by rw [U];exact H3.out.later (F4 _ _).drew
 have hz3:y0.heap.size=R.heap.size:=by rw [U];rfl
 rw [<- hz3] at HK;refine F7 (S:=fun u=>u.cell? ⟨X,0,none⟩=some (.slice E n9 c7)) U2 ?_ fun t=>?_
 · rw [<- U]
   exact H0.out.hX.cell 0
 rw [<- U] at t ⊢;clear U hz3 H3;refine tq 0 t ?_;refine I4 1 t ?_;refine rq 2 fun K C=>?_;go_simp;refine (X5 y0 q 1506 6 O0 O0 O0 H0.out.rd).mono ?_;rintro e y1 ⟨⟨r,rfl,r0,r1⟩,j,ho⟩;have H1:=M4 (H0.out.call j ho.but);have hs1:y0.heap.size<=y1.heap.size:=ho.but.size;obtain ⟨m,rfl⟩:=A8 r0;clear j ho H0;go_simp;clear t;refine Z6 C (H1.out.hX.cell 0) fun t=>?_;clear C K;refine rq 3 fun K C=>?_;go_simp;refine (Rs m y1 O0).mono ?_;rintro e y2 ⟨rfl,l⟩;have H2:=M4 (H1.out.later l);have hdl:(Q3 (Lib.decDigits m)).size<=2:=by rw [J3];exact Sa m O0
 have hs2:=l.size;clear l H1;generalize Q3 (Lib.decDigits m)=dm at*;go_simp;clear t;refine Z6 C (H2.out.hX.cell 0) fun t=>?_;clear C K;have hsm:¬ 9223372036854775807<1+dm.size:=O0;have a2t:1+dm.size<9223372036854775808:=O0;refine I4 4 t ?_;refine rq 5 fun K C=>?_;go_simp;obtain ⟨a8,c8,f8,FW,a0G,hl8,hs8⟩:=H2.out.tr;injection FW with e1 e2 e3;subst e1 e2 e3;refine (XP E c7 f8 _ y2 O0 (fun i=>⟨Z4 (ll hs8 i).1 O0,Z4 (ll hs8 i).2 O0⟩) a0G (by rw [K9];have e1:ByteArray.size ⟨#[120]⟩=1:=rfl;omega)).mono ?_;rintro e y3 ⟨⟨dv,xs,rfl,hdr,hds⟩,hb3⟩;have H4:Hid (SB q 1507 w X (.slice E f8.length c7) y2.heap.size dv xs y3):=⟨H2.out.later hb3,hdr,fun k e=>by
  rcases HK.out with h | h
  · exact .inl h
  refine .inr fun c=>?_;have:=h k c;have:=(hdr.row.lt k e).1;omega,H2.out.hX.lt⟩
 have I:=M4 (yF hds);obtain ⟨da,dc,rfl⟩:=b_ hdr.row;clear hdr hds hb3 H2 HK a0G hs8 hl8 hsm a2t hdl;generalize f8.length=n8 at*;generalize y2.heap.size=base at*;go_simp;clear t;refine Z6 C (H4.out.a.hX.cell 0) fun t=>?_;clear C K;refine I4 6 t ?_;refine a_ ?_;clear t
 go_wp2_with fail
 refine (X5 y3 q 1507 4 O0 O0 O0 H4.out.a.rd).mono ?_;rintro e y4 ⟨⟨N,rfl,r40,r41⟩,j,ho⟩;have f:=M4 (H4.out.call j ho.but);clear j ho H4;have mark:True:=trivial;have s:=f.out.a.hX.cell 0;dsimp only [List.getElem?_cons_zero] at s;rcases Ie (N=0) with h0 | h0
 case' inl=>
  subst h0
  go_wp2_with fail
  clear s;refine (IJ _ ⟨#[101,108,115,101,119,104,101,114,101]⟩ ⟨#[120]⟩ y4 O0 f.out.a.tr K3 K3).mono ?_;rintro e y5 ⟨⟨v',rfl,B,A⟩,l⟩;have A:v'=.slice E n8 c7\/∀ k,v'.ownBlock=some k->k≠q/\(Value.slice da xs.length dc).ownBlock≠some k:=A.imp id fun h k e=>⟨by have:=h k e;have:=f.out.a.rd.lt;omega,fun c=>by have:=h k e;have:=(f.out.dr.row.lt k c).2;omega⟩;have T1:=M4 B;have n:=M4 (f.out.later l);obtain ⟨Z,c24,Y,hv4,_⟩:=B;subst hv4;have H:=M4 ((n.out.put rfl T1.out A).jl (P':=2000) O0);have s:=n.out.a.hX.cell 0;have k1:=n.out.a.hX.opn 0;dsimp only [List.getElem?_cons_zero] at s;clear l f n T1 A
  go_upto_region 11 with fail
  generalize y5.setCell ⟨X,0,none⟩ (.slice Z Y.length c24)=y at*;clear s k1;generalize Y.length=O at*;generalize Z=Q at*;generalize c24=P at*;revert mark
 case' inr=>
  have hr0:(N==0)=false:=by simpa using h0
  rcases Ie (N=1\/N=2) with h1 | h1
  case' inl=>
   rcases h1 with rfl | rfl
   all_goals
    go_wp2_with fail
    clear s;refine (PP q (1507+1) y4 O0 f.out.a.rd).mono ?_;rintro e J ⟨⟨fn,ft,rfl,hfn,hft⟩,j,l⟩;have f:=M4 (f.out.call j l);obtain ⟨z2,hz2⟩:∃ y:World,y=J.alloc (.cells #[.string fn,.string ft] 39):=⟨_,rfl⟩;have b2:Below J.heap.size J z2:=by rw [hz2];exact bA
    have CF:Hid (Cl z2 J.heap.size 39 [.string fn,.string ft]):=by show Cl _ _ _ _;rw [hz2];exact U1 J [_,_] 39
    have f:=M4 (f.out.later b2);clear j l b2
    go_upto_region 10 with fail
    rw [<- hz2];clear hz2;generalize J.heap.size=F at*;have s:=f.out.a.hX.cell 0;have k2:=CF.out.cell 0;have k3:=CF.out.cell 1;dsimp only [List.getElem?_cons_zero,List.getElem?_cons_succ] at s k2 k3
    go_wp2_with fail
    clear s k2 k3;refine (IJ _ fn ft z2 O0 f.out.a.tr hfn hft).mono ?_;rintro e y5 ⟨⟨v',rfl,B,A⟩,l⟩;have A:v'=.slice E n8 c7\/∀ k,v'.ownBlock=some k->k≠q/\(Value.slice da xs.length dc).ownBlock≠some k:=A.imp id fun h k e=>⟨by have:=h k e;have:=f.out.a.rd.lt;omega,fun c=>by have:=h k e;have:=(f.out.dr.row.lt k c).2;omega⟩;have T1:=M4 B;have n:=M4 (f.out.later l);obtain ⟨Z,c24,Y,hv4,_⟩:=B;subst hv4;have H:=M4 ((n.out.put rfl T1.out A).jl (P':=2000) O0);have s:=n.out.a.hX.cell 0;have k1:=n.out.a.hX.opn 0;dsimp only [List.getElem?_cons_zero] at s;clear l f n T1 A
    go_upto_region 11 with fail
    generalize y5.setCell ⟨X,0,none⟩ (.slice Z Y.length c24)=y at*;clear s k1;generalize Y.length=O at*;generalize Z=Q at*;generalize c24=P at*;revert mark
  case' inr=>
   have hr1:(N==1)=false:=by simpa using fun e=>h1 (.inl e)
   have hr2:(N==2)=false:=by simpa using fun e=>h1 (.inr e)
   have H:=M4 (f.out.jl (P':=2000) O0);clear s f
   go_upto_region 11 with fail
   generalize n8=O at*;generalize E=Q at*;generalize c7=P at*;generalize y4=y at*;revert mark
 all_goals
  intro _;have AR:True:=trivial;have hl:=I.out.1;rcases Xg xs.length with V | V
  case' inl=>
   obtain rfl:=Ce.1 V;have p:=M4 (H.out.sc I.out);clear H I V hl
   go_upto_region 14 with fail
   generalize y=z at*;generalize ([]:List De).length=ny at*;generalize ([]:List De)=ys at*;revert AR
  case' inr=>
   have hgt:decide ((0:Int)<(xs.length:Int))=true:=by simpa using V
   go_wp2_with fail
   refine (X5 y q 2000 10 O0 O0 O0 H.out.a.rd).mono ?_;rintro e y6 ⟨⟨r6,rfl,aQ,r61⟩,j,ho⟩;have n:=M4 (H.out.call j ho.but);clear j ho H;rcases Ie (r6=0) with h6 | h6
   case' inl=>
    subst h6
    go_wp2_with fail
    refine (X5 y6 q (2000+1) xs.length O0 O0 O0 n.out.a.rd).mono ?_;rintro e y7 ⟨⟨r7,rfl,r70,r71⟩,j,ho⟩;have H7:=M4 (n.out.call j ho.but);clear j ho n;obtain ⟨k,rfl⟩:=A8 r70;have W:k<xs.length:=O0;obtain ⟨g,rfl⟩:=dG H7.out.dr.row V;have d1:y7.cell? ⟨g,k*8+1,none⟩=some (.bool (xs.getD k Pg).d.md):=(H7.out.dr.row.cellAt (k*8+1) O0).trans (jv xs k 1 W O0);have e1:=H7.out.dr.row.frozenAt (k*8+1);have p:=M4 (H7.out.fl (b:=!(xs.getD k Pg).d.md) I.out W);clear I H7;generalize (xs.getD k Pg).d.md=md at*
    go_upto_region 14 with fail
    generalize y7.setCell ⟨g,k*8+1,none⟩ (.bool !md)=z at*;clear d1 e1;generalize xs.set k (flip xs k !md)=ys at*;generalize xs.length=ny at*;generalize (some (⟨g,0,none⟩:Addr))=da at*;revert AR
   case' inr=>
    have hr6:(r6==0)=false:=by simpa using h6
    have p:=M4 (n.out.sc I.out);clear n I
    go_upto_region 14 with fail
    generalize y6=z at*;generalize hny:xs.length=ny at*;generalize xs=ys at*;revert AR
  all_goals
   intro _;have d0:=p.out.hX.cell 0;have d2:=p.out.r0.cell 0;have f2:=p.out.r0.opn 0;dsimp only [List.getElem?_cons_zero] at d0 d2;have HD:=M4 (p.out.dr.keep (w':=z.setCell ⟨w.heap.size,0,none⟩ (.slice Q O P)) (fun k e=>Z8 _ _ _ _ (by have:=(p.out.dr.row.lt k e).1;have:=p.out.o;show k≠w.heap.size;omega)) (fun x hx k e=>Z8 _ _ _ _ (by have:=((p.out.dr.lk x hx).lt k e).1;have:=p.out.o;show k≠w.heap.size;omega)));go_wp2;have er:=O7 z ⟨w.heap.size,0,none⟩ (.slice Q O P) d2;obtain ⟨a5,c5,hv5,a2u⟩:=jG HD.out;exact K4 (v:=.tuple #[.agg #[.slice Q O P],.slice da ny dc]) (by simp [results,results12,go_sem,er]) rfl ⟨⟨.slice Q O P,a5,c5,ys,by rw [hv5],Yf p.out.tr p.out.r0,a2u,p.out.dk⟩,p.out.bl.setCell P9 _⟩
end Go.Proofs.YtdjaajjndfbpmaaGreatDoor
