import Derived.Lib.IndexBytes
import Derived.Lib.Split
import Derived.Test.YtchjpjmcnhjbcaaGreatDooreQD
import Derived.Test.YtchjpjmcnhjbcaaGreatDoortV5
set_option maxRecDepth 100000
set_option linter.unusedVariables false
set_option maxHeartbeats 8000000
namespace Go.Proofs.YtchjpjmcnhjbcaaGreatDoor
open Proofs.Tryz Go.RowKit
variable {a l r t:List UInt8} {x y:M3} {ok:Bool} {ls:List (List UInt8)} {w:World} {M c n:Int} {b:UInt8}
theorem Oi (h:(32:UInt8)∉l):O1 l=l/\Y1 l=[]:=by
 have:=lm (l:=l) (k:=l.length) (by rw [Yp,Jo];intro a ha;simp only [Tq];intro e;exact h (e▸ha)) H8 (.inl rfl);rw [Yp,jq O0] at this;exact this
theorem J7 (h:(32:UInt8)∉a):O1 (a++32::r)=a/\Y1 (a++32::r)=r:=by
 have:=lm (l:=a++32::r) (k:=a.length) (by rw [List.take_left,Jo];intro x ha;simp only [Tq];intro e;exact h (e▸ha)) X4 (.inr X4);rw [List.take_left] at this;refine ⟨this.1,this.2.trans ?_⟩;rw [<- yE,List.drop_left];rfl
theorem Ol (h:(32:UInt8)∈l):l=O1 l++32::Y1 l/\(32:UInt8)∉O1 l:=by
 obtain ⟨a,r,rfl,ha⟩:=yR h;obtain ⟨h1,h2⟩:=J7 (r:=r) ha;rw [h1,h2];exact ⟨rfl,ha⟩
theorem Gs (l:List UInt8):(Lib.index l [32]=-1/\(32:UInt8)∉l)\/(∃ i:Nat,Lib.index l [32]=i/\(32:UInt8)∈l/\l.take i=O1 l/\l.drop (i+1)=Y1 l):=by
 rw [Lib.index_one];have hge:=Lib.indexByte_ge l 32;by_cases h:Lib.indexByte l 32=-1
 · refine .inl ⟨h,fun hm=>?_⟩;obtain ⟨k,a,e⟩:=Zd hm;exact Lib.indexByte_none h k (by rw [Z8 a,e])
 · obtain ⟨o,ho⟩:∃ o:Nat,Lib.indexByte l 32=o:=⟨(Lib.indexByte l 32).toNat,O0⟩;obtain ⟨h1,h2⟩:=Lib.indexByte_some ho;have hl:o<l.length:=by
    rcases Q7 o l.length with h | h
    · exact h
    · rw [Yb h] at h1;cases h1
   have hm:=List.mem_of_getElem? h1;have:=lm (l:=l) (k:=o) (by
    rw [Jo];intro x hx;simp only [Tq];rintro rfl;obtain ⟨k,a,e⟩:=Zd hx;rw [B_] at a;rw [fE] at e;exact h2 k O0 (by rw [Z8 O0,e])) O0 (.inr (by simp [List.getD,h1]))
   exact .inr ⟨o,ho,hm,this.1.symm,this.2.symm⟩
theorem MH (l:List UInt8):(Lib.cut l [32]).1=O1 l:=by
 unfold Lib.cut;rcases Gs l with ⟨h,a⟩ | ⟨i,h,_,h1,_⟩
 · rw [h,I7 O0,(Oi a).1]
 · rw [h,X7 O0];exact h1
def Ad (l:List UInt8) (n:Nat):List (List UInt8):=Lib.splitK [32] 0 n l
theorem PI (l:List UInt8):Ad l 0=[l]:=rfl
theorem Gh (n:Nat) (h:(32:UInt8)∉l):Ad l n=[l]:=by
 cases n with
 | zero=>rfl
 | succ n=>
  unfold Ad Lib.splitK;rcases Gs l with ⟨a,_⟩ | ⟨i,_,hm,_⟩
  · rw [a];rfl
  · exact absurd hm h
theorem ql (n:Nat) (h:(32:UInt8)∈l):Ad l (n+1)=O1 l::Ad (Y1 l) n:=by
 unfold Ad;rw [Lib.splitK];rcases Gs l with ⟨_,a⟩ | ⟨i,b,_,h1,h2⟩
 · exact absurd h a
 · rw [b,I7 X4];simp only [UA,En,Si,h1,h2]
theorem dD (l:List UInt8):(Lib.cut l [32]).2.1=Y1 l:=by
 unfold Lib.cut;rcases Gs l with ⟨h,a⟩ | ⟨i,h,_,_,h2⟩
 · rw [h,I7 O0,(Oi a).2]
 · rw [h,X7 O0];exact h2
theorem UL (l:List UInt8):Ad l (min 3 (l.length+1) - 1)=Ad l 2:=by
 rcases Q7 l.length 2 with h | h
 · cases l with
   | nil=>rw [Gh _ X4,Gh _ X4]
   | cons c r=>
    cases r with
    | cons d r=>simp at h;omega
    | nil=>
     by_cases a:(32:UInt8)∈[c]
     · have e:Y1 [c]=[]:=by
        simp only [Dv] at a;subst a;rfl
       have e1:min 3 ([c].length+1) - 1=0+1:=rfl;rw [e1,ql 0 a,ql 1 a,e,Gh _ X4,Gh _ X4]
     · rw [Gh _ a,Gh _ a]
 · have:min 3 (l.length+1)=3:=O0;rw [this]
theorem UK {b q:List UInt8} (ha:(32:UInt8)∉a) (e:(32:UInt8)∉b) (h:a++32::r=b++32::q):a=b/\r=q:=by
 induction a generalizing b with
 | nil=>
  cases b with
  | nil=>simpa using h
  | cons c b=>simp at h;exact absurd (by rw [h.1];simp) e
 | cons d a ih=>
  cases b with
  | nil=>simp at h;exact absurd (by rw [h.1];simp) ha
  | cons c b=>
   simp only [rf,zi] at h;obtain ⟨h1,h2⟩:=ih (fun h=>ha (Rf _ h)) (fun h=>e (Rf _ h)) h.2;exact ⟨by rw [h.1,h1],h2⟩
theorem QH {a b:BY} (h:a.data.toList=b.data.toList):a=b:=Df (Yk.1 h)
theorem L_ (h:Y5 l=true):(32:UInt8)∉l/\(10:UInt8)∉l:=by
 simp only [Y5,V_,Jo] at h;constructor
 · intro hm;have:=h.2 _ hm;revert this;decide
 · intro hm;have:=h.2 _ hm;revert this;decide
theorem jh (h:Ze x=true):Y5 x.nm.data.toList=true/\Y5 x.tl.data.toList=true/\(x.ar.size:Int)<=300:=by
 simp only [Ze,V_,Ud] at h;exact ⟨h.1.1,h.1.2,h.2⟩
theorem Ac (x:M3):Oc x=x.nm.data.toList++32::(x.tl.data.toList++32::P5 x.ar.data.toList):=by simp [Oc]
theorem FK (x:M3):Oc x≠[]:=by rw [Ac];simp
theorem OC (hx:Ze x=true) (a:Ze y=true) (h:Oc x=Oc y):x=y:=by
 obtain ⟨f,a2,_⟩:=jh hx;obtain ⟨e,d,_⟩:=jh a;rw [Ac,Ac] at h;obtain ⟨e1,h⟩:=UK (L_ f).1 (L_ e).1 h;obtain ⟨c,h⟩:=UK (L_ a2).1 (L_ d).1 h;have b:=Yl h;cases x;cases y;simp only [M3.mk.injEq];exact ⟨QH e1,QH c,QH b⟩
theorem wF (p:List (List UInt8)×List UInt8) (a:List UInt8) (h:(10:UInt8)∉a):(a++[10]).foldl (cst 10) p=(p.1++[p.2++a],[]):=by
 induction a generalizing p with
 | nil=>simp [cst]
 | cons c a ih=>
  have hc:c≠10:=fun e=>h (by rw [e];simp);rw [rf,iw,ih _ (fun b=>h (Rf _ b))];simp [cst,hc]
theorem qC (b:UInt8) (l:List UInt8) (p:List (List UInt8)×List UInt8) (N:Nat) (h1:∀ x∈p.1,x.length<=N) (h2:p.2.length+l.length<=N):(∀ x∈(l.foldl (cst b) p).1,x.length<=N)/\(l.foldl (cst b) p).2.length<=N:=by
 induction l generalizing p with
 | nil=>exact ⟨h1,by simpa using h2⟩
 | cons c l ih=>
  rw [iw];apply ih
  · unfold cst;split
    · intro x hx;rcases Yg.1 hx with h | h
      · exact h1 x h
      · simp at h;subst h;simp at h2;omega
    · exact h1
  · simp only [o_] at h2;unfold cst;split
    · simp;omega
    · simp;omega
theorem ah (b:UInt8) (l:List UInt8) (k:Nat):((G8 b l).getD k []).length<=l.length:=by
 obtain ⟨h1,h2⟩:=qC b l ([],[]) l.length X4 X4;have h:∀ x∈G8 b l,x.length<=l.length:=by
  intro x hx;unfold G8 y8 at hx;rcases Yg.1 hx with h | h
  · exact h1 x h
  · simp at h;subst h;exact h2
 rcases Q7 k (G8 b l).length with a | a
 · rw [List.getD,Z8 a];exact h _ (Bj a)
 · rw [List.getD,Yb a];simp
theorem gm (b:UInt8) (l:List UInt8):1<=(G8 b l).length/\(G8 b l).length<=l.length+1:=by
 have:=Gu b l;unfold G8;rw [D9,Si];omega
def Yw (l:List UInt8) (x:M3) (ok:Bool):Prop:=(ok=true->Ze x=true/\l=Oc x)/\(ok=false->∀ y,Ze y=true->l≠Oc y)
theorem RQ (h:∀ y,Ze y=true->l≠Oc y):Yw l x false:=⟨(fun h=>by cases h),fun _=>h⟩
theorem Xu (c:Ze y=true) (h:l=Oc y):((32:UInt8)∈l/\(32:UInt8)∈Y1 l)/\O1 l=y.nm.data.toList/\O1 (Y1 l)=y.tl.data.toList/\Y1 (Y1 l)=P5 y.ar.data.toList:=by
 obtain ⟨h1,h2,_⟩:=jh c;rw [Ac] at h;have b:=J7 (r:=y.tl.data.toList++32::P5 y.ar.data.toList) (L_ h1).1;have a:=J7 (r:=P5 y.ar.data.toList) (L_ h2).1;rw [h,b.1,b.2,a.1,a.2];exact ⟨⟨X4,X4⟩,rfl,rfl,rfl⟩
theorem bG (hm:(32:UInt8)∈l) (f:(32:UInt8)∈Y1 l) (a:(ok=true->Y1 (Y1 l)=P5 t)/\(ok=false->∀ q,Y1 (Y1 l)≠P5 q)):
 (ok=true->Ze ⟨J3 (O1 l),J3 (O1 (Y1 l)),J3 t⟩=true->Yw l ⟨J3 (O1 l),J3 (O1 (Y1 l)),J3 t⟩ true)/\(¬ (ok=true/\Ze ⟨J3 (O1 l),J3 (O1 (Y1 l)),J3 t⟩=true)->∀ y,Ze y=true->l≠Oc y):=by
 constructor
 · intro h1 h2;refine ⟨fun _=>⟨h2,?_⟩,(fun h=>by cases h)⟩;rw [Ac];show l=O1 l++32::(O1 (Y1 l)++32::P5 t);rw [<- a.1 h1,<- (Ol f).1,<- (Ol hm).1]
 · intro d y b e;obtain ⟨_,e1,g,c⟩:=Xu b e;apply d;cases ok
   · exact absurd c (a.2 rfl _)
   · refine ⟨rfl,?_⟩;have:t=y.ar.data.toList:=Yl ((a.1 rfl).symm.trans c);rw [this,e1,g];exact b
theorem yL (l:List UInt8) (w:World) (hs:l.length<=1048700) (hm:Dc w):
 Calls prog 201 #[.string (J3 l),.string ⟨#[32]⟩] w fun e w'=>(∃ y,e=.returned (.tuple #[.string (J3 (O1 l)),.string (J3 (Y1 l)),.bool y]))/\Below w.heap.size w w':=by
 obtain ⟨_,m,hm⟩:=hm;refine (Tryz.strings_Cut (J3 l) ⟨#[32]⟩ m w (by rw [I5];omega) hm).mono ?_;rintro e w' ⟨rfl,n,rfl⟩;refine ⟨⟨(Lib.cut l [32]).2.2,?_⟩,below_drewN n⟩;rw [<- MH,<- dD];rfl
theorem kK {ss:LB} (h:ss.map (·.data.toList)=ls):ss=ls.map J3:=by
 rw [<- h,ru]
 conv=>lhs;rw [<- JE ss]
 refine Ku fun s _=>?_;exact Qb rfl
theorem a0U (l:List UInt8) (w:World) (hs:l.length<=1048700) (hm:Dc w):
 Calls prog 269 #[.string (J3 l),.string ⟨#[32]⟩,.int .i64 3] w fun e w'=>(∃ b,e=.returned (.slice (some ⟨w.heap.size,0,none⟩) (Ad l 2).length b)/\Xb w' w.heap.size (Ad l 2))/\Below w.heap.size w w':=by
 obtain ⟨_,m,hm⟩:=hm;refine (Tryz.strings_SplitN (J3 l) ⟨#[32]⟩ 3 m w (by rw [I5];omega) hm o6 O0 O0).mono ?_;have hd:Lib.splitB ⟨#[32]⟩ 0 (min 3 ((J3 l).size+1) - 1) (J3 l)=(Ad l 2).map J3:=by
  refine kK ?_;rw [Lib.splitB_data ⟨#[32]⟩ 0 (min 3 ((J3 l).size+1) - 1) (J3 l),I5,<- UL l];rfl
 have hlen:(Ad l 2).length<=min 3 ((J3 l).size+1):=by
  have:=Lib.splitB_length_le ⟨#[32]⟩ 0 (min 3 ((J3 l).size+1) - 1) (J3 l);rw [hd,Vd] at this;omega
 rintro e w' ⟨rfl,rfl⟩;rw [hd];refine ⟨⟨_,by rw [Vd],X4,fun i a=>?_⟩,P6⟩;have hc:(Lib.cellsOf ((Ad l 2).map J3) (min 3 ((J3 l).size+1)))[i]?=some (vS (J3 ((Ad l 2).getD i []))):=by
  unfold Lib.cellsOf;rw [List.getElem?_toArray,S_ (by simpa using a)];simp [a]
 rw [<- hc];simp
theorem rz3 {u:World} (a:Below (w.heap.size+1) (w.alloc (.cells #[.string ⟨#[]⟩,.string ⟨#[]⟩,.string ⟨#[]⟩] 135)) u):
 (u.cell? ⟨w.heap.size,0,none⟩=some (.string ⟨#[]⟩)/\u.cell? ⟨w.heap.size,1,none⟩=some (.string ⟨#[]⟩)/\u.cell? ⟨w.heap.size,2,none⟩=some (.string ⟨#[]⟩))/\u.frozen? ⟨w.heap.size,0,none⟩=false/\u.frozen? ⟨w.heap.size,1,none⟩=false/\u.frozen? ⟨w.heap.size,2,none⟩=false:=by
 have c:∀ j,u.cell? (aW w j)=(w.alloc (.cells #[vE,vE,vE] 135)).cell? (aW w j):=fun j=>a.cell X4;have f:∀ j,u.frozen? (aW w j)=(w.alloc (.cells #[vE,vE,vE] 135)).frozen? (aW w j):=fun j=>a.frozen X4;rw [c,c,c,f,f,f];simp
theorem EP {p q:Addr} {x:Value} (a:q.block≠p.block) (h:w.cell? p=some x) (v:Value):(w.setCell q v).cell? p=some x:=by
 rw [Na _ _ _ _ (fun e=>a (by rw [e]))];exact h
theorem xO (l:List UInt8) (w:World) (a:l.length<=1048700):Calls prog 207 #[.string (J3 l)] w fun e w'=>xN l e/\Below w.heap.size w w':=a2a (J3 l) w (by rw [I5];exact a)
def kY (l:List UInt8) (e:Ending):Prop:=∃ (x:M3) (ok:Bool),e=.returned (.tuple #[x.v,.bool ok])/\Yw l x ok
theorem c226 (l:List UInt8) (w:World) (hs:l.length<=16000) (hmx:Dc w):
 Calls prog 226 #[.string (J3 l)] w fun e w'=>kY l e/\Below w.heap.size w w':=by
 have d:(∀ y,Ze y=true->l≠Oc y)->Hid (kY l (.returned (.tuple #[.agg #[vE,vE,vE],.bool false]))):=fun h=>⟨D_,false,rfl,RQ h⟩;have E:Below w.heap.size w (w.alloc (.cells #[vE,vE,vE] 135)):=P6;go_enter func226,ntmps226
 go_wp2_with fail
 refine (a0U l _ O0 (x9 hmx E)).mono ?_;rintro e z ⟨⟨cap,rfl,hln⟩,hb1⟩;have K:Below (w.heap.size+1) (w.alloc (.cells #[vE,vE,vE] 135)) z:=KD hb1;have hB1:=E.trans (K.mono O0);have s:Hid (Xb z (w.heap.size+1) (Ad l 2)):=by have h:=hln;simp at h;exact h
 clear hb1 hln;obtain ⟨⟨c,b,a⟩,m,k,j⟩:=rz3 K;by_cases hm:(32:UInt8)∈l
 · by_cases D:(32:UInt8)∈Y1 l
   · have i:Ad l 2=[O1 l,O1 (Y1 l),Y1 (Y1 l)]:=by rw [ql 1 hm,ql 0 D,PI]
     rw [i] at s ⊢;have L:=s.out.1;have Z:z.cell? (aA (w.heap.size+1) 0)=some (vS (J3 (O1 l))):=s.out.2 0 X4;have Y:z.cell? (aA (w.heap.size+1) 1)=some (vS (J3 (O1 (Y1 l)))):=s.out.2 1 X4;have p2:z.cell? (aA (w.heap.size+1) 2)=some (vS (J3 (Y1 (Y1 l)))):=s.out.2 2 X4;have hr1:=D8 l;have hr2:=D8 (Y1 l);have hbp:=fun (t:List UInt8) (ok:Bool) q=>bG (l:=l) (t:=t) (ok:=ok) hm D q;clear i;generalize hA:O1 l=A at*;generalize hR:Y1 l=R at*;generalize hBB:O1 R=B at*;generalize hQ:Y1 R=Q at*;simp only [o_,Ee]
     go_wp2_with fail
     refine (xO _ _ O0).mono ?_;rintro e x ⟨⟨t,ok,rfl,q⟩,H⟩;have o:=K.trans (H.mono O0);have I:=E.trans (o.mono O0);have hlt2:=O9 L H.size;have q0:=(H.cell (by exact L)).trans Z;have q1:=(H.cell (by exact L)).trans Y;have q0':=past (by exact hlt2) q0;have q1':=past (by exact hlt2) q1;clear c b a m k j Z Y p2 s;obtain ⟨⟨c,b,a⟩,m,k,j⟩:=rz3 o;have f:w.heap.size<x.heap.size:=O0;have U:=past (by exact f) c;have S:=past (by exact f) b;have P:=past (by exact f) a;have X:=PG (by exact f) m;have W:=PG (by exact f) k;have V:=PG (by exact f) j;have u:=hbp t ok q;clear hbp;cases ok
     · have g:=d (u.2 X4);clear d u q
       go_wp2_with fail
       go_region
       all_goals
        go_wp2_with fail
        have F:=Gp x w.heap.size 0 vE vE vE _ _ _ c b a;simp only [L8] at F;have G0:=past (p:=(aW w 0)) (by simpa using f) F.1;have G1:=past (p:=(aW w 1)) (by simpa using f) F.2.1;have G2:=past (p:=(aW w 2)) (by simpa using f) F.2.2;refine Y6 (v:=.tuple #[.agg #[vE,vE,vE],.bool false]) (by simp [results,results226,go_sem,G0,G1,G2]) rfl ⟨g.out,?_⟩
        first
         | exact ((((I.setCell X4 _).setCell X4 _).setCell X4 _).alloc (by simpa using I.size) _).drew
         | exact (((I.setCell X4 _).setCell X4 _).setCell X4 _).alloc (by simpa using I.size) _
     · have hQl:=q.1 rfl;have htl:t.length<=16000:=by
        have:=Xm t;rw [<- hQl] at this;omega
       have hle:(⟨J3 A,J3 B,J3 t⟩:M3).le 1048700:=⟨by rw [I5];omega,by rw [I5];omega,by rw [I5];omega⟩;clear q;cases hk:Ze ⟨J3 A,J3 B,J3 t⟩
       · have g:=d (u.2 (by rw [hk];simp));have O:=fun w'=>VK hk w' hle;clear d u hk
         go_wp2_with fail
         go_region
         all_goals
          go_wp2_with fail
          refine (O _).mono ?_;rintro e n ⟨rfl,r⟩;have C:Below (w.heap.size+1) (w.alloc (.cells #[vE,vE,vE] 135)) n:=by
           refine Below.trans ?_ (r.mono U7)
           first | exact (o.alloc O0 _).drew | exact o.alloc O0 _
          have N:=E.trans (C.mono O0);clear c b a m k j U S P X W V;obtain ⟨⟨c,b,a⟩,m,k,j⟩:=rz3 C;go_wp2;refine Y6 (v:=.tuple #[.agg #[vE,vE,vE],.bool false]) (by simp [results,results226,go_sem,c,b,a]) rfl ⟨g.out,((N.setCell X4 _).setCell X4 _).setCell X4 _⟩
       · have g:Hid (kY l (.returned (.tuple #[.agg #[vS (J3 A),vS (J3 B),vS (J3 t)],.bool true]))):=⟨⟨J3 A,J3 B,J3 t⟩,true,rfl,u.1 rfl hk⟩;have O:=fun w'=>VK hk w' hle;clear d u hk
         go_wp2_with fail
         go_region
         all_goals
          go_wp2_with fail
          refine (O _).mono ?_;rintro e n ⟨rfl,r⟩;have C:Below (w.heap.size+1) (w.alloc (.cells #[vE,vE,vE] 135)) n:=by
           refine Below.trans ?_ (r.mono U7)
           first | exact (o.alloc O0 _).drew | exact o.alloc O0 _
          have N:=E.trans (C.mono O0);have m0:n.cell? (aW x 0)=some (vS (J3 A)):=by rw [r.cell X4];simp [go_sem]
          have m1:n.cell? (aW x 1)=some (vS (J3 B)):=by rw [r.cell X4];simp [go_sem]
          have m2:n.cell? (aW x 2)=some (vS (J3 t)):=by rw [r.cell X4];simp [go_sem]
          clear c b a m k j U S P X W V;obtain ⟨⟨c,b,a⟩,m,k,j⟩:=rz3 C;go_wp2;have F:=Gp n w.heap.size 0 (vS (J3 A)) (vS (J3 B)) (vS (J3 t)) _ _ _ c b a;simp only [L8] at F;refine Y6 (v:=.tuple #[.agg #[vS (J3 A),vS (J3 B),vS (J3 t)],.bool true]) (by simp [results,results226,go_sem,F.1,F.2.1,F.2.2]) rfl ⟨g.out,((N.setCell X4 _).setCell X4 _).setCell X4 _⟩
   · have i:Ad l 2=[O1 l,Y1 l]:=by rw [ql 1 hm,Gh _ D]
     have g:=d (fun y J e=>D (Xu J e).1.2);rw [i];clear d i hm D;simp only [o_,Ee];go_wp2;refine Y6 (v:=.tuple #[.agg #[vE,vE,vE],.bool false]) (by simp [results,results226,go_sem,c,b,a]) rfl ⟨g.out,((hB1.setCell X4 _).setCell X4 _).setCell X4 _⟩
 · have i:Ad l 2=[l]:=Gh _ hm;have g:=d (fun y J e=>hm (Xu J e).1.1);rw [i];clear d i hm;simp only [o_,Ee];go_wp2;refine Y6 (v:=.tuple #[.agg #[vE,vE,vE],.bool false]) (by simp [results,results226,go_sem,c,b,a]) rfl ⟨g.out,((hB1.setCell X4 _).setCell X4 _).setCell X4 _⟩
def Ih (M:Int) (l:List UInt8):Bool:=Ob l&&l.all j_&&decide (val l<=M)
def xH (M:Int) (l:List UInt8):Int:=if Ih M l=true then val l else 0
theorem GK (h:Ob l=false):Ih M l=false:=by simp [Ih,h]
theorem ZO (h:l.all j_=false):Ih M l=false:=by simp only [Ih,h,Nu,jy]
theorem a0c (k:Nat) (h:M<val (l.take k)):Ih M l=false:=by
 by_cases ha:l.all j_=true
 · have:=jo l ha k;have hd:decide (val l<=M)=false:=by simp only [Ar];omega
   simp only [Ih,hd,Nu]
 · exact ZO (by simpa using ha)
theorem AO (h1:Ob l=true) (h2:l.all j_=true) (a:val l<=M):Ih M l=true:=by
 have hd:decide (val l<=M)=true:=by simpa using a
 simp only [Ih,h1,h2,hd,II]
theorem VE (h:Ih M l=false):xH M l=0:=by simp [xH,h]
theorem IE (h:Ih M l=true):xH M l=val l:=by simp [xH,h]
theorem wX (M:Int) (s:BY) (w:World) (hs:s.size<=1048700) (v:0<=M) (hM1:M<=100000):
 Calls prog 202 #[.string s,.int .i64 M] w fun e w'=>e=.returned (.tuple #[.int .i64 (xH M s.data.toList),.bool (Ih M s.data.toList)])/\w'=w:=by
 by_cases h0:s.size=0
 · have e0:s.toList=[]:=by
    rw [ByteArray.toList_eq];exact Va.1 (by simpa using h0)
   have a:Hid (Ih M s.data.toList=false):=GK (by rw [<- ByteArray.toList_eq,e0];rfl);go_enter func202,ntmps202;go_wp2;go_ret2;exact ⟨Ia (VE a.out).symm a.out.symm,rfl⟩
 · have e0:s.toList.isEmpty=false:=by rw [ByteArray.toList_eq];exact uo s O0
   have e1:¬ s.toList=[]:=fun h=>by rw [h] at e0;cases e0
   have r:0<s.size:=O0;have g:=Ep s r;by_cases hl:Ob s.data.toList=true
   · have x:=U0 hl;have hc:(s[0].toNat=48/\s.toList=[48])\/((s[0].toNat:Int)==48)=false:=by
      by_cases c:s[0].toNat=48
      · refine .inl ⟨c,?_⟩;have h1:s[0]=48:=Yh.1 c;rw [ByteArray.toList_eq];exact ((xh _).1 hl).2 (by rw [g];exact h1)
      · exact .inr U7
     clear hl g;rcases hc with ⟨c,d⟩ | c
     all_goals
      go_enter func202,ntmps202;go_wp2;go_loop [6,21] (fun n i=>∃ k:Nat,k<=s.size/\i=.int .i64 k/\n=.int .i64 (val (s.data.toList.take k))/\0<=val (s.data.toList.take k)/\val (s.data.toList.take k)<=M/\Hid ((s.data.toList.take k).all j_=true)) (fun _ i=>s.size - (RowKit.intOf i).toNat)
      case atStart=>exact ⟨0,J4 _,rfl,rfl,by simp [val],by simpa [val] using v,rfl⟩
      case round=>
       obtain ⟨k,hk,rfl,rfl,hv0,q,ha⟩:=hrel;by_cases j:k<s.size
       · by_cases b:j_ s[k]=true
         · have l:=(Ld _).1 b;have hw:=Qn _ l;have u:=U0 (Zc _ s k j ha.out b);have f:Hid (val (s.data.toList.take (k+1))=val (s.data.toList.take k)*10+((s[k].toNat:Int) - 48)):=by
            rw [take_snoc s k j];exact He _ _
           clear b;by_cases t:M<val (s.data.toList.take k)*10+((s[k].toNat:Int) - 48)
           · have a:=U0 (a0c (k+1) (by rw [f.out];exact t));go_wp2;go_ret2;exact ⟨Ia (VE a.out).symm a.out.symm,rfl⟩
           · go_wp2
             go_round
             case rel=>exact ⟨k+1,O0,by go_num,by rw [f.out],by rw [f.out];omega,by rw [f.out];omega,u⟩
             case measure=>simp [RowKit.intOf];omega
         · have a:Hid (Ih M s.data.toList=false):=ZO (Je _ s k j (by simpa using b));have l:(s[k].toNat:Int)<48\/57<(s[k].toNat:Int):=by
            rcases Om (s[k].toNat:Int) 48 with h | h
            · exact .inl h
            · rcases Om 57 (s[k].toNat:Int) with o | o
              · exact .inr o
              · exact absurd ((Ld _).2 ⟨h,o⟩) b
           clear b;rcases l with b | b
           all_goals
            go_wp2
            all_goals go_ret2
            all_goals exact ⟨Ia (VE a.out).symm a.out.symm,rfl⟩
       · have p:=Uc _ s k O0 ha.out;have m:s.data.toList.take k=s.data.toList:=l_ U7;have a:=U0 (AO x.out p (by rw [<- m];exact q));have y:=U0 m;clear p m;go_wp2;go_ret2;exact ⟨Ia (by rw [IE a.out,y.out]) a.out.symm,rfl⟩
   · have a:Hid (Ih M s.data.toList=false):=GK (by simpa using hl);have c:s[0].toNat=48/\¬ s.toList=[48]:=by
      rw [ByteArray.toList_eq] at e1 ⊢;rw [xh,g] at hl;by_cases h1:s[0]=48
      · refine ⟨by rw [h1];rfl,fun d=>hl ⟨e1,fun _=>d⟩⟩
      · exact absurd ⟨e1,fun h=>absurd h h1⟩ hl
     obtain ⟨c,d⟩:=c;have hz':(!s.toList==[48])=true:=by simpa using d
     clear g hl;go_enter func202,ntmps202;go_wp2;go_ret2;exact ⟨Ia (VE a.out).symm a.out.symm,rfl⟩
theorem eP (f:Nat) (n:Int) (h0:0<=n) (hf:n.toNat<f):(dec n).all j_=true/\val (dec n)=n:=by
 induction f generalizing n with
 | zero=>omega
 | succ f ih=>
  by_cases h:n<10
  · rw [dec_lt n h];obtain rfl | rfl | rfl | rfl | rfl | rfl | rfl | rfl | rfl | rfl:n=0\/n=1\/n=2\/n=3\/n=4\/n=5\/n=6\/n=7\/n=8\/n=9:=O0
    all_goals decide
  · obtain ⟨h1,h2⟩:=ih (n / 10) O0 O0;rw [Tj n O0,He,h2,Pn,h1];have hd:0<=n % 10/\n % 10<10:=O0;have a:n=n / 10*10+n % 10:=O0;generalize n % 10=d at*;generalize n / 10=q at*;obtain rfl | rfl | rfl | rfl | rfl | rfl | rfl | rfl | rfl | rfl:d=0\/d=1\/d=2\/d=3\/d=4\/d=5\/d=6\/d=7\/d=8\/d=9:=O0
    all_goals exact ⟨o6,by rw [a];rfl⟩
theorem Tt (n:Int) (h0:0<=n):(dec n).all j_=true/\val (dec n)=n:=eP (n.toNat+1) n h0 O0
theorem kM (n:Int) (h0:0<=n):Ob (dec n)=true:=(VF (n.toNat+1) n h0 O0).1
theorem Bz (h0:0<=n) (h1:n<=M):Ih M (dec n)=true/\xH M (dec n)=n:=by
 obtain ⟨a,b⟩:=Tt n h0;have:Ih M (dec n)=true:=AO (kM n h0) a (by rw [b];exact h1);exact ⟨this,by rw [IE this,b]⟩
theorem TK (h:Ih M l=true):l=dec (xH M l)/\0<=xH M l/\xH M l<=M:=by
 rw [IE h];simp only [Ih,V_,Ud] at h;obtain ⟨⟨h1,h2⟩,a⟩:=h;exact ⟨(ax l h2 h1).1.symm,jm l h2,a⟩
theorem KG (h0:0<=n) (h1:n<=1000):n29 (dec n)=n:=by
 obtain ⟨a,b⟩:=Tt n h0;have:=Rt n h0 h1;have hne:=pq.2 (JI n);rw [oD ⟨O0,O0⟩ a (by rw [b]),b]
theorem lY (h:l.all j_=true):(32:UInt8)∉l/\(10:UInt8)∉l:=by
 rw [Jo] at h;constructor
 · intro hm;have:=h _ hm;revert this;decide
 · intro hm;have:=h _ hm;revert this;decide
theorem TD (h0:0<=n):(32:UInt8)∉dec n/\(10:UInt8)∉dec n:=lY (Tt n h0).1
theorem pG (l:List UInt8):P5 l≠[]:=by intro h;have:=Xm l;rw [h] at this;simp at this
theorem gX (h:Y1 l≠[]):(32:UInt8)∈l:=by
 by_cases hm:(32:UInt8)∈l
 · exact hm
 · exact absurd (Oi hm).2 h
theorem Pe (h:Y1 l≠[]):l=O1 l++32::Y1 l:=(Ol (gX h)).1
theorem L9 (l:List UInt8):(J3 l).data.toList=l:=rfl
def MC (l:List UInt8) (c:Int) (t:BY) (ok:Bool):Prop:=(∀ c' t',0<=c'->c'<=7->l=Za c' t'->ok=true/\c=c'/\t=t')/\(ok=true->l=Za c t)
theorem Yj (c:Int) (t:BY):Za c t=dec c++32::P5 t.data.toList:=by simp [Za]
theorem qE (c:Int) (t:BY):Za c t≠[]:=by rw [Yj];simp
theorem Hu (t:BY) (h:0<=c):O1 (Za c t)=dec c/\Y1 (Za c t)=P5 t.data.toList:=by
 rw [Yj];exact J7 (TD h).1
theorem AL (d:Unq (Y1 l) t true) (f:Ih 7 (O1 l)=true):MC l (xH 7 (O1 l)) (J3 t) true:=by
 have a:=d.1 rfl;obtain ⟨h,d2,d3⟩:=TK f;constructor
 · intro c' b h0 g e;obtain ⟨e1,c⟩:=Hu b h0;rw [<- e] at e1 c;refine ⟨rfl,?_,?_⟩
   · rw [e1];exact (Bz h0 g).2
   · have:t=b.data.toList:=Yl (a.symm.trans c);rw [this];rfl
 · intro _;rw [Yj,<- h,L9,<- a];exact Pe (by rw [a];exact pG _)
theorem JS {a:Bool} (f:Unq (Y1 l) t a) (h:Ih 7 (O1 l)=false\/a=false) (c:Int) (x:BY):MC l c x false:=by
 refine ⟨fun c' d h0 g e=>?_,fun h=>by cases h⟩;obtain ⟨e1,b⟩:=Hu d h0;rw [<- e] at e1 b;rcases h with h | h
 · rw [e1,(Bz h0 g).1] at h;cases h
 · subst h;exact absurd b (f.2 rfl _)
def yc (x:L4):List UInt8:=(lookW x.has).data.toList++32::(x.nm.data.toList++32::Za x.cd x.tx)
theorem dW (x:L4):Dn x=yc x++[10]:=by
 unfold Dn yc Wv lookW;cases x.has <;> simp
theorem dH (b:Bool):(32:UInt8)∉(lookW b).data.toList/\(10:UInt8)∉(lookW b).data.toList:=by cases b <;> decide
theorem dN {x:L4} (h:Rh x):(10:UInt8)∉yc x:=by
 unfold yc;rw [Yj];simp only [Yg,Jd,Rl];exact ⟨(dH _).2,o6,(L_ h.1).2,o6,(TD (Ci h).1).2,o6,Ti _⟩
theorem Sl {x:L4} (h:Y5 x.nm.data.toList=true):O1 (yc x)=(lookW x.has).data.toList/\O1 (Y1 (yc x))=x.nm.data.toList/\Y1 (Y1 (yc x))=Za x.cd x.tx:=by
 obtain ⟨a,b⟩:=J7 (r:=x.nm.data.toList++32::Za x.cd x.tx) (dH x.has).1;obtain ⟨c,d⟩:=J7 (r:=Za x.cd x.tx) (L_ h).1;unfold yc;rw [a,b,c,d];exact ⟨rfl,rfl,rfl⟩
def dm (l:List UInt8) (x:L4) (ok:Bool):Prop:=(∀ y,Rh y->l=yc y->ok=true/\x=y)/\(ok=true->Rh x->l=yc x)
def Cj (l:List UInt8):Bool:=decide (O1 l=[104,97,115])
def aB (l:List UInt8):Bool:=Cj l || decide (O1 l=[97,115,107])
theorem ZQ (h:aB l=true):O1 l=(lookW (Cj l)).data.toList:=by
 unfold aB at h;cases hh:Cj l
 · rw [hh] at h;simp only [Bool.false_or,Ud] at h;rw [h];rfl
 · unfold Cj at hh;rw [Ud] at hh;rw [hh];rfl
theorem Xr {b:Bool} (h:O1 l=(lookW b).data.toList):aB l=true/\Cj l=b:=by
 unfold aB Cj;rw [h];cases b <;> decide
theorem NH {t:BY} (hw:aB l=true) (hr:MC (Y1 (Y1 l)) c t true):dm l ⟨Cj l,J3 (O1 (Y1 l)),c,t⟩ true:=by
 constructor
 · intro y f e;obtain ⟨a,b,d⟩:=Sl f.1;rw [<- e] at a b d;obtain ⟨_,h1,h2⟩:=hr.1 _ _ (Ci f).1 (Ci f).2 d;refine ⟨rfl,?_⟩;rw [(Xr a).2,b,h1,h2];rfl
 · intro _ _;have e:=hr.2 rfl;have h2:Y1 (Y1 l)≠[]:=by rw [e];exact qE _ _
   have h1:Y1 l≠[]:=fun h=>by rw [h] at h2;exact h2 rfl
   unfold yc;rw [L9,<- ZQ hw,<- e,<- Pe h2,<- Pe h1]
theorem ZN {t:BY} (hr:MC (Y1 (Y1 l)) c t ok) (h:aB l=false\/ok=false) (x:L4):dm l x false:=by
 refine ⟨fun y f e=>?_,fun h=>by cases h⟩;obtain ⟨a,b,d⟩:=Sl f.1;rw [<- e] at a b d;rcases h with h | h
 · rw [(Xr a).1] at h;cases h
 · have:=(hr.1 _ _ (Ci f).1 (Ci f).2 d).1;rw [h] at this;cases this
def Cm (ls:List (List UInt8)) (xs:List L4) (ok:Bool):Prop:=(∀ ys,(∀ i,i<ys.length->Rh (ys.getD i E_))->ls=ys.map yc->ok=true/\xs=ys)/\(ok=true->(∀ i,i<xs.length->Rh (xs.getD i E_))->ls=xs.map yc)
theorem Pq (ys:List L4) (i:Nat) (h:i<ys.length):(ys.map yc).getD i []=yc (ys.getD i E_):=by
 simp [List.getD,h]
theorem uG {α:Type} {a b:List α} {d:α} (hl:a.length=b.length) (h:∀ i,i<a.length->a.getD i d=b.getD i d):a=b:=by
 refine Vy hl fun i h1 h2=>?_;have:=h i h1;simpa [List.getD,h1,h2] using this
theorem RF {xs:List L4} (hl:xs.length=ls.length) (h:∀ i,i<ls.length->dm (ls.getD i []) (xs.getD i E_) true):Cm ls xs true:=by
 constructor
 · intro ys b e;subst e;rw [Vd] at hl h;refine ⟨rfl,uG (d:=E_) hl fun i a=>?_⟩;exact ((h i O0).1 _ (b i O0) (Pq ys i O0)).2
 · intro _ hx;refine uG (d:=[]) (by rw [Vd,hl]) fun i a=>?_;rw [Pq xs i O0];exact (h i a).2 rfl (hx i O0)
theorem RH {k:Nat} {x:L4} (a:k<ls.length) (h:dm (ls.getD k []) x false) (xs:List L4):Cm ls xs false:=by
 refine ⟨fun ys b e=>?_,fun h=>by cases h⟩;subst e;rw [Vd] at a;have:=(h.1 _ (b k a) (Pq ys k a)).1;cases this
theorem Zv (h:b∉l) (P:List (List UInt8)) (q:List UInt8):l.foldl (cst b) (P,q)=(P,q++l):=by
 induction l generalizing q with
 | nil=>simp
 | cons c l ih=>
  have hc:c≠b:=fun e=>h (by simp [e]);rw [iw];have:cst b (P,q) c=(P,q++[c]):=by unfold cst;rw [if_neg hc]
  rw [this,ih (fun hm=>h (Rf _ hm)),iq];rfl
theorem nD (b:UInt8) (l:List UInt8) (P Q:List (List UInt8)) (q:List UInt8):l.foldl (cst b) (P++Q,q)=(P++(l.foldl (cst b) (Q,q)).1,(l.foldl (cst b) (Q,q)).2):=by
 induction l generalizing Q q with
 | nil=>rfl
 | cons c l ih=>
  rw [iw,iw];by_cases hc:c=b
  · have e1:cst b (P++Q,q) c=(P++(Q++[q]),[]):=by unfold cst;rw [if_pos hc,List.append_assoc]
    have a:cst b (Q,q) c=(Q++[q],[]):=by unfold cst;rw [if_pos hc]
    rw [e1,a,ih]
  · have e1:cst b (P++Q,q) c=(P++Q,q++[c]):=by unfold cst;rw [if_neg hc]
    have a:cst b (Q,q) c=(Q,q++[c]):=by unfold cst;rw [if_neg hc]
    rw [e1,a,ih]
theorem qO (h:b∉l):G8 b l=[l]:=by
 unfold G8 y8;rw [Zv h];rfl
theorem bK (h:b∉a):G8 b (a++b::r)=a::G8 b r:=by
 unfold G8 y8;rw [wE,Zv h,iw];have e:cst b ([],[]++a) b=([a]++[],[]):=by unfold cst;rw [if_pos rfl];simp
 rw [e,nD];simp
theorem a0N (b:UInt8) (l:List UInt8):(Lib.index l [b]=-1/\b∉l)\/(∃ i:Nat,Lib.index l [b]=i/\i<l.length/\l=l.take i++b::l.drop (i+1)/\b∉l.take i):=by
 rw [Lib.index_one];have hge:=Lib.indexByte_ge l b;by_cases h:Lib.indexByte l b=-1
 · refine .inl ⟨h,fun hm=>?_⟩;obtain ⟨k,a,e⟩:=Zd hm;exact Lib.indexByte_none h k (by rw [Z8 a,e])
 · obtain ⟨o,ho⟩:∃ o:Nat,Lib.indexByte l b=o:=⟨(Lib.indexByte l b).toNat,O0⟩;obtain ⟨h1,h2⟩:=Lib.indexByte_some ho;have hl:o<l.length:=by
    rcases Q7 o l.length with h | h
    · exact h
    · rw [Yb h] at h1;cases h1
   refine .inr ⟨o,ho,hl,?_,fun hm=>?_⟩
   · have hx:l[o]=b:=by rw [Z8 hl] at h1;exact w_ h1
     conv=>lhs;rw [<- Hl o l,Xz hl,hx]
   · obtain ⟨k,a,e⟩:=Zd hm;rw [B_] at a;rw [fE] at e;exact h2 k O0 (by rw [Z8 O0,e])
theorem YT (b:UInt8) (f:Nat):∀ l:List UInt8,l.length<f->Lib.splitK [b] 0 (Lib.countFrom [b] f l) l=G8 b l/\(G8 b l).length=Lib.countFrom [b] f l+1:=by
 induction f with
 | zero=>intro l h;omega
 | succ f ih=>
  intro l h;rcases a0N b l with ⟨a,c⟩ | ⟨i,a,hl,he,c⟩
  · have hc:Lib.countFrom [b] (f+1) l=0:=by rw [Lib.countFrom,a];rfl
    rw [hc,qO c];exact ⟨rfl,rfl⟩
  · have d:¬ ((i:Int)==-1)=true:=fun e=>by have:=Ko.1 e;omega
    obtain ⟨h1,h2⟩:=ih (l.drop (i+1)) (by rw [yj];omega);have hc:Lib.countFrom [b] (f+1) l=Lib.countFrom [b] f (l.drop (i+1))+1:=by
     rw [Lib.countFrom,a,I7 d,Nat.add_comm];rfl
    have hcut:G8 b l=l.take i::G8 b (l.drop (i+1)):=by
     conv=>lhs;rw [he]
     exact bK c
    rw [hc,hcut];refine ⟨?_,by rw [o_,h2]⟩;rw [Lib.splitK,a,I7 d,<- h1];rfl
theorem a2f (b:UInt8) (s:BY) (w:World) (hs:s.size<=1048700) (hm:Dc w):
 Calls prog 205 #[.string s,.string ⟨#[b]⟩] w fun e w'=>(e=.returned (.slice (some ⟨w.heap.size,0,none⟩) (G8 b s.data.toList).length (G8 b s.data.toList).length)/\Xb w' w.heap.size (G8 b s.data.toList))/\Bw w w':=by
 obtain ⟨_,m,hm⟩:=hm;obtain ⟨h1,h2⟩:=YT b (s.data.toList.length+1) s.data.toList O0;have hd:=kK ((Lib.splitB_data ⟨#[b]⟩ 0 (Lib.countB s ⟨#[b]⟩) s).trans h1);have hc:Lib.countB s ⟨#[b]⟩+1=(G8 b s.data.toList).length:=h2.symm;refine (Tryz.strings_Split s ⟨#[b]⟩ m w O0 hm (v_ 1)).mono ?_;rintro e w' ⟨rfl,rfl⟩;rw [hd,hc];refine ⟨⟨rfl,X4,fun i a=>?_⟩,P6⟩;simp [a]
def Vh (l:List UInt8):Bool:=decide (l.getLastD 0=10)
theorem ay (h:Vh l=true):l=l.dropLast++[10]:=by
 unfold Vh at h;rw [Ud] at h;rcases xC l with e | ⟨r,c,e⟩
 · subst e;cases h
 · rw [xB] at e;subst e;rw [ZI] at h;rw [List.dropLast_concat,h]
theorem jU (l:List UInt8):Vh (l++[10])=true:=by unfold Vh;rw [List.getLastD_concat];rfl
theorem last_one (s:BY) (h:1<=s.size):s.extract (s.size - 1) s.size=J3 [s.data.toList.getLastD 0]:=by
 refine Qb ?_;rw [ext_list,l_ X4];obtain ⟨r,c,e⟩:∃ r c,s.data.toList=r++[c]:=by
  rcases xC s.data.toList with e | ⟨r,c,e⟩
  · have:s.data.toList.length=s.size:=X4;rw [e] at this;simp at this;omega
  · exact ⟨r,c,by rw [e,xB]⟩
 have hl:s.data.toList.length=s.size:=X4;rw [e] at hl ⊢;rw [D9,Si] at hl;rw [ZI,show s.size - 1=r.length by omega,List.drop_left]
theorem SQ (s:BY):s.extract 0 (s.size - 1)=J3 s.data.toList.dropLast:=by
 refine Qb ?_;rw [ext_list,KE,List.dropLast_eq_take];simp
theorem a2w (s:BY) (w:World) (hs:s.size<=1048700):
 Calls prog 276 #[.string s,.string ⟨#[10]⟩] w fun e w'=>e=.returned (.bool (Vh s.data.toList))/\w'=w:=by
 by_cases h:1<=s.size
 · have HX:=last_one s h;have a:((J3 [s.data.toList.getLastD 0]).toList==[10])=Vh s.data.toList:=by
    rw [ByteArray.toList_eq,L9];unfold Vh;by_cases hc:s.data.toList.getLastD 0=10
    · rw [hc];rfl
    · rw [S9 hc];exact p_.2 fun e=>hc (Lm e).1
   generalize Vh s.data.toList=b at*;generalize s.data.toList.getLastD 0=c at*;go_enter func276,ntmps276;go_wp2;go_ret;exact ⟨rfl,rfl⟩
 · have a:Vh s.data.toList=false:=by
    have hl:s.data.toList.length=s.size:=X4;have:s.data.toList=[]:=Va.1 O0;rw [this];rfl
   generalize Vh s.data.toList=b at*;subst a;go_enter func276,ntmps276;go_wp2;go_ret;exact ⟨rfl,rfl⟩
def Qx (l:List UInt8):List UInt8:=if Vh l=true then l.dropLast else l
theorem a3p (s:BY) (w:World) (a:s.size<=1048700):
 Calls prog 245 #[.string s,.string ⟨#[10]⟩] w fun e w'=>e=.returned (.tuple #[.string (J3 (Qx s.data.toList)),.bool (Vh s.data.toList)])/\w'=w:=by
 have hX:=SQ s;have hP:(Vh s.data.toList=true->J3 (Qx s.data.toList)=J3 s.data.toList.dropLast/\1<=s.size)/\(Vh s.data.toList=false->J3 (Qx s.data.toList)=s):=by
  unfold Qx;constructor
  · intro h;rw [X7 h];refine ⟨rfl,?_⟩;have e:=ay h;have hl:s.data.toList.length=s.size:=X4;rw [e] at hl;rw [D9,Si] at hl;omega
  · intro h;rw [I7 (by rw [h];decide)];rfl
 have hc:=a2w s;generalize J3 (Qx s.data.toList)=p at*;generalize J3 s.data.toList.dropLast=q at*;generalize Vh s.data.toList=b at*;go_enter func245,ntmps245
 go_wp2_with fail
 refine (hc _ a).mono ?_;rintro e w1 ⟨rfl,rfl⟩;cases b
 · have e:=hP.2 rfl;subst e;go_wp2;go_ret2;exact ⟨rfl,rfl⟩
 · obtain ⟨e,h1⟩:=hP.1 rfl;subst e;go_wp2;go_ret2;exact ⟨rfl,rfl⟩
theorem a3r (s:BY) (w:World) (a:s.size<=1048700):
 Calls prog 204 #[.string s,.string ⟨#[10]⟩] w fun e w'=>e=.returned (.tuple #[.string (J3 (Qx s.data.toList)),.bool (Vh s.data.toList)])/\w'=w:=by
 have hc:=a3p s;generalize J3 (Qx s.data.toList)=p at*;generalize Vh s.data.toList=b at*;go_enter func204,ntmps204
 go_wp2_with fail
 refine (hc _ a).mono ?_;rintro e w1 ⟨rfl,rfl⟩;go_wp2;go_ret2;exact ⟨rfl,rfl⟩
def a2e (w w':World) (l:List UInt8) (e:Ending):Prop:=(Vh l=false/\e=.returned (.tuple #[.slice none 0 0,.bool false]))\/(Vh l=true/\∃ g,e=.returned (.tuple #[.slice (some ⟨g,0,none⟩) (G8 10 l.dropLast).length (G8 10 l.dropLast).length,.bool true])/\w.heap.size<=g/\Xb w' g (G8 10 l.dropLast))
theorem a2i (s:BY) (w:World) (d:s.size<=1048700) (f:Dc w):
 Calls prog 153 #[.string s] w fun e w'=>a2e w w' s.data.toList e/\Bw w w':=by
 have hc:=a3r s;have c:(J3 (Qx s.data.toList)).size<=1048700:=by
  rw [I5];unfold Qx;split
  · rw [List.length_dropLast];simp;omega
  · simp;omega
 have b:Vh s.data.toList=true->Qx s.data.toList=s.data.toList.dropLast:=fun h=>by unfold Qx;rw [if_pos h]
 generalize s.data.toList=l at*;go_enter func153,ntmps153
 go_wp2_with fail
 refine (hc _ d).mono ?_;rintro e w1 ⟨rfl,rfl⟩;cases hb:Vh l
 · go_wp2;go_ret2;exact ⟨.inl ⟨hb,rfl⟩,Z4 _ _⟩
 · rw [b hb] at c ⊢;clear hc b
   go_wp2_with fail
   refine (a2f 10 (J3 l.dropLast) _ c f).mono ?_;rintro e w2 ⟨⟨rfl,a⟩,i⟩;rw [L9] at a ⊢;have g:=a;clear a;go_wp2;go_ret2;exact ⟨.inr ⟨hb,_,rfl,v_ _,g⟩,i⟩
