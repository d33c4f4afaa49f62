import Derived.Test.YtkdbheidpdjimaaGreatDoorK1
set_option linter.unusedVariables false
set_option maxHeartbeats 8000000
set_option maxRecDepth 100000
namespace Go.Proofs.YtkdbheidpdjimaaGreatDoor
open Proofs.Tryz Go.RowKit
variable {u w:World} {B base e n size:Nat} {old vs xs:List Value} {P:Program} {ops:Array Oper} {o:Oper} {a:Act} {v:Value}
theorem c208 (b:Bool) (w:World):Calls prog 208 #[.bool b] w fun e w'=>e=.returned (.string (if b then ⟨#[49]⟩ else ⟨#[48]⟩))/\Bw w w':=by
 cases b
 · go_enter func208,ntmps208;go_wp2;go_ret;exact ⟨rfl,Z4 _ _⟩
 · go_enter func208,ntmps208;go_wp2;go_ret;exact ⟨rfl,Z4 _ _⟩
def L9 (m:M3):BY:=m.tl++⟨#[32]⟩++m.ar
theorem a0s (m:M3) (w:World) (hm:m.le 1048600):Calls prog 225 #[.agg #[.string m.nm,.string m.tl,.string m.ar]] w fun e w'=>e=.returned (.string (L9 m))/\Bw w w':=by
 have h1:=hm.2.1;have h2:=hm.2.2;have hB:∀ o,Bw w (w.alloc o):=fun o=>o7;go_enter func225,ntmps225;go_wp2;go_ret;exact ⟨rfl,hB _⟩
def Wi (x:L4):BY:=if x.has then (if x.cd=0 then ⟨#[49]⟩ else ⟨#[48]⟩) else Y2 (l7 x.cd x.tx.data.toList)
theorem a1G (x:L4) (w:World) (hx:x.tx.size<=1048700):Calls prog 254 #[.agg #[.bool x.has,.string x.nm,.int .i64 x.cd,.string x.tx]] w fun e w'=>e=.returned (.string (Wi x))/\Bw w w':=by
 obtain ⟨h,nm,cd,tx⟩:=x;simp only at hx ⊢;have hB:∀ o,Bw w (w.alloc o):=fun o=>o7;cases h
 · go_enter func254,ntmps254
   go_wp2_with fail
   refine (aP cd tx _ hx).mono ?_;rintro e w1 ⟨rfl,a⟩;have c:=(hB (.cells #[.bool false,vS nm,vI cd,vS tx] 167)).trans (a.mono I4);clear a;go_wp2;go_ret;exact ⟨rfl,c⟩
 · by_cases h0:cd=0
   · subst h0;go_enter func254,ntmps254;go_wp2;go_ret;exact ⟨rfl,hB _⟩
   · have h1:(cd==0)=false:=by simpa using h0
     have b:Hid (Wi ⟨true,nm,cd,tx⟩=⟨#[48]⟩):=by show Wi _=_;unfold Wi;simp [h0]
     go_enter func254,ntmps254;go_wp2;go_ret;exact ⟨by rw [b.out];rfl,hB _⟩
theorem a2c (a c:List G3) (C B:OA) (O N:Nat) (w:World) (hl:a.length<=1048576) (hl':c.length<=1048576) (A:Z_ w C a) (z:Z_ w B c):
 Calls prog 188 #[.slice C a.length O,.slice B c.length N] w fun e w'=>Rb (a=c) e/\Bw w w':=by
 by_cases g:a.length=c.length
 · rw [<- g];have m:=U0 g;clear g;obtain ⟨b,off,hc⟩:=Oh A;obtain ⟨b',s,y⟩:=Oh z;have S:=U0 hc;have R:=U0 y;clear hc y A z;go_enter func188,ntmps188
   go_wp2_with fail
   go_loopw [13] (fun i wr=>∃ (k:Nat),k<=a.length/\i=.int .i64 k/\Hid (∀ j,j<k->a.getD j Yg=c.getD j Yg)/\Below w.heap.size w wr) (fun i _=>a.length - (intOf i).toNat)
   case atStart=>exact ⟨0,D5 _,rfl,fun j h=>absurd h (o9 _),Z4 _ _⟩
   case round=>
    obtain ⟨k,hk2,rfl,hd,f⟩:=hrel;have r:=f;by_cases l:k<a.length
    · obtain ⟨ha,u,q⟩:=Nc S.out l;rcases R.out with H | ⟨I,t,o⟩
      · have g:=m.out;rw [H] at g;rw [g] at l;exact absurd l (o9 _)
      subst ha;subst I;have g0:=(f.cell (p:=(aA b (off+k*3))) u).trans (q k l).1;have g1:=(f.cell (p:=(aA b (off+k*3+1))) u).trans (q k l).2.1;have g2:=(f.cell (p:=(aA b (off+k*3+2))) u).trans (q k l).2.2;have L:=(f.cell (p:=(aA b' (s+k*3))) t).trans (o k (by have:=m.out;omega)).1;have K:=(f.cell (p:=(aA b' (s+k*3+1))) t).trans (o k (by have:=m.out;omega)).2.1;have J:=(f.cell (p:=(aA b' (s+k*3+2))) t).trans (o k (by have:=m.out;omega)).2.2;clear q o;by_cases d:a.getD k Yg=c.getD k Yg
      · have Q:Hid (∀ j,j<k+1->a.getD j Yg=c.getD j Yg):=fun j hj=>by
         rcases o8 j k with h | h
         · exact hd.out j h
         · obtain rfl:j=k:=O0;exact d
        rw [<- d] at L K J;generalize a.getD k Yg=X at*;clear d hd
        go_wp2_with fail
        go_region
        all_goals go_wp2
        all_goals go_roundw
        all_goals first
         | exact ⟨k+1,O0,by go_num,Q,f.drew⟩
         | (simp [intOf];omega)
      · have n:Hid (¬ a=c):=fun h=>d (by rw [h]);generalize a.getD k Yg=X at*;generalize c.getD k Yg=Y at*;obtain ⟨n1,t1,E⟩:=X;obtain ⟨n2,t2,D⟩:=Y;by_cases x:n1=n2
        · subst x;by_cases v:t1=t2
          · subst v;have F:¬ E=D:=fun h=>d (by rw [h]);have q3':=Zb F;clear d
            go_wp2_with fail
            go_region
            all_goals go_wp2
            all_goals go_ret
            all_goals exact ⟨G5 n.out,r.drew⟩
          · have q2':=Zb v;clear d
            go_wp2_with fail
            go_region
            all_goals go_wp2
            all_goals go_ret
            all_goals exact ⟨G5 n.out,r.drew⟩
        · have q1':(n1==n2)=false:=by simpa using x
          clear d
          go_wp2_with fail
          go_region
          all_goals go_wp2
          all_goals go_ret
          all_goals exact ⟨G5 n.out,r.drew⟩
    · obtain rfl:k=a.length:=O0;have P:Hid (a=c):=by
       exact BH m.out hd.out
      go_wp2;go_ret;exact ⟨C_ P.out,r⟩
 · have n:Hid (¬ a=c):=fun h=>g (by rw [h]);have hn1:¬ (a.length:Int)=c.length:=O0;go_enter func188,ntmps188;go_wp2;go_ret;exact ⟨G5 n.out,Z4 _ _⟩
theorem X4.sO (h:X4 u B old) (hl:old.length=vs.length):X4 (Go.Proofs.YtkdbheidpdjimaaGreatDoor.fill u B 0 vs) B vs:=by
 have k:=X4.fill vs [] old [] 0 (by simpa using h) hl rfl;simpa using k
theorem JB (k:Nat) (a:k≠B) (vs:List Value):∀ {u:World} (j:Nat),(fill u B j vs).heap[k]?=u.heap[k]?:=by
 induction vs with
 | nil=>intro u j;rfl
 | cons v vs ih=>
  intro u j;exact (ih (j+1)).trans (Fb _ _ _ _ a)
theorem Xf {N:Nat} {P:World->Prop} (hl:old.length=vs.length) (hB:X4 u B old) (b:Y5 u B) (c:N<=B) (h:∀ u',Below N u u'->X4 u' B vs->Y5 u' B->u.heap.size<=u'.heap.size->(∀ k,k<u.heap.size->k≠B->u'.heap[k]?=u.heap[k]?)->P u'):P (fill u B 0 vs):=
 h _ (E_ c _ _ (Z4 _ _)) (X4.sO hB hl) (Y5.fill _ _ b) (by rw [mg];exact Y9 _) (fun k _ a=>JB k a _ _)
theorem j_ (hB:X4 u B old) (hl:old.length=vs.length):∀ i,i<vs.length->(u.cell? ⟨B,0+i,none⟩).isSome=true:=fun i hi=>by
 rw [E8,hB i _ (y9 O0)];rfl
theorem U6 {K:Act->World->Prop} {Q:Exit->Act->World->Prop} {E:Prop} (d:o.guard=none) (ty:TypeId) (x y:Operand) (ho:o.op=.store ty x y)
 (B j:Nat) (hx:a.eval x=.pointer (some ⟨B,j,none⟩)) (vs:List Value) (b:a.eval y=.agg vs.toArray) (hc:∀ i,i<vs.length->(w.cell? ⟨B,j+i,none⟩).isSome=true) (hf:Y5 w B) (h1:∀ v∈vs,v.oneCell'=true)
 (c:(P.info? ty).map (·.size)=some vs.length) (e:o.dst=none) (h:K a (fill w B j vs)):
 if Region.wanted o (yielded ops a.tmps)=true then Oper.wp P o a w K Q else E:=by
 have hw:Region.wanted o (yielded ops a.tmps)=true:=by simp [Region.wanted,d]
 rw [G8 hw];unfold Oper.wp execOp;simp only [ho,hx,b,Instr.storeAt,Instr.sureAddr,Qk,Uo,Un,yh w B j ty vs hc hf h1 c]
 first
  | exact h
  | (simp only [Oper.upon];exact h)
  | (simp only [Oper.upon,e];exact h)
theorem c226 (x:L4) (W:Int) (H:Nat) (w:World) (hx:x.tx.size<=1048600) (hH:H<w.heap.size) (N:w.cell? ⟨H,0,none⟩=some (.int .i64 W)) (L:(Wi x).size<=1048700):
 Calls prog 226 #[.pointer (some ⟨H,0,none⟩),.agg #[.bool x.has,.string x.nm,.int .i64 x.cd,.string x.tx]] w fun e w'=>e=.returned (.agg #[.bool x.has,.string x.nm,.string (E5 (Wi x) W)])/\Bw w w':=by
 replace hx:x.tx.size<=1048700:=O0
 have q:Bw w ((w.alloc (.cells #[.bool x.has,vS x.nm,vI x.cd,vS x.tx] 167)).alloc (.cells #[.bool false,vE,vE] 178)):=o7.alloc I4 _;have hz:((w.alloc (.cells #[.bool x.has,vS x.nm,vI x.cd,vS x.tx] 167)).alloc (.cells #[.bool false,vE,vE] 178)).heap.size=w.heap.size+2:=I4;have g:=(q.cell (p:=(aA H 0)) hH).trans N;have a:=U0 ((I5 w [.bool x.has,vS x.nm,vI x.cd,vS x.tx] 167).below ((Z4 _ _).alloc x9 (.cells #[.bool false,vE,vE] 178)) I4);have Y:Hid (X4 ((w.alloc (.cells #[.bool x.has,vS x.nm,vI x.cd,vS x.tx] 167)).alloc (.cells #[.bool false,vE,vE] 178)) (w.heap.size+1) [.bool false,vE,vE]):=fun j x hx=>by simp [go_sem,hx]
 have Z:Hid (Y5 ((w.alloc (.cells #[.bool x.has,vS x.nm,vI x.cd,vS x.tx] 167)).alloc (.cells #[.bool false,vE,vE] 178)) (w.heap.size+1)):=fun j=>by simp [go_sem]
 go_enter func226,ntmps226
 go_wp2_with fail
 generalize ((w.alloc (.cells #[.bool x.has,vS x.nm,vI x.cd,vS x.tx] 167)).alloc (.cells #[.bool false,vE,vE] 178))=V at*;have d:Bw V V.drew:=(Z4 _ _).drew;have I:=(a.out.below d O0) 0 _ rfl;have D:=(a.out.below d O0) 1 _ rfl;have B:=(a.out.below d O0) 2 _ rfl;have z:=(a.out.below d O0) 3 _ rfl;have t:=(d.cell (p:=(aA H 0)) (show H<V.heap.size by omega)).trans g;refine wp_region_held_drew (S:=(fun u=>u.cell? (aW w 0)=some (.bool x.has)/\u.cell? (aW w 1)=some (vS x.nm)/\u.cell? (aW w 2)=some (vI x.cd)/\u.cell? (aW w 3)=some (vS x.tx)/\u.cell? (aA H 0)=some (vI W))) J3 ?_ fun hHeld=>?_
 · exact ⟨I,D,B,z,t⟩
 refine Y0 0 ?_;refine Y0 1 ?_;refine Y0 2 ?_;refine Y0 3 ?_;refine Y0 4 ?_;refine Y0 6 ?_;refine Y0 7 ?_;refine Y0 8 ?_;refine Y0 9 ?_;refine rq 5 fun K b=>?_;go_simp;refine (a1G x V.drew hx).mono ?_;rintro e s ⟨rfl,o⟩;have h1:=G7 d o;clear o;have J:=(a.out.below h1 O0) 0 _ rfl;have F:=(a.out.below h1 O0) 1 _ rfl;have C:=(a.out.below h1 O0) 2 _ rfl;have A:=(a.out.below h1 O0) 3 _ rfl;have y:=(h1.cell (p:=(aA H 0)) (show H<V.heap.size by omega)).trans g;go_simp;clear hHeld;refine J8 b ?_ fun hHeld=>?_
 · exact ⟨J,F,C,A,y⟩
 clear b K;refine rq 10 fun K b=>?_;go_simp;refine (MI (Wi x) W s L).mono ?_;rintro e f ⟨rfl,n⟩;have h2:=G7 h1 n;clear n;have m:=(a.out.below h2 O0) 0 _ rfl;have l:=(a.out.below h2 O0) 1 _ rfl;have k:=(a.out.below h2 O0) 2 _ rfl;have i:=(a.out.below h2 O0) 3 _ rfl;have h:=(h2.cell (p:=(aA H 0)) (show H<V.heap.size by omega)).trans g;go_simp;clear hHeld;refine J8 b ?_ fun hHeld=>?_
 · exact ⟨m,l,k,i,h⟩
 clear b K;refine Y0 11 ?_;refine rq 12 fun K b=>?_;have r:=U0 (Y.out.below h2 O0);have F2:=U0 (Z.out.below h2 O0);refine U6 rfl 178 (.tmp 4) (.tmp 16) rfl (w.heap.size+1) 0 rfl [.bool x.has,vS x.nm,vS (E5 (Wi x) W)] rfl (j_ r.out rfl) F2.out (by simp [Value.oneCell']) J3 rfl ?_;clear hHeld;have c:Below (w.heap.size+1) f (fill f (w.heap.size+1) 0 [.bool x.has,vS x.nm,vS (E5 (Wi x) W)]):=E_ x9 _ _ (Z4 _ _);have X:=U0 (r.out.sO (vs:=[.bool x.has,vS x.nm,vS (E5 (Wi x) W)]) rfl);have hs2:=h2.size;have U:=(c.cell (p:=(aW w 0)) (show w.heap.size<_ by omega)).trans m;have R:=(c.cell (p:=(aW w 1)) (show w.heap.size<_ by omega)).trans l;have c2:=(c.cell (p:=(aW w 2)) (show w.heap.size<_ by omega)).trans k;have c3:=(c.cell (p:=(aW w 3)) (show w.heap.size<_ by omega)).trans i;have Q:=(c.cell (p:=(aA H 0)) (show H<_ by omega)).trans h;have O:=(G7 q h2).trans (c.mono O0);generalize fill f (w.heap.size+1) 0 [.bool x.has,vS x.nm,vS (E5 (Wi x) W)]=E at*;refine b.out _ _ ⟨U,R,c2,c3,Q⟩ fun hHeld=>?_;clear b K;refine wdn ?_
 go_wp2_with fail
 refine P7 (v:=.agg ([.bool x.has,vS x.nm,vS (E5 (Wi x) W)]:List Value).toArray) (b_ (P:=prog) (ty:=178) rfl _ E (w.heap.size+1) [.bool x.has,vS x.nm,vS (E5 (Wi x) W)] _ rfl X.out underlying178 rfl J3) rfl ⟨rfl,O⟩
theorem a0w (x y:R3) (g f:OA) (j i:Nat) (w:World) (hl:x.gs.length<=1048576) (u:y.gs.length<=1048576) (n:Z_ w g x.gs) (m:Z_ w f y.gs):
 Calls prog 125 #[.agg #[.string x.key,.slice g x.gs.length j,.string x.out],.agg #[.string y.key,.slice f y.gs.length i,.string y.out]] w fun e w'=>Rb (x=y) e/\Bw w w':=by
 obtain ⟨a,d,b⟩:=x;obtain ⟨r,c,k⟩:=y;simp only at hl u n m ⊢;have hB:∀ o s,Bw w ((w.alloc o).alloc s):=fun o s=>o7.alloc I4 _;by_cases l:a=r
 · subst l;by_cases ho:b=k
   · subst ho;have B:=U0 (O8 n (hB (.cells #[vS a,vL g d.length j,vS b] 113) (.cells #[vS a,vL f c.length i,vS b] 113)));have A:=U0 (O8 m (hB (.cells #[vS a,vL g d.length j,vS b] 113) (.cells #[vS a,vL f c.length i,vS b] 113)));have z:=hB (.cells #[vS a,vL g d.length j,vS b] 113) (.cells #[vS a,vL f c.length i,vS b] 113);clear n m;go_enter func125,ntmps125
     go_wp2_with fail
     refine (a2c d c g f j i _ hl u B.out A.out).mono ?_;rintro e w1 ⟨hR,v⟩;have C:=G7 z v;obtain ⟨q,rfl,t⟩:=hR;have D:Hid (Rb (R3.mk a d b=R3.mk a c b) (.returned (.bool q))):=⟨q,rfl,t.trans ⟨fun h=>by rw [h],fun h=>by injection h⟩⟩;clear t v B A z;go_wp2;go_ret;exact ⟨D.out,C⟩
   · have p:Hid (¬ R3.mk a d b=R3.mk a c k):=fun h=>ho (by injection h);have ho1:=Zb ho;go_enter func125,ntmps125;go_wp2;go_ret;exact ⟨G5 p.out,hB _ _⟩
 · have p:Hid (¬ R3.mk a d b=R3.mk r c k):=fun h=>l (by injection h);have hk1:=Zb l;go_enter func125,ntmps125;go_wp2;go_ret;exact ⟨G5 p.out,hB _ _⟩
theorem xh {f:List Oper} {Q:Exit->Act->World->Prop}
 (y:o.guard=none) (s x:Operand) (t:TypeId) (q:o.op=Op.call { callee:=Callee.builtin Builtin.append,args:=#[s,x],argTypes:=#[t,t] })
 (base:Nat) (e:TypeId) (i:TypeInfo) (z:Value) (size bytes:Nat) (h1:P.underlying t=some (.slice e)) (h2:P.info? e=some i) (I:i.zero=some z) (H:i.size=size) (F:i.bytes=bytes) (E:z.cells.size=size) (D:0<size)
 (v:Value) (n:Nat) (xs:List Value) (k:a.eval s=v) (p:w.ownsRow base e size v n xs)
 (d:Addr) (m c:Nat) (b:List Value) (hx:a.eval x=.slice (some d) m c) (r:b.length=m*size) (hc:∀ j u,b[j]?=some u->w.cell? (d.add j)=some u) (J:∀ u∈b,u.oneCell'=true)
 (N:n+m<=maxLen) (L:(n+m)*bytes<=140737488355328) (A:base<=w.heap.size)
 (C:∀ v' w',w'.ownsRow base e size v' (n+m) (xs++b)->w.grownBy w' v.ownBlock->wpList P ops Q f (a.put o.dst v') w'):wpList P ops Q (o::f) a w:=by
 refine ou y fun K B=>?_;obtain ⟨v',w',l,h,g,_⟩:=run_append_own (P:=P) w base t o.type e i z size bytes h1 h2 I H F E D v n xs p d m c b r hc J N L A;unfold Oper.wp;simp [execOp,q,resolve,invoke,builtin,k,hx,l,Result.andThen];exact B _ _ (C v' w' h g)
theorem P6 (h:u.ownsRow base e size v n xs) {k:Nat} (a:v.ownBlock=some k):base<=k:=by
 rcases h.2 with ⟨hv,_⟩ | ⟨g,cap,cur,hv,hg,hh,_⟩
 · subst hv;simp [Value.ownBlock] at a
 · subst hv;simp [Value.ownBlock] at a;omega
theorem U9 (h:u.ownsRow base e size v n xs):∃ a c,v=.slice a n c:=by
 rcases h.2 with ⟨hv,h0⟩ | ⟨g,cap,cur,hv,hg,hh,_⟩
 · exact ⟨none,0,by rw [hv,h0]⟩
 · exact ⟨_,_,hv⟩
def v_:List L4->List (Int×ByteArray)
 | []=>[]
 | x::r=>if x.has then v_ r else (x.cd,x.tx)::v_ r
theorem Au (l:List L4) (x:L4):v_ (l++[x])=v_ l++(if x.has then [] else [(x.cd,x.tx)]):=by
 induction l with
 | nil=>cases h:x.has <;> simp [v_,h]
 | cons y r ih=>cases h:y.has <;> simp [v_,h,ih]
theorem Zy (l:List L4):(v_ l).length<=l.length:=by
 induction l with
 | nil=>exact Y9 _
 | cons y r ih=>cases h:y.has <;> simp [v_,h] <;> omega
def XA (rs:List (Int×ByteArray)):List Value:=rs.flatMap fun r=>[.int .i64 r.1,.string r.2]
theorem AB (l:List (Int×ByteArray)) (c:Int) (s:BY):XA (l++[(c,s)])=XA l++[.int .i64 c,.string s]:=by simp [XA]
theorem ru {l:List L4} {k:Nat} (h:k<l.length):l.take (k+1)=l.take k++[l.getD k O_]:=by
 rw [pq,y9 h];simp [List.getD,y9 h]
theorem MK:(prog.info? 103).map (fun i=>(i.zero,i.size,i.bytes))=some (some (.agg #[.int .i64 0,.string ⟨#[]⟩]),2,24):=J3
theorem info_parts' {e:TypeId} {z:Value} {m:Nat} (h:(P.info? e).map (fun i=>(i.zero,i.size,i.bytes))=some (some z,n,m)):∃ i,P.info? e=some i/\i.zero=some z/\i.size=n/\i.bytes=m:=by
 cases hq:P.info? e with
 | none=>simp [hq] at h
 | some i=>
  simp only [hq,Fv,jv,OI] at h;exact ⟨i,rfl,h.1,h.2.1,h.2.2⟩
theorem a0m (ls:List L4) (a:OA) (N:Nat) (w:World) (hl:ls.length<=1048576) (y:I9 w a ls):
 Calls prog 223 #[.slice a ls.length N] w fun e w'=>(∃ v,e=.returned v/\w'.ownsRow w.heap.size 103 2 v (v_ ls).length (XA (v_ ls)))/\Bw w w':=by
 obtain ⟨C,I,F,E,D⟩:=info_parts' MK;obtain ⟨b,off,hc⟩:=Og y;have R:=U0 hc;clear hc y;go_enter func223,ntmps223
 go_wp2_with fail
 go_loopw [3,8] (fun v i wr=>∃ (k:Nat),k<=ls.length/\i=.int .i64 k/\Hid (wr.ownsRow w.heap.size 103 2 v (v_ (ls.take k)).length (XA (v_ (ls.take k))))/\Below w.heap.size w wr) (fun _ i _=>ls.length - (intOf i).toNat)
 case atStart=>exact ⟨0,D5 _,rfl,ng _ _ _ _,Z4 _ _⟩
 case round=>
  obtain ⟨k,hk,rfl,g,c⟩:=hrel;by_cases d:k<ls.length
  · obtain ⟨ha,l,f⟩:=Nc R.out d;subst ha;have g0:=(c.cell (p:=(aA b (off+k*4))) l).trans (f k d).1;have g1:=(c.cell (p:=(aA b (off+k*4+1))) l).trans (f k d).2.1;have g2:=(c.cell (p:=(aA b (off+k*4+2))) l).trans (f k d).2.2.1;have g3:=(c.cell (p:=(aA b (off+k*4+3))) l).trans (f k d).2.2.2;have z:=U0 (ru d);have hln:(v_ (ls.take k)).length<=1048576:=Q7 (Zy _) U7;clear f;generalize hx:ls.getD k O_=x at*;clear hx;obtain ⟨h,nm,cd,tx⟩:=x;simp only at g0 g1 g2 g3;have s:=c.size;cases h
    · have o:Hid (v_ (ls.take (k+1))=v_ (ls.take k)++[(cd,tx)]):=by
       show v_ _=_;rw [z.out,Au];simp
      have K:Bw w ((wr.alloc (.cells #[.bool false,.string nm,.int .i64 cd,.string tx] 167)).alloc (.cells #[.int .i64 cd,.string tx] 103)):=(c.alloc s _).alloc U7 _;have r:=U0 (ZH (ZH g.out (.cells #[.bool false,.string nm,.int .i64 cd,.string tx] 167)) (.cells #[.int .i64 cd,.string tx] 103));have hzA:((wr.alloc (.cells #[.bool false,.string nm,.int .i64 cd,.string tx] 167)).alloc (.cells #[.int .i64 cd,.string tx] 103)).heap.size=wr.heap.size+2:=I4;have A:Hid (∀ j u,([.int .i64 cd,.string tx]:List Value)[j]?=some u->((wr.alloc (.cells #[.bool false,.string nm,.int .i64 cd,.string tx] 167)).alloc (.cells #[.int .i64 cd,.string tx] 103)).cell? ((aA (wr.heap.size+1) 0).add j)=some u):=fun j u m=>by
       rw [Nb,E8]
       match j with
       | 0=>obtain rfl:=Q9 m;simp [go_sem]
       | 1=>obtain rfl:=Q9 m;simp [go_sem]
       | j+2=>simp at m
      clear g
      go_wp2_with (refine xh rfl (.tmp 15) (.tmp 18) 330 rfl w.heap.size 103 C (.agg #[.int .i64 0,.string ⟨#[]⟩]) 2 24 underlying330 I F E D rfl O6 _ _ _ rfl r.out ⟨wr.heap.size+1,0,none⟩ 1 1 [.int .i64 cd,.string tx] rfl rfl A.out (by simp [Value.oneCell']) (by unfold maxLen;omega) O0 O0 ?_;intro v2 B n t;obtain ⟨a2,c2,rfl⟩:=U9 n;have P:=U0 n;have J:Bw w B:=K.grown t O0 (fun q H=>P6 r.out H);clear n t r A)
      go_roundw
      case rel=>exact ⟨k+1,O0,by go_num,by rw [o.out,AB,N9];exact P.out,J⟩
      case measure=>simp [intOf];omega
    · have o:Hid (v_ (ls.take (k+1))=v_ (ls.take k)):=by
       show v_ _=_;rw [z.out,Au];simp
      have L:Bw w (wr.alloc (.cells #[.bool true,.string nm,.int .i64 cd,.string tx] 167)):=c.alloc s _;have S:=U0 (ZH g.out (.cells #[.bool true,.string nm,.int .i64 cd,.string tx] 167));go_wp2;go_roundw
      case rel=>exact ⟨k+1,O0,by go_num,by rw [o.out];exact S.out,L⟩
      case measure=>simp [intOf];omega
  · obtain rfl:k=ls.length:=O0;obtain ⟨O,c3,rfl⟩:=U9 g.out;have Q:Hid (wr.ownsRow w.heap.size 103 2 (.slice O (v_ (List.take ls.length ls)).length c3) (v_ ls).length (XA (v_ ls))):=by show World.ownsRow _ _ _ _ _ _ _;have h:=g.out;rw [Uj] at h ⊢;exact h
    go_wp2;go_ret;exact ⟨⟨_,rfl,Q.out⟩,c⟩
