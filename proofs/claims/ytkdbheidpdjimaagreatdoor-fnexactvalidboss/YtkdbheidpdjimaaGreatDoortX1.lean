import Derived.Test.YtkdbheidpdjimaaGreatDooreEA
import Derived.Test.YtkdbheidpdjimaaGreatDoortW4
import Derived.Lib.SliceRun
set_option linter.unusedVariables false
set_option maxHeartbeats 8000000
set_option maxRecDepth 100000
namespace Go.Proofs.YtkdbheidpdjimaaGreatDoor
open Proofs.Tryz Go.RowKit
def Dk (ep:Int) (fn ft kn kt ka:BY) (cd:Int) (tx:BY) (ep2:Int) (fn2 ft2 kn2 kt2 ka2:BY) (cd2:Int) (tx2:BY) (la lb:Nat):Prop:=ep=ep2/\fn=fn2/\ft=ft2/\kn=kn2/\kt=kt2/\ka=ka2/\la=lb/\cd=cd2/\tx=tx2
theorem BO (kd ep cd y n f:Int) (fn ft kn b c tx m l k j i d:BY) (C B:OA) (la lb A z:Nat) (w:World) (hla:la<=1048576) (hlb:lb<=1048576):
 Calls prog 150 #[.agg #[.int .i64 kd,.int .i64 ep,.string fn,.string ft,.string kn,.string b,.string c,.slice C la A,.int .i64 cd,.string tx],.agg #[.int .i64 y,.int .i64 n,.string m,.string l,.string k,.string j,.string i,.slice B lb z,.int .i64 f,.string d]] w fun e w'=>Tm (Dk ep fn ft kn b c cd tx n m l k j i f d la lb) e/\Bw w w':=by
 have g:∀ o p,Bw w ((w.alloc o).alloc p):=fun o p=>o7.alloc I4 _;rcases (Yl (ep=n)).symm with e0 | e0
 · have a:Hid (Tm (Dk ep fn ft kn b c cd tx n m l k j i f d la lb) (.returned (.bool false))):=L_ (fun h=>e0 h.1);go_enter func150,ntmps150;go_wp2
   all_goals go_ret
   all_goals exact ⟨a.out,g _ _⟩
 obtain rfl:=e0;rcases (Yl (fn.toList=m.toList)).symm with e1 | e1
 · have a:Hid (Tm (Dk ep fn ft kn b c cd tx ep m l k j i f d la lb) (.returned (.bool false))):=L_ (fun h=>e1 (by rw [h.2.1]));go_enter func150,ntmps150;go_wp2
   all_goals go_ret
   all_goals exact ⟨a.out,g _ _⟩
 obtain rfl:=(Fj _ _).1 e1;clear e1;rcases (Yl (ft.toList=l.toList)).symm with u | u
 · have a:Hid (Tm (Dk ep fn ft kn b c cd tx ep fn l k j i f d la lb) (.returned (.bool false))):=L_ (fun h=>u (by rw [h.2.2.1]));go_enter func150,ntmps150;go_wp2
   all_goals go_ret
   all_goals exact ⟨a.out,g _ _⟩
 obtain rfl:=(Fj _ _).1 u;clear u;rcases (Yl (kn.toList=k.toList)).symm with t | t
 · have a:Hid (Tm (Dk ep fn ft kn b c cd tx ep fn ft k j i f d la lb) (.returned (.bool false))):=L_ (fun h=>t (by rw [h.2.2.2.1]));go_enter func150,ntmps150;go_wp2
   all_goals go_ret
   all_goals exact ⟨a.out,g _ _⟩
 obtain rfl:=(Fj _ _).1 t;clear t;rcases (Yl (b.toList=j.toList)).symm with s | s
 · have a:Hid (Tm (Dk ep fn ft kn b c cd tx ep fn ft kn j i f d la lb) (.returned (.bool false))):=L_ (fun h=>s (by rw [h.2.2.2.2.1]));go_enter func150,ntmps150;go_wp2
   all_goals go_ret
   all_goals exact ⟨a.out,g _ _⟩
 obtain rfl:=(Fj _ _).1 s;clear s;rcases (Yl (c.toList=i.toList)).symm with r | r
 · have a:Hid (Tm (Dk ep fn ft kn b c cd tx ep fn ft kn b i f d la lb) (.returned (.bool false))):=L_ (fun h=>r (by rw [h.2.2.2.2.2.1]));go_enter func150,ntmps150;go_wp2
   all_goals go_ret
   all_goals exact ⟨a.out,g _ _⟩
 obtain rfl:=(Fj _ _).1 r;clear r;rcases (Yl (la=lb)).symm with v | v
 · have a:Hid (Tm (Dk ep fn ft kn b c cd tx ep fn ft kn b c f d la lb) (.returned (.bool false))):=L_ (fun h=>v h.2.2.2.2.2.2.1);have hlen2:¬ (la:Int)=(lb:Int):=O0;go_enter func150,ntmps150;go_wp2
   all_goals go_ret
   all_goals exact ⟨a.out,g _ _⟩
 obtain rfl:=v;rcases (Yl (cd=f)).symm with x | x
 · have a:Hid (Tm (Dk ep fn ft kn b c cd tx ep fn ft kn b c f d la la) (.returned (.bool false))):=L_ (fun h=>x h.2.2.2.2.2.2.2.1);go_enter func150,ntmps150;go_wp2
   all_goals go_ret
   all_goals exact ⟨a.out,g _ _⟩
 obtain rfl:=x;rcases (Yl (tx.toList=d.toList)).symm with q | q
 · have a:Hid (Tm (Dk ep fn ft kn b c cd tx ep fn ft kn b c cd d la la) (.returned (.bool false))):=L_ (fun h=>q (by rw [h.2.2.2.2.2.2.2.2]));go_enter func150,ntmps150;go_wp2
   all_goals go_ret
   all_goals exact ⟨a.out,g _ _⟩
 obtain rfl:=(Fj _ _).1 q;clear q;have a:Hid (Tm (Dk ep fn ft kn b c cd tx ep fn ft kn b c cd tx la la) (.returned (.bool true))):=Yj ⟨rfl,rfl,rfl,rfl,rfl,rfl,rfl,rfl,rfl⟩;go_enter func150,ntmps150;go_wp2
 all_goals go_ret
 all_goals exact ⟨a.out,g _ _⟩
end Go.Proofs.YtkdbheidpdjimaaGreatDoor
namespace Go.Proofs.YtkdbheidpdjimaaGreatDoor.T
open Proofs.Tryz Go.RowKit
variable {B b g i j n p:Nat} {u u' w:World} {r t v:Value} {fs gs:List F2} {nm:BY} {c:Int}
theorem _root_.Go.Proofs.YtkdbheidpdjimaaGreatDoor.But.setCells (b:Nat):∀ (vs:List Value) (o:Nat) {w w':World},But b w w'->But b w (w'.setCells b o vs)
 | [],_,_,_,h=>h
 | v::vs,o,_,_,h=>But.setCells b vs (o+1) (h.setCell o v)
theorem _root_.Go.Proofs.YtkdbheidpdjimaaGreatDoor.But.drew {w':World} (h:But b w w'):But b w w'.drew:=⟨h.os,h.tape,h.output,h.size,h.block⟩
def VR (w:World) (g:Nat):Prop:=Gf w g 99
theorem Vs {q:Nat} (h:VR w g):VR (w.setCell ⟨q,j,none⟩ v) g:=by
 by_cases e:q=g
 · subst e;exact Gh h j v
 · obtain ⟨cur,fr,h⟩:=h;exact ⟨cur,fr,(Fb _ _ _ _ (fun k=>e k.symm)).trans h⟩
theorem Oj (g:Nat):∀ (vs:List Value) (o:Nat) {w:World} {b:Nat},VR w b->VR (w.setCells g o vs) b
 | [],_,_,_,h=>h
 | _::vs,o,_,_,h=>Oj g vs (o+1) (Vs h)
theorem aF {c:Nat} (h:Bl w B v fs) (hv:v=.slice (some ⟨g,0,none⟩) n c):VR w g:=Q8 h (by rw [hv];rfl)
theorem JI (w:World) (ty:TypeId) (b o c:Nat) (h0:(w.cell? ⟨b,o,none⟩).isSome=true) (h1:(w.cell? ⟨b,o+1,none⟩).isSome=true) (hf:∀ j,w.frozen? ⟨b,j,none⟩=false):
 (Builtin.clear_ #[39] ty #[.slice (some ⟨b,o,none⟩) 1 c]).run prog w=.ok (.tuple #[]) (w.setCells b o [.string ⟨#[]⟩,.string ⟨#[]⟩]):=by
 have d:(Builtin.zeroCells (Value.agg #[vE,vE]).cells 1).toList=[vE,vE]:=J3;have a:=run_storeCells_cells (P:=prog) b o [vE,vE] 0 w (fun j e=>by
  match j,e with
  | 0,_=>exact h0
  | 1,_=>exact h1) (fun j _=>hf _) (by intro v hv;simp at hv;rw [hv];rfl)
 simp only [Zo] at a;simp [Builtin.clear_,Xo underlying39,d,a]
def del (fs:List F2) (p:Nat):List F2:=fs.take p++fs.drop (p+1)
theorem qx (h:p<fs.length):(del fs p).length=fs.length - 1:=by unfold del;rw [List.length_append,List.length_take,List.length_drop];omega
theorem VN (h:p<fs.length) (a:i<p):(del fs p).getD i P8=fs.getD i P8:=by
 unfold del;simp only [List.getD];rw [I_ (by rw [B_];omega),QB a]
theorem oQ (h:p<fs.length) (hi:p<=i):(del fs p).getD i P8=(fs.drop (p+1)).getD (i - p) P8:=by
 unfold del;simp only [List.getD];rw [Cf (by rw [B_];omega),B_,Vk O0]
theorem Hu (fs:List F2) (n i:Nat):(fs.drop n).getD i P8=fs.getD (n+i) P8:=by simp [List.getD]
theorem isSome_setCells (b:Nat):∀ (vs:List Value) (o:Nat) (w:World) (x:Addr),(w.cell? x).isSome=true->((w.setCells b o vs).cell? x).isSome=true
 | [],_,_,_,h=>h
 | v::vs,o,w,x,h=>isSome_setCells b vs (o+1) _ x (by
  obtain ⟨y,c⟩:=AQ.1 h;obtain ⟨z,a⟩:=cell?_setCell_some (w:=w) (p:=⟨b,o,none⟩) (x:=v) c;rw [a];rfl)
theorem a1d (g d:Nat) (fs:List F2) (p:Nat) (w:World) (hl:fs.length<=40) (n:p<fs.length) (hc:fs.length<=d) (Q:g<w.heap.size) (m:∀ i,i<fs.length->w.cell? ⟨g,i*2,none⟩=some (.string (fs.getD i P8).nm)/\w.cell? ⟨g,i*2+1,none⟩=some (.string (fs.getD i P8).tx)) (o:∀ j,w.frozen? ⟨g,j,none⟩=false):
 Calls prog 176 #[.slice (some ⟨g,0,none⟩) fs.length d,.int .i64 p,.int .i64 ((p:Int)+1)] w fun e w'=>e=.returned (.slice (some ⟨g,0,none⟩) (fs.length - 1) d)/\J6 w' (some ⟨g,0,none⟩) (del fs p)/\zo w' g (fs.length - 1)/\But g w w'/\(VR w g->VR w' g):=by
 obtain ⟨N,f,hz0,O,hz2⟩:=info_parts Tt;have hne:((p:Int)==(p:Int)+1)=false:=n_.2 O0;have hpc:p<=d:=O0;have hp0:(0:Int)<=(p:Int)+1:=O0;have hp1:(p:Int)+1<=(fs.length:Int):=O0;obtain ⟨A,hA,L⟩:∃ A:Addr,(if d=p+1 then some (aA g 0) else some (aA g ((p+1)*2)))=some A/\Hid (∀ j u,(J4 (fs.drop (p+1)))[j]?=some u->w.drew.cell? (A.add j)=some u):=by
  by_cases h:d=p+1
  · refine ⟨_,by rw [G8 h],fun j u l=>?_⟩;have h0:fs.drop (p+1)=[]:=List.drop_eq_nil_of_le O0;rw [h0] at l;simp [J4] at l
  · refine ⟨_,by rw [A8 h],fun j u l=>?_⟩;refine iw (w:=w.drew) (fs:=fs.drop (p+1)) (b:=g) (off:=(p+1)*2) (fun i f=>?_) j u l;rw [Qj] at f;have:=m (p+1+i) O0;rw [Hu,show (p+1)*2+i*2=(p+1+i)*2 by omega];exact this
 have q:∀ j,j<fs.length*2->(w.cell? (aA g j)).isSome=true:=fun j a=>by
  have:=m (j / 2) O0;rcases jI j with h | h
  · rw [show j=j / 2*2 by omega,this.1];rfl
  · rw [show j=j / 2*2+1 by omega,this.2];rfl
 have t:Hid (∀ j,j<(J4 (fs.drop (p+1))).length->(w.drew.cell? (aA g (0+p*2+j))).isSome=true/\w.drew.frozen? (aA g (0+p*2+j))=false):=fun j a=>by
  rw [I8,Qj] at a;exact ⟨q _ O0,o _⟩
 have W:=U0 m;have U:=U0 o;have V:=U0 q;clear m o q;go_enter func176,ntmps176
 go_wp2_with fail
 refine wp_region_held_drew (S:=(fun _=>True)) J3 ?_ fun hHeld=>?_
 · ((try dsimp only);(try trivial))
 refine Y0 0 ?_;refine Y0 1 ?_;refine Y0 2 ?_;refine Y0 3 ?_;refine Y0 4 ?_;refine Y0 5 ?_;refine rq 6 fun K y=>?_;refine step_append_room rfl (.tmp 22) (.tmp 25) 39 rfl 99 N 2 underlying39 f O g 0 p d rfl A (fs.length - (p+1)) (d - (p+1)) (J4 (fs.drop (p+1))) rfl (by rw [I8,Qj]) L.out Dh O0 t.out ?_;clear hHeld;refine J8 y ?_ fun hHeld=>?_
 · trivial
 clear y K;refine Y0 7 ?_;refine wdn ?_;have r:(J4 (fs.drop (p+1))).length=(fs.length - (p+1))*2:=by rw [I8,Qj]
 have C:∀ j,j<fs.length*2->((w.drew.setCells g (0+p*2) (J4 (fs.drop (p+1)))).cell? (aA g j)).isSome=true:=fun j a=>isSome_setCells g _ _ _ _ (V.out j a);have D:∀ j,(w.drew.setCells g (0+p*2) (J4 (fs.drop (p+1)))).frozen? (aA g j)=false:=fun j=>(World.frozen?_setCells g _ _ _ _).trans (U.out j);have z:∀ j,j<p*2->(w.drew.setCells g (0+p*2) (J4 (fs.drop (p+1)))).cell? (aA g j)=w.cell? (aA g j):=fun j a=>World.cell?_setCells_out g _ _ _ _ (fun _ _=>.inl (by show j<0+p*2;omega));have B:∀ j,j<(fs.length - (p+1))*2->(w.drew.setCells g (0+p*2) (J4 (fs.drop (p+1)))).cell? (aA g (p*2+j))=(J4 (fs.drop (p+1)))[j]?:=fun j a=>by
  have:=World.cell?_setCells_in g (J4 (fs.drop (p+1))) (0+p*2) w.drew (fun i f=>(t.out i f).1) j (by rw [r];exact a);rw [E8] at this ⊢;rw [this,y9 (by rw [r];exact a)]
 have R:Hid (VR w g->VR (w.drew.setCells g (0+p*2) (J4 (fs.drop (p+1)))) g):=fun h=>Oj _ _ _ h;have E:But g w (w.drew.setCells g (0+p*2) (J4 (fs.drop (p+1)))):=But.setCells g _ _ (But.refl _ _).drew;have I:=U0 z;have J:=U0 B;have s:=U0 C;have F:=U0 D;have H:=U0 E;clear C D z B E r t L hHeld;generalize w.drew.setCells g (0+p*2) (J4 (fs.drop (p+1)))=k at*;have P:p+(fs.length - (p+1))=fs.length - 1:=O0;have hq1:fs.length - (fs.length - 1)=1:=O0;have hq2:fs.length - 1<=fs.length:=O0;have hq3:(p:Int)+((fs.length - (p+1):Nat):Int)=((fs.length - 1:Nat):Int):=O0;have hcl:∀ ty c,(Builtin.clear_ #[39] ty #[vL (some (aA g ((fs.length - 1)*2))) 1 c]).run prog k=.ok (.tuple #[]) (k.setCells g ((fs.length - 1)*2) [vE,vE]):=fun ty c=>
  JI k ty g _ c (s.out _ O0) (s.out _ O0) F.out
 rw [P];go_wp2;have x:∀ j,j<(fs.length - 1)*2->(k.setCells g ((fs.length - 1)*2) [vE,vE]).cell? (aA g j)=k.cell? (aA g j):=fun j a=>World.cell?_setCells_out g _ _ _ _ (fun _ _=>.inl (by show j<(fs.length - 1)*2;omega));have v:g<(k.setCells g ((fs.length - 1)*2) [vE,vE]).heap.size:=m_ Q (But.setCells g _ _ H.out).size;go_ret;refine ⟨rfl,.inr ⟨g,0,rfl,v,fun i f=>?_⟩,⟨v,fun j a=>?_,fun j=>(World.frozen?_setCells g _ _ _ _).trans (F.out j)⟩,But.setCells g _ _ H.out,fun h=>Oj _ _ _ (R.out h)⟩
 · rw [qx n] at f;rw [E8,x _ O0,x _ O0];rcases o8 i p with h | h
   · rw [I.out _ O0,I.out _ O0,VN n h];exact W.out i O0
   · obtain ⟨e0,e1⟩:=Ud (fs.drop (p+1)) (i - p) (by rw [Qj];omega);have h0:=J.out ((i - p)*2) O0;have h1:=J.out ((i - p)*2+1) O0;rw [show p*2+(i - p)*2=i*2 by omega,e0] at h0;rw [show p*2+((i - p)*2+1)=i*2+1 by omega,e1] at h1;rw [oQ n h];exact ⟨h0,h1⟩
 · exact AQ.1 (isSome_setCells g _ _ _ _ (s.out j O0))
theorem Ih (h:J6 w (some ⟨B,0,none⟩) fs) (c:B<w.heap.size) (hf:∀ j,w.frozen? ⟨B,j,none⟩=false):zo w B fs.length:=by
 refine ⟨c,fun j a=>?_,hf⟩;rcases h with h | ⟨b,off,h1,h2,d⟩
 · rw [h] at a;simp at a
 · obtain ⟨rfl,rfl⟩:B=b/\0=off:=by injection h1 with h1;injection h1 with e1 e2;exact ⟨e1,e2⟩
   have:=d (j / 2) O0;simp only [E8] at this;rcases jI j with h | h
   · rw [show j=j / 2*2 by omega];exact ⟨_,this.1⟩
   · rw [show j=j / 2*2+1 by omega];exact ⟨_,this.2⟩
theorem ne_of_lt' {a b:BY} (h:lt a b=true):a≠b:=fun e=>by rw [e,Yc] at h;cases h
theorem LY {x y:BY} (h:x≠y):(x.toList==y.toList)=false:=by
 rw [n_];intro e;rw [ByteArray.toList_eq,ByteArray.toList_eq] at e;exact h (qg (Rl.1 e))
theorem getD_mem {x:F2} (h:x∈fs):∃ i,i<fs.length/\fs.getD i P8=x:=by
 obtain ⟨i,a,rfl⟩:=Ee h;exact ⟨i,a,by simp [List.getD,y9 a]⟩
theorem filter_all (h:∀ i,i<fs.length->(fs.getD i P8).nm≠nm):without fs nm=fs:=by
 unfold without;refine aI.2 fun x hx=>?_;obtain ⟨i,a,rfl⟩:=getD_mem hx;rw [LY (h i a)];rfl
theorem EM (h:i<p):(fs.take p).getD i P8=fs.getD i P8:=by simp [List.getD,QB h]
theorem Qv (hm:Asc fs) (b:p<fs.length):without fs (fs.getD p P8).nm=del fs p:=by
 have e:fs=fs.take p++fs.getD p P8::fs.drop (p+1):=by
  conv=>lhs;rw [<- Gi (p+1) fs,yj b]
  simp
 have h1:without (fs.take p) (fs.getD p P8).nm=fs.take p:=filter_all fun i a=>by
  rw [B_] at a;rw [EM O0];exact ne_of_lt' (hm i p O0 b)
 have h2:without (fs.drop (p+1)) (fs.getD p P8).nm=fs.drop (p+1):=filter_all fun i a=>by
  rw [Qj] at a;rw [Hu];exact (ne_of_lt' (hm p (p+1+i) O0 O0)).symm
 have c:without (fs.take p++fs.getD p P8::fs.drop (p+1)) (fs.getD p P8).nm=without (fs.take p) (fs.getD p P8).nm++without (fs.drop (p+1)) (fs.getD p P8).nm:=by
  unfold without;rw [gu,List.filter_cons_of_neg I4]
 rw [<- e,h1,h2] at c;exact c
def zi (fs:List F2) (nm:BY) (c:Int) (gs:List F2):Prop:=
 (¬ J_ fs/\c=1/\gs=[])\/(J_ fs/\(∀ i,i<fs.length->(fs.getD i P8).nm≠nm)/\c=4/\gs=[])\/(J_ fs/\(∃ i,i<fs.length/\(fs.getD i P8).nm=nm)/\c=0/\gs=without fs nm)
theorem qB {e:Int} {d:List F2} (h:zi fs nm c gs) (k:zi fs nm e d):e=c/\d=gs:=by
 rcases h with ⟨h1,rfl,rfl⟩ | ⟨h1,h2,rfl,rfl⟩ | ⟨h1,⟨i,g,h2⟩,rfl,rfl⟩ <;> rcases k with ⟨a,rfl,rfl⟩ | ⟨a,b,rfl,rfl⟩ | ⟨a,⟨j,f,b⟩,rfl,rfl⟩
 · exact ⟨rfl,rfl⟩
 · exact absurd a h1
 · exact absurd a h1
 · exact absurd h1 a
 · exact ⟨rfl,rfl⟩
 · exact absurd b (h2 j f)
 · exact absurd h1 a
 · exact absurd h2 (b i g)
 · exact ⟨rfl,rfl⟩
theorem KN (h:zi fs nm c gs):gs.length<=40:=by
 rcases h with ⟨h1,rfl,rfl⟩ | ⟨h1,h2,rfl,rfl⟩ | ⟨h1,h2,rfl,rfl⟩
 · simp
 · simp
 · exact Q7 (Dv _ _) h1.1
theorem yg {B':Nat} {e:TypeId} {size:Nat} {xs:List Value} (h:w.ownsRow B e size v n xs) (hB:B'<=B):w.ownsRow B' e size v n xs:=by
 refine ⟨h.1,?_⟩;rcases h.2 with h2 | ⟨g,b,cur,hv,a,r⟩
 · exact .inl h2
 · exact .inr ⟨g,b,cur,hv,Q7 hB a,r⟩
theorem RJ (w:World) (B:Nat):Bl w B (.slice none 0 0) []:=⟨rfl,.inl ⟨rfl,rfl⟩⟩
structure Ai (w u:World) (t r:Value):Prop where
 bel:Bw w u
 ht:u.heap[w.heap.size]?=some (.cells #[t] 41 (0,0))
 hr:u.heap[w.heap.size+1]?=some (.cells #[r] 41 (0,0))
theorem Ai.start (w:World) (t r:Value):Ai w ((w.alloc (.cells #[t] 41)).alloc (.cells #[r] 41)) t r:=
 ⟨o7.alloc I4 _,by rw [alloc_old I4];exact Cc rfl _,Cc I4 _⟩
theorem Ai.sz (h:Ai w u t r):w.heap.size+2<=u.heap.size:=Zf h.hr
theorem Ai.later (h:Ai w u t r) (a:Bw u u'):Ai w u' t r:=by
 have:=h.sz;exact ⟨h.bel.trans (a.mono O0),by rw [a.block _ O0];exact h.ht,by rw [a.block _ O0];exact h.hr⟩
theorem Ai.but (h:Ai w u t r) (a:But g u u') (hg:w.heap.size+2<=g):Ai w u' t r:=by
 have:=h.sz;exact ⟨h.bel.trans (a.below O0 O0),by rw [a.block _ O0 O0];exact h.ht,by rw [a.block _ O0 O0];exact h.hr⟩
theorem Ai.cells (h:Ai w u t r):u.cell? ⟨w.heap.size,0,none⟩=some t/\u.cell? ⟨w.heap.size+1,0,none⟩=some r/\u.frozen? ⟨w.heap.size+1,0,none⟩=false:=
 ⟨by rw [Lib.cell_of_heap h.ht];rfl,by rw [Lib.cell_of_heap h.hr];rfl,Lib.frozen_of_heap h.hr 0⟩
theorem a2b (a:OA) (d:Nat) (fs:List F2) (nm:BY) (w:World) (hl:fs.length<=1048576) (s:∀ i,(fs.getD i P8).le 1048576) (z:J6 w a fs):
 Calls prog 103 #[.agg #[.slice a fs.length d],.string nm] w fun e w'=>(∃ v c gs,e=.returned (.tuple #[.agg #[v],.int .i64 c])/\Bl w' w.heap.size v gs/\zi fs nm c gs)/\Bw w w':=by
 have n:=U0 z;have P:=U0 s;have o:Hid (Ai w ((w.alloc (.cells #[vL a fs.length d] 41)).alloc (.cells #[vN] 41)) (vL a fs.length d) vN):=Ai.start _ _ _;clear z s;go_enter func103,ntmps103
 go_wp2_with fail
 refine (c156 a d fs _ hl P.out (U5 n.out o.out.bel)).mono ?_;rintro e E ⟨⟨v,rfl,hv⟩,y⟩;have j:=U0 hv;have k:=U0 (o.out.later y);obtain ⟨t1,q,L⟩:=k.out.cells;clear hv y o;cases v
 · have f:Hid (zi fs nm 1 []):=.inl ⟨fun h=>(by have:=j.out.2 h;cases this),rfl,rfl⟩;clear j;go_wp2;refine P7 (v:=.tuple #[.agg #[vN],vI 1]) (by simp [results,results103,go_sem,q]) rfl ⟨⟨_,_,_,rfl,RJ _ _,f.out⟩,k.out.bel.setCell I4 _⟩
 have l:=j.out.1 rfl;have J:=l.1;have B:=U0 l;clear l j
 go_wp2_with fail
 refine (vX a d fs nm E O0 (U5 n.out k.out.bel)).mono ?_;rintro e D ⟨⟨r,rfl,hr⟩,x⟩;have A:Hid ((r<0/\∀ i,i<fs.length->(fs.getD i P8).nm≠nm)\/(0<=r/\∃ i,i<fs.length/\(fs.getD i P8).nm=nm)):=by
  rcases hr with ⟨rfl,h⟩ | ⟨i,rfl,h⟩
  · exact .inl ⟨O6,h⟩
  exact .inr ⟨O0,i,h⟩
 have g:=U0 (k.out.later x);clear hr x t1 q L;obtain ⟨t2,p,K⟩:=g.out.cells;by_cases I:r<0
 · have f:Hid (zi fs nm 4 []):=.inr (.inl ⟨B.out,by rcases A.out with h | h;exact h.2;omega,rfl,rfl⟩);go_wp2;refine P7 (v:=.tuple #[.agg #[vN],vI 4]) (by simp [results,results103,go_sem,p]) rfl ⟨⟨_,_,_,rfl,RJ _ _,f.out⟩,g.out.bel.setCell I4 _⟩
 have f:Hid (zi fs nm 0 (without fs nm)):=.inr (.inr ⟨B.out,by rcases A.out with h | h;omega;exact h.2,rfl,rfl⟩);have hneg':=P9 I
 go_wp2_with fail
 refine (c157 a d fs nm D J (U5 n.out g.out.bel)).mono ?_;rintro e w3 ⟨⟨v,rfl,t⟩,u⟩;have m:=U0 t;have C:=U0 (g.out.later u);have hz2:=g.out.sz;clear t u t2 p K;obtain ⟨t3,F,f3⟩:=C.out.cells;obtain ⟨O,N,H,_⟩:=m.out.form;subst H;go_wp2;refine P7 (v:=.tuple #[.agg #[vL O (without fs nm).length N],vO]) (by simp [results,results103,go_sem,F]) rfl ⟨⟨_,_,_,rfl,?_,f.out⟩,C.out.bel.setCell I4 _⟩;exact Yz (b:=w.heap.size+1) (yg m.out O0) ((But.refl _ _).setCell _ _) (fun e=>by have:=(m.out.lt _ e).1;omega)
theorem zu (h:Bl w B v fs) {p:Nat} (hp:p<fs.length):∃ g a,v=.slice (some ⟨g,0,none⟩) fs.length a/\B<=g/\fs.length<=a/\(∀ i,i<fs.length->w.cell? ⟨g,i*2,none⟩=some (.string (fs.getD i P8).nm)/\w.cell? ⟨g,i*2+1,none⟩=some (.string (fs.getD i P8).tx))/\(∀ j,w.frozen? ⟨g,j,none⟩=false)/\g<w.heap.size:=by
 have c:=h;rcases h.2 with ⟨hv,h0⟩ | ⟨g,a,cur,hv,f,b,d,_⟩
 · omega
 · subst hv;refine ⟨g,a,rfl,f,d,fun i e=>?_,fun j=>Lib.frozen_of_heap b j,Zf b⟩;obtain ⟨e0,e1⟩:=Ud fs i e;rw [c.cellAt _ O0,c.cellAt _ O0];exact ⟨e0,e1⟩
theorem iG (h:zo w b n) (a:g≠b):zo (w.setCell ⟨g,j,none⟩ v) b n:=by
 refine ⟨by simpa using h.1,fun i c=>?_,fun i=>by have:=h.2.2 i;simpa using this⟩;rw [La _ _ _ _ (by intro e;injection e with e1 _;exact a e1)];exact h.2.1 i c
def Qs (B:Nat) (w:World) (a:OA) (gs:List F2):Prop:=J6 w a gs/\(gs=[]\/∃ g,a=some ⟨g,0,none⟩/\B<=g/\zo w g gs.length/\VR w g)
theorem c117 (a:OA) (k:Nat) (fs:List F2) (nm:BY) (w:World) (hl:fs.length<=1048576) (D:∀ i,(fs.getD i P8).le 1048576) (R:J6 w a fs):
 Calls prog 117 #[.agg #[.slice a fs.length k],.string nm] w fun e w'=>(∃ U cap' c gs,e=.returned (.tuple #[.agg #[.slice U gs.length cap'],.int .i64 c])/\Qs w.heap.size w' U gs/\zi fs nm c gs)/\Bw w w':=by
 have y:=U0 R;have HS:=U0 D;have z:Hid (Ai w ((w.alloc (.cells #[vL a fs.length k] 41)).alloc (.cells #[vN] 41)) (vL a fs.length k) vN):=Ai.start _ _ _;clear R D;go_enter func117,ntmps117
 go_wp2_with fail
 refine (c81 a k fs _ hl HS.out (U5 y.out z.out.bel)).mono ?_;rintro e w1 ⟨⟨v,rfl,hv⟩,Q⟩;have o:=U0 hv;have q:=U0 (z.out.later Q);obtain ⟨t1,B,f1⟩:=q.out.cells;clear hv Q z;cases v
 · have l:Hid (zi fs nm 1 []):=.inl ⟨fun h=>(by have:=o.out.2 h;cases this),rfl,rfl⟩;clear o;go_wp2;refine P7 (v:=.tuple #[.agg #[vN],vI 1]) (by simp [results,results117,go_sem,B]) rfl ⟨⟨none,0,_,[],rfl,⟨.inl rfl,.inl rfl⟩,l.out⟩,q.out.bel.setCell I4 _⟩
 have t:=o.out.1 rfl;have F:=t.1;have m:=U0 t;clear t o
 go_wp2_with fail
 refine (EU a k fs nm w1 F (U5 y.out q.out.bel) (ji m.out)).mono ?_;rintro e w2 ⟨⟨p,f,rfl,j⟩,P⟩;have x:=U0 j;have n:=U0 (q.out.later P);clear j P t1 B f1;obtain ⟨t2,A,f2⟩:=n.out.cells;cases f
 · have l:Hid (zi fs nm 4 []):=by
    refine .inr (.inl ⟨m.out,fun i H e=>?_,rfl,rfl⟩);have j:=x.out;rcases o8 i p with h | h
    · have:=j.less i h;rw [e,Yc] at this;cases this
    · rcases o8 p i with h1 | h1
      · have h2:=ji m.out p i h1 H;rw [e,j.more p x9 O0] at h2;cases h2
      · obtain rfl:i=p:=O0;have:=j.here.2 ⟨H,e⟩;cases this
   go_wp2;refine P7 (v:=.tuple #[.agg #[vN],vI 4]) (by simp [results,results117,go_sem,A]) rfl ⟨⟨none,0,_,[],rfl,⟨.inl rfl,.inl rfl⟩,l.out⟩,n.out.bel.setCell I4 _⟩
 obtain ⟨d,r⟩:=x.out.here.1 rfl;have l:Hid (zi fs nm 0 (del fs p)):=by
  refine .inr (.inr ⟨m.out,⟨p,d,r⟩,rfl,?_⟩);rw [<- r,Qv (ji m.out) d]
 obtain ⟨b,off,hc⟩:=h_ (U5 y.out n.out.bel);obtain ⟨ha,hbw,K⟩:=Nc hc d;subst ha;have W:=U0 K;clear K x r;have hz2:=n.out.sz
 go_wp2_with fail
 refine (gZ (some (aA b off)) k fs w2 O0 (.inr ⟨b,off,rfl,hbw,W.out⟩)).mono ?_;rintro e Z ⟨v,rfl,s,O⟩;obtain ⟨g,u,C,hg,hnc,L,I,hgw⟩:=zu s d;have H40:=U0 (aF s C);subst C;have H3:=U0 (n.out.later O);have X:=U0 L;have V:=U0 I;clear s O L I W t2 A f2
 go_wp2_with fail
 refine (a1d g u fs p Z F d hnc hgw X.out V.out).mono ?_;rintro e w4 ⟨rfl,J,E,N,S⟩;have HO4:=U0 (S H40.out);clear S;have Y:=U0 (H3.out.but N O0);have HFA:=U0 J;have HOP:=U0 E;obtain ⟨t4,r4,f4⟩:=Y.out.cells;clear J E N X V;go_wp2;refine P7 (v:=.tuple #[.agg #[vL (some (aA g 0)) (fs.length - 1) u],vO]) (by simp [results,results117,go_sem,r4]) rfl ⟨⟨some (aA g 0),u,0,del fs p,by rw [qx d],⟨xq HFA.out U7,.inr ⟨g,rfl,O0,?_⟩⟩,l.out⟩,Y.out.bel.setCell I4 _⟩;rw [qx d];exact ⟨iG HOP.out O0,Vs HO4.out⟩
end Go.Proofs.YtkdbheidpdjimaaGreatDoor.T
namespace Go.Proofs.YtkdbheidpdjimaaGreatDoor
open Proofs.Tryz Go.RowKit
end Go.Proofs.YtkdbheidpdjimaaGreatDoor
namespace Go.Proofs.YtkdbheidpdjimaaGreatDoor.T
open Proofs.Tryz Go.RowKit
variable {fs gs:List F2} {x:F2} {c:Int} {u u' w:World} {r t:Value} {B:Nat}
structure KAt (old:List F2) (nm:BY) (k:Nat):Prop where
 le:k<=old.length
 less:∀ j,j<k->lt (old.getD j P8).nm nm=true
 stop:k=old.length\/lt (old.getD k P8).nm nm=false
theorem MV {old:List F2} {nm:BY} {k k':Nat} (h:KAt old nm k) (a:KAt old nm k'):k=k':=by
 rcases Aw k k' with h1 | h1 | h1
 · rcases h.stop with h2 | h2
   · have:=a.le;omega
   · rw [a.less k h1] at h2;cases h2
 · exact h1
 · rcases a.stop with h2 | h2
   · have:=h.le;omega
   · rw [h.less k' h1] at h2;cases h2
def ins (old:List F2) (k:Nat) (x:F2):List F2:=old.take k++x::old.drop k
theorem xE (old:List F2) (k:Nat) (x:F2) (h:k<=old.length):(ins old k x).length=old.length+1:=by
 unfold ins;rw [List.length_append,List.length_cons,List.length_take,List.length_drop];omega
def Tn (fs:List F2) (x:F2) (c:Int) (gs:List F2):Prop:=
 (¬ J_ fs/\c=1/\gs=[])\/(J_ fs/\V_ x=false/\c=2/\gs=[])\/(J_ fs/\V_ x=true/\40<=(without fs x.nm).length/\c=3/\gs=[])\/(J_ fs/\V_ x=true/\(without fs x.nm).length<40/\c=0/\∃ k,KAt (without fs x.nm) x.nm k/\gs=ins (without fs x.nm) k x)
theorem aG {e:Int} {d:List F2} (h:Tn fs x c gs) (k:Tn fs x e d):e=c/\d=gs:=by
 rcases h with ⟨h1,rfl,rfl⟩ | ⟨h1,h2,rfl,rfl⟩ | ⟨h1,h2,m,rfl,rfl⟩ | ⟨h1,h2,m,rfl,i,l,rfl⟩ <;> rcases k with ⟨a,rfl,rfl⟩ | ⟨a,b,rfl,rfl⟩ | ⟨a,b,f,rfl,rfl⟩ | ⟨a,b,f,rfl,j,g,rfl⟩
 all_goals first
  | exact ⟨rfl,rfl⟩
  | exact absurd a h1
  | exact absurd h1 a
  | (exact absurd (h2.symm.trans b) O6)
  | (exfalso;omega)
  | (rw [MV l g];exact ⟨rfl,rfl⟩)
theorem FQ (h:Tn fs x c gs):gs.length<=40:=by
 rcases h with ⟨h1,rfl,rfl⟩ | ⟨h1,h2,rfl,rfl⟩ | ⟨h1,h2,b,rfl,rfl⟩ | ⟨h1,h2,b,rfl,i,a,rfl⟩
 · simp
 · simp
 · simp
 · rw [xE _ _ _ a.le];omega
structure Ae (w u:World) (t:Value) (x:F2) (r:Value):Prop where
 bel:Bw w u
 ht:u.heap[w.heap.size]?=some (.cells #[t] 41 (0,0))
 hf:u.heap[w.heap.size+1]?=some (.cells #[.string x.nm,.string x.tx] 99 (0,0))
 hr:u.heap[w.heap.size+1+1]?=some (.cells #[r] 41 (0,0))
theorem Ae.start (w:World) (t:Value) (x:F2) (r:Value):Ae w (((w.alloc (.cells #[t] 41)).alloc (.cells #[.string x.nm,.string x.tx] 99)).alloc (.cells #[r] 41)) t x r:=by
 refine ⟨(o7.alloc I4 _).alloc U7 _,?_,?_,?_⟩
 · rw [alloc_old U7,alloc_old I4];exact Cc rfl _
 · rw [alloc_old I4];exact Cc I4 _
 · exact Cc I4 _
theorem Ae.sz (h:Ae w u t x r):w.heap.size+3<=u.heap.size:=Zf h.hr
theorem Ae.later (h:Ae w u t x r) (a:Bw u u'):Ae w u' t x r:=by
 have:=h.sz;exact ⟨h.bel.trans (a.mono O0),by rw [a.block _ O0];exact h.ht,by rw [a.block _ O0];exact h.hf,by rw [a.block _ O0];exact h.hr⟩
theorem Ae.but {g:Nat} (h:Ae w u t x r) (a:But g u u') (hg:w.heap.size+3<=g):Ae w u' t x r:=by
 have:=h.sz;exact ⟨h.bel.trans (a.below O0 O0),by rw [a.block _ O0 O0];exact h.ht,by rw [a.block _ O0 O0];exact h.hf,by rw [a.block _ O0 O0];exact h.hr⟩
theorem Ae.cells (h:Ae w u t x r):u.cell? ⟨w.heap.size,0,none⟩=some t/\u.cell? ⟨w.heap.size+1,0,none⟩=some (.string x.nm)/\u.cell? ⟨w.heap.size+1,1,none⟩=some (.string x.tx)/\u.cell? ⟨w.heap.size+1+1,0,none⟩=some r/\u.frozen? ⟨w.heap.size+1+1,0,none⟩=false:=
 ⟨by rw [Lib.cell_of_heap h.ht];rfl,by rw [Lib.cell_of_heap h.hf];rfl,by rw [Lib.cell_of_heap h.hf];rfl,by rw [Lib.cell_of_heap h.hr];rfl,Lib.frozen_of_heap h.hr 0⟩
theorem own_below {w':World} {v:Value} (h:Bl w B v fs) {n:Nat} (d:Below n w w') (a:∀ k,v.ownBlock=some k->k<n):Bl w' B v fs:=by
 obtain ⟨h1,h2⟩:=h;refine ⟨h1,?_⟩;rcases h2 with h | ⟨g,e,cur,hv,c,b,hr⟩
 · exact .inl h
 · exact .inr ⟨g,e,cur,hv,c,by rw [d.block g (a g (by rw [hv];rfl))];exact b,hr⟩
theorem VK {a:OA} {n c:Nat} (h:Bl w B (.slice a n c) fs):fs.length<=c:=by
 rcases h.2 with ⟨hv,h0⟩ | ⟨g,cap,cur,hv,hg,hh,hnc,_⟩
 · omega
 · injection hv with _ _ e;omega
theorem nN (b off i:Nat):(⟨b,off,none⟩:Addr).add i=⟨b,off+i,none⟩:=by unfold Addr.add;split <;> simp_all
